import PyProof.Rows.All
import Wide.All
import OpenK.AllK
import Wide.FinOn
import PyProof.EqAt
import PyProof.EqKinds
import PyProof.TupleCall
import KE.BitLaws
import Open.SpecLaws
import KE.OsHead
import KE.OsGo
import PyProof.ListRange
import KE.KEqDeep
import KE.KSortTupG
import PyProof.DictTruth
import PySem.Challenge.RW_nearwords_s01_answers
set_option Elab.async false
set_option linter.all false
set_option maxRecDepth 100000
/-! THE HAND LAYER, for ints, bools, texts, own classes, lists, tuples, dicts, comprehensions, walks over dicts, enumerate, zip, reversed, texts, calls, loops. Paste it whole ahead of your own text; what your proof does not reach may be deleted. -/
namespace L2
open PySem PySem.Spec PyProof.Rows

/-- a key: an int or a str -/
abbrev Key := Sum Int Str
def keyIs : Key → Value → Bool
  | .inl k, v => Value.isInt k v
  | .inr x, v => Value.isStrOf x v
def keyH (w : World) : Key → Int
  | .inl k => hashInt k
  | .inr x => hashStr w x
theorem keyIs_shape : ∀ {k : Key} {v : Value}, keyIs k v = true → (∃ i t, k = Sum.inl i ∧ v = Value.int i t) ∨ (∃ x t, k = Sum.inr x ∧ v = Value.str x t)
  | .inl i, v, h => by
    obtain ⟨t, e⟩ := Value.isInt_shape (k := i) (v := v) h
    exact .inl ⟨i, t, rfl, e⟩
  | .inr x, v, h => by
    obtain ⟨t, e⟩ := Value.isStrOf_shape (x := x) (v := v) h
    exact .inr ⟨x, t, rfl, e⟩
theorem keyIs_int (i : Int) (t : Tok) : keyIs (.inl i) (.int i t) = true := by simp [keyIs, Value.isInt]
theorem keyIs_str (x : Str) (t : Tok) : keyIs (.inr x) (.str x t) = true := by simp [keyIs, Value.isStrOf]
theorem key_ll (a b : Int) : decide ((Sum.inl a : Key) = Sum.inl b) = (a == b) := by
  by_cases e : a = b
  · subst e; simp
  · have h : ¬ (Sum.inl a : Key) = Sum.inl b := fun q => e (Sum.inl.inj q)
    rw [decide_eq_false h]
    exact (beq_eq_false_iff_ne.mpr e).symm
theorem key_rr (a b : Str) : decide ((Sum.inr a : Key) = Sum.inr b) = decide (a = b) := by
  by_cases e : a = b
  · subst e; simp
  · have h : ¬ (Sum.inr a : Key) = Sum.inr b := fun q => e (Sum.inr.inj q)
    rw [decide_eq_false h, decide_eq_false e]
theorem key_lr (a : Int) (b : Str) : decide ((Sum.inl a : Key) = Sum.inr b) = false := decide_eq_false (fun q => nomatch q)
theorem key_rl (a : Str) (b : Int) : decide ((Sum.inr a : Key) = Sum.inl b) = false := decide_eq_false (fun q => nomatch q)

def mixKind (prog : Program) (w : World) : PySem.KeyKind prog w Key where
  is := keyIs
  hash := keyH w
  inj := fun v a b ha hb => by
    rcases keyIs_shape ha with ⟨i, t, rfl, rfl⟩ | ⟨x, t, rfl, rfl⟩
    · rcases keyIs_shape hb with ⟨j, u, rfl, e⟩ | ⟨y, u, rfl, e⟩
      · injection e with e1 _; rw [e1]
      · exact nomatch e
    · rcases keyIs_shape hb with ⟨j, u, rfl, e⟩ | ⟨y, u, rfl, e⟩
      · exact nomatch e
      · injection e with e1 _; rw [e1]
  byValue := fun k v h => by
    rcases keyIs_shape h with ⟨i, t, rfl, rfl⟩ | ⟨x, t, rfl, rfl⟩ <;> rfl
  pyHash := fun hv h => by
    rcases keyIs_shape hv with ⟨i, t, rfl, rfl⟩ | ⟨x, t, rfl, rfl⟩
    · exact wpAny_pyHash_int h
    · exact wpAny_pyHash_str h
  eqBool := fun hu hv h => by
    rcases keyIs_shape hu with ⟨i, t, rfl, rfl⟩ | ⟨x, t, rfl, rfl⟩
    · rcases keyIs_shape hv with ⟨j, u, rfl, rfl⟩ | ⟨y, u, rfl, rfl⟩
      · rw [key_ll] at h; exact wpAny_eqBool_int h
      · rw [key_lr] at h; exact SeqAt.EqAt.int_str i t y u _ _ _ _ h
    · rcases keyIs_shape hv with ⟨j, u, rfl, rfl⟩ | ⟨y, u, rfl, rfl⟩
      · rw [key_rl] at h; exact SeqAt.EqAt.str_int x t j u _ _ _ _ h
      · rw [key_rr] at h; exact wpAny_eqBool_str h
  «strs» := fun k x t v h => by
    rcases keyIs_shape h with ⟨i, u, rfl, e⟩ | ⟨y, u, rfl, e⟩
    · exact nomatch e
    · injection e with e1 _
      subst e1
      cases v <;> rfl

theorem mixKind_int (prog : Program) (w : World) (i : Int) (t : Tok) : (mixKind prog w).is (.inl i) (.int i t) = true := keyIs_int i t
theorem mixKind_str (prog : Program) (w : World) (x : Str) (t : Tok) : (mixKind prog w).is (.inr x) (.str x t) = true := keyIs_str x t
end L2

namespace L2
open PySem PySem.Spec PyProof.Rows

/-- a value, without the heap -/
inductive V where
  | non | bl (b : Bool) | int (i : Int) | str (x : Str) | byt (b : Array UInt8) | flt (b : UInt64) | ref (a : Addr) | ty (n : String)
  deriving DecidableEq

def RelV : V → Value → Prop
  | .non, u => u = Value.none
  | .bl b, u => u = Value.bool b
  | .int i, u => ∃ t, u = Value.int i t
  | .str x, u => ∃ t, u = Value.str x t
  | .byt b, u => ∃ t, u = Value.bytes b t
  | .flt b, u => ∃ t, u = Value.float b t
  | .ref a, u => u = Value.ref a
  | .ty n, u => u = Value.type n

abbrev Vals : List V → List Value → Prop := Paired RelV
theorem Vals.length {xs : List V} {us : List Value} (r : Vals xs us) : xs.length = us.length := Paired.length r
theorem Vals.get : ∀ {xs : List V} {us : List Value} {i : Nat} {x : V}, Vals xs us → xs[i]? = some x → ∃ u, us[i]? = some u ∧ RelV x u
  | _, _, _, _, .nil, e => by simp at e
  | _, _, 0, _, .cons r _, e => by simp at e; subst e; exact ⟨_, rfl, r⟩
  | _, _, i + 1, x, .cons _ t, e => by
    obtain ⟨u, h1, h2⟩ := Vals.get (i := i) (x := x) t (by simpa using e)
    exact ⟨u, by simpa using h1, h2⟩
theorem Vals.append : ∀ {xs ys : List V} {us ws : List Value}, Vals xs us → Vals ys ws → Vals (xs ++ ys) (us ++ ws)
  | _, _, _, _, .nil, s => s
  | _, _, _, _, .cons r t, s => .cons r (Vals.append t s)
theorem Vals.take : ∀ {xs : List V} {us : List Value} (n : Nat), Vals xs us → Vals (xs.take n) (us.take n)
  | _, _, 0, _ => .nil
  | _, _, _ + 1, .nil => .nil
  | _, _, n + 1, .cons r t => .cons r (Vals.take n t)
theorem Vals.drop : ∀ {xs : List V} {us : List Value} (n : Nat), Vals xs us → Vals (xs.drop n) (us.drop n)
  | _, _, 0, r => r
  | _, _, _ + 1, .nil => .nil
  | _, _, n + 1, .cons _ t => Vals.drop n t

def RelO : Option V → Option Value → Prop
  | some v, some u => RelV v u
  | none, none => True
  | _, _ => False
def KV {κ : Type} : List (κ × V) → List (κ × Value) → Prop := Paired fun (p : κ × V) (q : κ × Value) => p.1 = q.1 ∧ RelV p.2 q.2

/-- a key of a dict (00_mix): an int or a text -/
def kV : Key → V
  | .inl i => .int i
  | .inr x => .str x

/-- what stands at a tracked address -/
inductive HO where
  /-- a list -/
  | lst (xs : List V)
  /-- a tuple (never changes) -/
  | tup (xs : List V)
  /-- a dict whose keys are ints and texts; one whose keys are tuples of ints and texts (the empty one is both) -/
  | dK (kvs : List (Key × V)) | dT (kvs : List (List Key × V))
  /-- a set of ints: its members, its size -/
  | set (S : Int → Bool) (n : Nat)
  /-- an instance of the class at C, its dict at dx, its attributes -/
  | ins (C dx : Addr) (fs : List (Str × V))
  /-- the dict of the instance at x -/
  | own (x : Addr)
  /-- the dict of an exception -/
  | xd (fs : List (Str × V))
  /-- a bound method, f of x -/
  | met (f x : Addr)
  /-- a range object lo, lo + 1, .. below hi -/
  | rng (lo hi : Int)
  /-- a thing that is known to the object (the script; a dict while a loop walks it): read, never written while it is so -/
  | frz (o : Obj) (u : HO)
  /-- a code object's table -/
  | tbl (ps : Array Value)
  /-- any other thing, by what is true of its one object (a def of one's own: SetO a S n := HO.ext fun h => ..) -/
  | ext (φ : Heap → Prop)

abbrev Hp := Addr → Option HO
def upd (H : Hp) (a : Addr) (o : HO) : Hp := fun b => if b = a then some o else H b
theorem upd_same {H : Hp} {a : Addr} {o : HO} : upd H a o a = some o := by unfold upd; rw [if_pos rfl]
theorem upd_ne {H : Hp} {a b : Addr} {o : HO} (h : b ≠ a) : upd H a o b = H b := by unfold upd; rw [if_neg h]
theorem upd_upd {H : Hp} {a : Addr} {o u : HO} : upd (upd H a o) a u = upd H a u := by
  funext b; unfold upd; split <;> rfl
/-- two objects of different content stand apart -/
theorem ne_of {H : Hp} {a b : Addr} {o u : HO} (h : H a = some o) (h' : H b = some u) (d : o ≠ u) : a ≠ b := by
  intro e; subst e; rw [h] at h'; exact d (Option.some.inj h')
theorem ne_of_none {H : Hp} {a b : Addr} {o : HO} (h : H a = some o) (h' : H b = none) : a ≠ b := by
  intro e; subst e; rw [h] at h'; cases h'

section
variable (P : Program) (w : World)
def ObjOk (H : Hp) (h : Heap) (a : Addr) : HO → Prop
  | .lst xs => xs.length ≤ sizeLine ∧ ∃ (its : List Value) (n : Nat), Vals xs its ∧ h.get? a = some { cls := .type "list", data := .seq its.toArray n }
  | .tup xs => xs.length ≤ sizeLine ∧ ∃ its : List Value, Vals xs its ∧ IsTup h a its.toArray
  | .dK kvs => kvs.length ≤ sizeLine ∧ (a == sysModules) = false ∧ ∃ vs, KV kvs vs ∧ h.DictOf (mixKind P w) a vs
  | .dT kvs => kvs.length ≤ sizeLine ∧ (a == sysModules) = false ∧ ∃ xs : List (List Key × Addr × Value),
      Paired (fun (p : List Key × V) (q : List Key × Addr × Value) => p.1 = q.1 ∧ H q.2.1 = some (.tup (p.1.map kV)) ∧ RelV p.2 q.2.2) kvs xs ∧
      ∃ o es ep, h.get? a = some o ∧ o.ExactDict ∧ o.data = .dict es ep ∧ es.toList = xs.map (entryOfKey (tupleKind (mixKind P w))) ∧ (xs.map (·.1)).Nodup
  | .set S n => h.SetOf (intKind P w) a S n
  | .ins C dx fs => H dx = some (.own a) ∧ fs.length ≤ 1000 ∧ dx ≠ a ∧ h.get? a = some (PySem.W.instObj C dx) ∧
      ∃ mA, h.Ns1 dx mA ∧ (∀ f, RelO (fs.lookup f) (mA f)) ∧ PySem.Within mA (fs.map (·.1))
  | .own _ => ∃ o, h.get? a = some o
  | .xd fs => ∃ mA, h.Ns1 a mA ∧ ∀ f, RelO (fs.lookup f) (mA f)
  | .rng lo hi => ∃ t u v, h.get? a = some { cls := .type "range", data := .fields #[.int lo t, .int hi u, .int 1 v] }
  | .frz o u => h.get? a = some o ∧ ObjOk H h a u
  | .tbl ps => h.get? a = some { cls := .none, data := .fields ps }
  | .met f x => h.get? a = some (PySem.W.methodObj (.ref f) (.ref x))
  | .ext φ => φ h ∧ (∃ o, h.get? a = some o) ∧ ∀ h1 h2 : Heap, φ h1 → (∀ o, h1.get? a = some o → h2.get? a = some o) → φ h2
/-- the abstract heap is held -/
def HOk (H : Hp) (h : Heap) : Prop := ∀ a o, H a = some o → ObjOk P w H h a o
end

section
variable {P : Program} {w : World} {H H' : Hp} {h h' : Heap} {a : Addr} {o : HO}
theorem ObjOk.lt (x : ObjOk P w H h a o) : a < h.objs.size := by
  cases o with
  | lst xs => obtain ⟨_, _, _, _, e⟩ := x; exact Heap.lt_size e
  | tup xs => obtain ⟨_, _, _, p⟩ := x; exact p.lt
  | dK kvs => obtain ⟨_, _, _, _, o, _, _, e, _⟩ := x; exact Heap.lt_size e
  | dT kvs => obtain ⟨_, _, _, _, o, _, _, e, _⟩ := x; exact Heap.lt_size e
  | set S n => obtain ⟨o, _, _, _, e, _⟩ := x; exact Heap.lt_size e
  | ins C dx fs => obtain ⟨_, _, _, e, _⟩ := x; exact Heap.lt_size e
  | own y => obtain ⟨_, e⟩ := x; exact Heap.lt_size e
  | xd fs => obtain ⟨_, ⟨_, _, _, e, _⟩, _⟩ := x; exact Heap.lt_size e
  | rng lo hi => obtain ⟨_, _, _, e⟩ := x; exact Heap.lt_size e
  | frz ob u => obtain ⟨e, _⟩ := x; exact Heap.lt_size e
  | tbl ps => exact Heap.lt_size (show h.get? a = some _ from x)
  | met f y => exact Heap.lt_size (show h.get? a = some _ from x)
  | ext φ => obtain ⟨_, ⟨_, e⟩, _⟩ := x; exact Heap.lt_size e
theorem Paired.mapP {α β : Type} {F G : α → β → Prop} : ∀ {l₁ : List α} {l₂ : List β}, Paired F l₁ l₂ → (∀ a b, F a b → G a b) → Paired G l₁ l₂
  | _, _, .nil, _ => .nil
  | _, _, .cons r t, f => .cons (f _ _ r) (Paired.mapP t f)
/-- what an object's description leans on: its own object, its own dict, the tuples -/
theorem ObjOk.stay (x : ObjOk P w H h a o) (k : ∀ b u, (b = a ∨ H b = some (.own a)) → h.get? b = some u → h'.get? b = some u)
    (ho : ∀ b, H b = some (.own a) → H' b = some (.own a)) (ht : ∀ b xs, H b = some (.tup xs) → H' b = some (.tup xs)) : ObjOk P w H' h' a o := by
  induction o with
  | lst xs => obtain ⟨z, its, n, r, e⟩ := x; exact ⟨z, its, n, r, k _ _ (.inl rfl) e⟩
  | tup xs => obtain ⟨z, its, r, ob, e, c⟩ := x; exact ⟨z, its, r, ob, k _ _ (.inl rfl) e, c⟩
  | dK kvs => obtain ⟨z, y, vs, r, ob, es, ep, e, c⟩ := x; exact ⟨z, y, vs, r, ob, es, ep, k _ _ (.inl rfl) e, c⟩
  | dT kvs =>
    obtain ⟨z, y, xs, r, ob, es, ep, e, c⟩ := x
    exact ⟨z, y, xs, Paired.mapP r fun p q z => ⟨z.1, ht _ _ z.2.1, z.2.2⟩, ob, es, ep, k _ _ (.inl rfl) e, c⟩
  | set S n => obtain ⟨ob, es, ep, t, e, c⟩ := x; exact ⟨ob, es, ep, t, k _ _ (.inl rfl) e, c⟩
  | ins C dx fs =>
    obtain ⟨d, z, ne, e, mA, ⟨od, es, ep, e2, c⟩, r⟩ := x
    exact ⟨ho _ d, z, ne, k _ _ (.inl rfl) e, mA, ⟨od, es, ep, k _ _ (.inr d) e2, c⟩, r⟩
  | own y => obtain ⟨ob, e⟩ := x; exact ⟨ob, k _ _ (.inl rfl) e⟩
  | xd fs => obtain ⟨mA, ⟨od, es, ep, e, c⟩, r⟩ := x; exact ⟨mA, ⟨od, es, ep, k _ _ (.inl rfl) e, c⟩, r⟩
  | rng lo hi => obtain ⟨t, u, v, e⟩ := x; exact ⟨t, u, v, k _ _ (.inl rfl) e⟩
  | frz ob u ih => obtain ⟨e, q⟩ := x; exact ⟨k _ _ (.inl rfl) e, ih q⟩
  | tbl ps =>
    have e : h.get? a = some { cls := .none, data := .fields ps } := x
    show h'.get? a = some { cls := .none, data := .fields ps }
    exact k a _ (.inl rfl) e
  | met f y =>
    have e : h.get? a = some (PySem.W.methodObj (.ref f) (.ref y)) := x
    show h'.get? a = some (PySem.W.methodObj (.ref f) (.ref y))
    exact k a _ (.inl rfl) e
  | ext φ => obtain ⟨p, ⟨o, e⟩, st⟩ := x; exact ⟨st _ _ p fun o q => k _ _ (.inl rfl) q, ⟨o, k _ _ (.inl rfl) e⟩, st⟩
theorem HOk.lt (x : HOk P w H h) (e : H a = some o) : a < h.objs.size := (x a o e).lt
theorem HOk.fresh (x : HOk P w H h) (e : h.objs.size ≤ a) : H a = none := by
  cases q : H a with
  | none => rfl
  | some u => exact absurd (Nat.lt_of_lt_of_le (x.lt q) e) (Nat.lt_irrefl _)
/-- every object of the heap is kept -/
theorem HOk.kept (x : HOk P w H h) (k : ∀ b u, h.get? b = some u → h'.get? b = some u) : HOk P w H h' := fun a o e =>
  (x a o e).stay (fun b u _ q => k b u q) (fun _ q => q) fun _ _ q => q
/-- a new object is laid and tracked -/
theorem HOk.laid (x : HOk P w H h) (k : ∀ b u, h.get? b = some u → h'.get? b = some u) (hp : h.objs.size ≤ a) (new : ObjOk P w (upd H a o) h' a o) : HOk P w (upd H a o) h' := fun b u e => by
  have hn := x.fresh hp
  by_cases hb : b = a
  · subst hb; rw [upd_same] at e; cases e; exact new
  · rw [upd_ne hb] at e
    exact (x b u e).stay (fun c v _ q => k c v q) (fun c q => by rw [upd_ne (ne_of_none q hn)]; exact q) fun c xs q => by rw [upd_ne (ne_of_none q hn)]; exact q
end

/-- what may be read as u: it is u, or a known u -/
def Rd (H : Hp) (a : Addr) (u : HO) : Prop := H a = some u ∨ ∃ o, H a = some (.frz o u)
theorem Rd.ok {P : Program} {w : World} {H : Hp} {h : Heap} {a : Addr} {u : HO} (r : Rd H a u) (x : HOk P w H h) : ObjOk P w H h a u := by
  rcases r with r | ⟨o, r⟩
  · exact x a u r
  · obtain ⟨_, q⟩ := x a _ r
    exact q
/-- what may be written -/
def Mut : Option HO → Prop
  | some (.lst _) => True
  | some (.dK _) => True
  | some (.dT _) => True
  | some (.set _ _) => True
  | some (.ins _ _ _) => True
  | some (.ext _) => True
  | _ => False
section
variable {P : Program} {w : World} {H : Hp} {h h' : Heap} {x e : Addr} {o' : HO}
/-- the object at e is changed: x itself, or the dict of the instance x -/
theorem HOk.write (ok : HOk P w H h) (mu : Mut (H x)) (he : e = x ∨ H e = some (.own x)) (k : ∀ b u, b ≠ e → h.get? b = some u → h'.get? b = some u) (heo : ∃ u, h'.get? e = some u)
    (new : ObjOk P w (upd H x o') h' x o') : HOk P w (upd H x o') h' := fun b u q => by
  have nown : ∀ c y, H c = some (.own y) → c ≠ x := fun c y r z => by subst z; rw [r] at mu; exact mu
  have ntup : ∀ c xs, H c = some (.tup xs) → c ≠ x := fun c xs r z => by subst z; rw [r] at mu; exact mu
  by_cases hb : b = x
  · subst hb; rw [upd_same] at q; cases q; exact new
  · rw [upd_ne hb] at q
    by_cases hbe : b = e
    · have q' : H b = some (.own x) := by
        rcases he with z | z
        · exact absurd (hbe.trans z) hb
        · rw [hbe]; exact z
      rw [q] at q'; cases q'
      obtain ⟨v, hv⟩ := heo
      exact ⟨v, by rw [hbe]; exact hv⟩
    · refine (ok b u q).stay (fun c v hc r => k c v ?_ r) (fun c r => by rw [upd_ne (nown c b r)]; exact r) fun c xs r => by rw [upd_ne (ntup c xs r)]; exact r
      rcases hc with rfl | hc
      · exact hbe
      · rintro rfl
        rcases he with z | z
        · exact nown c b hc z
        · rw [hc] at z; cases z; exact hb rfl
end

/-! ### kept unless tracked; of the frames at fs (the callers') the slots may change (an exception that passes writes there); of the records at ex (iterators) nothing is said -/
structure Un (fs ex : List Addr) (H H' : Hp) (h h' : Heap) : Prop where
  keep : ∀ b o, h.get? b = some o → H b = none → b ∉ fs → b ∉ ex → h'.get? b = some o
  slot : ∀ b o, h.get? b = some o → H b = none → b ∈ fs → b ∉ ex → ∃ sl, h'.get? b = some { o with slots := sl }
  free : ∀ b o, h.get? b = some o → H b = none → b ∉ ex → H' b = none
  there : ∀ b o, h.get? b = some o → b ∉ ex → ∃ o', h'.get? b = some o'
  tups : ∀ b xs, H b = some (.tup xs) → H' b = some (.tup xs)
  frzs : ∀ b o u, H b = some (.frz o u) → H' b = some (.frz o u)
  tbls : ∀ b ps, H b = some (.tbl ps) → ∃ more, H' b = some (.tbl (ps ++ more))
section
variable {fs fs' ex ex' : List Addr} {H H1 H2 : Hp} {h h1 h2 h' : Heap} {a x e : Addr} {o : HO}
theorem Un.any (u : Un fs ex H H1 h h1) {b : Addr} {ob : Obj} (q : h.get? b = some ob) (n : H b = none) (hx : b ∉ ex) : ∃ sl, h1.get? b = some { ob with slots := sl } := by
  by_cases hb : b ∈ fs
  · exact u.slot b ob q n hb hx
  · exact ⟨ob.slots, u.keep b ob q n hb hx⟩
theorem Un.kept (k : ∀ b u, h.get? b = some u → h'.get? b = some u) : Un fs ex H H h h' :=
  ⟨fun b ob q _ _ _ => k b ob q, fun b ob q _ _ _ => ⟨ob.slots, k b ob q⟩, fun _ _ _ n _ => n, fun b ob q _ => ⟨ob, k b ob q⟩, fun _ _ q => q, fun _ _ _ q => q, fun _ ps q => ⟨#[], by rw [q]; simp⟩⟩
theorem Un.refl : Un fs ex H H h h := Un.kept fun _ _ q => q
theorem Un.laid (k : ∀ b u, h.get? b = some u → h'.get? b = some u) (hp : h.objs.size ≤ a) (hn : H a = none) : Un fs ex H (upd H a o) h h' where
  keep := fun b u q _ _ _ => k b u q
  slot := fun b u q _ _ _ => ⟨u.slots, k b u q⟩
  free := fun b u q n _ => by rw [upd_ne (Nat.ne_of_lt (Nat.lt_of_lt_of_le (Heap.lt_size q) hp))]; exact n
  there := fun b u q _ => ⟨u, k b u q⟩
  tups := fun b xs q => by rw [upd_ne (ne_of_none q hn)]; exact q
  frzs := fun b u xs q => by rw [upd_ne (ne_of_none q hn)]; exact q
  tbls := fun b ps q => ⟨#[], by rw [upd_ne (ne_of_none q hn), q]; simp⟩
theorem Un.write (mu : Mut (H x)) (he : e = x ∨ H e = some (.own x)) (k : ∀ b u, b ≠ e → h.get? b = some u → h'.get? b = some u) (heo : ∃ u, h'.get? e = some u) : Un fs ex H (upd H x o) h h' := by
  have hx : ∀ b, H b = none → b ≠ x := fun b n z => by subst z; rw [n] at mu; exact mu
  have hb : ∀ b, H b = none → b ≠ e := fun b n z => by
    subst z
    rcases he with r | r
    · exact hx b n r
    · rw [n] at r; cases r
  have hm : ∀ b u, H b = some u → ¬ Mut (some u) → b ≠ x := fun b u q nm z => by subst z; rw [q] at mu; exact nm mu
  refine ⟨fun b u q n _ _ => k b u (hb b n) q, fun b u q n _ _ => ⟨u.slots, k b u (hb b n) q⟩, fun b u q n _ => by rw [upd_ne (hx b n)]; exact n, fun b u q _ => ?_,
    fun b xs q => by rw [upd_ne (hm b _ q fun z => z)]; exact q, fun b u xs q => by rw [upd_ne (hm b _ q fun z => z)]; exact q, fun b ps q => ⟨#[], by rw [upd_ne (hm b _ q fun z => z), q]; simp⟩⟩
  by_cases hbe : b = e
  · subst hbe; exact heo
  · exact ⟨u, k b u hbe q⟩
end

/-! ### the heap without what is tracked -/
def trk (h : Heap) (H : Hp) : List Addr := (List.range h.objs.size).filter fun a => (H a).isSome
def hidT (h : Heap) (H : Hp) : Heap := PySem.W.hideAll h (trk h H)
theorem hidT_size (h : Heap) (H : Hp) : (hidT h H).objs.size = h.objs.size := PySem.W.hideAll_size _ _
theorem hidT_get {h : Heap} {H : Hp} {b : Addr} {o : Obj} (e : h.get? b = some o) (n : H b = none) : (hidT h H).get? b = some o :=
  PySem.W.hideAll_get _ e fun hm => by
    have q : (H b).isSome = true := (List.mem_filter.mp hm).2
    rw [n] at q; simp at q
theorem of_hidT {h : Heap} {H : Hp} {b : Addr} {o : Obj} (e : (hidT h H).get? b = some o) : h.get? b = some o ∧ H b = none := by
  have e' : h.get? b = some o := PySem.W.of_hideAll (trk h H) e
  refine ⟨e', ?_⟩
  cases q : H b with
  | none => rfl
  | some x =>
    have hm : b ∈ trk h H := List.mem_filter.mpr ⟨List.mem_range.mpr (Heap.lt_size e'), by simp [q]⟩
    have z : (hidT h H).get? b = none := PySem.W.hideAll_none (trk h H) hm
    rw [z] at e; cases e

/-! ### OpenK's ledger, filled with every new object but one -/
end L2

namespace L2
open PySem PySem.Spec PyProof.Rows

/-- the module's facts, over the base: the heap at the law's entry without what is tracked there -/
structure Mod (K : PySem.W.Frag) (mg : Str → Option Value) (base : Heap) : Prop where
  kin : K.In base
  glob : base.Ns mainGlobals mg
  blt : ∃ mb, base.Ns builtinsNs mb ∧ ∀ x : Str, x ≠ "__name__" → mb x = bootBuiltins x
  nolimit : base.NoLimit

/-- the context: a def's body (or a comprehension's block) running. base: fixed through the whole law; s₀, H₀: the entry; outer: the frames whose slots others may change (a def's callers); stack: all frames that run;
   ex: iterators that were made ahead of the entry and are walked here (a comprehension's); fn: the names whose cells were made at the entry (a def: all; a comprehension's block: its own); calm: not within an except suite; pn: pins that every state bears; xe: what is wanted of an exception that leaves the code -/
structure Cx where
  prog : Program
  w : World
  K : PySem.W.Frag
  mg : Str → Option Value
  base : Heap
  A : Around
  N : List Str
  s_0 : Shared
  H_0 : Hp
  env : Env
  outer : List Env
  stack : List Env
  ex : List Addr
  fn : Str → Bool
  calm : Bool
  pn : List (Addr × Obj)
  xe : Value → Shared → Prop
/-- the callers' frames -/
def frs (l : List Env) : List Addr := l.filterMap (·.frame)
abbrev Cx.fs (X : Cx) : List Addr := frs X.outer

def Vis (sc : Scope) (x : Str) : Prop := sc.names.lookup x = some .local ∨ sc.names.lookup x = some .cell ∨ sc.names.lookup x = some .free
def Loc (sc : Scope) (x : Str) : Prop := sc.names.lookup x = some .local ∨ sc.names.lookup x = some .cell
def Look (env : Env) (h : Heap) (m : Str → Option Value) (x : Str) (u : Value) : Prop :=
  (env.kindOf x = some .local ∧ m x = some u) ∨ ((env.kindOf x = some .cell ∨ env.kindOf x = some .free) ∧ ∃ c, env.cells.lookup x = some c ∧ h.IsCell c (some u))

structure Cx.Ok (X : Cx) : Prop where
  mod : Mod X.K X.mg X.base
  kind : X.env.scope.kind = .function
  glob : X.env.globals = mainGlobals
  blt : X.env.builtins = builtinsNs
  above : X.s_0.heap.objs.size ≤ X.env.locals
  inj : ∀ x y c, X.env.cells.lookup x = some c → X.env.cells.lookup y = some c → x = y
  has : ∀ x, (X.env.kindOf x = some .cell ∨ X.env.kindOf x = some .free) → ∃ c, X.env.cells.lookup x = some c
  cab : ∀ x c, X.fn x = true → X.env.cells.lookup x = some c → X.s_0.heap.objs.size ≤ c
  hd : X.calm = true → X.A.handled = none
  frames : X.A.frames = some X.stack
  stk : X.stack = X.outer ∨ (X.stack = X.env :: X.outer ∧ X.env.frame = some X.env.locals)
  exf : ∀ b ∈ X.ex, b ≠ X.env.locals ∧ ∀ x c, X.env.cells.lookup x = some c → c ≠ b
  bs : ∀ b o, X.base.get? b = some o → X.s_0.heap.get? b = some o ∧ X.H_0 b = none
  bsz : X.base.objs.size ≤ X.s_0.heap.objs.size
  noex : ∀ b o, X.base.get? b = some o → b ∉ X.ex
  exfs : ∀ b ∈ X.ex, b ∉ X.fs
  funs : X.s_0.heap.FunFrames X.base X.outer
  frf : ∀ b ∈ X.fs, X.H_0 b = none

structure Inv (X : Cx) (pins : List (Addr × Obj)) (σ : List (Option V)) (H : Hp) (s : Shared) : Prop where
  ok : X.Ok
  os : s.os = X.s_0.os
  bare : AllBare s.gens
  base : Un X.fs X.ex X.H_0 H X.s_0.heap s.heap
  loc : ∃ m, s.heap.Ns X.env.locals m ∧ ∀ (i : Nat) (x : Str) (v : V), X.N[i]? = some x → σ[i]? = some (some v) → Vis X.env.scope x → ∃ u, RelV v u ∧ Look X.env s.heap m x u
  cell : ∀ x c, X.env.cells.lookup x = some c → ∃ v, s.heap.IsCell c v
  free : H X.env.locals = none
  freeC : ∀ x c, X.env.cells.lookup x = some c → H c = none
  pin : ∀ p ∈ X.pn ++ pins, s.heap.get? p.1 = some p.2 ∧ H p.1 = none ∧ p.1 ≠ X.env.locals ∧ p.1 ∉ X.fs ∧ ∀ v, p.2.data ≠ .cell v
  hok : HOk X.prog X.w H s.heap
  len : σ.length = X.N.length

section
variable {X : Cx} {pins : List (Addr × Obj)} {σ : List (Option V)} {H H' : Hp} {s : Shared} {h' : Heap}

theorem Cx.Ok.nofr (ok : X.Ok) {b : Addr} {o : Obj} (e : X.base.get? b = some o) : b ∉ X.fs := fun hb => by
  have := (ok.funs.mem hb).1
  rw [e] at this; cases this
theorem Inv.bs (I : Inv X pins σ H s) : ∀ b o, X.base.get? b = some o → s.heap.get? b = some o ∧ H b = none := fun b o e =>
  ⟨I.base.keep b o (I.ok.bs b o e).1 (I.ok.bs b o e).2 (I.ok.nofr e) (I.ok.noex b o e), I.base.free b o (I.ok.bs b o e).1 (I.ok.bs b o e).2 (I.ok.noex b o e)⟩
theorem Inv.bk (I : Inv X pins σ H s) : ∀ b o, X.base.get? b = some o → s.heap.get? b = some o := fun b o e => (I.bs b o e).1
theorem Inv.mod (I : Inv X pins σ H s) : Mod X.K X.mg X.base := I.ok.mod
theorem Inv.kIn (I : Inv X pins σ H s) : X.K.In s.heap := I.ok.mod.kin.keeps I.bk
theorem Inv.lt (I : Inv X pins σ H s) : X.env.locals < s.heap.objs.size := let ⟨_, hn, _⟩ := I.loc; hn.lt
theorem Inv.sz (I : Inv X pins σ H s) : X.s_0.heap.objs.size ≤ s.heap.objs.size := Nat.le_trans I.ok.above (Nat.le_of_lt I.lt)
theorem Inv.nofs (I : Inv X pins σ H s) {a : Addr} (h : s.heap.objs.size ≤ a) : a ∉ X.fs := fun hb => by
  obtain ⟨_, o, ho, _⟩ := I.ok.funs.mem hb
  exact absurd (Nat.lt_of_lt_of_le (Heap.lt_size ho) (Nat.le_trans I.sz h)) (Nat.lt_irrefl _)
theorem Inv.cne (I : Inv X pins σ H s) : ∀ x c, X.env.cells.lookup x = some c → c ≠ X.env.locals := fun x c e z => by
  obtain ⟨v, o, ho, hd⟩ := I.cell x c e
  obtain ⟨m, ⟨o', es, ep, ho', hd', _⟩, _⟩ := I.loc
  rw [z, ho'] at ho; cases ho; rw [hd'] at hd; cases hd
theorem Inv.funs (I : Inv X pins σ H s) : s.heap.FunFrames X.base X.outer := by
  have all : ∀ (l : List Env), (∀ b ∈ frs l, b ∈ X.fs) → X.s_0.heap.FunFrames X.base l → s.heap.FunFrames X.base l := by
    intro l
    induction l with
    | nil => intro _ _; trivial
    | cons env r ih =>
      intro hs hl
      obtain ⟨hk, ⟨L, o, hf, hn, ho, hd⟩, hr⟩ := hl
      have hL : L ∈ X.fs := hs L (by unfold frs; rw [List.filterMap_cons, hf]; exact List.mem_cons_self)
      obtain ⟨sl, e⟩ := I.base.slot L o ho (I.ok.frf L hL) hL fun z => I.ok.exfs L z hL
      exact ⟨hk, ⟨L, _, hf, hn, e, hd⟩, ih (fun b hb => hs b (by unfold frs; rw [List.filterMap_cons, hf]; exact List.mem_cons_of_mem _ hb)) hr⟩
  exact all X.outer (fun _ hb => hb) I.ok.funs

/-- the frames that run, for a call -/
theorem Inv.stack (I : Inv X pins σ H s) : s.heap.FunFrames X.base X.stack := by
  rcases I.ok.stk with e | ⟨e, hf⟩
  · rw [e]; exact I.funs
  · rw [e]
    obtain ⟨m, hn, _⟩ := I.loc
    refine .cons (by rw [I.ok.kind]; decide) hf hn ?_ I.funs
    exact Heap.get?_none_of_le (Nat.le_trans I.ok.bsz I.ok.above)
theorem Inv.stkSub (I : Inv X pins σ H s) : ∀ b ∈ frs X.stack, b ∈ X.env.locals :: X.fs := fun b hb => by
  rcases I.ok.stk with e | ⟨e, hf⟩
  · rw [e] at hb; exact List.mem_cons_of_mem _ hb
  · rw [e] at hb
    unfold frs at hb
    rw [List.filterMap_cons, hf] at hb
    exact hb
theorem Inv.stkFree (I : Inv X pins σ H s) : ∀ b ∈ frs X.stack, H b = none := fun b hb => by
  rcases List.mem_cons.mp (I.stkSub b hb) with e | hb
  · rw [e]; exact I.free
  · obtain ⟨_, o, ho, _⟩ := I.ok.funs.mem hb
    exact I.base.free b o ho (I.ok.frf b hb) fun z => I.ok.exfs b z hb

/-- THE STEP: the untracked objects but the frame and the records at ch are kept (the callers' frames up to slots), the frame's map is kept, the new abstract heap is held -/
theorem Inv.step {g' : Array GenState} {t' : Nat} {d' : Drawn} {ch : List Addr} (I : Inv X pins σ H s)
    (hch : ∀ b ∈ ch, (b ∈ X.ex ∨ X.s_0.heap.objs.size ≤ b) ∧ b ≠ X.env.locals ∧ (∀ x c, X.env.cells.lookup x = some c → c ≠ b) ∧ ∀ p ∈ X.pn ++ pins, p.1 ≠ b)
    (keep : ∀ b o, b ≠ X.env.locals → b ∉ X.fs → b ∉ ch → s.heap.get? b = some o → H b = none → h'.get? b = some o)
    (slot : ∀ b o, b ≠ X.env.locals → b ∈ X.fs → b ∉ ch → s.heap.get? b = some o → H b = none → ∃ sl, h'.get? b = some { o with slots := sl }) (free : ∀ b o, b ∉ ch → s.heap.get? b = some o → H b = none → H' b = none)
    (there : ∀ b o, b ∉ ch → s.heap.get? b = some o → ∃ o', h'.get? b = some o')
    (tups : ∀ b xs, H b = some (.tup xs) → H' b = some (.tup xs)) (frzs : ∀ b o u, H b = some (.frz o u) → H' b = some (.frz o u)) (tbls : ∀ b ps, H b = some (.tbl ps) → ∃ more, H' b = some (.tbl (ps ++ more)))
    (ns : ∀ m, s.heap.Ns X.env.locals m → h'.Ns X.env.locals m) (hok : HOk X.prog X.w H' h') (hg : AllBare g') :
    Inv X pins σ H' { s with heap := h', gens := g', drawn := d', toks := t' } := by
  have neL : ∀ b o, X.s_0.heap.get? b = some o → b ≠ X.env.locals := fun b o e => Nat.ne_of_lt (Nat.lt_of_lt_of_le (Heap.lt_size e) I.ok.above)
  have neC : ∀ b o, X.s_0.heap.get? b = some o → b ∉ X.ex → b ∉ ch := fun b o e hx hb => by
    rcases (hch b hb).1 with z | z
    · exact hx z
    · exact absurd (Nat.lt_of_lt_of_le (Heap.lt_size e) z) (Nat.lt_irrefl _)
  have cellK : ∀ x c, X.env.cells.lookup x = some c → ∀ v, s.heap.IsCell c v → h'.IsCell c v := fun x c e v ⟨o, ho, hd⟩ => by
    have nch : c ∉ ch := fun z => (hch c z).2.2.1 x c e rfl
    by_cases hc : c ∈ X.fs
    · obtain ⟨sl, q⟩ := slot c o (I.cne x c e) hc nch ho (I.freeC x c e)
      exact ⟨_, q, hd⟩
    · exact ⟨o, keep c o (I.cne x c e) hc nch ho (I.freeC x c e), hd⟩
  refine ⟨I.ok, I.os, hg, ⟨fun b o e n hb hx => ?_, fun b o e n hb hx => ?_, fun b o e n hx => ?_, fun b o e hx => ?_, fun b xs e => tups b xs (I.base.tups b xs e), fun b o xs e => frzs b o xs (I.base.frzs b o xs e), fun b ps e => ?_⟩, ?_, fun x c e => ?_, ?_, fun x c e => ?_, fun p hp => ?_, hok, I.len⟩
  · exact keep b o (neL b o e) hb (neC b o e hx) (I.base.keep b o e n hb hx) (I.base.free b o e n hx)
  · obtain ⟨sl, e1⟩ := I.base.slot b o e n hb hx
    obtain ⟨sl', e2⟩ := slot b _ (neL b o e) hb (neC b o e hx) e1 (I.base.free b o e n hx)
    exact ⟨sl', e2⟩
  · obtain ⟨o', e1⟩ := I.base.there b o e hx
    exact free b o' (neC b o e hx) e1 (I.base.free b o e n hx)
  · obtain ⟨o', e1⟩ := I.base.there b o e hx
    exact there b o' (neC b o e hx) e1
  · obtain ⟨m1, e1⟩ := I.base.tbls b ps e
    obtain ⟨m2, e2⟩ := tbls b _ e1
    exact ⟨m1 ++ m2, by rw [e2, Array.append_assoc]⟩
  · obtain ⟨m, hn, hl⟩ := I.loc
    refine ⟨m, ns m hn, fun i x v e1 e2 e3 => ?_⟩
    obtain ⟨u, r, l⟩ := hl i x v e1 e2 e3
    refine ⟨u, r, ?_⟩
    rcases l with l | ⟨k, c, e, z⟩
    · exact .inl l
    · exact .inr ⟨k, c, e, cellK x c e _ z⟩
  · obtain ⟨v, z⟩ := I.cell x c e
    exact ⟨v, cellK x c e v z⟩
  · obtain ⟨m, ⟨o, _, _, ho, _⟩, _⟩ := I.loc
    exact free _ o (fun z => (hch _ z).2.1 rfl) ho I.free
  · obtain ⟨v, o, ho, hd⟩ := I.cell x c e
    exact free c o (fun z => (hch c z).2.2.1 x c e rfl) ho (I.freeC x c e)
  · obtain ⟨e, n, ne, nf, d⟩ := I.pin p hp
    have nch : p.1 ∉ ch := fun z => (hch p.1 z).2.2.2 p hp rfl
    exact ⟨keep p.1 p.2 ne nf nch e n, free p.1 p.2 nch e n, ne, nf, d⟩
/-- .. where the frame's own object is kept too -/
theorem Inv.un {t' : Nat} (I : Inv X pins σ H s) (u : Un X.fs [] H H' s.heap h') (hok : HOk X.prog X.w H' h') : Inv X pins σ H' { s with heap := h', toks := t' } := by
  obtain ⟨m, ⟨o, es, ep, ho, r⟩, _⟩ := id I.loc
  obtain ⟨sl, hL⟩ := u.any ho I.free (by simp)
  exact I.step (g' := s.gens) (d' := s.drawn) (ch := []) (fun _ z => nomatch z) (fun b o _ hb _ e n => u.keep b o e n hb (by simp)) (fun b o _ hb _ e n => u.slot b o e n hb (by simp)) (fun b o _ e n => u.free b o e n (by simp)) (fun b o _ e => u.there b o e (by simp)) u.tups u.frzs u.tbls (fun m' hm => by
    obtain ⟨o', es', ep', ho', r'⟩ := hm
    rw [ho] at ho'; cases ho'
    exact ⟨_, es', ep', hL, r'⟩) hok I.bare
/-- behind a call (or a comprehension's block): the slots of this frame may have changed too, the records at ch may have turned -/
theorem Inv.call {g' : Array GenState} {t' : Nat} {d' : Drawn} {ch : List Addr} (I : Inv X pins σ H s) (u : Un (frs X.stack) ch H H' s.heap h') (hok : HOk X.prog X.w H' h') (hg : AllBare g')
    (hch : ∀ b ∈ ch, (b ∈ X.ex ∨ X.s_0.heap.objs.size ≤ b) ∧ b ≠ X.env.locals ∧ (∀ x c, X.env.cells.lookup x = some c → c ≠ b) ∧ ∀ p ∈ X.pn ++ pins, p.1 ≠ b) :
    Inv X pins σ H' { s with heap := h', gens := g', drawn := d', toks := t' } := by
  obtain ⟨m, ⟨o, es, ep, ho, r⟩, _⟩ := id I.loc
  obtain ⟨sl, hL⟩ := u.any ho I.free fun z => (hch _ z).2.1 rfl
  exact I.step (ch := ch) hch (fun b o hL hb hc e n => u.keep b o e n (fun z => (List.mem_cons.mp (I.stkSub b z)).elim hL hb) hc) (fun b o _ _ hc e n => u.any e n hc) (fun b o hc e n => u.free b o e n hc) (fun b o hc e => u.there b o e hc) u.tups u.frzs u.tbls (fun m' hm => by
    obtain ⟨o', es', ep', ho', r'⟩ := hm
    rw [ho] at ho'; cases ho'
    exact ⟨_, es', ep', hL, r'⟩) hok hg
/-- an untracked record of ours (an iterator) has turned -/
theorem Inv.turned {t' : Nat} {it : Addr} (I : Inv X pins σ H s) (k : ∀ b o, b ≠ it → s.heap.get? b = some o → h'.get? b = some o) (hn : H it = none) (hL : it ≠ X.env.locals)
    (h1 : it ∈ X.ex ∨ X.s_0.heap.objs.size ≤ it) (h2 : ∀ x c, X.env.cells.lookup x = some c → c ≠ it) (h3 : ∀ p ∈ X.pn ++ pins, p.1 ≠ it) : Inv X pins σ H { s with heap := h', toks := t' } := by
  have nit : ∀ b u, H b = some u → b ≠ it := fun b u e z => by rw [z, hn] at e; cases e
  refine I.step (g' := s.gens) (d' := s.drawn) (ch := [it]) (fun b hb => ?_) (fun b o _ _ hc e _ => k b o (fun z => hc (by simp [z])) e) (fun b o _ _ hc e _ => ⟨o.slots, k b o (fun z => hc (by simp [z])) e⟩) (fun _ _ _ _ n => n)
    (fun b o hc e => ⟨o, k b o (fun z => hc (by simp [z])) e⟩) (fun _ _ e => e) (fun _ _ _ e => e) (fun b ps e => ⟨#[], by rw [e]; simp⟩) (fun m hm => ?_) (fun b u e => ?_) I.bare
  · have e : b = it := by simpa using hb
    subst e
    exact ⟨h1, hL, h2, h3⟩
  · obtain ⟨o, es, ep, ho, r⟩ := hm
    exact ⟨o, es, ep, k _ o (Ne.symm hL) ho, r⟩
  · refine (I.hok b u e).stay (fun c v hc q => k c v ?_ q) (fun _ q => q) fun _ _ q => q
    rcases hc with z | z
    · rw [z]; exact nit b u e
    · exact nit c _ z
theorem Inv.tok (I : Inv X pins σ H s) (t : Nat) : Inv X pins σ H { s with toks := t } := I.un (h' := s.heap) (t' := t) Un.refl I.hok
/-- all objects kept -/
theorem Inv.kept {t' : Nat} (I : Inv X pins σ H s) (k : ∀ b u, s.heap.get? b = some u → h'.get? b = some u) : Inv X pins σ H { s with heap := h', toks := t' } := I.un (Un.kept k) (I.hok.kept k)
/-- a new object laid and tracked -/
theorem Inv.laid {a : Addr} {o : HO} {t' : Nat} (I : Inv X pins σ H s) (k : ∀ b u, s.heap.get? b = some u → h'.get? b = some u) (hp : s.heap.objs.size ≤ a) (new : ObjOk X.prog X.w (upd H a o) h' a o) :
    Inv X pins σ (upd H a o) { s with heap := h', toks := t' } := I.un (Un.laid k hp (I.hok.fresh hp)) (I.hok.laid k hp new)
/-- an object written -/
theorem Inv.write {x e : Addr} {o : HO} {t' : Nat} (I : Inv X pins σ H s) (mu : Mut (H x)) (he : e = x ∨ H e = some (.own x)) (k : ∀ b u, b ≠ e → s.heap.get? b = some u → h'.get? b = some u) (heo : ∃ u, h'.get? e = some u)
    (new : ObjOk X.prog X.w (upd H x o) h' x o) : Inv X pins σ (upd H x o) { s with heap := h', toks := t' } := I.un (Un.write mu he k heo) (I.hok.write mu he k heo new)
/-- forgetting slots, pins -/
theorem Inv.weak {σ' : List (Option V)} (I : Inv X pins σ H s) (hl : σ'.length = σ.length) (w : ∀ (i : Nat) v, σ'[i]? = some (some v) → σ[i]? = some (some v)) : Inv X pins σ' H s :=
  ⟨I.ok, I.os, I.bare, I.base, let ⟨m, hn, hl'⟩ := I.loc; ⟨m, hn, fun i x v e1 e2 e3 => hl' i x v e1 (w i v e2) e3⟩, I.cell, I.free, I.freeC, I.pin, I.hok, hl.trans I.len⟩
theorem Inv.pins_of {pins' : List (Addr × Obj)} (I : Inv X pins σ H s) (h : ∀ p ∈ pins', s.heap.get? p.1 = some p.2 ∧ H p.1 = none ∧ p.1 ≠ X.env.locals ∧ p.1 ∉ X.fs ∧ ∀ v, p.2.data ≠ .cell v) : Inv X pins' σ H s :=
  ⟨I.ok, I.os, I.bare, I.base, I.loc, I.cell, I.free, I.freeC, fun p hp => (List.mem_append.mp hp).elim (fun z => I.pin p (List.mem_append_left _ z)) (h p), I.hok, I.len⟩

theorem nodup_ix {N : List Str} (hN : N.Nodup) {i j : Nat} {x : Str} (a : N[i]? = some x) (b : N[j]? = some x) : i = j := by
  obtain ⟨h1, e1⟩ := List.getElem?_eq_some_iff.mp a
  obtain ⟨h2, e2⟩ := List.getElem?_eq_some_iff.mp b
  exact (List.getElem_inj hN).mp (e1.trans e2.symm)

/-- a name is stored; what changed -/
theorem store_ok2 {M : Model} {A : Around} {E : Value → Shared → Prop} {i : Nat} {x : Str} {v : V} {u : Value} {Q : Unit → Shared → Prop} (I : Inv X pins σ H s) (hN : X.N.Nodup) (hi : X.N[i]? = some x) (hx : Loc X.env.scope x) (r : RelV v u)
    (h : ∀ s', Inv X pins (σ.set i (some v)) H s' → (∃ a, Heap.SameBut a s.heap s'.heap ∧ (a = X.env.locals ∨ X.env.cells.lookup x = some a)) → Q () s') (hf : X.fn x = true ∨ X.env.scope.names.lookup x = some .local := by first | exact .inl rfl | exact .inr rfl | assumption) : wpAny M A (storeName X.env x u) Q E s := by
  obtain ⟨m, hn, hl⟩ := id I.loc
  have hcls : (X.env.scope.kind == .class || (X.env.scope.kind == .module && X.env.locals != X.env.globals)) = false := by rw [I.ok.kind]; rfl
  have hiσ : i < σ.length := by rw [I.len]; exact (List.getElem?_eq_some_iff.mp hi).1
  have cne := I.cne
  have tracked : ∀ {a : Addr} {h' : Heap}, (∃ o, s.heap.get? a = some o ∧ H a = none) → Heap.SameBut a s.heap h' → HOk X.prog X.w H h' := fun {a h'} ha hs b ob e => by
    obtain ⟨_, _, hfree⟩ := ha
    refine (I.hok b ob e).stay (fun c w' hc q => (hs.2 c ?_).trans q) (fun _ q => q) fun _ _ q => q
    rintro rfl
    rcases hc with rfl | hc
    · rw [hfree] at e; cases e
    · rw [hfree] at hc; cases hc
  rcases hx with hk | hk
  · refine wpAny_storeName_local hk hn (fun h' hn' hs => ?_) hcls
    obtain ⟨oL, _, _, hoL, _⟩ := id hn
    refine h _ ⟨I.ok, I.os, I.bare, ⟨fun b o e n hb hx => ?_, fun b o e n hb hx => ?_, I.base.free, fun b o e hx => ?_, I.base.tups, I.base.frzs, I.base.tbls⟩, ⟨_, hn', fun j y v' e1 e2 e3 => ?_⟩, fun y c e => ?_, I.free, I.freeC, fun p hp => ?_, tracked ⟨oL, hoL, I.free⟩ hs, by simpa using I.len⟩ ⟨_, hs, .inl rfl⟩
    · exact (hs.2 b (Nat.ne_of_lt (Nat.lt_of_lt_of_le (Heap.lt_size e) I.ok.above))).trans (I.base.keep b o e n hb hx)
    · obtain ⟨sl, e1⟩ := I.base.slot b o e n hb hx
      exact ⟨sl, (hs.2 b (Nat.ne_of_lt (Nat.lt_of_lt_of_le (Heap.lt_size e) I.ok.above))).trans e1⟩
    · obtain ⟨o', e1⟩ := I.base.there b o e hx
      exact ⟨o', (hs.2 b (Nat.ne_of_lt (Nat.lt_of_lt_of_le (Heap.lt_size e) I.ok.above))).trans e1⟩
    · by_cases hj : j = i
      · subst hj
        rw [hi] at e1; cases e1
        rw [List.getElem?_set_self hiσ] at e2
        cases e2
        exact ⟨u, r, .inl ⟨hk, by simp⟩⟩
      · rw [List.getElem?_set_ne (Ne.symm hj)] at e2
        obtain ⟨u', r', q⟩ := hl j y v' e1 e2 e3
        refine ⟨u', r', ?_⟩
        rcases q with ⟨k, e⟩ | ⟨k, c, e, z⟩
        · refine .inl ⟨k, ?_⟩
          have : y ≠ x := fun e => hj (nodup_ix hN e1 (e ▸ hi))
          simp [this, e]
        · exact .inr ⟨k, c, e, z.sameBut hs (cne y c e)⟩
    · obtain ⟨w', z⟩ := I.cell y c e
      exact ⟨w', z.sameBut hs (cne y c e)⟩
    · obtain ⟨e, n, ne, nf, d⟩ := I.pin p hp
      exact ⟨(hs.2 p.1 ne).trans e, n, ne, nf, d⟩
  · have hfn : X.fn x = true := by
      rcases hf with z | z
      · exact z
      · rw [z] at hk; cases hk
    obtain ⟨c, hc⟩ := I.ok.has x (.inl hk)
    obtain ⟨w', z⟩ := I.cell x c hc
    refine wpAny_storeName_cell I.ok.kind hk hc z (fun h' hc' hs => ?_)
    obtain ⟨oc, hoc, hocd⟩ := id z
    refine h { s with heap := h' } ⟨I.ok, I.os, I.bare, ⟨fun b o e n hb hx => ?_, fun b o e n hb hx => ?_, I.base.free, fun b o e hx => ?_, I.base.tups, I.base.frzs, I.base.tbls⟩, ⟨m, hn.sameBut hs (Ne.symm (cne x c hc)), fun j y v' e1 e2 e3 => ?_⟩, fun y c' e => ?_, I.free, I.freeC, fun p hp => ?_, tracked ⟨oc, hoc, I.freeC x c hc⟩ hs, by simpa using I.len⟩ ⟨c, hs, .inr hc⟩
    · exact (hs.2 b (Nat.ne_of_lt (Nat.lt_of_lt_of_le (Heap.lt_size e) (I.ok.cab x c hfn hc)))).trans (I.base.keep b o e n hb hx)
    · obtain ⟨sl, e1⟩ := I.base.slot b o e n hb hx
      exact ⟨sl, (hs.2 b (Nat.ne_of_lt (Nat.lt_of_lt_of_le (Heap.lt_size e) (I.ok.cab x c hfn hc)))).trans e1⟩
    · obtain ⟨o', e1⟩ := I.base.there b o e hx
      exact ⟨o', (hs.2 b (Nat.ne_of_lt (Nat.lt_of_lt_of_le (Heap.lt_size e) (I.ok.cab x c hfn hc)))).trans e1⟩
    · by_cases hj : j = i
      · subst hj
        rw [hi] at e1; cases e1
        rw [List.getElem?_set_self hiσ] at e2
        cases e2
        exact ⟨u, r, .inr ⟨.inl hk, c, hc, hc'⟩⟩
      · rw [List.getElem?_set_ne (Ne.symm hj)] at e2
        obtain ⟨u', r', q⟩ := hl j y v' e1 e2 e3
        refine ⟨u', r', ?_⟩
        rcases q with q | ⟨k, c', e, z'⟩
        · exact .inl q
        · refine .inr ⟨k, c', e, z'.sameBut hs ?_⟩
          rintro rfl
          exact hj (nodup_ix hN e1 (I.ok.inj _ _ _ e hc ▸ hi))
    · by_cases hcc : c' = c
      · subst hcc; exact ⟨_, hc'⟩
      · obtain ⟨w2, z2⟩ := I.cell y c' e
        exact ⟨w2, z2.sameBut hs hcc⟩
    · obtain ⟨e, n, ne, nf, d⟩ := I.pin p hp
      refine ⟨(hs.2 p.1 ?_).trans e, n, ne, nf, d⟩
      intro q
      rw [q, hoc] at e
      have q' : oc = p.2 := Option.some.inj e
      exact d w' (by rw [← q']; exact hocd)
theorem store_ok {M : Model} {A : Around} {E : Value → Shared → Prop} {i : Nat} {x : Str} {v : V} {u : Value} {Q : Unit → Shared → Prop} (I : Inv X pins σ H s) (hN : X.N.Nodup) (hi : X.N[i]? = some x) (hx : Loc X.env.scope x) (r : RelV v u)
    (h : ∀ s', Inv X pins (σ.set i (some v)) H s' → Q () s') (hf : X.fn x = true ∨ X.env.scope.names.lookup x = some .local := by first | exact .inl rfl | exact .inr rfl | assumption) : wpAny M A (storeName X.env x u) Q E s :=
  store_ok2 I hN hi hx r (fun s' I' _ => h s' I') hf
/-- behind a call or a block, the state as it is -/
theorem Inv.call' {s' : Shared} {ch : List Addr} (I : Inv X pins σ H s) (ho : s'.os = s.os) (u : Un (frs X.stack) ch H H' s.heap s'.heap) (hok : HOk X.prog X.w H' s'.heap) (hg : AllBare s'.gens)
    (hch : ∀ b ∈ ch, (b ∈ X.ex ∨ X.s_0.heap.objs.size ≤ b) ∧ b ≠ X.env.locals ∧ (∀ x c, X.env.cells.lookup x = some c → c ≠ b) ∧ ∀ p ∈ X.pn ++ pins, p.1 ≠ b) : Inv X pins σ H' s' := by
  obtain ⟨h', g', d', t', o'⟩ := s'
  have e : o' = s.os := ho
  subst e
  exact I.call (g' := g') (t' := t') (d' := d') u hok hg hch
end

/-! ### the judgements -/
/-- an exception: its class, its own dict's address (where it has one), the abstract heap behind it -/
abbrev XK := Value → Option Addr → Hp → Prop
abbrev St := List (Option V)
abbrev VK := V → Hp → Prop
/-- an expression's reading; a test's; an argument list's -/
abbrev TE := St → Hp → VK → Prop
abbrev TT := St → Hp → (Bool → Hp → Prop) → Prop
abbrev TA := St → Hp → (List V → Hp → Prop) → Prop
/-- what is wanted behind a statement -/
structure Ends where
  nx : St → Hp → Prop
  rt : VK
  bk : St → Hp → Prop := fun _ _ => False
  ct : St → Hp → Prop := fun _ _ => False
abbrev TS := Ends → St → Hp → Prop

inductive EP (X : Cx) (pins : List (Addr × Obj)) (σ : St) (Q : VK) (u : Value) (s' : Shared) : Prop
  | mk (v : V) (H' : Hp) (I : Inv X pins σ H' s') (r : RelV v u) (q : Q v H') : EP X pins σ Q u s'
inductive TP (X : Cx) (pins : List (Addr × Obj)) (σ : St) (Q : Bool → Hp → Prop) (b : Bool) (s' : Shared) : Prop
  | mk (H' : Hp) (I : Inv X pins σ H' s') (q : Q b H') : TP X pins σ Q b s'
inductive AP (X : Cx) (pins : List (Addr × Obj)) (σ : St) (Q : List V → Hp → Prop) (us : List Value) (s' : Shared) : Prop
  | mk (vs : List V) (H' : Hp) (I : Inv X pins σ H' s') (r : Vals vs us) (q : Q vs H') : AP X pins σ Q us s'
inductive SNI (X : Cx) (pins : List (Addr × Obj)) (K : St → Hp → Prop) (s' : Shared) : Prop
  | mk (σ' : St) (H' : Hp) (I : Inv X pins σ' H' s') (q : K σ' H') : SNI X pins K s'
inductive SRI (X : Cx) (pins : List (Addr × Obj)) (K : V → Hp → Prop) (u : Value) (s' : Shared) : Prop
  | mk (v : V) (σ' : St) (H' : Hp) (I : Inv X pins σ' H' s') (r : RelV v u) (q : K v H') : SRI X pins K u s'
def SP (X : Cx) (pins : List (Addr × Obj)) (D : Ends) (f : Flow) (s' : Shared) : Prop :=
  match f with
  | .next => SNI X pins D.nx s'
  | .brk => SNI X pins D.bk s'
  | .cont => SNI X pins D.ct s'
  | .ret u => SRI X pins D.rt u s'

def PE (X : Cx) (e : Expr) (t : TE) : Prop :=
  ∀ (pins : List (Addr × Obj)) (s : Shared) (σ : St) (H : Hp) (Q : VK), Inv X pins σ H s → t σ H Q → wpAny (model X.prog X.w) X.A (eval e X.env) (EP X pins σ Q) X.xe s
def PT (X : Cx) (e : Expr) (t : TT) : Prop :=
  ∀ (pins : List (Addr × Obj)) (s : Shared) (σ : St) (H : Hp) (Q : Bool → Hp → Prop), Inv X pins σ H s → t σ H Q → wpAny (model X.prog X.w) X.A (isTrue e X.env (eval e X.env)) (TP X pins σ Q) X.xe s
/-- a test whatever its 'whole' is (and, or) -/
def PW (X : Cx) (e : Expr) (t : TT) : Prop :=
  ∀ (whole : Sem Value) (pins : List (Addr × Obj)) (s : Shared) (σ : St) (H : Hp) (Q : Bool → Hp → Prop), Inv X pins σ H s → t σ H Q → wpAny (model X.prog X.w) X.A (isTrue e X.env whole) (TP X pins σ Q) X.xe s
theorem PW.pt {X : Cx} {e : Expr} {t : TT} (h : PW X e t) : PT X e t := h _
/-- an argument list (no star), from the left -/
def PA (X : Cx) (es : List Expr) (t : TA) : Prop :=
  ∀ (pos : Pos) (pins : List (Addr × Obj)) (s : Shared) (σ : St) (H : Hp) (Q : List V → Hp → Prop), Inv X pins σ H s → t σ H Q → wpAny (model X.prog X.w) X.A (spliced (backTo pos (starEach es X.env))) (AP X pins σ Q) X.xe s
def PS (X : Cx) (st : Stmt) (t : TS) : Prop :=
  ∀ (pins : List (Addr × Obj)) (s : Shared) (σ : St) (H : Hp) (D : Ends), Inv X pins σ H s → t D σ H → wpAny (model X.prog X.w) X.A (exec st X.env) (SP X pins D) X.xe s
def PSs (X : Cx) (st : List Stmt) (t : TS) : Prop :=
  ∀ (pins : List (Addr × Obj)) (s : Shared) (σ : St) (H : Hp) (D : Ends), Inv X pins σ H s → t D σ H → wpAny (model X.prog X.w) X.A (execs st X.env) (SP X pins D) X.xe s
/-- weaken the end -/
theorem thn {α : Type} {t : Sem α} {Q Q' : α → Shared → Prop} {M : Model} {A : Around} {E : Value → Shared → Prop} {s : Shared} (h : wpAny M A t Q E s) (hQ : ∀ a s, Q a s → Q' a s) : wpAny M A t Q' E s := wpAny_mono h hQ fun _ _ x => x
end L2

namespace L2
open PySem PySem.Spec PyProof.Rows
section
variable {X : Cx}

/-! ### names and constants -/
inductive VarI (i : Nat) (σ : St) (H : Hp) (Q : VK) : Prop
  | mk (v : V) (e : σ[i]? = some (some v)) (q : Q v H) : VarI i σ H Q
def tVar (i : Nat) : TE := VarI i
def tC (v : V) : TE := fun _ H Q => Q v H
theorem pe_var {i : Nat} {x : Str} {pos : Pos} (hN : X.N[i]? = some x) (hv : Vis X.env.scope x) (hd : (x == ("__debug__" : Str)) = false := by decide) (hcd : (x == ("__classdict__" : Str)) = false := by decide) : PE X (.Name x pos) (tVar i) := by
  intro pins s σ H Q I h
  obtain ⟨v, e, h⟩ := h
  obtain ⟨m, hn, hl⟩ := I.loc
  obtain ⟨u, r, l⟩ := hl i x v hN e hv
  have fin : EP X pins σ Q u s := ⟨v, H, I, r, h⟩
  rcases l with ⟨hk, hm⟩ | ⟨hk, c, hc, hcell⟩
  · exact wpAny_Name (wpAny_loadName_local I.ok.kind hk hn hm fin) hd
  · rcases hk with hk | hk
    · exact wpAny_Name (wpAny_loadName_cell I.ok.kind hk hc hcell fin) hd
    · exact wpAny_Name (wpAny_loadName_free I.ok.kind hk hc hcell fin hcd) hd
theorem pe_int {i j pos} : PE X (.Constant (.int i) j pos) (tC (.int i)) := fun _ _ _ H _ I h => wpAny_Constant_int ⟨.int i, H, I.tok _, ⟨_, rfl⟩, h⟩
theorem pe_bl {b j pos} : PE X (.Constant (.bool b) j pos) (tC (.bl b)) := fun _ _ _ H _ I h => Constant_bool ⟨.bl b, H, I, rfl, h⟩

/-- a global name of the def -/
def Gl (X : Cx) (x : Str) : Prop := X.env.kindOf x = some .globalImplicit
theorem ld_glob {E : Value → Shared → Prop} {pins : List (Addr × Obj)} {s : Shared} {σ : St} {H : Hp} {x : Str} {u : Value} {pos : Pos} {Q : Value → Shared → Prop} (I : Inv X pins σ H s) (hg : Gl X x) (hm : X.mg x = some u) (h : Q u s)
    (hd : (x == ("__debug__" : Str)) = false := by decide) : wpAny (model X.prog X.w) X.A (eval (.Name x pos) X.env) Q E s :=
  Calls.Name_function_global I.ok.kind hg (Calls.loadGlobal_global (by rw [I.ok.glob]; exact I.mod.glob.keeps I.bk) hm h) hd
theorem ld_blt {E : Value → Shared → Prop} {pins : List (Addr × Obj)} {s : Shared} {σ : St} {H : Hp} {x : Str} {u : Value} {pos : Pos} {Q : Value → Shared → Prop} (I : Inv X pins σ H s) (hg : Gl X x) (hm : X.mg x = none) (hv : bootBuiltins x = some u) (h : Q u s)
    (hn : x ≠ "__name__" := by decide) (hd : (x == ("__debug__" : Str)) = false := by decide) : wpAny (model X.prog X.w) X.A (eval (.Name x pos) X.env) Q E s := by
  obtain ⟨mb, h1, h2⟩ := I.mod.blt
  exact Calls.Name_function_global I.ok.kind hg (Calls.loadGlobal_builtin (by rw [I.ok.glob]; exact I.mod.glob.keeps I.bk) hm (by rw [I.ok.blt]; exact h1.keeps I.bk) ((h2 x hn).trans hv) h) hd
/-- a module's constant, a class, a function, as a value -/
theorem pe_glob {x : Str} {v : V} {u : Value} {pos : Pos} (hg : Gl X x) (hm : X.mg x = some u) (r : RelV v u) (hd : (x == ("__debug__" : Str)) = false := by decide) : PE X (.Name x pos) (tC v) :=
  fun _ _ _ H _ I h => ld_glob I hg hm ⟨v, H, I, r, h⟩ hd

/-! ### arithmetic -/
variable {a b : Expr} {ta tb : TE} {pos : Pos}

/-! ### comparisons -/
def PC (X : Cx) (op : CmpOp) (a b : Expr) (t : TE) : Prop :=
  ∀ (pins : List (Addr × Obj)) (s : Shared) (σ : St) (H : Hp) (Q : VK), Inv X pins σ H s → t σ H Q →
    wpAny (model X.prog X.w) X.A (eval a X.env) (fun v s₁ => wpAny (model X.prog X.w) X.A (eval b X.env) (fun u s₂ => wpAny (model X.prog X.w) X.A (compareOp op v u) (EP X pins σ Q) X.xe s₂) X.xe s₁) X.xe s
/-- a comparison as a value, as a test -/
inductive BlI (Q : Bool → Hp → Prop) (x : V) (H : Hp) : Prop
  | mk (c : Bool) (e : x = .bl c) (q : Q c H) : BlI Q x H
def tB (t : TE) : TT := fun σ H Q => t σ H (BlI Q)
theorem pt_cmp {op : CmpOp} {t : TE} (h : PC X op a b t) (h1 : behindInMarks op b = false := by first | exact nobehind _ (by decide) (by decide) | rfl) : PT X (.Compare a [op] [b] pos) (tB t) := by
  intro pins s σ H Q I hw
  refine wpAny_isTrue_Compare1 (thn (h pins s σ H _ I hw) fun v s1 h1 => thn h1 fun u s2 h2 => thn h2 fun c s3 ⟨x, H1, I1, r1, q1⟩ => ?_) h1
  obtain ⟨d, rfl, q⟩ := q1
  cases r1
  exact wpAny_truthy_bool ⟨H1, I1, q⟩
/-- an expression whose value is a bool, as a test -/
theorem pt_val {e : Expr} {t : TE} (h : PE X e t) (he : ∀ whole, isTrue e X.env whole = (do let v ← whole; standAt e.pos; holding [v] (truthy v)) := by intro _; rfl) : PT X e (tB t) := by
  intro pins s σ H Q I hw
  refine isTrue_plain (thn (h pins s σ H _ I hw) fun v s1 ⟨x, H1, I1, r1, q1⟩ => ?_) (he _)
  obtain ⟨d, rfl, q⟩ := q1
  cases r1
  exact wpAny_truthy_bool ⟨H1, I1, q⟩

/-! ### and, or, not -/
variable {tA tB' : TT} {rest : List Expr}
def tAnd (t u : TT) : TT := fun σ H Q => t σ H fun c H1 => if c = true then u σ H1 Q else Q false H1
def tOr (t u : TT) : TT := fun σ H Q => t σ H fun c H1 => if c = true then Q true H1 else u σ H1 Q
def tNot (t : TT) : TT := fun σ H Q => t σ H fun c H1 => Q (!c) H1
theorem pw_and1 (ha : PT X a tA) : PW X (.BoolOp .And [a] pos) tA := by
  intro wh pins s σ H Q I h
  refine isTrue_and (thn (ha pins s σ H Q I h) fun c s1 e => ?_)
  cases c with
  | true => exact isTrue_and_nil e
  | false => exact e
theorem pw_or1 (ha : PT X a tA) : PW X (.BoolOp .Or [a] pos) tA := by
  intro wh pins s σ H Q I h
  refine isTrue_or (thn (ha pins s σ H Q I h) fun c s1 e => ?_)
  cases c with
  | false => exact isTrue_or_nil e
  | true => exact e
theorem pw_and (ha : PT X a tA) (hb : PW X (.BoolOp .And (b :: rest) pos) tB') : PW X (.BoolOp .And (a :: b :: rest) pos) (tAnd tA tB') := by
  intro wh pins s σ H Q I h
  refine isTrue_and (thn (ha pins s σ H _ I h) fun c s1 ⟨H1, I1, q1⟩ => ?_)
  cases c with
  | true => exact hb wh pins s1 σ H1 Q I1 q1
  | false => exact ⟨H1, I1, q1⟩
theorem pw_or (ha : PT X a tA) (hb : PW X (.BoolOp .Or (b :: rest) pos) tB') : PW X (.BoolOp .Or (a :: b :: rest) pos) (tOr tA tB') := by
  intro wh pins s σ H Q I h
  refine isTrue_or (thn (ha pins s σ H _ I h) fun c s1 ⟨H1, I1, q1⟩ => ?_)
  cases c with
  | true => exact ⟨H1, I1, q1⟩
  | false => exact hb wh pins s1 σ H1 Q I1 q1
theorem pt_not (ha : PT X a tA) : PT X (.UnaryOp .Not a pos) (tNot tA) := by
  intro pins s σ H Q I h
  exact isTrue_not (thn (ha pins s σ H (fun c H1 => Q (!c) H1) I h) fun c s1 ⟨H1, I1, q⟩ => ⟨H1, I1, q⟩)
def tOrV (ta tb : TE) : TE := fun σ H Q => ta σ H fun x H1 => ∃ c, x = .bl c ∧ if c = true then Q (.bl true) H1 else tb σ H1 Q
theorem pe_one {op} {t : TE} (h : PE X a t) : PE X (.BoolOp op [a] pos) t := fun pins s σ H Q I hw => BoolOp_one (h pins s σ H Q I hw)
theorem pe_or (ha : PE X a ta) (hb : PE X (.BoolOp .Or (b :: rest) pos) tb) : PE X (.BoolOp .Or (a :: b :: rest) pos) (tOrV ta tb) := by
  intro pins s σ H Q I h
  refine BoolOp_or (thn (ha pins s σ H _ I h) fun v s1 ⟨x, H1, I1, r1, q1⟩ => ?_)
  obtain ⟨c, rfl, q1⟩ := q1
  cases r1
  refine wpAny_truthy_bool ?_
  cases c with
  | false => exact hb pins s1 σ H1 Q I1 q1
  | true => exact ⟨.bl true, H1, I1, rfl, q1⟩
/-- a if t else b -/
def tIf (t : TT) (ta tb : TE) : TE := fun σ H Q => t σ H fun c H1 => if c = true then ta σ H1 Q else tb σ H1 Q
theorem pe_ifExp {c : Expr} (hc : PT X c tA) (ha : PE X a ta) (hb : PE X b tb) : PE X (.IfExp c a b pos) (tIf tA ta tb) := by
  intro pins s σ H Q I h
  refine wpAny_IfExp (thn (hc pins s σ H _ I h) fun d s1 ⟨H1, I1, q1⟩ => ?_)
  cases d with
  | true => exact ha pins s1 σ H1 Q I1 q1
  | false => exact hb pins s1 σ H1 Q I1 q1
end
end L2

namespace L2
open PySem PySem.Spec PyProof.Rows

/-! ### a list, a tuple that is read: tracked, frozen, or an object of the module -/
def SqL (K : PySem.W.Frag) (H : Hp) (a : Addr) (xs : List V) : Prop :=
  Rd H a (.lst xs) ∨
    ∃ (o : Obj) (its : Array Value) (n : Nat), K.lookup a = some o ∧ o.cls = .type "list" ∧ o.dict = none ∧ o.data = .seq its n ∧ its.size ≤ sizeLine ∧ Vals xs its.toList
def SqT (K : PySem.W.Frag) (H : Hp) (a : Addr) (xs : List V) : Prop :=
  Rd H a (.tup xs) ∨
    ∃ (o : Obj) (its : Array Value) (n : Nat), K.lookup a = some o ∧ o.cls = .type "tuple" ∧ o.data = .seq its n ∧ its.size ≤ sizeLine ∧ Vals xs its.toList
def absV : Value → Option V
  | .none => some .non
  | .bool b => some (.bl b)
  | .int i _ => some (.int i)
  | .str x _ => some (.str x)
  | .bytes b _ => some (.byt b)
  | .float b _ => some (.flt b)
  | .ref a => some (.ref a)
  | .type n => some (.ty n)
  | _ => none
theorem RelV.abs {x : V} {u : Value} (r : RelV x u) : absV u = some x := by
  cases x with
  | non => cases r; rfl
  | bl _ => cases r; rfl
  | int _ => obtain ⟨t, rfl⟩ := r; rfl
  | str _ => obtain ⟨t, rfl⟩ := r; rfl
  | byt _ => obtain ⟨t, rfl⟩ := r; rfl
  | flt _ => obtain ⟨t, rfl⟩ := r; rfl
  | ref _ => cases r; rfl
  | ty _ => cases r; rfl
theorem RelV.inj {x y : V} {u : Value} (r : RelV x u) (q : RelV y u) : x = y := Option.some.inj (r.abs.symm.trans q.abs)
theorem Vals.inj : ∀ {xs ys : List V} {us : List Value}, Vals xs us → Vals ys us → xs = ys
  | _, _, _, .nil, .nil => rfl
  | _, _, _, .cons r t, .cons r' t' => by rw [r.inj r', Vals.inj t t']
section
variable {X : Cx} {pins : List (Addr × Obj)} {σ : St} {H : Hp} {s : Shared} {a : Addr} {xs ys : List V}
theorem SqL.of {K : PySem.W.Frag} (h : H a = some (.lst xs)) : SqL K H a xs := .inl (.inl h)
theorem SqT.of {K : PySem.W.Frag} (h : H a = some (.tup xs)) : SqT K H a xs := .inl (.inl h)
theorem Inv.list (I : Inv X pins σ H s) (h : SqL X.K H a xs) : ∃ its : List Value, Vals xs its ∧ PlainL s.heap a its.toArray ∧ xs.length ≤ sizeLine := by
  rcases h with h | ⟨o, its, n, hk, hc, hd, hs, hz, r⟩
  · obtain ⟨z, its, n, r, e⟩ := h.ok I.hok
    exact ⟨its, r, ⟨_, n, e, rfl, rfl, rfl⟩, z⟩
  · refine ⟨its.toList, r, ⟨o, n, I.kIn a o hk, hc, hd, by simpa using hs⟩, ?_⟩
    have e := r.length
    simp only [Array.length_toList] at e
    omega
theorem Inv.tuple (I : Inv X pins σ H s) (h : SqT X.K H a xs) : ∃ its : List Value, Vals xs its ∧ IsTup s.heap a its.toArray ∧ xs.length ≤ sizeLine := by
  rcases h with h | ⟨o, its, n, hk, hc, hs, hz, r⟩
  · obtain ⟨z, its, r, p⟩ := h.ok I.hok
    exact ⟨its, r, p, z⟩
  · refine ⟨its.toList, r, ⟨o, I.kIn a o hk, hc, n, by simpa using hs⟩, ?_⟩
    have e := r.length
    simp only [Array.length_toList] at e
    omega
theorem Inv.list_inj (I : Inv X pins σ H s) (h : SqL X.K H a xs) (h' : SqL X.K H a ys) : xs = ys := by
  obtain ⟨its, r, ⟨o, n, e, _, _, d⟩, _⟩ := I.list h
  obtain ⟨its', r', ⟨o', n', e', _, _, d'⟩, _⟩ := I.list h'
  rw [e] at e'; cases e'
  rw [d] at d'
  injection d' with d1 _
  have : its = its' := by simpa using congrArg Array.toList d1
  subst this
  exact r.inj r'
end

/-! ### another wish about exceptions -/
abbrev Cx.wish (X : Cx) (E : Value → Shared → Prop) : Cx := { X with xe := E }
/-- no exception leaves -/
abbrev Cx.nox (X : Cx) : Cx := X.wish fun _ _ => False
theorem Cx.Ok.wish {X : Cx} (ok : X.Ok) (E : Value → Shared → Prop) : (X.wish E).Ok :=
  ⟨ok.mod, ok.kind, ok.glob, ok.blt, ok.above, ok.inj, ok.has, ok.cab, ok.hd, ok.frames, ok.stk, ok.exf, ok.bs, ok.bsz, ok.noex, ok.exfs, ok.funs, ok.frf⟩
theorem Cx.Ok.unwish {X : Cx} {E : Value → Shared → Prop} (ok : (X.wish E).Ok) : X.Ok :=
  ⟨ok.mod, ok.kind, ok.glob, ok.blt, ok.above, ok.inj, ok.has, ok.cab, ok.hd, ok.frames, ok.stk, ok.exf, ok.bs, ok.bsz, ok.noex, ok.exfs, ok.funs, ok.frf⟩
section
variable {X : Cx} {pins : List (Addr × Obj)} {σ : St} {H : Hp} {s : Shared} {E : Value → Shared → Prop}
theorem Inv.wish (I : Inv X pins σ H s) (E : Value → Shared → Prop) : Inv (X.wish E) pins σ H s := ⟨I.ok.wish E, I.os, I.bare, I.base, I.loc, I.cell, I.free, I.freeC, I.pin, I.hok, I.len⟩
theorem Inv.unwish (I : Inv (X.wish E) pins σ H s) : Inv X pins σ H s := ⟨I.ok.unwish, I.os, I.bare, I.base, I.loc, I.cell, I.free, I.freeC, I.pin, I.hok, I.len⟩
theorem SP.unwish {D : Ends} {f : Flow} {s' : Shared} (h : SP (X.wish E) pins D f s') : SP X pins D f s' := by
  cases f with
  | next => obtain ⟨σ', H', I, q⟩ := h; exact ⟨σ', H', I.unwish, q⟩
  | brk => obtain ⟨σ', H', I, q⟩ := h; exact ⟨σ', H', I.unwish, q⟩
  | cont => obtain ⟨σ', H', I, q⟩ := h; exact ⟨σ', H', I.unwish, q⟩
  | ret u => obtain ⟨v, σ', H', I, r, q⟩ := h; exact ⟨v, σ', H', I.unwish, r, q⟩
theorem PSs.nox {st : List Stmt} {t : TS} (h : PSs X.nox st t) : PSs X st t := fun pins s σ H D I hw =>
  wpAny_mono (h pins s σ H D (I.wish _) hw) (fun _ _ q => q.unwish) fun _ _ z => False.elim z
end

/-! ### blocks and small statements -/
section
variable {X : Cx} {st : Stmt} {rest : List Stmt} {t u : TS} {e : Expr} {te : TE} {pos : Pos}
def tNext : TS := fun D σ H => D.nx σ H
def tSeq (t u : TS) : TS := fun D σ H => t { D with nx := u D } σ H
theorem pss_nil : PSs X [] tNext := fun _ _ σ H _ I h => wpAny_execs_nil ⟨σ, H, I, h⟩
theorem pss_cons (h1 : PS X st t) (h2 : PSs X rest u) : PSs X (st :: rest) (tSeq t u) := by
  intro pins s σ H D I h
  refine wpAny_execs_cons (thn (h1 pins s σ H { D with nx := u D } I h) fun f s1 q => ?_)
  cases f with
  | next =>
    obtain ⟨σ', H', I', q⟩ := q
    exact h2 pins s1 σ' H' D I' q
  | ret v => exact q
  | brk => exact q
  | cont => exact q
theorem pss_one (h1 : PS X st t) : PSs X [st] t := by
  intro pins s σ H D I h
  refine wpAny_execs_cons (thn (h1 pins s σ H D I h) fun f s1 q => ?_)
  cases f with
  | next => exact wpAny_execs_nil q
  | ret v => exact q
  | brk => exact q
  | cont => exact q
/-- in a def's body nothing is shown -/
theorem Inv.quiet {pins : List (Addr × Obj)} {σ : St} {H : Hp} {s : Shared} (I : Inv X pins σ H s) : interactive X.env = false := by simp [interactive, I.ok.kind]
/-- an expression whose value is dropped -/
def tDrop (te : TE) : TS := fun D σ H => te σ H fun _ H1 => D.nx σ H1
theorem ps_expr (he : PE X e te) (hs : swapsWith e none pos.line X.env = pure false := by rfl) : PS X (.Expr e pos) (tDrop te) := by
  intro pins s σ H D I h
  exact wpAny_Expr_any (thn (he pins s σ H _ I h) fun v s1 ⟨x, H1, I1, r1, q1⟩ => ⟨σ, H1, I1, q1⟩) I.quiet hs
def tRet (te : TE) : TS := fun D σ H => te σ H D.rt
theorem ps_ret (he : PE X e te) : PS X (.Return (some e) pos) (tRet te) := by
  intro pins s σ H D I h
  exact wpAny_Return_some (thn (he pins s σ H _ I h) fun v s1 ⟨x, H1, I1, r1, q1⟩ => ⟨x, σ, H1, I1, r1, q1⟩)
def tIfS (c : TT) (t u : TS) : TS := fun D σ H => c σ H fun b H1 => if b = true then t D σ H1 else u D σ H1
theorem ps_if {c : Expr} {a b : List Stmt} {tc : TT} (hc : PT X c tc) (ha : PSs X a t) (hb : PSs X b u) : PS X (.If c a b pos) (tIfS tc t u) := by
  intro pins s σ H D I h
  refine wpAny_If (thn (hc pins s σ H _ I h) fun d s1 ⟨H1, I1, q1⟩ => ?_)
  cases d with
  | true => exact ha pins s1 σ H1 D I1 q1
  | false => exact hb pins s1 σ H1 D I1 q1
/-- code that the proof never comes to -/
def tNever : TS := fun _ _ _ => False
theorem ps_never : PS X st tNever := fun _ _ _ _ _ _ h => h.elim
end

/-! ### targets -/
abbrev TG := V → St → Hp → (St → Hp → Prop) → Prop
def PG (X : Cx) (target : Expr) (t : TG) : Prop :=
  ∀ (pins : List (Addr × Obj)) (s : Shared) (σ : St) (H : Hp) (v : V) (u : Value) (Q : St → Hp → Prop), Inv X pins σ H s → RelV v u → t v σ H Q →
    wpAny (model X.prog X.w) X.A (assign target X.env u) (fun _ s' => ∃ σ' H', Inv X pins σ' H' s' ∧ Q σ' H') X.xe s
/-- a op= b, by values -/
abbrev TIp := V → V → Hp → VK → Prop
def PIp (X : Cx) (op : Operator) (t : TIp) : Prop :=
  ∀ (pins : List (Addr × Obj)) (s : Shared) (σ : St) (H : Hp) (x y : V) (v u : Value) (Q : VK), Inv X pins σ H s → RelV x v → RelV y u → t x y H Q →
    wpAny (model X.prog X.w) X.A (inplaceOp op v u) (EP X pins σ Q) X.xe s
section
variable {X : Cx} {pos : Pos}
def gName (i : Nat) : TG := fun v σ H Q => Q (σ.set i (some v)) H
theorem pg_name {i : Nat} {x : Str} (hN : X.N.Nodup) (hi : X.N[i]? = some x) (hx : Loc X.env.scope x) (hf : X.fn x = true ∨ X.env.scope.names.lookup x = some .local := by first | exact .inl rfl | exact .inr rfl | assumption) : PG X (.Name x pos) (gName i) := by
  intro pins s σ H v u Q I r h
  exact wpAny_assign_Name (store_ok I hN hi hx r (fun s' I' => ⟨_, H, I', h⟩) hf)
/-- target = value -/
def tAsg (te : TE) (g : TG) : TS := fun D σ H => te σ H fun x H1 => g x σ H1 D.nx
/-- name = value -/
theorem ps_set {i : Nat} {x : Str} {e : Expr} {te : TE} {pos' : Pos} (hN : X.N.Nodup) (hi : X.N[i]? = some x) (hx : Loc X.env.scope x) (he : PE X e te) (hs : swapsWith e (some (.Name x pos')) pos.line X.env = pure false := by rfl) (hf : X.fn x = true ∨ X.env.scope.names.lookup x = some .local := by first | exact .inl rfl | exact .inr rfl | assumption) :
    PS X (.Assign [.Name x pos'] e pos) (tAsg te (gName i)) := by
  intro pins s σ H D I h
  refine wpAny_Assign_Name (thn (he pins s σ H _ I h) fun v s1 ⟨y, H1, I1, r1, q1⟩ => ?_) hs
  exact store_ok I1 hN hi hx r1 (fun s2 I2 => ⟨_, H1, I2, q1⟩) hf
/-- name op= e -/
def tAug (i : Nat) (te : TE) (ti : TIp) : TS := fun D σ H => VarI i σ H fun x H => te σ H fun y H1 => ti x y H1 fun z H2 => D.nx (σ.set i (some z)) H2
theorem ps_aug {i : Nat} {x : Str} {e : Expr} {te : TE} {op : Operator} {ti : TIp} {pos' : Pos} (hN : X.N.Nodup) (hi : X.N[i]? = some x) (hx : Loc X.env.scope x) (he : PE X e te) (ho : PIp X op ti) (hf : X.fn x = true ∨ X.env.scope.names.lookup x = some .local := by first | exact .inl rfl | exact .inr rfl | assumption) :
    PS X (.AugAssign (.Name x pos') op e pos) (tAug i te ti) := by
  intro pins s σ H D I h
  obtain ⟨v, e1, h⟩ := h
  obtain ⟨m, hn, hl⟩ := I.loc
  have vis : Vis X.env.scope x := by rcases hx with k | k; exact .inl k; exact .inr (.inl k)
  obtain ⟨u, r, l⟩ := hl i x v hi e1 vis
  refine wpAny_AugAssign_Name ?_
  have go : wpAny (model X.prog X.w) X.A (eval e X.env) (fun w s₂ => wpAny (model X.prog X.w) X.A (inplaceOp op u w) (fun r s₃ => wpAny (model X.prog X.w) X.A (storeName X.env x r) (fun _ => SP X pins D .next) X.xe s₃) X.xe s₂) X.xe s := by
    refine thn (he pins s σ H _ I h) fun w s1 ⟨y, H1, I1, r1, q1⟩ => ?_
    refine thn (ho pins s1 σ H1 v y u w _ I1 r r1 q1) fun z s2 ⟨zv, H2, I2, r2, q2⟩ => ?_
    exact store_ok I2 hN hi hx r2 (fun s3 I3 => ⟨_, H2, I3, q2⟩) hf
  rcases l with ⟨hk, hm⟩ | ⟨hk, c, hc, hcell⟩
  · exact wpAny_loadName_local I.ok.kind hk hn hm go
  · rcases hk with hk | hk
    · exact wpAny_loadName_cell I.ok.kind hk hc hcell go
    · rcases hx with k | k
      · have : X.env.scope.names.lookup x = some .free := hk
        rw [k] at this; cases this
      · have : X.env.scope.names.lookup x = some .free := hk
        rw [k] at this; cases this
/-- ints -/
inductive IpI (f : Int → Int → Int) (x y : V) (H : Hp) (Q : VK) : Prop
  | mk (i j : Int) (e1 : x = .int i) (e2 : y = .int j) (q : Q (.int (f i j)) H) : IpI f x y H Q
def ipI (f : Int → Int → Int) : TIp := IpI f
theorem ip_add : PIp X .Add (ipI fun i j => i + j) := by
  intro pins s σ H x y v u Q I r1 r2 h
  obtain ⟨i, j, e1, e2, q⟩ := h
  subst e1; subst e2
  obtain ⟨t, rfl⟩ := r1
  obtain ⟨t', rfl⟩ := r2
  exact iadd_int ⟨.int _, H, I.tok _, ⟨_, rfl⟩, q⟩
end

/-! ### while -/
section
variable {X : Cx} {pos : Pos}
/-- the invariant W with its measure -/
def tWhile (c : TT) (tb : TS) : TS := fun D σ H => ∃ W : Nat → St → Hp → Prop, (∃ m, W m σ H) ∧ ∀ m σ H, W m σ H →
  c σ H fun b H1 => if b = true then ∃ N : St → Hp → Prop, (∀ σ' H', N σ' H' → ∃ m', m' < m ∧ W m' σ' H') ∧ tb { D with nx := N, ct := N, bk := D.nx } σ H1 else D.nx σ H1
theorem ps_while {c : Expr} {body : List Stmt} {tc : TT} {tb : TS} (hp : PassesOwn (model X.prog X.w) X.A X.env X.xe) (hc : PT X c tc) (hb : PSs X body tb) : PS X (.While c body [] pos) (tWhile tc tb) := by
  intro pins s σ H D I h
  obtain ⟨W, ⟨m0, w0⟩, turn⟩ := h
  refine wpAny_While (codeAny_whileLoop (fun n s' => ∃ σ' H', Inv X pins σ' H' s' ∧ W n σ' H') ?_ m0 ⟨σ, H, I, w0⟩)
  rintro n s1 ⟨σ1, H1, I1, w1⟩
  refine wpAny_passesOwn hp (thn (hc pins s1 σ1 H1 _ I1 (turn n σ1 H1 w1)) fun b s2 ⟨H2, I2, q2⟩ => ?_)
  cases b with
  | true =>
    obtain ⟨N, hN, q2⟩ := q2
    rw [if_pos rfl]
    refine wpAny_passesOwn hp (thn (hb pins s2 σ1 H2 _ I2 q2) fun f s3 q3 => ?_)
    cases f with
    | next =>
      obtain ⟨σ3, H3, I3, n3⟩ := q3
      obtain ⟨m', hm, w3⟩ := hN σ3 H3 n3
      exact ⟨m', hm, σ3, H3, I3, w3⟩
    | cont =>
      obtain ⟨σ3, H3, I3, n3⟩ := q3
      obtain ⟨m', hm, w3⟩ := hN σ3 H3 n3
      exact ⟨m', hm, σ3, H3, I3, w3⟩
    | brk => exact q3
    | ret v => exact q3
  | false =>
    rw [if_neg Bool.false_ne_true]
    exact wpAny_execs_nil ⟨σ1, H2, I2, q2⟩
end

/-! ### what a loop or a comprehension walks -/
/-- at turn i: it yields x (the heap may grow), or it stops -/
structure It where
  go : Nat → Hp → Prop
  yld : Nat → Hp → V → Hp → Prop
  stop : Nat → Hp → Prop
/-- the iterator's own objects may turn: they are not the frame's, not pinned, younger than the entry (or a comprehension's own) -/
def FpOk (X : Cx) (pins : List (Addr × Obj)) (H : Hp) (b : Addr) : Prop :=
  H b = none ∧ b ≠ X.env.locals ∧ b ∉ X.fs ∧ (b ∈ X.ex ∨ X.s_0.heap.objs.size ≤ b) ∧ (∀ x c, X.env.cells.lookup x = some c → c ≠ b) ∧ ∀ p ∈ X.pn ++ pins, p.1 ≠ b
theorem Inv.fpOk {X : Cx} {pins : List (Addr × Obj)} {σ : St} {H H' : Hp} {s : Shared} {b : Addr} (I : Inv X pins σ H s) (hb : s.heap.objs.size ≤ b) (hn : H' b = none) : FpOk X pins H' b := by
  refine ⟨hn, Nat.ne_of_gt (Nat.lt_of_lt_of_le I.lt hb), I.nofs hb, .inr (Nat.le_trans I.sz hb), fun x c e z => ?_, fun p hp z => ?_⟩
  · obtain ⟨v, q⟩ := I.cell x c e
    exact absurd (Nat.lt_of_lt_of_le q.lt (by rw [z]; exact hb)) (Nat.lt_irrefl _)
  · exact absurd (Nat.lt_of_lt_of_le (Heap.lt_size (I.pin p hp).1) (by rw [z]; exact hb)) (Nat.lt_irrefl _)
structure Turn (P : Program) (w : World) (K : PySem.W.Frag) (tg : Expr) (J : It) (fp : List Addr) (it : Addr) (tn : Nat → Heap → Prop) : Prop where
  mem : it ∈ fp
  obj : ∀ i h, tn i h → ∀ b ∈ fp, ∃ o, h.get? b = some o ∧ ∀ v, o.data ≠ .cell v
  keep : ∀ i h h', tn i h → (∀ b ∈ fp, ∀ o, h.get? b = some o → h'.get? b = some o) → tn i h'
  item : ∀ (X : Cx), X.prog = P → X.w = w → X.K = K → X.calm = true → ∀ (i : Nat) (pins : List (Addr × Obj)) (s : Shared) (σ : St) (H : Hp) (E : Value → Shared → Prop), Inv X pins σ H s → (∀ b ∈ fp, FpOk X pins H b) → tn i s.heap → J.go i H →
    wpAny (model P w) X.A (pyNext (.ref it)) (fun r s1 => ∃ u, r = some u ∧
      wpAny (model P w) X.A (letOwnedTupleGo tg (.ref it) u) (fun _ s2 => ∃ x H', Inv X pins σ H' s2 ∧ RelV x u ∧ J.yld i H x H' ∧ tn (i + 1) s2.heap ∧ ∀ b ∈ fp, H' b = none) E s1) E s
  done : ∀ (X : Cx), X.prog = P → X.w = w → X.K = K → X.calm = true → ∀ (i : Nat) (pins : List (Addr × Obj)) (s : Shared) (σ : St) (H : Hp) (E : Value → Shared → Prop), Inv X pins σ H s → (∀ b ∈ fp, FpOk X pins H b) → tn i s.heap → J.stop i H →
    wpAny (model P w) X.A (pyNext (.ref it)) (fun r s1 => r = none ∧ Inv X pins σ H s1) E s
  self : ∀ (A : Around) (i : Nat) (s : Shared) (Q : Value → Shared → Prop) (E : Value → Shared → Prop), tn i s.heap → Q (.ref it) s → wpAny (model P w) A (pyIter (.ref it)) Q E s
abbrev TI := St → Hp → (It → Hp → Prop) → Prop
/-- an iterator has come -/
inductive PIE (X : Cx) (pins : List (Addr × Obj)) (σ : St) (tg : Expr) (R : It → Hp → Prop) (itv : Value) (s2 : Shared) : Prop
  | mk (it : Addr) (fp : List Addr) (tn : Nat → Heap → Prop) (J : It) (H' : Hp) (e : itv = .ref it) (I : Inv X pins σ H' s2) (T : Turn X.prog X.w X.K tg J fp it tn) (st : tn 0 s2.heap) (f : ∀ b ∈ fp, FpOk X pins H' b) (q : R J H') : PIE X pins σ tg R itv s2
def PI (X : Cx) (tg iter : Expr) (wi : TI) : Prop :=
  ∀ (pins : List (Addr × Obj)) (s : Shared) (σ : St) (H : Hp) (R : It → Hp → Prop), Inv X pins σ H s → wi σ H R →
    wpAny (model X.prog X.w) X.A (eval iter X.env) (fun v s1 => wpAny (model X.prog X.w) X.A (pyIter v) (PIE X pins σ tg R) X.xe s1) X.xe s

/-- the step ahead of the store is nothing for an iterator that keeps no tuple -/
theorem go_of {M : Model} {A : Around} {E : Value → Shared → Prop} {s : Shared} {tg : Expr} {it : Addr} {u : Value} {o : Obj} {n : String} {vs : Array Value} {Q : Unit → Shared → Prop} (ho : s.heap.get? it = some o) (hc : o.cls = .type n) (hd : o.data = .fields vs)
    (hn : ["enumerate", "zip", "dict_itemiterator", "dict_reverseitemiterator", "odict_iterator", "itertools.zip_longest", "itertools.pairwise"].contains n = false) (hQ : Q () s) : wpAny M A (letOwnedTupleGo tg (.ref it) u) Q E s := by
  unfold letOwnedTupleGo
  cases tg <;> first
    | exact wpAny_pure hQ
    | (cases u <;> first
        | exact wpAny_pure hQ
        | (refine wpAny_bind (wpAny_load ho ?_)
           rw [hc, hd]
           show wpAny M A (if (["enumerate", "zip", "dict_itemiterator", "dict_reverseitemiterator", "odict_iterator", "itertools.zip_longest", "itertools.pairwise"].contains n && vs[0]? == some (rawInt _)) = true then _ else _) Q E s
           rw [if_neg (by intro h; rw [hn, Bool.false_and] at h; cases h)]
           exact wpAny_pure hQ))

/-- the list at a, as it stands at each turn (a loop may append to it) -/
def Itl (K : PySem.W.Frag) (a : Addr) : It :=
  ⟨fun i H => ∃ xs x, SqL K H a xs ∧ xs[i]? = some x, fun i H x H' => H' = H ∧ ∀ xs, SqL K H a xs → xs[i]? = some x, fun i H => ∃ xs, SqL K H a xs ∧ xs.length ≤ i⟩
/-- lo, lo + 1, .. (n of them) -/
def Itr (lo : Int) (n : Nat) : It := ⟨fun i _ => i < n, fun i H x H' => H' = H ∧ x = .int (lo + i), fun i _ => n ≤ i⟩
theorem turn_list {P : Program} {w : World} {K : PySem.W.Frag} {tg : Expr} (a it : Addr) : Turn P w K tg (Itl K a) [it] it (fun i h => h.IsListIter it a i) where
  mem := by simp
  obj := fun i h st b hb => by
    have e : b = it := by simpa using hb
    subst e
    obtain ⟨o, e, c, d⟩ := st
    exact ⟨o, e, fun v z => by rw [d] at z; cases z⟩
  keep := fun i h h' st k => st.at fun o e => k it (by simp) o e
  item := by
    intro X hP hw hK hc i pins s σ H E I hf st hg
    subst hP hw hK
    obtain ⟨xs, x, hq, hx⟩ := hg
    obtain ⟨its, rv, p, hz⟩ := I.list hq
    obtain ⟨u, hu, ru⟩ := rv.get hx
    obtain ⟨f0, f1, f2, f3, f4, f5⟩ := hf it (by simp)
    refine wpAny_pyNext_list_item st p.isList (x := u) (by simpa using hu) fun h' st' sb => ?_
    have I1 : Inv X pins σ H { s with heap := h' } := I.turned (t' := s.toks) (fun b o hb e => (sb.2 b hb).trans e) f0 f1 f3 f4 f5
    obtain ⟨o, e, c, d⟩ := id st'
    exact ⟨u, rfl, go_of (s := { s with heap := h' }) e c d (by decide) ⟨x, H, I1, ru, ⟨rfl, fun ys hy => by rw [I.list_inj hy hq]; exact hx⟩, st', fun b hb => (hf b hb).1⟩⟩
  done := by
    intro X hP hw hK hc i pins s σ H E I hf st hg
    subst hP hw hK
    obtain ⟨xs, hq, hx⟩ := hg
    obtain ⟨its, rv, p, hz⟩ := I.list hq
    obtain ⟨f0, f1, f2, f3, f4, f5⟩ := hf it (by simp)
    have hl := rv.length
    exact wpAny_pyNext_list_end (I.ok.hd hc) st p.isList (by simp; omega) fun h' eb => ⟨rfl, I.turned (t' := s.toks) (fun b o hb e => eb b o hb e) f0 f1 f3 f4 f5⟩
  self := fun _ _ _ _ _ st h => wpAny_pyIter_listiter st h
theorem turn_range {P : Program} {w : World} {K : PySem.W.Frag} {tg : Expr} (it : Addr) (lo : Int) (n : Nat) : Turn P w K tg (Itr lo n) [it] it (fun i h => IsRangeIter h it (lo + (i : Nat) * 1) ((n : Int) - (i : Nat)) 1) where
  mem := by simp
  obj := fun i h st b hb => by
    have e : b = it := by simpa using hb
    subst e
    exact ⟨_, st, fun v z => by
      have z' : Data.fields _ = Data.cell v := z
      cases z'⟩
  keep := fun i h h' st k => k it (by simp) _ st
  item := by
    intro X hP hw hK hc i pins s σ H E I hf st hg
    subst hP hw hK
    obtain ⟨f0, f1, f2, f3, f4, f5⟩ := hf it (by simp)
    have W := Walks.range (prog := X.prog) (w := X.w) (I.ok.hd hc) it lo 1 n
    refine W.item i s _ _ hg st fun v h' tk hv st' kk => ?_
    obtain ⟨t, rfl⟩ := hv
    have I1 : Inv X pins σ H { s with heap := h', toks := tk } := I.turned (fun b o hb e => kk b o (by simpa using hb) e) f0 f1 f3 f4 f5
    refine ⟨_, rfl, go_of (s := { s with heap := h', toks := tk }) (n := "range_iterator") st' rfl rfl (by decide) ⟨.int (lo + i), H, I1, ⟨t, ?_⟩, ⟨rfl, rfl⟩, st', fun b hb => (hf b hb).1⟩⟩
    rw [Int.mul_one]
  done := by
    intro X hP hw hK hc i pins s σ H E I hf st hg
    subst hP hw hK
    obtain ⟨f0, f1, f2, f3, f4, f5⟩ := hf it (by simp)
    exact wpAny_pyNext_range_end (I.ok.hd hc) st (by have : n ≤ i := hg; omega) fun h' eb => ⟨rfl, I.turned (t' := s.toks) (fun b o hb e => eb b o hb e) f0 f1 f3 f4 f5⟩
  self := fun _ _ _ _ _ st h => wpAny_pyIter_rangeiter st h
end L2

namespace L2
open PySem PySem.Spec PyProof.Rows
section
variable {X : Cx} {tg : Expr}
def iList (K : PySem.W.Frag) (tl : TE) : TI := fun σ H R => tl σ H fun x H1 => ∃ a, x = .ref a ∧ (∃ xs, SqL K H1 a xs) ∧ R (Itl K a) H1
theorem pi_list {l : Expr} {tl : TE} (hl : PE X l tl) : PI X tg l (iList X.K tl) := by
  intro pins s σ H R I h
  refine thn (hl pins s σ H _ I h) fun v s1 ⟨x, H1, I1, r1, q1⟩ => ?_
  obtain ⟨a, e, ⟨xs, hq⟩, q⟩ := q1
  subst e
  cases r1
  obtain ⟨its, rv, p, hz⟩ := I1.list hq
  refine wpAny_pyIter_list p.isList ?_
  refine ⟨s1.heap.objs.size, [s1.heap.objs.size], _, _, H1, rfl, I1.kept (t' := s1.toks) fun b o e => Heap.get?_push_of_some _ e, turn_list a _, ⟨_, Heap.get?_push_size _ rfl, rfl, rfl⟩, fun b hb => ?_, q⟩
  have e : b = s1.heap.objs.size := by simpa using hb
  subst e
  exact I1.fpOk (Nat.le_refl _) (I1.hok.fresh (Nat.le_refl _))
/-- a range object just made, walked -/
theorem range_it {pins : List (Addr × Obj)} {σ : St} {H : Hp} {s : Shared} {R : It → Hp → Prop} {E : Value → Shared → Prop} {lo hi : Int} {t u v : Tok} {tk : Nat} (I : Inv X pins σ H s) (h1 : -(2 ^ 62) ≤ lo) (h2 : lo < 2 ^ 62) (h3 : -(2 ^ 62) ≤ hi) (h4 : hi < 2 ^ 62)
    (q : R (Itr lo (hi - lo).toNat) H) : wpAny (model X.prog X.w) X.A (pyIter (.ref s.heap.objs.size)) (PIE X pins σ tg R) E { s with heap := s.heap.push { cls := .type "range", data := .fields #[.int lo t, .int hi u, .int 1 v] }, toks := tk } := by
  refine wpAny_pyIter_range (IsRange.new ..) (small_one h1 h2 h3 h4) ?_
  have I1 : Inv X pins σ H { s with heap := s.heap.push { cls := .type "range", data := .fields #[.int lo t, .int hi u, .int 1 v] }, toks := tk } := I.kept fun b o e => Heap.get?_push_of_some _ e
  refine ⟨(s.heap.push { cls := .type "range", data := .fields #[.int lo t, .int hi u, .int 1 v] }).objs.size, [(s.heap.push { cls := .type "range", data := .fields #[.int lo t, .int hi u, .int 1 v] }).objs.size], _, _, H, rfl,
    I1.kept (t' := tk) fun b o e => Heap.get?_push_of_some _ e, turn_range _ lo (hi - lo).toNat, ?_, fun b hb => ?_, q⟩
  · have e1 : lo + ((0 : Nat) : Int) * 1 = lo := by simp
    have e2 : (((hi - lo).toNat : Nat) : Int) - ((0 : Nat) : Int) = Builtin.Range.rangeSize lo hi 1 := by rw [rangeSize_one]; split <;> omega
    show IsRangeIter _ _ (lo + ((0 : Nat) : Int) * 1) ((((hi - lo).toNat : Nat) : Int) - ((0 : Nat) : Int)) 1
    rw [e1, e2]
    exact Heap.get?_push_size _ rfl
  · have e : b = (s.heap.push { cls := .type "range", data := .fields #[.int lo t, .int hi u, .int 1 v] }).objs.size := by simpa using hb
    subst e
    exact I1.fpOk (Nat.le_refl _) (I1.hok.fresh (Nat.le_refl _))
def iRng1 (ta : TA) : TI := fun σ H R => ta σ H fun vs H1 => ∃ j : Int, vs = [.int j] ∧ -(2 ^ 62) ≤ j ∧ j < 2 ^ 62 ∧ R (Itr 0 j.toNat) H1
def iRng2 (ta : TA) : TI := fun σ H R => ta σ H fun vs H1 => ∃ i j : Int, vs = [.int i, .int j] ∧ (-(2 ^ 62) ≤ i ∧ i < 2 ^ 62 ∧ -(2 ^ 62) ≤ j ∧ j < 2 ^ 62) ∧ R (Itr i (j - i).toNat) H1
theorem pi_range1 {a : Expr} {ta : TA} {p pos : Pos} (hg : Gl X "range") (hm : X.mg "range" = none) (ha : PA X [a] ta) (hs : starEach [a] X.env = [(false, eval a X.env)] := by rfl) : PI X tg (.Call (.Name "range" p) [a] [] pos) (iRng1 ta) := by
  intro pins s σ H R I h
  refine Call_ (ld_blt I hg hm boot_range (PyProof.Rows.callWith_type1 (thn (ha pos pins s σ H _ I h) fun us s1 ⟨vs, H1, I1, r1, q1⟩ => ?_) hs rfl))
  obtain ⟨j, e, q1, q2, q⟩ := q1
  subst e
  cases r1 with
  | cons r rr =>
    cases rr
    obtain ⟨t, rfl⟩ := r
    exact call_range_1 (range_it I1 (by omega) (by omega) q1 q2 (by simpa using q))
theorem pi_range2 {a b : Expr} {ta : TA} {p pos : Pos} (hg : Gl X "range") (hm : X.mg "range" = none) (ha : PA X [a, b] ta) (hs : starEach [a, b] X.env = [(false, eval a X.env), (false, eval b X.env)] := by rfl) (hs2 : starEach [b] X.env = [(false, eval b X.env)] := by rfl) :
    PI X tg (.Call (.Name "range" p) [a, b] [] pos) (iRng2 ta) := by
  intro pins s σ H R I h
  refine Call_ (ld_blt I hg hm boot_range (PyProof.Rows.callWith_type1 (thn (ha pos pins s σ H _ I h) fun us s1 ⟨vs, H1, I1, r1, q1⟩ => ?_) (by rw [hs, hs2]) (by rw [hs2]; rfl)))
  obtain ⟨i, j, e, ⟨q1, q2, q3, q4⟩, q⟩ := q1
  subst e
  cases r1 with
  | cons r rr =>
    cases rr with
    | cons r' rr =>
      cases rr
      obtain ⟨t, rfl⟩ := r
      obtain ⟨t', rfl⟩ := r'
      exact call_range_2 (range_it I1 q1 q2 q3 q4 q)

/-! ### for -/
/-- W: the invariant by the turn and a measure; N: what the body is to reach -/
def tFor (wi : TI) (g : TG) (tb : TS) : TS := fun D σ H => wi σ H fun J H1 => ∃ W : Nat → Nat → St → Hp → Prop, (∃ m, W 0 m σ H1) ∧ ∀ i m σ H, W i m σ H →
  (J.stop i H ∧ D.nx σ H) ∨ (J.go i H ∧ ∃ N : St → Hp → Prop, (∀ σ' H', N σ' H' → ∃ m', m' < m ∧ W (i + 1) m' σ' H') ∧ ∀ x H', J.yld i H x H' → g x σ H' fun σ2 H2 => tb { D with nx := N, ct := N, bk := D.nx } σ2 H2)
/-- the records at fp as they stand -/
def pinsAt (fp : List Addr) (h : Heap) : List (Addr × Obj) := fp.filterMap fun b => (h.get? b).map fun o => (b, o)
theorem mem_pinsAt {fp : List Addr} {h : Heap} {b : Addr} {o : Obj} (hb : b ∈ fp) (e : h.get? b = some o) : (b, o) ∈ pinsAt fp h := List.mem_filterMap.mpr ⟨b, hb, by rw [e]; rfl⟩
theorem of_pinsAt {fp : List Addr} {h : Heap} {p : Addr × Obj} (hp : p ∈ pinsAt fp h) : p.1 ∈ fp ∧ h.get? p.1 = some p.2 := by
  obtain ⟨b, hb, e⟩ := List.mem_filterMap.mp hp
  cases q : h.get? b with
  | none => rw [q] at e; cases e
  | some o =>
    rw [q] at e
    have e' : (b, o) = p := Option.some.inj e
    subst e'
    exact ⟨hb, q⟩
theorem Inv.pinned {pins : List (Addr × Obj)} {σ : St} {H : Hp} {s : Shared} {fp : List Addr} (I : Inv X pins σ H s) (hf : ∀ b ∈ fp, FpOk X pins H b) (ho : ∀ b ∈ fp, ∃ o, s.heap.get? b = some o ∧ ∀ v, o.data ≠ .cell v) : Inv X (pins ++ pinsAt fp s.heap) σ H s :=
  I.pins_of fun p hp => (List.mem_append.mp hp).elim (fun z => I.pin p (List.mem_append_right _ z)) fun z => by
    obtain ⟨hb, e⟩ := of_pinsAt z
    obtain ⟨f0, f1, f2, _⟩ := hf p.1 hb
    obtain ⟨o, e', d⟩ := ho p.1 hb
    rw [e] at e'; cases e'
    exact ⟨e, f0, f1, f2, d⟩
theorem Inv.unpinned {pins pl : List (Addr × Obj)} {σ : St} {H : Hp} {s : Shared} (I : Inv X (pins ++ pl) σ H s) : Inv X pins σ H s := I.pins_of fun p hp => I.pin p (List.mem_append_right _ (List.mem_append_left _ hp))
theorem ps_for {iter : Expr} {body : List Stmt} {wi : TI} {g : TG} {tb : TS} {pos : Pos} (hp : PassesOwn (model X.prog X.w) X.A X.env X.xe) (hc : X.calm = true) (hi : PI X tg iter wi) (hg : PG X tg g) (hb : PSs X body tb)
    (hs : ∀ x, foldedSetIterable iter X.env x = pure x := by intro _; rfl) : PS X (.For tg iter body [] pos) (tFor wi g tb) := by
  intro pins s σ H D I h
  refine wpAny_For (thn (hi pins s σ H _ I h) fun v s1 h1 => thn h1 fun itv s2 h2 => ?_) hs
  obtain ⟨it, fp, tn, J, H2, e, I2, T, st2, f2, W, ⟨m0, w0⟩, turn⟩ := h2
  subst e
  -- what stays true of the iterator's objects through the loop
  have stat : ∀ {H' : Hp}, (∀ b ∈ fp, H' b = none) → ∀ b ∈ fp, FpOk X pins H' b := fun hn b hb => ⟨hn b hb, (f2 b hb).2⟩
  refine codeAny_forLoop_any (fun n s' => ∃ i σ' H', Inv X pins σ' H' s' ∧ tn i s'.heap ∧ (∀ b ∈ fp, H' b = none) ∧ W i n σ' H') ?_ m0 ⟨0, σ, H2, I2, st2, fun b hb => (f2 b hb).1, w0⟩
  rintro n s3 ⟨i, σ3, H3, I3, st3, fr3, w3⟩
  rcases turn i n σ3 H3 w3 with ⟨stop, qn⟩ | ⟨go, N, hN, step⟩
  · refine wpAny_passesOwn hp (thn (T.done X rfl rfl rfl hc i pins s3 σ3 H3 X.xe I3 (stat fr3) st3 stop) fun r s4 ⟨hr, I4⟩ => ?_)
    subst hr
    exact wpAny_execs_nil ⟨σ3, H3, I4, qn⟩
  · refine wpAny_passesOwn hp (thn (T.item X rfl rfl rfl hc i pins s3 σ3 H3 X.xe I3 (stat fr3) st3 go) fun r s4 ⟨u, hr, h4⟩ => ?_)
    subst hr
    refine wpAny_passesOwn hp (thn h4 fun _ s5 ⟨x, H5, I5, r5, y5, st5, fr5⟩ => ?_)
    have I5' := I5.pinned (stat fr5) (T.obj _ _ st5)
    refine wpAny_passesOwn hp (thn (hg _ s5 σ3 H5 x u _ I5' r5 (step x H5 y5)) fun _ s6 ⟨σ6, H6, I6, q6⟩ => ?_)
    refine wpAny_passesOwn hp (thn (hb _ s6 σ6 H6 _ I6 q6) fun f s7 q7 => ?_)
    have again : ∀ {σ7 : St} {H7 : Hp}, Inv X (pins ++ pinsAt fp s5.heap) σ7 H7 s7 → N σ7 H7 → ∃ m, m < n ∧ ∃ i σ' H', Inv X pins σ' H' s7 ∧ tn i s7.heap ∧ (∀ b ∈ fp, H' b = none) ∧ W i m σ' H' := fun {σ7 H7} I7 n7 => by
      obtain ⟨m', hm, w7⟩ := hN σ7 H7 n7
      refine ⟨m', hm, i + 1, σ7, H7, I7.unpinned, T.keep _ _ _ st5 fun b hb o e => (I7.pin (b, o) (List.mem_append_right _ (List.mem_append_right _ (mem_pinsAt hb e)))).1, fun b hb => ?_, w7⟩
      obtain ⟨o, e, d⟩ := T.obj _ _ st5 b hb
      exact (I7.pin (b, o) (List.mem_append_right _ (List.mem_append_right _ (mem_pinsAt hb e)))).2.1
    cases f with
    | next => obtain ⟨σ7, H7, I7, n7⟩ := q7; exact again I7 n7
    | cont => obtain ⟨σ7, H7, I7, n7⟩ := q7; exact again I7 n7
    | brk => obtain ⟨σ7, H7, I7, q7⟩ := q7; exact ⟨σ7, H7, I7.unpinned, q7⟩
    | ret v => obtain ⟨x7, σ7, H7, I7, r7, q7⟩ := q7; exact ⟨x7, σ7, H7, I7.unpinned, r7, q7⟩
end

/-! ### the forms one uses -/
/-- over a list that the body leaves as it is -/
theorem for_list {K : PySem.W.Frag} {a : Addr} {xs : List V} {g : TG} {tb : TS} {D : Ends} {σ : St} {H : Hp} (Pv : Nat → St → Hp → Prop) (h0 : Pv 0 σ H) (hl : ∀ i σ H, i ≤ xs.length → Pv i σ H → SqL K H a xs)
    (hs : ∀ i x σ H, xs[i]? = some x → Pv i σ H → g x σ H fun σ2 H2 => tb { D with nx := Pv (i + 1), ct := Pv (i + 1), bk := D.nx } σ2 H2) (hd : ∀ σ H, Pv xs.length σ H → D.nx σ H) :
    ∃ W : Nat → Nat → St → Hp → Prop, (∃ m, W 0 m σ H) ∧ ∀ i m σ H, W i m σ H →
      ((Itl K a).stop i H ∧ D.nx σ H) ∨ ((Itl K a).go i H ∧ ∃ N : St → Hp → Prop, (∀ σ' H', N σ' H' → ∃ m', m' < m ∧ W (i + 1) m' σ' H') ∧ ∀ x H', (Itl K a).yld i H x H' → g x σ H' fun σ2 H2 => tb { D with nx := N, ct := N, bk := D.nx } σ2 H2) := by
  refine ⟨fun i m σ H => m = xs.length - i ∧ i ≤ xs.length ∧ Pv i σ H, ⟨xs.length, by simp, Nat.zero_le _, h0⟩, ?_⟩
  rintro i m σ H ⟨rfl, hi, p⟩
  have q := hl i σ H hi p
  by_cases hlt : i < xs.length
  · refine .inr ⟨⟨xs, xs[i], q, by simp [hlt]⟩, Pv (i + 1), fun σ' H' p' => ⟨xs.length - (i + 1), by omega, rfl, hlt, p'⟩, fun x H' y => ?_⟩
    obtain ⟨e, y⟩ := y
    subst e
    exact hs i x σ _ (y xs q) p
  · have e : i = xs.length := by omega
    subst e
    exact .inl ⟨⟨xs, q, Nat.le_refl _⟩, hd σ H p⟩
theorem for_range {lo : Int} {n : Nat} {g : TG} {tb : TS} {D : Ends} {σ : St} {H : Hp} (Pv : Nat → St → Hp → Prop) (h0 : Pv 0 σ H)
    (hs : ∀ i σ H, i < n → Pv i σ H → g (.int (lo + i)) σ H fun σ2 H2 => tb { D with nx := Pv (i + 1), ct := Pv (i + 1), bk := D.nx } σ2 H2) (hd : ∀ σ H, Pv n σ H → D.nx σ H) :
    ∃ W : Nat → Nat → St → Hp → Prop, (∃ m, W 0 m σ H) ∧ ∀ i m σ H, W i m σ H →
      ((Itr lo n).stop i H ∧ D.nx σ H) ∨ ((Itr lo n).go i H ∧ ∃ N : St → Hp → Prop, (∀ σ' H', N σ' H' → ∃ m', m' < m ∧ W (i + 1) m' σ' H') ∧ ∀ x H', (Itr lo n).yld i H x H' → g x σ H' fun σ2 H2 => tb { D with nx := N, ct := N, bk := D.nx } σ2 H2) := by
  refine ⟨fun i m σ H => m = n - i ∧ i ≤ n ∧ Pv i σ H, ⟨n, by simp, Nat.zero_le _, h0⟩, ?_⟩
  rintro i m σ H ⟨rfl, hi, p⟩
  by_cases hlt : i < n
  · refine .inr ⟨hlt, Pv (i + 1), fun σ' H' p' => ⟨n - (i + 1), by omega, rfl, hlt, p'⟩, fun x H' y => ?_⟩
    obtain ⟨e, y⟩ := y
    subst e y
    exact hs i σ _ hlt p
  · have e : i = n := by omega
    subst e
    exact .inl ⟨Nat.le_refl _, hd σ H p⟩
/-- while, by a word and a measure of the state -/
theorem while_by {c : TT} {tb : TS} {D : Ends} {σ : St} {H : Hp} (Pv : St → Hp → Prop) (μ : St → Hp → Nat) (h0 : Pv σ H)
    (hs : ∀ σ H, Pv σ H → c σ H fun b H1 => if b = true then tb { D with nx := fun σ' H' => Pv σ' H' ∧ μ σ' H' < μ σ H, ct := fun σ' H' => Pv σ' H' ∧ μ σ' H' < μ σ H, bk := D.nx } σ H1 else D.nx σ H1)
    (mono : ∀ σ H Q Q', (∀ b H1, Q b H1 → Q' b H1) → c σ H Q → c σ H Q') : tWhile c tb D σ H := by
  refine ⟨fun m σ H => m = μ σ H ∧ Pv σ H, ⟨_, rfl, h0⟩, ?_⟩
  rintro m σ H ⟨rfl, p⟩
  refine mono σ H _ _ (fun b H1 q => ?_) (hs σ H p)
  cases b with
  | true => exact ⟨_, fun σ' H' ⟨p', l⟩ => ⟨_, l, rfl, p'⟩, q⟩
  | false => exact q
end L2

namespace L2
open PySem PySem.Spec PyProof.Rows

abbrev R2 := V → V → Hp → VK → Prop
/-- a two-place operation on values: f is binaryOp op, inplaceOp op or compareOp op -/
def OpR (X : Cx) (f : Value → Value → Sem Value) (r : R2) : Prop :=
  ∀ (pins : List (Addr × Obj)) (s : Shared) (σ : St) (H : Hp) (x y : V) (v u : Value) (Q : VK), Inv X pins σ H s → RelV x v → RelV y u → r x y H Q →
    wpAny (model X.prog X.w) X.A (f v u) (EP X pins σ Q) X.xe s
/-- a call of a value that is known (a builtin, a type) with values -/
def CallR (X : Cx) (f : Value) (r : List V → Hp → VK → Prop) : Prop :=
  ∀ (pins : List (Addr × Obj)) (s : Shared) (σ : St) (H : Hp) (xs : List V) (us : List Value) (Q : VK), Inv X pins σ H s → Vals xs us → r xs H Q →
    wpAny (model X.prog X.w) X.A (call f us) (EP X pins σ Q) X.xe s

def tOp (r : R2) (ta tb : TE) : TE := fun σ H Q => ta σ H fun x H1 => tb σ H1 fun y H2 => r x y H2 Q
/-- ints in, under C, and a value out -/
def rI (C : Int → Int → Prop) (g : Int → Int → V) : R2 := fun x y H Q => ∃ i j, x = .int i ∧ y = .int j ∧ C i j ∧ Q (g i j) H
inductive OpI (g : Int → Int → V) (x y : V) (H : Hp) (Q : VK) : Prop
  | mk (i j : Int) (e1 : x = .int i) (e2 : y = .int j) (q : Q (g i j) H) : OpI g x y H Q
def rI0 (g : Int → Int → V) : R2 := OpI g

section
variable {X : Cx} {a b c : Expr} {ta tb tc : TE} {pos : Pos}

theorem binT (ha : PE X a ta) (hb : PE X b tb) {pins : List (Addr × Obj)} {s : Shared} {σ : St} {H : Hp} {R : V → V → Hp → Prop} (I : Inv X pins σ H s)
    (h : ta σ H fun x H1 => tb σ H1 fun y H2 => R x y H2) {Q : Value → Shared → Prop} {f : Value → Value → Sem Value}
    (hf : ∀ v u s2 x y H2, Inv X pins σ H2 s2 → RelV x v → RelV y u → R x y H2 → wpAny (model X.prog X.w) X.A (f v u) Q X.xe s2) :
    wpAny (model X.prog X.w) X.A (eval a X.env) (fun v s₁ => wpAny (model X.prog X.w) X.A (eval b X.env) (fun u s₂ => wpAny (model X.prog X.w) X.A (f v u) Q X.xe s₂) X.xe s₁) X.xe s := by
  refine thn (ha pins s σ H _ I h) fun v s1 ⟨x, H1, I1, r1, q1⟩ => ?_
  refine thn (hb pins s1 σ H1 _ I1 q1) fun u s2 ⟨y, H2, I2, r2, q2⟩ => ?_
  exact hf v u s2 x y H2 I2 r1 r2 q2

theorem pe_op {op : Operator} {r : R2} (ho : OpR X (binaryOp op) r) (ha : PE X a ta) (hb : PE X b tb) : PE X (.BinOp a op b pos) (tOp r ta tb) := by
  intro pins s σ H Q I h
  exact wpAny_BinOp (binT ha hb I h fun v u s2 x y H2 I2 rx ry q => ho pins s2 σ H2 x y v u Q I2 rx ry q)

/-! ### ints -/
theorem opI {f : Value → Value → Sem Value} {C : Int → Int → Prop} {g : Int → Int → Int}
    (rule : ∀ (i j : Int) (t u : Tok) (s : Shared) (Q : Value → Shared → Prop) (E : Value → Shared → Prop), C i j → Q (.int (g i j) s.toks) { s with toks := s.toks + 1 } → wpAny (model X.prog X.w) X.A (f (.int i t) (.int j u)) Q E s) :
    OpR X f (rI C fun i j => .int (g i j)) := by
  intro pins s σ H x y v u Q I rx ry h
  obtain ⟨i, j, rfl, rfl, hc, q⟩ := h
  obtain ⟨t, rfl⟩ := rx
  obtain ⟨t', rfl⟩ := ry
  exact rule i j t t' s _ _ hc ⟨.int (g i j), H, I.tok _, ⟨_, rfl⟩, q⟩
theorem opI0 {f : Value → Value → Sem Value} {g : Int → Int → Int}
    (rule : ∀ (i j : Int) (t u : Tok) (s : Shared) (Q : Value → Shared → Prop) (E : Value → Shared → Prop), Q (.int (g i j) s.toks) { s with toks := s.toks + 1 } → wpAny (model X.prog X.w) X.A (f (.int i t) (.int j u)) Q E s) :
    OpR X f (rI0 fun i j => .int (g i j)) := by
  intro pins s σ H x y v u Q I rx ry h
  obtain ⟨i, j, rfl, rfl, q⟩ := h
  obtain ⟨t, rfl⟩ := rx
  obtain ⟨t', rfl⟩ := ry
  exact rule i j t t' s _ _ ⟨.int (g i j), H, I.tok _, ⟨_, rfl⟩, q⟩
theorem opB0 {f : Value → Value → Sem Value} {g : Int → Int → Bool}
    (rule : ∀ (i j : Int) (t u : Tok) (s : Shared) (Q : Value → Shared → Prop) (E : Value → Shared → Prop), Q (.bool (g i j)) s → wpAny (model X.prog X.w) X.A (f (.int i t) (.int j u)) Q E s) :
    OpR X f (rI0 fun i j => .bl (g i j)) := by
  intro pins s σ H x y v u Q I rx ry h
  obtain ⟨i, j, rfl, rfl, q⟩ := h
  obtain ⟨t, rfl⟩ := rx
  obtain ⟨t', rfl⟩ := ry
  exact rule i j t t' s _ _ ⟨.bl (g i j), H, I, rfl, q⟩

def CDiv (i j : Int) : Prop := 0 < j ∧ j < 1073741824

theorem op_add : OpR X (binaryOp .Add) (rI0 fun i j => .int (i + j)) := opI0 fun _ _ _ _ _ _ _ q => add_int q
theorem op_sub : OpR X (binaryOp .Sub) (rI0 fun i j => .int (i - j)) := opI0 fun _ _ _ _ _ _ _ q => sub_int q
/-- // by a positive divisor -/
theorem op_fdiv : OpR X (binaryOp .FloorDiv) (rI CDiv fun i j => .int (i / j)) := opI fun i j _ _ _ _ _ hc q => by
  have h1 : (0 : Int) < j := hc.1
  have h2 : j < 1073741824 := hc.2
  exact floordiv_int (by omega) (by rw [Int.fdiv_eq_ediv_of_nonneg i (by omega)]; exact q) (.inl (PyProof.noPylong_small (by omega)))
/-- % by a positive divisor of any size -/
theorem op_mod : OpR X (binaryOp .Mod) (rI (fun _ j => 0 < j) fun i j => .int (i % j)) := opI fun i j _ _ _ _ _ hc q => by
  have h1 : (0 : Int) < j := hc
  exact mod_int' (by omega) (by rw [Int.fmod_eq_emod_of_nonneg i (by omega)]; exact q)

/-! ### bools among ints: n += (a < b) -/
end

/-! ### comparisons -/
/-- the scalars that == tells apart as data does -/
def scal : V → V → Bool
  | .non, .non => true | .non, .int _ => true | .int _, .non => true | .non, .bl _ => true | .bl _, .non => true | .non, .str _ => true | .str _, .non => true
  | .int _, .int _ => true | .bl _, .bl _ => true | .str _, .str _ => true | .byt _, .byt _ => true
  | .int _, .str _ => true | .str _, .int _ => true | .bl _, .str _ => true | .str _, .bl _ => true
  | _, _ => false
inductive EqI (x y : V) (H : Hp) (Q : VK) : Prop
  | mk (s : scal x y = true) (q : Q (.bl (decide (x = y))) H) : EqI x y H Q
def rEq : R2 := EqI
inductive NeI (x y : V) (H : Hp) (Q : VK) : Prop
  | mk (s : scal x y = true) (q : Q (.bl (!decide (x = y))) H) : NeI x y H Q
def rNe : R2 := NeI

theorem dec_int {i j : Int} : decide (V.int i = V.int j) = (i == j) := by
  rw [Bool.eq_iff_iff]
  simp
theorem dec_bl {i j : Bool} : decide (V.bl i = V.bl j) = (i == j) := by
  rw [Bool.eq_iff_iff]
  simp
theorem dec_str {i j : Str} : decide (V.str i = V.str j) = (i == j) := by
  rw [Bool.eq_iff_iff]
  simp
theorem dec_byt {i j : Array UInt8} : decide (V.byt i = V.byt j) = (i.toList == j.toList) := by
  rw [Bool.eq_iff_iff]
  cases i
  cases j
  simp

section
variable {X : Cx} {a b c : Expr} {ta tb tc : TE} {pos : Pos}
theorem fin_bl {pins : List (Addr × Obj)} {σ : St} {H : Hp} {s : Shared} {Q : VK} {k k' : Bool} (I : Inv X pins σ H s) (q : Q (.bl k) H) (e : k = k') : EP X pins σ Q (.bool k') s := by
  subst e
  exact ⟨.bl k, H, I, rfl, q⟩
theorem op_eq : OpR X (compareOp .Eq) rEq := by
  intro pins s σ H x y v u Q I rx ry h
  obtain ⟨hs, q⟩ := h
  cases x with
  | non =>
    cases rx
    cases y with
    | non => cases ry; exact PySem.EqNone.eq_none_none (fin_bl I q (by simp))
    | bl j => cases ry; exact PySem.EqNone.eq_none_bool (fin_bl I q (by simp))
    | int j => obtain ⟨t', rfl⟩ := ry; exact PySem.EqNone.eq_none_int (fin_bl I q (by simp))
    | str j => obtain ⟨t', rfl⟩ := ry; exact PySem.EqNone.eq_none_str (fin_bl I q (by simp))
    | _ => exact absurd (show false = true from hs) Bool.false_ne_true
  | bl i =>
    cases rx
    cases y with
    | non => cases ry; exact PySem.EqNone.eq_bool_none (fin_bl I q (by simp))
    | bl j => cases ry; exact eq_bool (fin_bl I q dec_bl)
    | str j => obtain ⟨t', rfl⟩ := ry; exact PySem.EqMixed.eq_bool_str (fin_bl I q (by simp))
    | _ => exact absurd (show false = true from hs) Bool.false_ne_true
  | int i =>
    obtain ⟨t, rfl⟩ := rx
    cases y with
    | non => cases ry; exact PySem.EqNone.eq_int_none (fin_bl I q (by simp))
    | int j => obtain ⟨t', rfl⟩ := ry; exact eq_int (fin_bl I q dec_int)
    | str j => obtain ⟨t', rfl⟩ := ry; exact PySem.EqMixed.eq_int_str (fin_bl I q (by simp))
    | _ => exact absurd (show false = true from hs) Bool.false_ne_true
  | str i =>
    obtain ⟨t, rfl⟩ := rx
    cases y with
    | non => cases ry; exact PySem.EqNone.eq_str_none (fin_bl I q (by simp))
    | bl j => cases ry; exact PySem.EqMixed.eq_str_bool (fin_bl I q (by simp))
    | int j => obtain ⟨t', rfl⟩ := ry; exact PySem.EqMixed.eq_str_int (fin_bl I q (by simp))
    | str j => obtain ⟨t', rfl⟩ := ry; exact eq_str (fin_bl I q dec_str)
    | _ => exact absurd (show false = true from hs) Bool.false_ne_true
  | byt i =>
    obtain ⟨t, rfl⟩ := rx
    cases y with
    | byt j => obtain ⟨t', rfl⟩ := ry; exact PySem.W.eq_bytes (fin_bl I q dec_byt)
    | _ => exact absurd (show false = true from hs) Bool.false_ne_true
  | _ => cases y <;> exact absurd (show false = true from hs) Bool.false_ne_true
theorem op_ne : OpR X (compareOp .NotEq) rNe := by
  intro pins s σ H x y v u Q I rx ry h
  obtain ⟨hs, q⟩ := h
  cases x with
  | non =>
    cases rx
    cases y with
    | non => cases ry; exact PySem.EqNone.ne_none_none (fin_bl I q (by simp))
    | bl j => cases ry; exact PySem.EqNone.ne_none_bool (fin_bl I q (by simp))
    | int j => obtain ⟨t', rfl⟩ := ry; exact PySem.EqNone.ne_none_int (fin_bl I q (by simp))
    | str j => obtain ⟨t', rfl⟩ := ry; exact PySem.EqNone.ne_none_str (fin_bl I q (by simp))
    | _ => exact absurd (show false = true from hs) Bool.false_ne_true
  | bl i =>
    cases rx
    cases y with
    | non => cases ry; exact PySem.EqNone.ne_bool_none (fin_bl I q (by simp))
    | bl j => cases ry; exact ne_bool (fin_bl I q (congrArg not dec_bl))
    | str j => obtain ⟨t', rfl⟩ := ry; exact PySem.EqMixed.ne_bool_str (fin_bl I q (by simp))
    | _ => exact absurd (show false = true from hs) Bool.false_ne_true
  | int i =>
    obtain ⟨t, rfl⟩ := rx
    cases y with
    | non => cases ry; exact PySem.EqNone.ne_int_none (fin_bl I q (by simp))
    | int j => obtain ⟨t', rfl⟩ := ry; exact ne_int (fin_bl I q (congrArg not dec_int))
    | str j => obtain ⟨t', rfl⟩ := ry; exact PySem.EqMixed.ne_int_str (fin_bl I q (by simp))
    | _ => exact absurd (show false = true from hs) Bool.false_ne_true
  | str i =>
    obtain ⟨t, rfl⟩ := rx
    cases y with
    | non => cases ry; exact PySem.EqNone.ne_str_none (fin_bl I q (by simp))
    | bl j => cases ry; exact PySem.EqMixed.ne_str_bool (fin_bl I q (by simp))
    | int j => obtain ⟨t', rfl⟩ := ry; exact PySem.EqMixed.ne_str_int (fin_bl I q (by simp))
    | str j => obtain ⟨t', rfl⟩ := ry; exact ne_str (fin_bl I q (congrArg not dec_str))
    | _ => exact absurd (show false = true from hs) Bool.false_ne_true
  | byt i =>
    obtain ⟨t, rfl⟩ := rx
    cases y with
    | byt j => obtain ⟨t', rfl⟩ := ry; exact PySem.W.ne_bytes (fin_bl I q (congrArg not dec_byt))
    | _ => exact absurd (show false = true from hs) Bool.false_ne_true
  | _ => cases y <;> exact absurd (show false = true from hs) Bool.false_ne_true

theorem op_lt : OpR X (compareOp .Lt) (rI0 fun i j => .bl (decide (i < j))) := opB0 fun _ _ _ _ _ _ _ q => lt_int q
theorem op_le : OpR X (compareOp .LtE) (rI0 fun i j => .bl (decide (i ≤ j))) := opB0 fun _ _ _ _ _ _ _ q => le_int q
theorem op_gt : OpR X (compareOp .Gt) (rI0 fun i j => .bl (decide (j < i))) := opB0 fun _ _ _ _ _ _ _ q => gt_int q
theorem op_ge : OpR X (compareOp .GtE) (rI0 fun i j => .bl (decide (j ≤ i))) := opB0 fun _ _ _ _ _ _ _ q => ge_int q

theorem nomark (b : Expr) {op : CmpOp} (h : op ≠ .In := by decide) (h2 : op ≠ .NotIn := by decide) : behindInMarks op b = false := by
  have e1 : (op == CmpOp.In) = false := by cases op <;> first | rfl | exact absurd rfl h
  have e2 : (op == CmpOp.NotIn) = false := by cases op <;> first | rfl | exact absurd rfl h2
  cases b <;> simp [behindInMarks, e1, e2]
/-- a comparison as a value; hm: nomark b, or (for in, not in) by with_unfolding_all rfl -/
theorem pe_cmpR {op : CmpOp} {r : R2} (ho : OpR X (compareOp op) r) (ha : PE X a ta) (hb : PE X b tb) (hm : behindInMarks op b = false) : PE X (.Compare a [op] [b] pos) (tOp r ta tb) := by
  intro pins s σ H Q I h
  exact wpAny_Compare1 (binT ha hb I h fun v u s2 x y H2 I2 rx ry q => ho pins s2 σ H2 x y v u Q I2 rx ry q) hm
/-- a reading of a value as a test -/
def tTest (t : TE) : TT := fun σ H Q => t σ H (BlI Q)
theorem pt_cmpR {op : CmpOp} {r : R2} (ho : OpR X (compareOp op) r) (ha : PE X a ta) (hb : PE X b tb) (hm : behindInMarks op b = false) : PT X (.Compare a [op] [b] pos) (tTest (tOp r ta tb)) := by
  intro pins s σ H Q I h
  refine wpAny_isTrue_Compare1 (thn (ha pins s σ H _ I h) fun v s1 ⟨x, H1, I1, r1, q1⟩ => thn (hb pins s1 σ H1 _ I1 q1) fun u s2 ⟨y, H2, I2, r2, q2⟩ =>
    thn (ho pins s2 σ H2 x y v u _ I2 r1 r2 q2) fun c s3 ⟨z, H3, I3, r3, k, e, q3⟩ => ?_) hm
  subst e
  cases r3
  exact wpAny_truthy_bool ⟨H3, I3, q3⟩

/-! ### truth -/
theorem line63 : (sizeLine : Nat) < 2 ^ 63 := by rw [sizeLine_eq]; decide

/-! ### strs and bytes -/

/-! ### scalar builtins, by CallR -/
theorem vals1 {x : V} {us : List Value} (r : Vals [x] us) : ∃ u, us = [u] ∧ RelV x u := by
  cases r with
  | cons r1 r2 => cases r2; exact ⟨_, rfl, r1⟩
theorem vals2 {x y : V} {us : List Value} (r : Vals [x, y] us) : ∃ u w', us = [u, w'] ∧ RelV x u ∧ RelV y w' := by
  cases r with
  | cons r1 r2 =>
    cases r2 with
    | cons r3 r4 => cases r4; exact ⟨_, _, rfl, r1, r3⟩
theorem call_abs : CallR X (.builtin "abs") (fun xs H Q => ∃ i, xs = [.int i] ∧ Q (.int (if i < 0 then -i else i)) H) := by
  intro pins s σ H xs us Q I r h
  obtain ⟨i, rfl, q⟩ := h
  obtain ⟨u, rfl, t, rfl⟩ := vals1 r
  exact call_abs_int fun u tk => ⟨.int (if i < 0 then -i else i), H, I.tok _, ⟨_, rfl⟩, q⟩
theorem call_min2 (hc : X.calm = true) : CallR X (.builtin "min") (fun xs H Q => ∃ i j, xs = [.int i, .int j] ∧ Q (.int (if j < i then j else i)) H) := by
  intro pins s σ H xs us Q I r h
  obtain ⟨i, j, rfl, q⟩ := h
  obtain ⟨u, w', rfl, ⟨t, rfl⟩, ⟨t', rfl⟩⟩ := vals2 r
  refine min_two_ints (I.ok.hd hc) fun h' tk k => ⟨_, H, I.kept k, ?_, q⟩
  by_cases hj : j < i
  · rw [if_pos hj, if_pos hj]; exact ⟨_, rfl⟩
  · rw [if_neg hj, if_neg hj]; exact ⟨_, rfl⟩
end
end L2

namespace L2
open PySem PySem.Spec PyProof.Rows

/-! ### an instance, its attributes a map -/
structure ObjM (h : Heap) (x dx C : Addr) (mA : Str → Option Value) : Prop where
  obj : h.get? x = some (PySem.W.instObj C dx)
  ns : h.Ns1 dx mA
  ne : dx ≠ x

theorem lookIn_ns {h : Heap} {dx : Addr} {mA : Str → Option Value} (n : h.Ns1 dx mA) : ∃ od, h.get? dx = some od ∧ ∀ name, PySem.W.lookIn name od = some (mA name) := by
  obtain ⟨o, es, ep, ho, hd, hk, _, hm⟩ := n
  refine ⟨o, ho, fun name => ?_⟩
  have e := hm name
  unfold nsFind findBy at e
  rw [← Array.find?_toList] at e
  unfold PySem.W.lookIn
  rw [hd]
  dsimp only
  split
  · rename_i y q
    rw [q] at e
    exact congrArg some e
  · rename_i q
    rw [q] at e
    have a : es.toList.any (·.refKey) = false := by
      rw [List.any_eq_false]
      intro y hy
      obtain ⟨z, t, hkey⟩ := hk y (Array.mem_toList_iff.mp hy)
      simp [DictEntry.refKey, hkey]
    have a' : ¬ es.toList.any (·.refKey) = true := by rw [a]; exact Bool.false_ne_true
    rw [if_neg a']
    exact congrArg some e

theorem ObjM.look {h : Heap} {x dx C : Addr} {mA : Str → Option Value} (I : ObjM h x dx C mA) : ∃ od, PySem.W.InstAt h x (PySem.W.instObj C dx) C (some od) ∧ ∀ name, PySem.W.lookIn name od = some (mA name) :=
  let ⟨od, ho, hl⟩ := lookIn_ns I.ns
  ⟨od, ⟨I.obj, rfl, rfl, ho⟩, hl⟩

section
variable {prog : Program} {w : World} {A : Around} {E : Value → Shared → Prop} {s : Shared} {K : PySem.W.Frag} {x dx C f : Addr} {mA : Str → Option Value} {name : Str} {v : Value}

theorem get_map {expr : Bool} {Q : Value → Shared → Prop} (X : K.In s.heap) (I : ObjM s.heap x dx C mA) (hg : PySem.W.plainGet K C name = true) (hh : PySem.W.hasDictIn K C = true)
    (ha : PySem.W.findIn K (.ref C) name = some none) (hv : mA name = some v) (hv' : PySem.W.handedIn v = true) (h : Q v { s with toks := s.toks + 1 }) :
    wpAny (model prog w) A (getAttr (.ref x) name expr) Q E s := by
  obtain ⟨od, J, hl⟩ := I.look
  exact PySem.W.get_value X J (PySem.W.plainGet_of hg).1 (PySem.W.findObj_own hh ha rfl (by rw [hl, hv])) hv' h

theorem get_meth {pl : Sem Bool} {Q : Value × List Value → Shared → Prop} (X : K.In s.heap) (I : ObjM s.heap x dx C mA) (hg : PySem.W.plainGet K C name = true)
    (hf : PySem.W.findIn K (.ref C) name = some (some (.ref f))) (ht : PySem.W.isFn K (.ref f) = true) (hv : mA name = none) (h : Q (.ref f, [.ref x]) s) :
    wpAny (model prog w) A (getMethod (.ref x) name pl) Q E s := by
  obtain ⟨od, J, hl⟩ := I.look
  exact PySem.W.method_fn X J (PySem.W.plainGet_of hg).1 (PySem.W.plainGet_of hg).2 hf (beq_iff_eq.mp ht) (by show (PySem.W.lookIn name od).map (·.isSome) = some false; rw [hl, hv]; rfl) h

theorem set_map {ns : List Str} {Q : Unit → Shared → Prop} (X : K.In s.heap) (I : ObjM s.heap x dx C mA)
    (hs : PySem.W.findIn K (.ref C) "__setattr__" = some (some (.builtin "object.__setattr__"))) (hp : PySem.W.plainOver K C = true) (ht : PySem.W.takerIn K C name = some none) (hh : PySem.W.hasDictIn K C = true)
    (hw : PySem.Within mA ns) (hsz : ns.length ≤ sizeLine)
    (h : ∀ h', ObjM h' x dx C (fun y => if y = name then some v else mA y) → Heap.SameBut dx s.heap h' → Q () { s with heap := h', toks := s.toks + 2 }) :
    wpAny (model prog w) A (setAttr (.ref x) name v) Q E s := by
  obtain ⟨od, J, hl⟩ := I.look
  refine PySem.W.set_plain X J hs (PySem.W.osa_open (s := { s with toks := s.toks + 1 }) (r := none) X J hp ht fun b => ?_)
  obtain ⟨cd, hc, hd'⟩ := PySem.W.any_some hh
  have hx : s.heap.get? x = some ⟨.ref C, some dx, .plain, #[]⟩ := I.obj
  refine wpAny_bind (wpAny_pure (wpAny_bind (wpAny_bind (wpAny_loadPart hx (wpAny_bind (PySem.W.Looks.here (s := { s with toks := s.toks + 1 }) (PySem.W.looks_clsIn X hc) ?_))))))
  rw [hd']
  refine wpAny_pure (a := some dx) (wpAny_bind (wpAny_pure (wpAny_bind ?_)))
  refine wpAny_nsSet1 (s := { s with toks := s.toks + 1 }) I.ns fun h' hn2 hs2 => ?_
  obtain ⟨oD, esD, epD, hoD, hdD, hcD⟩ := hn2.count (PySem.Within.cons name v hw)
  refine wpAny_bind (wpAny_lookBehind hoD (by rw [hdD]; exact pastItsLine_dict (Nat.le_trans hcD (by rw [List.length_cons]; omega))) ?_)
  exact wpAny_pure (h _ ⟨(hs2.2 _ (Ne.symm I.ne)).trans I.obj, hn2, I.ne⟩ hs2)

/-- C(..): the dict at the heap's end, the instance behind it; then its __init__ -/
theorem make_map {R : Result → Shared → Prop} {vs : List Value} {kw : List (Str × Value)} (X : K.In s.heap) (hm : PySem.W.makesIn K C = true)
    (hi : PySem.W.findIn K (.ref C) "__init__" = some (some (.ref f))) (hf : PySem.W.typeIn K (.ref f) = some (.type "function"))
    (h : codeAny (model prog w) (A.under (.builtin "type.__call__" ⟨.ref C :: vs, kw⟩)) (.call (.ref f) ⟨.ref (s.heap.objs.size + 1) :: vs, kw⟩) (PySem.W.InitBack (s.heap.objs.size + 1) R)
      { s with heap := (s.heap.push PySem.W.emptyDict).push (PySem.W.instObj C s.heap.objs.size) }) :
    codeAny (model prog w) A (.call (.ref C) ⟨vs, kw⟩) R s := by
  obtain ⟨hh, g, d, t, os⟩ := s
  exact PySem.W.make_core (PySem.W.makes_of X hm) (PySem.W.looks_findIn X hi) (fun self => PySem.W.bind_fn X self hf) (.inl rfl) h
end

/-! ### the attributes as a list of pairs -/
def putF (f : Str) (v : V) : List (Str × V) → List (Str × V)
  | [] => [(f, v)]
  | (g, x) :: r => if g = f then (g, v) :: r else (g, x) :: putF f v r
theorem lookup_putF (f g : Str) (v : V) : ∀ fs : List (Str × V), (putF f v fs).lookup g = if g = f then some v else fs.lookup g
  | [] => by
    show List.lookup g [(f, v)] = _
    by_cases h : g = f
    · have hb : (g == f) = true := beq_iff_eq.mpr h
      simp only [List.lookup, hb, if_pos h]
    · have hb : (g == f) = false := beq_eq_false_iff_ne.mpr h
      simp only [List.lookup, hb, if_neg h]
  | (k, x) :: r => by
    have ih := lookup_putF f g v r
    rw [show putF f v ((k, x) :: r) = (if k = f then (k, v) :: r else (k, x) :: putF f v r) from rfl]
    by_cases hk : k = f
    · rw [if_pos hk]
      by_cases h : g = k
      · have hb : (g == k) = true := beq_iff_eq.mpr h
        simp only [List.lookup, hb, if_pos (h.trans hk)]
      · have hb : (g == k) = false := beq_eq_false_iff_ne.mpr h
        simp only [List.lookup, hb, if_neg (fun e : g = f => h (e.trans hk.symm))]
    · rw [if_neg hk]
      by_cases h : g = k
      · have hb : (g == k) = true := beq_iff_eq.mpr h
        simp only [List.lookup, hb, if_neg (fun e : g = f => hk (h.symm.trans e))]
      · have hb : (g == k) = false := beq_eq_false_iff_ne.mpr h
        simp only [List.lookup, hb]
        exact ih
theorem keys_putF (f : Str) (v : V) : ∀ fs : List (Str × V), f ∈ (putF f v fs).map (·.1) ∧ ∀ g, g ∈ fs.map (·.1) → g ∈ (putF f v fs).map (·.1)
  | [] => ⟨by simp [putF], fun g h => by simp at h⟩
  | (k, x) :: r => by
    obtain ⟨i1, i2⟩ := keys_putF f v r
    rw [show putF f v ((k, x) :: r) = (if k = f then (k, v) :: r else (k, x) :: putF f v r) from rfl]
    by_cases hk : k = f
    · rw [if_pos hk]
      subst hk
      exact ⟨by simp, fun g h => by simpa using h⟩
    · rw [if_neg hk]
      refine ⟨?_, fun g h => ?_⟩
      · rw [List.map_cons]
        exact List.mem_cons_of_mem _ i1
      · rw [List.map_cons] at h ⊢
        rcases List.mem_cons.mp h with e | e
        · exact List.mem_cons.mpr (.inl e)
        · exact List.mem_cons_of_mem _ (i2 g e)
theorem length_putF (f : Str) (v : V) : ∀ fs : List (Str × V), (putF f v fs).length ≤ fs.length + 1
  | [] => by simp [putF]
  | (k, x) :: r => by
    have ih := length_putF f v r
    rw [show putF f v ((k, x) :: r) = (if k = f then (k, v) :: r else (k, x) :: putF f v r) from rfl]
    by_cases hk : k = f
    · rw [if_pos hk, List.length_cons, List.length_cons]; omega
    · rw [if_neg hk, List.length_cons, List.length_cons]; omega

theorem RelO.some_of {v : V} {o : Option Value} (r : RelO (some v) o) : ∃ u, o = some u ∧ RelV v u := by
  cases o with
  | none => exact (show False from r).elim
  | some u => exact ⟨u, rfl, r⟩
theorem RelO.none_of {o : Option Value} (r : RelO none o) : o = none := by
  cases o with
  | none => rfl
  | some u => exact (show False from r).elim
theorem handed_of {v : V} {u : Value} (r : RelV v u) : PySem.W.handedIn u = true := by
  cases v with
  | non => cases (show u = Value.none from r); rfl
  | bl b => cases (show u = Value.bool b from r); rfl
  | int i => obtain ⟨t, e⟩ := (show ∃ t, u = Value.int i t from r); cases e; rfl
  | str x => obtain ⟨t, e⟩ := (show ∃ t, u = Value.str x t from r); cases e; rfl
  | byt b => obtain ⟨t, e⟩ := (show ∃ t, u = Value.bytes b t from r); cases e; rfl
  | flt b => obtain ⟨t, e⟩ := (show ∃ t, u = Value.float b t from r); cases e; rfl
  | ref a => cases (show u = Value.ref a from r); rfl
  | ty n => cases (show u = Value.type n from r); rfl

section
variable {P : Program} {w : World} {H H' : Hp} {h h' : Heap} {a C dx : Addr} {fs fs' : List (Str × V)}
theorem ins_get (hok : HOk P w H h) (e : H a = some (.ins C dx fs)) : ∃ mA, ObjM h a dx C mA ∧ (∀ f, RelO (fs.lookup f) (mA f)) ∧ PySem.Within mA (fs.map (·.1)) ∧ fs.length ≤ 1000 ∧ H dx = some (.own a) := by
  obtain ⟨d, z, ne, ob, mA, n, r, q⟩ := (show ObjOk P w H h a (.ins C dx fs) from hok a _ e)
  exact ⟨mA, ⟨ob, n, ne⟩, r, q, z, d⟩
end

/-! ### what of the text a class must have -/
structure Cls (K : PySem.W.Frag) (C : Addr) : Prop where
  pg : PySem.W.plainGet K C Str.empty = true
  hd : PySem.W.hasDictIn K C = true
  po : PySem.W.plainOver K C = true
  sa : PySem.W.findIn K (.ref C) "__setattr__" = some (some (.builtin "object.__setattr__"))
theorem Cls.get {K : PySem.W.Frag} {C : Addr} (c : Cls K C) (f : Str) : PySem.W.plainGet K C f = true := c.pg
/-- no class of it has the name -/
def NoAttr (K : PySem.W.Frag) (C : Addr) (f : Str) : Prop := PySem.W.findIn K (.ref C) f = some none
theorem NoAttr.taker {K : PySem.W.Frag} {C : Addr} {f : Str} (n : NoAttr K C f) : PySem.W.takerIn K C f = some none := by
  unfold PySem.W.takerIn
  rw [show PySem.W.findIn K (.ref C) f = some none from n]
  rfl
/-- a method: a plain def of the class or of one above it -/
structure Meth (K : PySem.W.Frag) (C : Addr) (m : Str) (f : Addr) : Prop where
  at_ : PySem.W.findIn K (.ref C) m = some (some (.ref f))
  fn : PySem.W.isFn K (.ref f) = true
  kp : PySem.W.keepIn K (.ref f) = true

section
variable {X : Cx} {pins : List (Addr × Obj)} {σ : St} {H : Hp} {s : Shared} {a C dx : Addr} {fs : List (Str × V)} {f : Str} {v : V} {A : Around} {E : Value → Shared → Prop}

theorem getattr_ok {b : Bool} {Q : Value → Shared → Prop} (I : Inv X pins σ H s) (e : H a = some (.ins C dx fs)) (c : Cls X.K C) (n : NoAttr X.K C f) (l : fs.lookup f = some v)
    (h : ∀ u s', Inv X pins σ H s' → RelV v u → Q u s') : wpAny (model X.prog X.w) A (getAttr (.ref a) f b) Q E s := by
  obtain ⟨mA, O, r, _, _, _⟩ := ins_get I.hok e
  obtain ⟨u, hu, ru⟩ := RelO.some_of (v := v) (o := mA f) (by rw [← l]; exact r f)
  exact get_map I.kIn O (c.get f) c.hd n hu (handed_of ru) (h u _ (I.tok _) ru)

theorem getmeth_ok {m : Str} {g : Addr} {pl : Sem Bool} {Q : Value × List Value → Shared → Prop} (I : Inv X pins σ H s) (e : H a = some (.ins C dx fs)) (c : Cls X.K C) (k : Meth X.K C m g) (l : fs.lookup m = none)
    (h : Q (.ref g, [.ref a]) s) : wpAny (model X.prog X.w) A (getMethod (.ref a) m pl) Q E s := by
  obtain ⟨mA, O, r, _, _, _⟩ := ins_get I.hok e
  have hn : mA m = none := RelO.none_of (by rw [← l]; exact r m)
  exact get_meth I.kIn O (c.get m) k.at_ k.fn hn h

theorem setattr_ok {y : V} {u : Value} {Q : Unit → Shared → Prop} (I : Inv X pins σ H s) (e : H a = some (.ins C dx fs)) (c : Cls X.K C) (n : NoAttr X.K C f) (hl : fs.length < 1000) (ry : RelV y u)
    (h : ∀ s', Inv X pins σ (upd H a (.ins C dx (putF f y fs))) s' → Q () s') : wpAny (model X.prog X.w) A (setAttr (.ref a) f u) Q E s := by
  obtain ⟨mA, O, r, wi, _, ho⟩ := ins_get I.hok e
  have hz : (fs.map (·.1)).length ≤ sizeLine := by rw [List.length_map, sizeLine_eq]; omega
  refine set_map I.kIn O c.sa c.po n.taker c.hd wi hz fun h' O' sb => h _ ?_
  have hd : ∃ o, h'.get? dx = some o := let ⟨o, _, _, e', _⟩ := O'.ns; ⟨o, e'⟩
  refine I.write (x := a) (e := dx) (by rw [e]; exact True.intro) (.inr ho) (fun b q hb z => (sb.2 b hb).trans z) hd ?_
  refine ⟨by rw [upd_ne O.ne]; exact ho, ?_, O.ne, O'.obj, _, O'.ns, fun g => ?_, fun g hg => ?_⟩
  · have := length_putF f y fs; omega
  · show RelO ((putF f y fs).lookup g) (if g = f then some u else mA g)
    rw [lookup_putF]
    by_cases q : g = f
    · rw [if_pos q, if_pos q]; exact ry
    · rw [if_neg q, if_neg q]; exact r g
  · by_cases q : g = f
    · rw [q]; exact (keys_putF f y fs).1
    · refine (keys_putF f y fs).2 g (wi g fun z => hg ?_)
      show (if g = f then some u else mA g) = none
      rw [if_neg q]; exact z

/-- a new instance, tracked, without attributes -/
theorem Inv.made (I : Inv X pins σ H s) : Inv X pins σ (upd (upd H s.heap.objs.size (.own (s.heap.objs.size + 1))) (s.heap.objs.size + 1) (.ins C s.heap.objs.size []))
    { s with heap := (s.heap.push PySem.W.emptyDict).push (PySem.W.instObj C s.heap.objs.size) } := by
  have e1 : (s.heap.push PySem.W.emptyDict).get? s.heap.objs.size = some PySem.W.emptyDict := Heap.get?_push_size s.heap rfl
  have e2 : ((s.heap.push PySem.W.emptyDict).push (PySem.W.instObj C s.heap.objs.size)).get? (s.heap.objs.size + 1) = some (PySem.W.instObj C s.heap.objs.size) := by
    have := Heap.get?_push_size (s.heap.push PySem.W.emptyDict) (o := PySem.W.instObj C s.heap.objs.size) rfl
    rwa [Heap.size_push] at this
  have e3 : (s.heap.push PySem.W.emptyDict).Ns s.heap.objs.size (fun _ => none) := ⟨PySem.W.emptyDict, #[], _, e1, rfl, (fun e he => absurd he (by simp)), fun _ => rfl⟩
  have I1 := I.laid (a := s.heap.objs.size) (o := .own (s.heap.objs.size + 1)) (h' := s.heap.push PySem.W.emptyDict) (t' := s.toks) (fun b u q => Heap.get?_push_of_some _ q) (Nat.le_refl _) ⟨_, e1⟩
  refine I1.laid (a := s.heap.objs.size + 1) (o := .ins C s.heap.objs.size []) (t' := s.toks) (fun b u q => Heap.get?_push_of_some _ q) (Nat.le_of_eq (Heap.size_push _ _)) ?_
  have ne : s.heap.objs.size ≠ s.heap.objs.size + 1 := Nat.ne_of_lt (Nat.lt_succ_self _)
  refine ⟨by rw [upd_ne ne, upd_same], Nat.zero_le _, ne, e2, fun _ => none, (Heap.Ns1.of_empty e3).at fun o q => Heap.get?_push_of_some _ q, fun _ => True.intro, fun y hy => absurd rfl hy⟩

/-- e.f where nothing but the object is asked: through attributeBase (super) and the last hold -/
theorem attr_of {prog : Program} {w : World} {env : Env} {e : Expr} {f : Str} {pos : Pos} {s : Shared} {Q : Value → Shared → Prop} (hb : attributeBase e f env (eval e env) = eval e env)
    (h : wpAny (model prog w) A (eval e env) (fun o s₁ => wpAny (model prog w) A (getAttr o f true) Q E s₁) E s) : wpAny (model prog w) A (eval (.Attribute e f pos) env) Q E s :=
  Attribute_any_ h (by rw [arm_eval_Attribute, hb])
end

/-! ### readings and rules -/
/-- e.f, an attribute of the instance -/
inductive FldI (K : PySem.W.Frag) (f : Str) (Q : VK) (x : V) (H : Hp) : Prop
  | mk (a C dx : Addr) (fs : List (Str × V)) (v : V) (e1 : x = .ref a) (e2 : H a = some (.ins C dx fs)) (e3 : Cls K C) (e4 : NoAttr K C f) (e5 : fs.lookup f = some v) (q : Q v H) : FldI K f Q x H
def tFld (K : PySem.W.Frag) (ta : TE) (f : Str) : TE := fun σ H Q => ta σ H (FldI K f Q)
/-- e.f = value -/
def sFld (K : PySem.W.Frag) (ta tv : TE) (f : Str) : TS := fun D σ H => tv σ H fun y H1 => ta σ H1 fun x H2 => ∃ a C dx fs, x = .ref a ∧ H2 a = some (.ins C dx fs) ∧ Cls K C ∧ NoAttr K C f ∧ fs.length < 1000 ∧
  D.nx σ (upd H2 a (.ins C dx (putF f y fs)))
/-- an augmented operator on two values -/
def InOp (X : Cx) (op : Operator) (rd : V → V → Hp → VK → Prop) : Prop :=
  ∀ (pins : List (Addr × Obj)) (s : Shared) (σ : St) (H : Hp) (x y : V) (u v : Value) (Q : VK), Inv X pins σ H s → RelV x u → RelV y v → rd x y H Q → wpAny (model X.prog X.w) X.A (inplaceOp op u v) (EP X pins σ Q) X.xe s
/-- e.f op= value -/
def sFldAug (K : PySem.W.Frag) (ta tv : TE) (rd : V → V → Hp → VK → Prop) (f : Str) : TS := fun D σ H => ta σ H fun x H1 => ∃ a C dx fs v, x = .ref a ∧ H1 a = some (.ins C dx fs) ∧ Cls K C ∧ NoAttr K C f ∧ fs.lookup f = some v ∧
  tv σ H1 fun y H2 => rd v y H2 fun z H3 => ∃ dx' fs', H3 a = some (.ins C dx' fs') ∧ fs'.length < 1000 ∧ D.nx σ (upd H3 a (.ins C dx' (putF f z fs')))

section
variable {X : Cx} {o e value : Expr} {f : Str} {pos pos' tpos : Pos} {ta tv : TE}
theorem pe_fld (he : PE X e ta) (hb : attributeBase e f X.env (eval e X.env) = eval e X.env) : PE X (.Attribute e f pos) (tFld X.K ta f) := by
  intro pins s σ H Q I h
  refine attr_of hb (thn (he pins s σ H _ I h) fun u s1 ⟨x, H1, I1, rx, a, C, dx, fs, v, ex, ea, c, n, l, q⟩ => ?_)
  subst ex
  obtain rfl : u = Value.ref a := rx
  exact getattr_ok I1 ea c n l fun u' s2 I2 ru => ⟨v, H1, I2, ru, q⟩
theorem ps_fld (ha : PE X o ta) (hv : PE X value tv) (hs : swapsWith value (some (.Attribute o f pos')) pos.line X.env = pure false) : PS X (.Assign [.Attribute o f pos'] value pos) (sFld X.K ta tv f) := by
  intro pins s σ H D I h
  refine plainObj_wpAny_Assign_Attribute (thn (hv pins s σ H _ I h) fun u s1 ⟨y, H1, I1, ry, q⟩ => thn (ha pins s1 σ H1 _ I1 q) fun ov s2 ⟨x, H2, I2, rx, a, C, dx, fs, ex, ea, c, n, l, q2⟩ => ?_) hs
  subst ex
  obtain rfl : ov = Value.ref a := rx
  exact setattr_ok I2 ea c n l ry fun s3 I3 => ⟨σ, _, I3, q2⟩
theorem ps_fldaug {op : Operator} {rd : V → V → Hp → VK → Prop} (ha : PE X o ta) (hv : PE X value tv) (hop : InOp X op rd) : PS X (.AugAssign (.Attribute o f tpos) op value pos) (sFldAug X.K ta tv rd f) := by
  intro pins s σ H D I h
  refine wpAny_AugAssign_AttributeAny (thn (ha pins s σ H _ I h) fun ov s1 ⟨x, H1, I1, rx, a, C, dx, fs, v, ex, ea, c, n, l, q⟩ => ?_)
  subst ex
  obtain rfl : ov = Value.ref a := rx
  refine getattr_ok I1 ea c n l fun u s2 I2 ru => thn (hv pins s2 σ H1 _ I2 q) fun w3 s3 ⟨y, H2, I3, ry, q3⟩ => thn (hop pins s3 σ H2 v y u w3 _ I3 ru ry q3) fun w4 s4 ⟨z, H3, I4, rz, dx', fs', ea', l', q4⟩ => ?_
  exact setattr_ok I4 ea' c n l' rz fun s5 I5 => ⟨σ, _, I5, q4⟩
def rAdd : V → V → Hp → VK → Prop := fun x y H Q => ∃ i j, x = .int i ∧ y = .int j ∧ Q (.int (i + j)) H
def rSub : V → V → Hp → VK → Prop := fun x y H Q => ∃ i j, x = .int i ∧ y = .int j ∧ Q (.int (i - j)) H
theorem in_add : InOp X .Add rAdd := by
  rintro pins s σ H x y u v Q I rx ry ⟨i, j, rfl, rfl, q⟩
  obtain ⟨t, rfl⟩ := (show ∃ t, u = Value.int i t from rx)
  obtain ⟨t', rfl⟩ := (show ∃ t', v = Value.int j t' from ry)
  exact PyProof.Rows.iadd_int ⟨.int (i + j), H, I.tok _, ⟨_, rfl⟩, q⟩
theorem in_sub : InOp X .Sub rSub := by
  rintro pins s σ H x y u v Q I rx ry ⟨i, j, rfl, rfl, q⟩
  obtain ⟨t, rfl⟩ := (show ∃ t, u = Value.int i t from rx)
  obtain ⟨t', rfl⟩ := (show ∃ t', v = Value.int j t' from ry)
  exact PyProof.Rows.isub_int ⟨.int (i - j), H, I.tok _, ⟨_, rfl⟩, q⟩

end

/-! ### isinstance -/
section
variable {X : Cx} {pins : List (Addr × Obj)} {σ : St} {H : Hp} {s : Shared} {A : Around} {E : Value → Shared → Prop} {Q : Value → Shared → Prop} {c : Value} {b : Bool}
end
end L2

namespace L2
open PySem PySem.Spec PyProof.Rows

/-! ### room -/
structure Room (k : Nat) (A : Around) : Prop where
  hd : A.handled = none
  dp : A.depth + 3 * k + 5 < recursionLimit
  un : A.units + 16 * k + 200 < cLine
theorem Room.mono {j k : Nat} {A : Around} (r : Room k A) (h : j ≤ k) : Room j A := ⟨r.hd, by have := r.dp; omega, by have := r.un; omega⟩
theorem Room.deeper {k : Nat} {A : Around} (r : Room (k + 1) A) (env : Env) : Room k (A.deeper env) :=
  ⟨r.hd, by have := r.dp; show A.depth + 1 + 3 * k + 5 < _; omega, by have := r.un; show A.units + 3 + 16 * k + 200 < _; omega⟩
theorem make_depth {A : Around} {C : Addr} {us : List Value} {kw : List (Str × Value)} : (A.under (.builtin "type.__call__" ⟨.ref C :: us, kw⟩)).depth = A.depth + 1 := by
  first | rfl | simp [Around.under, Code.weight, Code.isCreation, Code.isGuard, Code.isCaller, Code.frames, Code.isFrame, guardIds]
theorem make_units {A : Around} {C : Addr} {us : List Value} {kw : List (Str × Value)} : (A.under (.builtin "type.__call__" ⟨.ref C :: us, kw⟩)).units = A.units + 1 := by
  first | rfl | simp [Around.under, Code.cUnits, Code.frames, Code.isFrame]
theorem Room.make {k : Nat} {A : Around} (r : Room (k + 1) A) (C : Addr) (us : List Value) (kw : List (Str × Value)) : Room k (A.under (.builtin "type.__call__" ⟨.ref C :: us, kw⟩)) :=
  ⟨r.hd, by have := r.dp; rw [make_depth]; omega, by have := r.un; rw [make_units]; omega⟩
theorem Room.depth {k : Nat} {A : Around} (r : Room k A) : A.depth < recursionLimit := by have := r.dp; omega
theorem Room.units {k : Nat} {A : Around} (r : Room k A) : A.units + 64 < cLine := by have := r.un; omega

/-! ### argument lists and displays -/
def tNil : TA := fun _ H Q => Q [] H
def tCons (ta : TE) (tr : TA) : TA := fun σ H Q => ta σ H fun x H1 => tr σ H1 fun xs H2 => Q (x :: xs) H2
section
variable {X : Cx} {e : Expr} {es : List Expr} {te : TE} {t : TA} {pos : Pos}
theorem pa_nil : PA X [] tNil := fun _ _ _ _ H Q I h => Calls.spliced_nil ⟨[], H, I, .nil, h⟩
theorem pa_cons (ha : PE X e te) (hr : PA X es t) (hs : starEach (e :: es) X.env = (false, eval e X.env) :: starEach es X.env := by rfl) : PA X (e :: es) (tCons te t) := by
  intro pos pins s σ H Q I h
  rw [hs]
  show wpAny _ _ (spliced ((false, eval e X.env) :: backTo pos (starEach es X.env))) _ _ s
  refine Calls.spliced_cons (thn (ha pins s σ H _ I h) fun u s1 ⟨x, H1, I1, r1, q1⟩ => ?_)
  exact thn (hr pos pins s1 σ H1 _ I1 q1) fun us s2 ⟨xs, H2, I2, r2, q2⟩ => ⟨x :: xs, H2, I2, .cons r1 r2, q2⟩

/-- a tuple, a list of written items -/
inductive TupI (Q : VK) (xs : List V) (H : Hp) : Prop
  | mk (l : xs.length ≤ sizeLine) (q : ∀ p, H p = none → Q (.ref p) (upd H p (.tup xs))) : TupI Q xs H
def tTup (t : TA) : TE := fun σ H Q => t σ H (TupI Q)
inductive LstI (Q : VK) (xs : List V) (H : Hp) : Prop
  | mk (l : xs.length ≤ sizeLine) (q : ∀ p, H p = none → Q (.ref p) (upd H p (.lst xs))) : LstI Q xs H
def tLst (t : TA) : TE := fun σ H Q => t σ H (LstI Q)
theorem pe_tup {x1} (h : PA X es t) : PE X (.Tuple es x1 pos) (tTup t) := by
  intro pins s σ H Q I hq
  refine wpAny_Tuple_spliced (thn (h pos pins s σ H _ I hq) fun us s1 ⟨xs, H1, I1, r, z, q⟩ => ⟨by rw [← r.length]; exact z, ?_⟩)
  have hf : H1 s1.heap.objs.size = none := I1.hok.fresh (Nat.le_refl _)
  refine ⟨.ref s1.heap.objs.size, upd H1 s1.heap.objs.size (.tup xs), I1.laid (t' := s1.toks) (fun b u e => Heap.get?_push_of_some _ e) (Nat.le_refl _) ?_, rfl, q _ hf⟩
  exact ⟨z, us, r, ⟨_, Heap.get?_push_size _ rfl, rfl, _, rfl⟩⟩
theorem pe_lst (h : PA X es t) : PE X (.List es pos) (tLst t) := by
  intro pins s σ H Q I hq
  refine wpAny_List_spliced (thn (h pos pins s σ H _ I hq) fun us s1 ⟨xs, H1, I1, r, z, q⟩ => ⟨by rw [← r.length]; exact z, ?_⟩)
  have hf : H1 s1.heap.objs.size = none := I1.hok.fresh (Nat.le_refl _)
  refine ⟨.ref s1.heap.objs.size, upd H1 s1.heap.objs.size (.lst xs), I1.laid (t' := s1.toks) (fun b u e => Heap.get?_push_of_some _ e) (Nat.le_refl _) ?_, rfl, q _ hf⟩
  exact ⟨z, us, 0, r, Heap.get?_push_size _ rfl⟩
end

/-! ### what a def promises -/
/-- a def's promise: the bound arguments in the parameters' order, the heap, the wanted end, the wanted exception -/
abbrev Sp := List V → Hp → VK → XK → Prop
/-- how an exception lies behind a call (file 08 gives it): the callers' frames, abstract heap and state ahead of the call, the wish, the exception, the state -/
abbrev CXT := List Env → Hp → Shared → XK → Value → Shared → Prop

/-- the state at a call -/
structure Env0 (P : Program) (w : World) (K : PySem.W.Frag) (mg : Str → Option Value) (base : Heap) (A : Around) (outer : List Env) (s : Shared) (H : Hp) : Prop where
  frames : A.frames = some outer
  mod : Mod K mg base
  bs : ∀ b o, base.get? b = some o → s.heap.get? b = some o ∧ H b = none
  bsz : base.objs.size ≤ s.heap.objs.size
  funs : s.heap.FunFrames base outer
  frf : ∀ b ∈ frs outer, H b = none
  hok : HOk P w H s.heap
  bare : AllBare s.gens
/-- a call's end -/
inductive CE (outer : List Env) (P : Program) (w : World) (H : Hp) (s : Shared) (Q : VK) (u : Value) (s' : Shared) : Prop
  | mk (v : V) (H' : Hp) (e1 : s'.os = s.os) (e2 : AllBare s'.gens) (e3 : Un (frs outer) [] H H' s.heap s'.heap) (e4 : HOk P w H' s'.heap) (r : RelV v u) (q : Q v H') : CE outer P w H s Q u s'
def CR (CX : CXT) (outer : List Env) (P : Program) (w : World) (H : Hp) (s : Shared) (Q : VK) (E : XK) (r : Result) (s' : Shared) : Prop :=
  match r with
  | .ok (.ret u) => CE outer P w H s Q u s'
  | .ok _ => False
  | .error e => CX outer H s E e s'
structure FnOk (P : Program) (w : World) (K : PySem.W.Frag) (mg : Str → Option Value) (base : Heap) (CX : CXT) (k : Nat) (f : Addr) (fd : FuncData) (ps : List Str) (sp : Sp) : Prop where
  len : ∀ vs H Q E, sp vs H Q E → vs.length = ps.length
  run : ∀ (A : Around) (outer : List Env) (s : Shared) (H : Hp) (args : Args) (us : List Value) (vs : List V) (Q : VK) (E : XK), Room k A → Env0 P w K mg base A outer s H → BindsTo s fd args (ps.zip us) → Vals vs us → sp vs H Q E →
    codeAny (model P w) A (.call (.ref f) args) (CR CX outer P w H s Q E) s
theorem FnOk.mono {P : Program} {w : World} {K : PySem.W.Frag} {mg : Str → Option Value} {base : Heap} {CX : CXT} {j k : Nat} {f : Addr} {fd : FuncData} {ps : List Str} {sp : Sp} (F : FnOk P w K mg base CX j f fd ps sp) (h : j ≤ k) :
    FnOk P w K mg base CX k f fd ps sp := ⟨F.len, fun A outer s H args us vs Q E hr => F.run A outer s H args us vs Q E (hr.mono h)⟩

theorem Env0.make {P : Program} {w : World} {K : PySem.W.Frag} {mg : Str → Option Value} {base : Heap} {A : Around} {outer : List Env} {s : Shared} {H : Hp} (e : Env0 P w K mg base A outer s H) (C : Addr) (us : List Value) (kw : List (Str × Value)) :
    Env0 P w K mg base (A.under (.builtin "type.__call__" ⟨.ref C :: us, kw⟩)) outer s H := ⟨by first | exact e.frames | (simpa [Around.under, Code.envs, Code.isFrame, pushEnvs] using e.frames), e.mod, e.bs, e.bsz, e.funs, e.frf, e.hok, e.bare⟩

section
variable {X : Cx} {pins : List (Addr × Obj)} {σ : St} {H : Hp} {s s' : Shared}
/-- from a body: what a callee wants -/
theorem Inv.env0 (I : Inv X pins σ H s) : Env0 X.prog X.w X.K X.mg X.base X.A X.stack s H :=
  ⟨I.ok.frames, I.ok.mod, I.bs, Nat.le_trans I.ok.bsz I.sz, I.stack, I.stkFree, I.hok, I.bare⟩
/-- behind a call -/
theorem Inv.after {Q : VK} {u : Value} (I : Inv X pins σ H s) (h : CE X.stack X.prog X.w H s Q u s') : EP X pins σ Q u s' := by
  obtain ⟨v, H', os, bare, un, hok, r, q⟩ := h
  obtain ⟨hh, g, d, t, os'⟩ := s'
  obtain rfl : os' = s.os := os
  exact ⟨v, H', I.call (h' := hh) (g' := g) (d' := d) (t' := t) (ch := []) un hok bare (fun b z => absurd z (by simp)), r, q⟩
end

/-! ### calls -/
/-- f(..): the written arguments, then the defaults dvs; E: what is wanted of an exception -/
def tCall (sp : Sp) (dvs : List V) (E : XK) (t : TA) : TE := fun σ H Q => t σ H fun vs H1 => sp (vs ++ dvs) H1 Q E
/-- o.m(..) of an instance of the class at C -/
inductive MethI (C : Addr) (m : Str) (G : VK) (x : V) (H : Hp) : Prop
  | mk (a dx : Addr) (fs : List (Str × V)) (e1 : x = .ref a) (e2 : H a = some (.ins C dx fs)) (e3 : fs.lookup m = none) (q : G x H) : MethI C m G x H
def tMeth (C : Addr) (m : Str) (sp : Sp) (dvs : List V) (E : XK) (ta : TE) (t : TA) : TE := fun σ H Q => ta σ H (MethI C m fun x H1 => t σ H1 fun vs H2 => sp (x :: (vs ++ dvs)) H2 Q E)
/-- C(..): a new instance and its dict, then __init__ -/
def tMake (C : Addr) (sp : Sp) (dvs : List V) (E : XK) (t : TA) : TE := fun σ H Q => t σ H fun vs H1 => ∀ x dx, H1 x = none → H1 dx = none → dx ≠ x →
  sp (.ref x :: (vs ++ dvs)) (upd (upd H1 dx (.own x)) x (.ins C dx [])) (fun v H2 => v = .non ∧ Q (.ref x) H2) E

/-- how the parameters are bound: us the positional arguments, kw the keywords' values by name, ds the defaults that fill up -/
def Binds (K : PySem.W.Frag) (fd : FuncData) (ps : List Str) (ds : List Value) : Prop :=
  ∀ (s : Shared) (us : List Value), K.In s.heap → (us ++ ds).length = ps.length → BindsTo s fd ⟨us, []⟩ (ps.zip (us ++ ds))
/-- every parameter is given -/
theorem Binds.all {K : PySem.W.Frag} {fd : FuncData} {ps : List Str} (h : ∀ us : List Value, us.length = ps.length → bindArgs fd ⟨us, []⟩ = pure (ps.zip us)) : Binds K fd ps [] := fun s us _ hl => by
  rw [List.append_nil] at hl ⊢
  exact .of_eq (h us hl)

/-- an exception of a callee reaches what this body wants of exceptions -/
def Passes (CX : CXT) (X : Cx) (E : XK) : Prop := ∀ (pins : List (Addr × Obj)) (σ : St) (H : Hp) (s : Shared) (e : Value) (s' : Shared), Inv X pins σ H s → CX X.stack H s E e s' → X.xe e s'

section
variable {X : Cx} {CX : CXT} {k : Nat} {f C : Addr} {fd : FuncData} {ps : List Str} {sp : Sp} {dvs : List V} {ds : List Value} {E : XK} {x m : Str} {p pos apos : Pos} {e o : Expr} {es : List Expr} {ta : TE} {t : TA}

/-- the callee runs -/
theorem run_fn {pins : List (Addr × Obj)} {σ : St} {H : Hp} {s : Shared} {Q : VK} {us : List Value} {vs : List V} (F : FnOk X.prog X.w X.K X.mg X.base CX k f fd ps sp) (hr : Room k X.A) (hb : Binds X.K fd ps ds) (hd : Vals dvs ds) (hx : Passes CX X E)
    (I : Inv X pins σ H s) (r : Vals vs us) (h : sp (vs ++ dvs) H Q E) : wpAny (model X.prog X.w) X.A (call (.ref f) us) (EP X pins σ Q) X.xe s := by
  have r2 : Vals (vs ++ dvs) (us ++ ds) := r.append hd
  have hl : (us ++ ds).length = ps.length := by rw [← r2.length]; exact F.len _ _ _ _ h
  refine wpAny_call (codeAny_mono (F.run X.A X.stack s H ⟨us, []⟩ (us ++ ds) (vs ++ dvs) Q E hr I.env0 (hb s us I.kIn hl) r2 h) fun r s' hq => ?_)
  cases r with
  | error e => exact hx pins σ H s e s' I hq
  | ok fl =>
    cases fl with
    | ret u => exact I.after hq
    | next => exact False.elim hq
    | brk => exact False.elim hq
    | cont => exact False.elim hq

theorem pe_call (F : FnOk X.prog X.w X.K X.mg X.base CX k f fd ps sp) (hr : Room k X.A) (hg : Gl X x) (hm : X.mg x = some (.ref f)) (hk : PySem.W.keepIn X.K (.ref f) = true) (hb : Binds X.K fd ps ds) (hd : Vals dvs ds) (hx : Passes CX X E)
    (ha : PA X (e :: es) t) (hdb : (x == ("__debug__" : Str)) = false := by decide) (he : starEach (e :: es) X.env = (false, eval e X.env) :: starEach es X.env := by rfl) (hpl : (backTo pos (starEach es X.env)).any (·.1) = false := by rfl) :
    PE X (.Call (.Name x p) (e :: es) [] pos) (tCall sp dvs E t) := by
  intro pins s σ H Q I h
  refine wpAny_Call_Name_kw (ld_glob I hg hm ?_ hdb)
  refine PySem.W.callWith_K (h₀ := X.base) I.ok.mod.kin hk (thn (ha pos pins s σ H _ I h) fun us s1 ⟨vs, H1, I1, r, q⟩ => ⟨I1.kIn, ?_⟩) he hpl
  exact run_fn F hr hb hd hx I1 r q

/-- o.m(e, ..) -/
theorem pe_meth {pl : Sem Bool} (he : PE X o ta) (c : Cls X.K C) (hm : Meth X.K C m f) (F : FnOk X.prog X.w X.K X.mg X.base CX k f fd ps sp) (hr : Room k X.A) (hb : Binds X.K fd ps ds) (hd : Vals dvs ds) (hx : Passes CX X E) (ha : PA X (e :: es) t)
    (hst : starEach (e :: es) X.env = (false, eval e X.env) :: starEach es X.env := by rfl) (hpl : (backTo pos (starEach es X.env)).any (·.1) = false := by rfl)
    (ht : eval (.Call (.Attribute o m apos) (e :: es) [] pos) X.env = (do
      let ov ← eval o X.env
      standAt apos.atName
      let (f, first) ← holding [ov] (getMethod ov m pl)
      callWith pos f first (backTo pos (starEach (e :: es) X.env)) (backToKw pos (keywordEach [] X.env))) := by rfl) :
    PE X (.Call (.Attribute o m apos) (e :: es) [] pos) (tMeth C m sp dvs E ta t) := by
  intro pins s σ H Q I h
  refine PySem.W.methodCall_KW (pl := pl) (thn (he pins s σ H _ I h) fun u s1 ⟨x, H1, I1, rx, a, dx, fs, ex, ea, l, q⟩ => ?_) ht
  subst ex
  obtain rfl : u = Value.ref a := rx
  refine getmeth_ok I1 ea c hm l ?_
  refine PySem.W.callWith_K (first := [.ref a]) (h₀ := X.base) I.ok.mod.kin hm.kp (thn (ha pos pins s1 σ H1 _ I1 q) fun us s2 ⟨vs, H2, I2, r, q2⟩ => ⟨I2.kIn, ?_⟩) hst hpl
  exact run_fn (us := .ref a :: us) (vs := .ref a :: vs) F hr hb hd hx I2 (.cons rfl r) q2
/-- o.m() -/
theorem pe_meth0 {pl : Sem Bool} (he : PE X o ta) (c : Cls X.K C) (hm : Meth X.K C m f) (F : FnOk X.prog X.w X.K X.mg X.base CX k f fd ps sp) (hr : Room k X.A) (hb : Binds X.K fd ps ds) (hd : Vals dvs ds) (hx : Passes CX X E)
    (ht : eval (.Call (.Attribute o m apos) [] [] pos) X.env = (do
      let ov ← eval o X.env
      standAt apos.atName
      let (f, first) ← holding [ov] (getMethod ov m pl)
      callWith pos f first (backTo pos (starEach [] X.env)) (backToKw pos (keywordEach [] X.env))) := by rfl) :
    PE X (.Call (.Attribute o m apos) [] [] pos) (tMeth C m sp dvs E ta tNil) := by
  intro pins s σ H Q I h
  refine PySem.W.methodCall_KW (pl := pl) (thn (he pins s σ H _ I h) fun u s1 ⟨x, H1, I1, rx, a, dx, fs, ex, ea, l, q⟩ => ?_) ht
  subst ex
  obtain rfl : u = Value.ref a := rx
  refine getmeth_ok I1 ea c hm l ?_
  exact PySem.W.callWith_K0 (first := [.ref a]) I1.kIn hm.kp (run_fn (us := [.ref a]) (vs := [.ref a]) F hr hb hd hx I1 (.cons rfl .nil) q)

/-- what a class must have to be made -/
structure Mk (K : PySem.W.Frag) (C f : Addr) : Prop where
  makes : PySem.W.makesIn K C = true
  init : PySem.W.findIn K (.ref C) "__init__" = some (some (.ref f))
  fn : PySem.W.isFn K (.ref f) = true
  kp : PySem.W.keepIn K (.ref C) = true

theorem run_make {pins : List (Addr × Obj)} {σ : St} {H : Hp} {s : Shared} {Q : VK} {us : List Value} {vs : List V} (M : Mk X.K C f) (F : FnOk X.prog X.w X.K X.mg X.base CX k f fd ps sp) (hr : Room (k + 1) X.A) (hb : Binds X.K fd ps ds) (hd : Vals dvs ds)
    (hx : Passes CX X E) (I : Inv X pins σ H s) (r : Vals vs us)
    (h : ∀ x dx, H x = none → H dx = none → dx ≠ x → sp (.ref x :: (vs ++ dvs)) (upd (upd H dx (.own x)) x (.ins C dx [])) (fun v H2 => v = .non ∧ Q (.ref x) H2) E) :
    wpAny (model X.prog X.w) X.A (call (.ref C) us) (EP X pins σ Q) X.xe s := by
  have hq := h (s.heap.objs.size + 1) s.heap.objs.size (I.hok.fresh (Nat.le_succ _)) (I.hok.fresh (Nat.le_refl _)) (Nat.ne_of_lt (Nat.lt_succ_self _))
  have I2 := Inv.made (C := C) I
  have r2 : Vals (V.ref (s.heap.objs.size + 1) :: (vs ++ dvs)) (Value.ref (s.heap.objs.size + 1) :: (us ++ ds)) := .cons rfl (r.append hd)
  have hl : (Value.ref (s.heap.objs.size + 1) :: us ++ ds).length = ps.length := by
    have e := r2.length
    rw [F.len _ _ _ _ hq] at e
    exact e.symm
  refine wpAny_call (make_map (f := f) I.kIn M.makes M.init (beq_iff_eq.mp M.fn) (codeAny_mono (F.run _ X.stack _ _ ⟨Value.ref (s.heap.objs.size + 1) :: us, []⟩ (Value.ref (s.heap.objs.size + 1) :: (us ++ ds)) _ _ E (hr.make C us [])
    (I2.env0.make C us []) (hb _ (Value.ref (s.heap.objs.size + 1) :: us) I2.kIn hl) r2 hq) fun r s' hq' => ?_))
  cases r with
  | error e => exact hx pins σ _ _ e s' I2 hq'
  | ok fl =>
    cases fl with
    | ret u =>
      obtain ⟨v, H', I3, rv, ev, q3⟩ := I2.after hq'
      subst ev
      exact ⟨rv, ⟨V.ref (s.heap.objs.size + 1), H', I3, rfl, q3⟩⟩
    | next => exact False.elim hq'
    | brk => exact False.elim hq'
    | cont => exact False.elim hq'
theorem pe_make (M : Mk X.K C f) (F : FnOk X.prog X.w X.K X.mg X.base CX k f fd ps sp) (hr : Room (k + 1) X.A) (hg : Gl X x) (hm : X.mg x = some (.ref C)) (hb : Binds X.K fd ps ds) (hd : Vals dvs ds) (hx : Passes CX X E)
    (ha : PA X (e :: es) t) (hdb : (x == ("__debug__" : Str)) = false := by decide) (he : starEach (e :: es) X.env = (false, eval e X.env) :: starEach es X.env := by rfl) (hpl : (backTo pos (starEach es X.env)).any (·.1) = false := by rfl) :
    PE X (.Call (.Name x p) (e :: es) [] pos) (tMake C sp dvs E t) := by
  intro pins s σ H Q I h
  refine wpAny_Call_Name_kw (ld_glob I hg hm ?_ hdb)
  refine PySem.W.callWith_K (h₀ := X.base) I.ok.mod.kin M.kp (thn (ha pos pins s σ H _ I h) fun us s1 ⟨vs, H1, I1, r, q⟩ => ⟨I1.kIn, ?_⟩) he hpl
  exact run_make M F hr hb hd hx I1 r q
theorem pe_make0 (M : Mk X.K C f) (F : FnOk X.prog X.w X.K X.mg X.base CX k f fd ps sp) (hr : Room (k + 1) X.A) (hg : Gl X x) (hm : X.mg x = some (.ref C)) (hb : Binds X.K fd ps ds) (hd : Vals dvs ds) (hx : Passes CX X E)
    (hdb : (x == ("__debug__" : Str)) = false := by decide) : PE X (.Call (.Name x p) [] [] pos) (tMake C sp dvs E tNil) := by
  intro pins s σ H Q I h
  refine wpAny_Call_Name_kw (ld_glob I hg hm ?_ hdb)
  exact PySem.W.callWith_K0 I.kIn M.kp (run_make (us := []) M F hr hb hd hx I .nil h)
end

/-! ### keywords -/
section
variable {X : Cx} {CX : CXT} {k : Nat} {f C : Addr} {fd : FuncData} {ps ks : List Str} {sp : Sp} {E : XK} {x m : Str} {p pos apos kpos : Pos} {e o : Expr} {es : List Expr} {kws : List Keyword} {te ta : TE} {t tk : TA} {nm : Option Str}

variable {g : List Value → List Value → List Value} {gV : List V → List V → List V}
end

/-! ### a def's body keeps its promise -/
/-- names: the parameters first -/
structure FnScope (N P : List Str) (sc : Scope) : Prop where
  kind : sc.kind = .function
  co : sc.isCoroutine = false
  gen : sc.isGenerator = false
  nd : N.Nodup
  pre : N.take P.length = P
  par : ∀ x ∈ P, sc.names.lookup x = some .local ∨ sc.names.lookup x = some .cell
  nofree : ∀ y ∈ sc.names, y.2 ≠ .free

theorem bindL_out {kindOf : Str → Option NameKind} {x : Str} : ∀ {binds : List (Str × Value)} {m : Str → Option Value}, (∀ v, (x, v) ∉ binds) → bindL kindOf binds m x = m x
  | [], _, _ => rfl
  | (n, v) :: r, m, h => by
    unfold bindL
    rw [bindL_out fun w hw => h w (List.mem_cons_of_mem _ hw)]
    split
    · have : x ≠ n := by rintro rfl; exact h v List.mem_cons_self
      simp [this]
    · rfl
theorem bindC_out {kindOf : Str → Option NameKind} {x : Str} : ∀ {binds : List (Str × Value)} {m : Str → Option Value}, (∀ v, (x, v) ∉ binds) → bindC kindOf binds m x = m x
  | [], _, _ => rfl
  | (n, v) :: r, m, h => by
    unfold bindC
    rw [bindC_out fun w hw => h w (List.mem_cons_of_mem _ hw)]
    split
    · rfl
    · have : x ≠ n := by rintro rfl; exact h v List.mem_cons_self
      simp [this]
theorem bindL_get {kindOf : Str → Option NameKind} {x : Str} {v : Value} : ∀ {P : List Str} {vs : List Value} {i : Nat} {m : Str → Option Value}, P.Nodup → P[i]? = some x → vs[i]? = some v → kindOf x = some .local →
    bindL kindOf (P.zip vs) m x = some v
  | [], _, _, _, _, h, _, _ => by simp at h
  | _ :: _, [], _, _, _, _, h, _ => by simp at h
  | p :: P, w :: vs, 0, m, nd, h1, h2, hk => by
    simp at h1 h2; subst h1; subst h2
    show bindL kindOf ((p, w) :: P.zip vs) m p = _
    unfold bindL
    rw [bindL_out fun v hv => (List.nodup_cons.mp nd).1 (List.of_mem_zip hv).1, if_pos hk]
    simp
  | p :: P, w :: vs, i + 1, m, nd, h1, h2, hk => by
    show bindL kindOf ((p, w) :: P.zip vs) m x = _
    unfold bindL
    exact bindL_get (i := i) (List.nodup_cons.mp nd).2 (by simpa using h1) (by simpa using h2) hk
theorem bindC_get {kindOf : Str → Option NameKind} {x : Str} {v : Value} : ∀ {P : List Str} {vs : List Value} {i : Nat} {m : Str → Option Value}, P.Nodup → P[i]? = some x → vs[i]? = some v → kindOf x ≠ some .local →
    bindC kindOf (P.zip vs) m x = some v
  | [], _, _, _, _, h, _, _ => by simp at h
  | _ :: _, [], _, _, _, _, h, _ => by simp at h
  | p :: P, w :: vs, 0, m, nd, h1, h2, hk => by
    simp at h1 h2; subst h1; subst h2
    show bindC kindOf ((p, w) :: P.zip vs) m p = _
    unfold bindC
    rw [bindC_out fun v hv => (List.nodup_cons.mp nd).1 (List.of_mem_zip hv).1, if_neg hk]
    simp
  | p :: P, w :: vs, i + 1, m, nd, h1, h2, hk => by
    show bindC kindOf ((p, w) :: P.zip vs) m x = _
    unfold bindC
    exact bindC_get (i := i) (List.nodup_cons.mp nd).2 (by simpa using h1) (by simpa using h2) hk

/-- the names' values at the entry -/
def start (N : List Str) (vs : List V) : St := vs.map some ++ List.replicate (N.length - vs.length) none

/-- the context of a def's body, at its entry; an exception leaves the frame, then lies as CX says -/
def cxOf (CX : CXT) (P : Program) (w : World) (K : PySem.W.Frag) (mg : Str → Option Value) (base : Heap) (N : List Str) (qual : Str) (scope : Scope) (f : Addr) (cd : Value) (A : Around) (outer : List Env) (s : Shared) (H : Hp) (E : XK) : Cx where
  prog := P
  w := w
  K := K
  mg := mg
  base := base
  A := A.deeper (envOfC qual scope s.heap.objs.size f cd)
  N := N
  s_0 := s
  H_0 := H
  env := envOfC qual scope s.heap.objs.size f cd
  outer := outer
  stack := envOfC qual scope s.heap.objs.size f cd :: outer
  ex := []
  calm := true
  fn := fun _ => true
  pn := []
  xe := fun e s' => wpAny (model P w) (A.deeper (envOfC qual scope s.heap.objs.size f cd)) (leaving (envOfC qual scope s.heap.objs.size f cd) e) (fun _ s'' => CX outer H s E e s'') (fun e' s'' => CX outer H s E e' s'') s'

theorem cell_has {sc : Scope} {n : Nat} {x : Str} (h : sc.names.lookup x = some .cell) : ∃ c, (cellsFrom n sc.names []).lookup x = some c := by
  have q := PySem.W.cellsFrom_some sc.names n [] (.inl h)
  exact Option.isSome_iff_exists.mp q

theorem inv_start {CX : CXT} {P : Program} {w : World} {K : PySem.W.Frag} {mg : Str → Option Value} {base : Heap} {N ps : List Str} {qual : Str} {scope : Scope} {f : Addr} {cd : Value} {A : Around} {outer : List Env} {s s1 : Shared} {H : Hp} {E : XK} {us : List Value} {vs : List V}
    (S : FnScope N ps scope) (hd : A.handled = none) (e0 : Env0 P w K mg base A outer s H) (hl : vs.length = ps.length) (r : Vals vs us)
    (x : InCallC s s.heap.objs.size (bindL (envOfC qual scope s.heap.objs.size f cd).kindOf (ps.zip us) fun _ => none) (cellsFrom (s.heap.objs.size + 1) scope.names []) (bindC (envOfC qual scope s.heap.objs.size f cd).kindOf (ps.zip us) fun _ => none) s1) :
    Inv (cxOf CX P w K mg base N qual scope f cd A outer s H E) [] (start N vs) H s1 := by
  have hpl : ps.length ≤ N.length := by have := congrArg List.length S.pre; rw [List.length_take] at this; omega
  obtain ⟨h1, tk, rfl, hk⟩ := x.done
  have noA : ∀ b : Addr, b ∉ (cxOf CX P w K mg base N qual scope f cd A outer s H E).ex := fun b z => absurd (show b ∈ ([] : List Addr) from z) (by simp)
  refine ⟨⟨e0.mod, S.kind, rfl, rfl, Nat.le_refl _, fun y z c h1 h2 => ?_, fun y hy => ?_, fun y c _ h => ?_, fun _ => hd, Around.frames_deeper e0.frames, .inr ⟨rfl, rfl⟩, fun b z => absurd z (noA b), e0.bs, e0.bsz, fun b _ _ => noA b, fun b z => absurd z (noA b), e0.funs, e0.frf⟩,
    rfl, e0.bare, Un.kept hk, ⟨_, x.toInCall.ns, fun i y v h1 h2 h3 => ?_⟩, fun y c h => ⟨_, x.cell y c h⟩, e0.hok.fresh (Nat.le_refl _), fun y c h => ?_, fun p hp => absurd (show p ∈ ([] : List (Addr × Obj)) from hp) (by simp), e0.hok.kept hk, ?_⟩
  · exact name_of_addr x.apart (PySem.mem_of_lookup h1) (PySem.mem_of_lookup h2)
  · have hy : scope.names.lookup y = some .cell ∨ scope.names.lookup y = some .free := hy
    rcases hy with hy | hy
    · exact cell_has hy
    · exact absurd rfl (S.nofree _ (PySem.mem_of_lookup hy))
  · exact Nat.le_of_lt (x.above y c (PySem.mem_of_lookup h))
  · have hi : i < vs.length := by
      unfold start at h2
      by_cases hi : i < vs.length
      · exact hi
      · rw [List.getElem?_append_right (by simpa using hi)] at h2
        rw [List.getElem?_replicate] at h2
        split at h2 <;> cases h2
    have ha : vs[i]? = some v := by
      unfold start at h2
      rw [List.getElem?_append_left (by simpa using hi), List.getElem?_map] at h2
      cases e : vs[i]? with
      | none => rw [e] at h2; cases h2
      | some a => rw [e] at h2; cases h2; rfl
    obtain ⟨u, hu, rv⟩ := r.get ha
    have hp : ps[i]? = some y := by
      rw [← S.pre, List.getElem?_take_of_lt (by omega)]; exact h1
    have ndP : ps.Nodup := by rw [← S.pre]; exact S.nd.sublist (List.take_sublist _ _)
    refine ⟨u, rv, ?_⟩
    rcases S.par y (List.mem_of_getElem? hp) with k | k
    · exact .inl ⟨k, bindL_get ndP hp hu k⟩
    · obtain ⟨c, e⟩ := cell_has (n := s.heap.objs.size + 1) k
      refine .inr ⟨.inl k, c, e, ?_⟩
      have q := x.cell y c e
      rw [bindC_get ndP hp hu (by show scope.names.lookup y ≠ _; rw [k]; decide)] at q
      exact q
  · exact e0.hok.fresh (Nat.le_of_lt (x.above y c (PySem.mem_of_lookup h)))
  · unfold start
    show _ = N.length
    rw [List.length_append, List.length_map, List.length_replicate]
    omega

/-- THE RULE: a def (or a method) of the text, by its body. The body's reading t is chosen for each entry; it is run at the parameters' values -/
theorem fn_of {CX : CXT} {P : Program} {w : World} {K : PySem.W.Frag} {mg : Str → Option Value} {base : Heap} {k : Nat} {f : Addr} {name qual : Str} {params : Arguments} {body : List Stmt} {scope : Scope} {dV kV doc pm cdv ct oc : Value} {an od : Option Addr}
    {osl : Array (Option Value)} {N ps : List Str} {sp : Sp} (lk : K.lookup f = some ⟨oc, od, .func (PySem.W.fnOf name qual params body scope dV kV doc pm an cdv ct), osl⟩) (hcd : PySem.W.codeIn K cdv qual = true) (S : FnScope N ps scope)
    (len : ∀ vs H Q E, sp vs H Q E → vs.length = ps.length)
    (hbody : ∀ (A : Around) (outer : List Env) (s : Shared) (H : Hp) (vs : List V) (Q : VK) (E : XK), Room k (A.deeper (envOfC qual scope s.heap.objs.size f cdv)) → sp vs H Q E →
      ∃ t, PSs (cxOf CX P w K mg base N qual scope f cdv A outer s H E) body t ∧ t { nx := fun _ H' => Q .non H', rt := Q } (start N vs) H) :
    FnOk P w K mg base CX (k + 1) f (PySem.W.fnOf name qual params body scope dV kV doc pm an cdv ct) ps sp := by
  refine ⟨len, fun A outer s H args us vs Q E hr e0 hb r hsp => ?_⟩
  have hl := len _ _ _ _ hsp
  have KX : K.In s.heap := e0.mod.kin.keeps fun b o e => (e0.bs b o e).1
  have lim : s.heap.NoLimit := e0.mod.nolimit.keeps fun b o e => (e0.bs b o e).1
  have hkind : ∀ y ∈ ps.zip us, scope.names.lookup y.1 = some .local ∨ (scope.names.lookup y.1 = some .cell ∧ ((cellsFrom (s.heap.objs.size + 1) scope.names []).lookup y.1).isSome = true) := fun ⟨n, v⟩ hy => by
    rcases S.par n (List.of_mem_zip hy).1 with q | q
    · exact .inl q
    · exact .inr ⟨q, PySem.W.cellsFrom_some _ _ _ (.inl q)⟩
  refine codeAny_call_function hr.depth (KX _ _ lk) rfl S.co S.gen rfl (PySem.W.codeRec_of KX hcd) (hb _ _ _ _ ?_)
  refine wpAny_newFunctionEnv_cells S.kind hkind fun env he s1 x => ?_
  subst he
  refine ⟨lim.keeps x.toInCall.keep, codeAny_func ?_⟩
  obtain ⟨t, ht, hq⟩ := hbody A outer s H vs Q E (hr.deeper _) hsp
  have I : Inv (cxOf CX P w K mg base N qual scope f cdv A outer s H E) [] (start N vs) H s1 := inv_start S hr.hd e0 hl r x
  refine wpAny_mono (ht [] s1 (start N vs) H _ I hq) (fun fl s' hs => ?_) fun e s' hs => hs
  have fin : ∀ {σ' : St} {H' : Hp} {v : V} {u : Value}, Inv (cxOf CX P w K mg base N qual scope f cdv A outer s H E) [] σ' H' s' → RelV v u → Q v H' → CE outer P w H s Q u s' :=
    fun {σ' H' v u} J rv q => ⟨v, H', J.os, J.bare, J.base, J.hok, rv, q⟩
  cases fl with
  | ret u =>
    obtain ⟨v, σ', H', J, rv, q⟩ := hs
    exact fin J rv q
  | next =>
    obtain ⟨σ', H', J, q⟩ := hs
    exact fin (v := V.non) (u := Value.none) J rfl q
  | brk =>
    obtain ⟨_, _, _, q⟩ := hs
    exact False.elim q
  | cont =>
    obtain ⟨_, _, _, q⟩ := hs
    exact False.elim q
end L2

namespace L2
open PySem PySem.Spec PyProof.Rows
section
variable {X : Cx} {x : Str} {p pos : Pos} {e : Expr} {es : List Expr} {t : TA} {id T : String} {r : List V → Hp → VK → Prop}

def tCB (r : List V → Hp → VK → Prop) (t : TA) : TE := fun σ H Q => t σ H fun vs H1 => r vs H1 Q
/-- f(e, ..), f a built-in function -/
theorem pe_callB (hc : CallR X (.builtin id) r) (hg : Gl X x) (hm : X.mg x = none) (hv : bootBuiltins x = some (.builtin id)) (ha : PA X (e :: es) t) (hn : x ≠ "__name__" := by decide) (hdb : (x == ("__debug__" : Str)) = false := by decide)
    (he : starEach (e :: es) X.env = (false, eval e X.env) :: starEach es X.env := by rfl) (hpl : (backTo pos (starEach es X.env)).any (·.1) = false := by rfl) : PE X (.Call (.Name x p) (e :: es) [] pos) (tCB r t) := by
  intro pins s σ H Q I h
  refine wpAny_Call_Name_kw (ld_blt I hg hm hv ?_ hn hdb)
  exact PyProof.Rows.callWith_builtin1 (thn (ha pos pins s σ H _ I h) fun us s1 ⟨vs, H1, I1, r1, q1⟩ => hc pins s1 σ H1 vs us Q I1 r1 q1) he hpl
/-- T(e, ..), T a built-in type -/
theorem pe_callTy (hc : CallR X (.type T) r) (hg : Gl X x) (hm : X.mg x = none) (hv : bootBuiltins x = some (.type T)) (ha : PA X (e :: es) t) (hn : x ≠ "__name__" := by decide) (hdb : (x == ("__debug__" : Str)) = false := by decide)
    (he : starEach (e :: es) X.env = (false, eval e X.env) :: starEach es X.env := by rfl) (hpl : (backTo pos (starEach es X.env)).any (·.1) = false := by rfl) : PE X (.Call (.Name x p) (e :: es) [] pos) (tCB r t) := by
  intro pins s σ H Q I h
  refine wpAny_Call_Name_kw (ld_blt I hg hm hv ?_ hn hdb)
  exact PyProof.Rows.callWith_type1 (thn (ha pos pins s σ H _ I h) fun us s1 ⟨vs, H1, I1, r1, q1⟩ => hc pins s1 σ H1 vs us Q I1 r1 q1) he hpl
end
end L2

namespace HT
open PySem PyProof.Rows

/-- t < u of tuples of ints -/
def lexLt : List Int → List Int → Bool
  | [], [] => false
  | [], _ :: _ => true
  | _ :: _, [] => false
  | x :: xs, y :: ys => if x = y then lexLt xs ys else decide (x < y)
theorem lexLt_cons (x y : Int) (xs ys : List Int) : lexLt (x :: xs) (y :: ys) = if x = y then lexLt xs ys else decide (x < y) := rfl
theorem lexLt_nil_nil : lexLt [] [] = false := rfl
theorem lexLt_nil_cons (y : Int) (ys : List Int) : lexLt [] (y :: ys) = true := rfl
theorem lexLt_cons_nil (x : Int) (xs : List Int) : lexLt (x :: xs) [] = false := rfl

theorem eqAt_int (A : Around) (s : Shared) (a : Int) (t : Tok) (c : Int) (u : Tok) : ∃ e, SeqAt.EqAt A s (.int a t) (.int c u) e ∧ (e = true ↔ a = c) :=
  ⟨(a == c), SeqAt.EqAt.int_int a t c u, by simp⟩
theorem rcLt_int (A : Around) (s : Shared) (a : Int) (t : Tok) (c : Int) (u : Tok) (prog : Program) (w : World) (E : Value → Shared → Prop) (Q : Value → Shared → Prop) (h : Q (.bool (decide (a < c))) s) :
    wpAny (model prog w) A (richCompare .Lt (.int a t) (.int c u)) Q E s :=
  (PyProof.Rows.lt_int h : wpAny (model prog w) A (compareOp .Lt (.int a t) (.int c u)) Q E s)

section
open PySem.SeqAt
open PySem.AutoSeq1 (wpAny_loadPart')
open PySem.MeetsSeq PySem.MeetsSeq2 PySem.MeetsSeq3

theorem tuple_lt_ints (l b : Addr) (items items2 : Array Value) (n n2 : Nat) (dd dd2 : Option Addr) (sl sl2 : Array (Option Value)) (ns ms : List Int) (hi : IntsAre items.toList ns) (hj : IntsAre items2.toList ms) :
    Meets (Builtin.«tuple.__lt__» ⟨[.ref l, .ref b], []⟩)
      (fun _ R s => s.heap.get? l = some { cls := .type "tuple", dict := dd, data := .seq items n, slots := sl } ∧ s.heap.get? b = some { cls := .type "tuple", dict := dd2, data := .seq items2 n2, slots := sl2 } ∧
        R (.ok (.ret (.bool (lexLt ns ms)))) s) :=
  .of_wp fun prog w A R s h => by
    obtain ⟨hp, g, d, tk, os⟩ := s; obtain ⟨hl, hb, h⟩ := h
    have f2 := AutoSeq1.sub_tuple_tuple
    have z1 : items.size = ns.length := by rw [← hi.length]; simp
    have z2 : items2.size = ms.length := by rw [← hj.length]; simp
    wp_walk using wpAny_loadPart' hl, wpAny_loadPart' hb, wpAny_forIn_list _ (fun rest b s' => b.1 = none ∧ s' = ⟨hp, g, d, tk, os⟩ ∧ ∃ (vs ws : List Value) (ns' ms' : List Int), rest = vs.zip ws ∧
      IntsAre vs ns' ∧ IntsAre ws ms' ∧ ns'.length + items2.size = ms'.length + items.size ∧ R (.ok (.ret (.bool (lexLt ns' ms')))) ⟨hp, g, d, tk, os⟩) _
    case turn =>
      rintro ⟨y, x⟩ rest b s' ⟨hb', rfl, vs, ws, ns', ms', hz, hvi, hwi, hlen, hR⟩
      cases hvi with
      | nil => rw [List.zip_nil_left] at hz; cases hz
      | cons a t hvi' =>
        cases hwi with
        | nil => rw [List.zip_nil_right] at hz; cases hz
        | cons c u hwi' =>
          rw [List.zip_cons_cons] at hz
          injection hz with hyx hrest
          injection hyx with hy hx
          subst hy hx
          rw [lexLt_cons] at hR
          simp only [List.length_cons] at hlen
          obtain ⟨e, he, hiff⟩ := eqAt_int A.in1 ⟨hp, g, d, tk, os⟩ a t c u
          refine wpAny_bind (he prog w _ _ ?_)
          cases e with
          | true =>
            rw [if_pos (hiff.mp rfl)] at hR
            wp_walk
            exact ⟨rfl, rfl, _, _, _, _, hrest, hvi', hwi', by omega, hR⟩
          | false =>
            rw [if_neg (fun q => absurd (hiff.mpr q) Bool.false_ne_true)] at hR
            have hri := rcLt_int A.in1 ⟨hp, g, d, tk, os⟩ a t c u prog w
            wp_walk using hri
            exact ⟨_, rfl, by simpa using hR⟩
    case fin =>
      rintro ⟨b1, b2⟩ s' ⟨hb', rfl, vs, ws, ns', ms', hz, hvi, hwi, hlen, hR⟩
      simp only at hb'
      subst hb'
      have hv : lexLt ns' ms' = decide (items.size < items2.size) := by
        cases hvi with
        | nil =>
          cases hwi with
          | nil =>
            simp only [List.length_nil] at hlen
            rw [lexLt_nil_nil]
            exact (decide_eq_false (by omega)).symm
          | cons c u hw =>
            simp only [List.length_nil, List.length_cons] at hlen
            rw [lexLt_nil_cons]
            exact (decide_eq_true (by omega)).symm
        | cons a t hv =>
          cases hwi with
          | nil =>
            simp only [List.length_nil, List.length_cons] at hlen
            rw [lexLt_cons_nil]
            exact (decide_eq_false (by omega)).symm
          | cons c u hw =>
            rw [List.zip_cons_cons] at hz
            cases hz
      rw [hv] at hR
      wp_walk
      exact ⟨_, rfl, by simpa [Builtin.Tuple.tupleCompareSizes] using hR⟩
    case h =>
      exact ⟨rfl, rfl, items.toList, items2.toList, ns, ms, rfl, hi, hj, by omega, h⟩
end

section
variable {prog : Program} {w : World} {A : Around} {E : Value → Shared → Prop} {s : Shared}

theorem lt_tupInts {l b : Addr} {items items2 : Array Value} {ns ms : List Int} {Q : Value → Shared → Prop} (hl : IsTup s.heap l items) (hb : IsTup s.heap b items2) (hi : IntsAre items.toList ns) (hj : IntsAre items2.toList ms)
    (hu : A.units < cLine) (h : Q (.bool (lexLt ns ms)) s) : wpAny (model prog w) A (compareOp .Lt (.ref l) (.ref b)) Q E s := by
  obtain ⟨⟨cls, dd, data, sl⟩, ho, hc, n, hd⟩ := id hl
  obtain ⟨⟨cls2, dd2, data2, sl2⟩, ho2, hc2, n2, hd2⟩ := id hb
  simp only at hc hd hc2 hd2
  subst hc hd hc2 hd2
  exact richCompare_meets_room (op := .Lt) ⟨_, ho, rfl⟩ ⟨_, ho2, rfl⟩ PySem.F.slot_tuple_lt PySem.F.entry_tuple_lt (PySem.F.args_tuple_lt_2 _ _) (tuple_lt_ints l b items items2 n n2 dd dd2 sl sl2 ns ms hi hj)
    ⟨ho, ho2, show Value.bool (lexLt ns ms) ≠ Value.notImplemented ∧ Q (.bool (lexLt ns ms)) s from ⟨(fun x => nomatch x), h⟩⟩ hu

/-! ### t[a:b], not the whole -/
/-- a slice's bound as a place among n (d where it is left out) -/
def sIx (n d : Nat) : Option Int → Nat
  | none => d
  | some v => if v < 0 then (v + (n : Int)).toNat else min v.toNat n
theorem sIx_none (n d : Nat) : sIx n d none = d := rfl
theorem sIx_nat (n d k : Nat) : sIx n d (some (k : Int)) = min k n := by
  show (if (k : Int) < 0 then ((k : Int) + (n : Int)).toNat else min (k : Int).toNat n) = min k n
  rw [if_neg (by omega), Int.toNat_natCast]

end
end HT

namespace L2
open PySem PySem.Spec PyProof.Rows

/-! ### the parts of a slice -/
abbrev TO := St → Hp → (Option Int → Hp → Prop) → Prop
/-- a slice's part (left out, or an int) -/
def PO (X : Cx) (e : Option Expr) (t : TO) : Prop :=
  ∀ (pins : List (Addr × Obj)) (s : Shared) (σ : St) (H : Hp) (Q : Option Int → Hp → Prop), Inv X pins σ H s → t σ H Q →
    wpAny (model X.prog X.w) X.A (evalPart e X.env) (fun u s' => ∃ o H', Inv X pins σ H' s' ∧ IsPart u o ∧ Q o H') X.xe s
def tNoPart : TO := fun _ H Q => Q none H
inductive IntI (Q : Option Int → Hp → Prop) (x : V) (H : Hp) : Prop
  | mk (i : Int) (e : x = .int i) (q : Q (some i) H) : IntI Q x H
def tPart (t : TE) : TO := fun σ H Q => t σ H (IntI Q)

section
variable {X : Cx} {e : Expr} {te : TE} {lo hi : Option Expr} {tl th : TO} {pos p2 : Pos}

theorem po_none : PO X none tNoPart := by
  intro pins s σ H Q I h
  rw [evalPart_none]
  exact wpAny_pure ⟨none, H, I, .none, h⟩
theorem po_some (h : PE X e te) : PO X (some e) (tPart te) := by
  intro pins s σ H Q I hw
  rw [evalPart_some]
  refine thn (h pins s σ H _ I hw) fun u s1 ⟨x, H1, I1, r1, q1⟩ => ?_
  obtain ⟨i, rfl, q⟩ := q1
  obtain ⟨t, rfl⟩ := r1
  exact ⟨some i, H1, I1, .int i t, q⟩

/-- what a slice of a value is, by values: the slice object stands at sl -/
def SlR (X : Cx) (r : V → Option Int → Option Int → Hp → VK → Prop) : Prop :=
  ∀ (pins : List (Addr × Obj)) (s : Shared) (σ : St) (H : Hp) (x : V) (v vl vu : Value) (lo hi : Option Int) (sl : Addr) (Q : VK), Inv X pins σ H s → RelV x v → s.heap.IsSliceOf sl vl vu .none → IsPart vl lo → IsPart vu hi → r x lo hi H Q →
    ∃ T id, typeLookup (.type T) "__getitem__" = pure (some (.builtin id)) ∧ s.TypeIs v T ∧ wpAny (model X.prog X.w) X.A (getItem v (.ref sl)) (EP X pins σ Q) X.xe s
def tSl (r : V → Option Int → Option Int → Hp → VK → Prop) (te : TE) (tl th : TO) : TE := fun σ H Q => te σ H fun x H1 => tl σ H1 fun l H2 => th σ H2 fun u H3 => r x l u H3 Q
/-- a[lo:hi], any a -/
theorem pe_slice {r : V → Option Int → Option Int → Hp → VK → Prop} (hr : SlR X r) (he : PE X e te) (hl : PO X lo tl) (hu : PO X hi th) : PE X (.Subscript e (.Slice lo hi none p2) pos) (tSl r te tl th) := by
  intro pins s σ H Q I h
  refine Subscript_ (thn (he pins s σ H _ I h) fun v s1 ⟨x, H1, I1, r1, q1⟩ => ?_)
  refine wpAny_Slice (thn (hl pins s1 σ H1 _ I1 q1) fun vl s2 ⟨l, H2, I2, pl, q2⟩ => thn (hu pins s2 σ H2 _ I2 q2) fun vu s3 ⟨u, H3, I3, pu, q3⟩ => ?_)
  rw [evalPart_none]
  refine wpAny_pure ?_
  have I4 : Inv X pins σ H3 { s3 with heap := s3.heap.push { cls := .type "slice", data := .fields #[vl, vu, .none] } } := I3.kept (t' := s3.toks) fun b ob q => Heap.get?_push_of_some _ q
  obtain ⟨T, id, hT, ht, hg⟩ := hr pins { s3 with heap := s3.heap.push { cls := .type "slice", data := .fields #[vl, vu, .none] } } σ H3 x v vl vu l u s3.heap.objs.size Q I4 r1 (Heap.IsSliceOf.new ..) pl pu q3
  show wpAny (model X.prog X.w) X.A (subscriptTail e (.Slice lo hi none p2) v (.ref s3.heap.objs.size)) (EP X pins σ Q) X.xe { s3 with heap := s3.heap.push { cls := .type "slice", data := .fields #[vl, vu, .none] } }
  exact tail_any (ops := [.ref s3.heap.objs.size, v]) ht hT hg (by with_unfolding_all rfl)

/-- the items of xs[lo:hi] -/
def cutV (xs : List V) (lo hi : Option Int) : List V := (xs.drop (HT.sIx xs.length 0 lo)).take (HT.sIx xs.length xs.length hi - HT.sIx xs.length 0 lo)
theorem cutV_length (xs : List V) (lo hi : Option Int) : (cutV xs lo hi).length ≤ xs.length := by
  unfold cutV
  rw [List.length_take, List.length_drop]
  omega

/-! ### t < u, t + u -/
end
end L2

namespace L2
open PySem PySem.Spec PyProof.Rows

/-! ### places -/
/-- the place that an index of any sign means -/
def ixN (n : Nat) (i : Int) : Option Nat := if 0 ≤ i then (if i < n then some i.toNat else none) else if -(n : Int) ≤ i then some (i + n).toNat else none
def atI {α : Type} (xs : List α) (i : Int) : Option α := (ixN xs.length i).bind fun j => xs[j]?
theorem ixN_seq {n : Nat} {i : Int} {j : Nat} (h : ixN n i = some j) : seqIndex? i n = some j ∧ j < n ∧ -(n : Int) ≤ i ∧ i < n := by
  unfold ixN at h
  by_cases h0 : 0 ≤ i
  · rw [if_pos h0] at h
    by_cases h1 : i < n
    · rw [if_pos h1] at h
      have e : i.toNat = j := Option.some.inj h
      exact ⟨by rw [seqIndex_of h0 h1, e], by omega, by omega, h1⟩
    · rw [if_neg h1] at h; cases h
  · rw [if_neg h0] at h
    by_cases h1 : -(n : Int) ≤ i
    · rw [if_pos h1] at h
      have e : (i + n).toNat = j := Option.some.inj h
      exact ⟨by rw [seqIndex_neg (by omega) h1, e], by omega, h1, by omega⟩
    · rw [if_neg h1] at h; cases h
theorem atI_get {α : Type} {xs : List α} {i : Int} {v : α} (h : atI xs i = some v) : ∃ j, seqIndex? i xs.length = some j ∧ xs[j]? = some v ∧ j < xs.length ∧ -(xs.length : Int) ≤ i ∧ i < xs.length := by
  unfold atI at h
  cases e : ixN xs.length i with
  | none => rw [e] at h; cases h
  | some j =>
    rw [e] at h
    obtain ⟨h1, h2, h3, h4⟩ := ixN_seq e
    exact ⟨j, h1, h, h2, h3, h4⟩
theorem atI_nat {α : Type} {xs : List α} {j : Nat} {v : α} (h : xs[j]? = some v) : atI xs (j : Int) = some v := by
  have hj : j < xs.length := (List.getElem?_eq_some_iff.mp h).1
  have e : ixN xs.length (j : Int) = some j := by
    unfold ixN
    rw [if_pos (by omega), if_pos (by omega)]; simp
  unfold atI; rw [e]; exact h

/-! ### what may be subscripted -/
/-- what stands as an index of a plain subscript -/
def PlainIx (b : Expr) : Prop := ∀ o i, subscripted b false o i = operate [o, i] (getItem o i)
/-- a subscript by values -/
def IxR (X : Cx) (r : R2) : Prop :=
  ∀ (value slice : Expr) (pins : List (Addr × Obj)) (s : Shared) (σ : St) (H : Hp) (x y : V) (v u : Value) (Q : VK), Inv X pins σ H s → RelV x v → RelV y u → r x y H Q →
    subscripted slice false v u = operate [v, u] (getItem v u) → wpAny (model X.prog X.w) X.A (subscriptTail value slice v u) (EP X pins σ Q) X.xe s
/-- a call of a builtin's method by values: the receiver, the arguments -/
def MtR (X : Cx) (id : String) (r : V → List V → Hp → VK → Prop) : Prop :=
  ∀ (pins : List (Addr × Obj)) (s : Shared) (σ : St) (H : Hp) (x : V) (xs : List V) (v : Value) (us : List Value) (Q : VK), Inv X pins σ H s → RelV x v → Vals xs us → r x xs H Q →
    wpAny (model X.prog X.w) X.A (call (.builtin id) (v :: us)) (EP X pins σ Q) X.xe s
section
variable {X : Cx} {a b : Expr} {ta tb : TE} {pos : Pos}
/-- a[b] -/
theorem pe_ix {r : R2} (hr : IxR X r) (ha : PE X a ta) (hb : PE X b tb) (hs : PlainIx b) : PE X (.Subscript a b pos) (tOp r ta tb) := by
  intro pins s σ H Q I h
  exact Subscript_ (binT ha hb I h fun v u s2 x y H2 I2 rx ry q => hr a b pins s2 σ H2 x y v u Q I2 rx ry q (hs _ _))

inductive IxLI (K : PySem.W.Frag) (x y : V) (H : Hp) (Q : VK) : Prop
  | mk (p : Addr) (xs : List V) (i : Int) (v : V) (e1 : x = .ref p) (e2 : y = .int i) (e3 : SqL K H p xs) (e4 : atI xs i = some v) (q : Q v H) : IxLI K x y H Q
def rIxL (K : PySem.W.Frag) : R2 := IxLI K
inductive IxTI (K : PySem.W.Frag) (x y : V) (H : Hp) (Q : VK) : Prop
  | mk (p : Addr) (xs : List V) (i : Int) (v : V) (e1 : x = .ref p) (e2 : y = .int i) (e3 : SqT K H p xs) (e4 : atI xs i = some v) (q : Q v H) : IxTI K x y H Q
def rIxT (K : PySem.W.Frag) : R2 := IxTI K
theorem ix_list : IxR X (rIxL X.K) := by
  intro value slice pins s σ H x y v u Q I rx ry h hs
  obtain ⟨p, xs, i, z, rfl, rfl, hq, he, q⟩ := h
  cases rx
  obtain ⟨t, rfl⟩ := ry
  obtain ⟨its, r, pl, hz⟩ := I.list hq
  obtain ⟨j, h1, h2, h3, h4, h5⟩ := atI_get he
  obtain ⟨w, ew, rw'⟩ := r.get h2
  have hl := r.length
  have hn := line63
  have fin : EP X pins σ Q w s := ⟨z, H, I, rw', q⟩
  by_cases h0 : 0 ≤ i
  · have hj : i.toNat = j := by
      rw [seqIndex_of h0 h5] at h1
      exact Option.some.inj h1
    exact item_listR pl.isList h0 (by omega) (by rw [hj]; simpa using ew) fin hs
  · have hj : (i + (its.toArray.size : Int)).toNat = j := by
      rw [seqIndex_neg (by omega) h4] at h1
      rw [List.size_toArray, ← hl]
      exact Option.some.inj h1
    exact subscriptTail_builtinR (x := w) pl.isList.typeIs slot_list_getitem.lookup
      (wpAny_getItem_list_neg (Q := fun r s' => r = w ∧ EP X pins σ Q r s') pl.isList (by omega) (by rw [List.size_toArray] <;> omega) (by omega) (by rw [hj]; simpa using ew) ⟨rfl, fin⟩) hs
theorem ix_tup : IxR X (rIxT X.K) := by
  intro value slice pins s σ H x y v u Q I rx ry h hs
  obtain ⟨p, xs, i, z, rfl, rfl, hq, he, q⟩ := h
  cases rx
  obtain ⟨t, rfl⟩ := ry
  obtain ⟨its, r, pl, hz⟩ := I.tuple hq
  obtain ⟨j, h1, h2, h3, h4, h5⟩ := atI_get he
  obtain ⟨w, ew, rw'⟩ := r.get h2
  have hl := r.length
  have hn := line63
  have fin : EP X pins σ Q w s := ⟨z, H, I, rw', q⟩
  exact subscriptTail_builtinR (x := w) pl.typeIs slot_tuple_getitem.lookup
    (getItem_tuple (j := j) (Q := fun r s' => r = w ∧ EP X pins σ Q r s') pl (by omega) (by omega) (by rw [List.size_toArray, ← hl]; exact h1) (by simpa using ew) ⟨rfl, fin⟩) hs

/-! ### xs[i] = v, any sign -/

/-! ### slices -/
theorem slice_bounds (lo hi : Option Int) (n : Nat) : (sliceBounds lo hi none n).1 = ((HT.sIx n 0 lo : Nat) : Int) ∧ (sliceBounds lo hi none n).2.1 = ((HT.sIx n n hi : Nat) : Int) ∧ (sliceBounds lo hi none n).2.2 = 1 := by
  refine ⟨?_, ?_, rfl⟩
  · cases lo with
    | none => simp [sliceBounds, HT.sIx]
    | some i =>
      simp only [sliceBounds, HT.sIx, Option.getD_none, show (1 : Int) > 0 by decide, if_true]
      by_cases h : i < 0
      · simp only [h, if_true] <;> omega
      · simp only [h, if_false] <;> omega
  · cases hi with
    | none => simp [sliceBounds, HT.sIx]
    | some i =>
      simp only [sliceBounds, HT.sIx, Option.getD_none, show (1 : Int) > 0 by decide, if_true]
      by_cases h : i < 0
      · simp only [h, if_true] <;> omega
      · simp only [h, if_false] <;> omega
theorem slicePick_cut (its : List Value) (lo hi : Option Int) : slicePick its.toArray lo hi none = ((its.drop (HT.sIx its.length 0 lo)).take (HT.sIx its.length its.length hi - HT.sIx its.length 0 lo)).toArray := by
  obtain ⟨h1, h2, h3⟩ := slice_bounds lo hi its.toArray.size
  unfold slicePick
  rw [h1, h2, h3]
  simp only [sliceRange_one, pick_run, List.size_toArray] <;> rfl
/-- xs[lo:hi] of a list: a new list -/
inductive SlLI (K : PySem.W.Frag) (x : V) (lo hi : Option Int) (H : Hp) (Q : VK) : Prop
  | mk (a : Addr) (xs : List V) (e1 : x = .ref a) (e2 : SqL K H a xs) (q : ∀ p, H p = none → Q (.ref p) (upd H p (.lst (cutV xs lo hi)))) : SlLI K x lo hi H Q
def rSlL (K : PySem.W.Frag) : V → Option Int → Option Int → Hp → VK → Prop := SlLI K
theorem sl_list : SlR X (rSlL X.K) := by
  intro pins s σ H x v vl vu lo hi sl Q I rx hs pl pu h
  obtain ⟨a, xs, rfl, hx, q⟩ := h
  cases rx
  obtain ⟨its, r, ht, hz⟩ := I.list hx
  have hlen := r.length
  refine ⟨"list", _, slot_list_getitem.lookup, ht.isList.typeIs, ?_⟩
  refine wpAny_getItem_list_slice ht.isList hs pl pu .none (by simp) ?_ (by rw [List.size_toArray] <;> omega)
  rw [slicePick_cut, ← hlen]
  refine ⟨.ref s.heap.objs.size, _, I.laid (t' := s.toks) (o := .lst (cutV xs lo hi)) (fun b ob q => Heap.get?_push_of_some _ q) (Nat.le_refl _) ?_, rfl, q _ (I.hok.fresh (Nat.le_refl _))⟩
  exact ⟨Nat.le_trans (cutV_length xs lo hi) hz, _, 0, (r.drop (HT.sIx xs.length 0 lo)).take (HT.sIx xs.length xs.length hi - HT.sIx xs.length 0 lo), Heap.get?_push_size _ rfl⟩

/-! ### in, not in: flat items -/
def flatV : V → Bool
  | .non => true
  | .bl _ => true
  | .int _ => true
  | .str _ => true
  | _ => false
/-- == of flat values -/
def eqV : V → V → Bool
  | .non, .non => true
  | .bl a, .bl b => a == b
  | .bl a, .int b => (if a then 1 else 0) == b
  | .int a, .bl b => a == (if b then 1 else 0)
  | .int a, .int b => a == b
  | .str a, .str b => a == b
  | _, _ => false
theorem eqAt_V {A : Around} {s : Shared} {y x : V} {u v : Value} (ry : RelV y u) (rx : RelV x v) (fy : flatV y = true) (fx : flatV x = true) : SeqAt.EqAt A s u v (eqV y x) := by
  cases y with
  | non =>
    cases ry
    cases x with
    | non => cases rx; exact SeqAt.EqAt.same _
    | bl b => cases rx; exact SeqAt.EqAt.none_bool b
    | int b => obtain ⟨t, rfl⟩ := rx; exact SeqAt.EqAt.none_int b t
    | str b => obtain ⟨t, rfl⟩ := rx; exact SeqAt.EqAt.none_str b t
    | _ => exact absurd (show false = true from fx) Bool.false_ne_true
  | bl a =>
    cases ry
    cases x with
    | non => cases rx; exact SeqAt.EqAt.bool_none a
    | bl b => cases rx; exact SeqAt.EqAt.bool_bool a b
    | int b => obtain ⟨t, rfl⟩ := rx; exact SeqAt.EqAt.bool_int a b t
    | str b => obtain ⟨t, rfl⟩ := rx; exact SeqAt.EqAt.bool_str a b t
    | _ => exact absurd (show false = true from fx) Bool.false_ne_true
  | int a =>
    obtain ⟨t', rfl⟩ := ry
    cases x with
    | non => cases rx; exact SeqAt.EqAt.int_none a t'
    | bl b => cases rx; exact SeqAt.EqAt.int_bool a t' b
    | int b => obtain ⟨t, rfl⟩ := rx; exact SeqAt.EqAt.int_int a t' b t
    | str b => obtain ⟨t, rfl⟩ := rx; exact SeqAt.EqAt.int_str a t' b t
    | _ => exact absurd (show false = true from fx) Bool.false_ne_true
  | str a =>
    obtain ⟨t', rfl⟩ := ry
    cases x with
    | non => cases rx; exact SeqAt.EqAt.str_none a t'
    | bl b => cases rx; exact SeqAt.EqAt.str_bool a t' b
    | int b => obtain ⟨t, rfl⟩ := rx; exact SeqAt.EqAt.str_int a t' b t
    | str b => obtain ⟨t, rfl⟩ := rx; exact SeqAt.EqAt.str_str a t' b t
    | _ => exact absurd (show false = true from fx) Bool.false_ne_true
  | _ => exact absurd (show false = true from fy) Bool.false_ne_true
/-- the items' answers, read off the values (a value's own answer does not lean on its token) -/
def eqU (x : V) (u : Value) : Bool := match u with
  | .none => eqV .non x
  | .bool b => eqV (.bl b) x
  | .int i _ => eqV (.int i) x
  | .str z _ => eqV (.str z) x
  | _ => false
theorem eqU_of {x y : V} {u : Value} (r : RelV y u) (f : flatV y = true) : eqU x u = eqV y x := by
  cases y with
  | non => cases r; rfl
  | bl b => cases r; rfl
  | int i => obtain ⟨t, rfl⟩ := r; rfl
  | str z => obtain ⟨t, rfl⟩ := r; rfl
  | _ => exact absurd (show false = true from f) Bool.false_ne_true
theorem any_eqU {x : V} : ∀ {xs : List V} {us : List Value}, Vals xs us → xs.all flatV = true → us.any (eqU x) = xs.any fun y => eqV y x
  | _, _, .nil, _ => rfl
  | y :: xs, u :: us, .cons r t, f => by
    rw [List.all_cons, Bool.and_eq_true] at f
    rw [List.any_cons, List.any_cons, eqU_of r f.1, any_eqU t f.2]
theorem mem_eqAt {A : Around} {s : Shared} {x : V} {v : Value} (rx : RelV x v) (fx : flatV x = true) : ∀ {xs : List V} {us : List Value}, Vals xs us → xs.all flatV = true → ∀ u ∈ us, SeqAt.EqAt A s u v (eqU x u)
  | _, _, .nil, _ => fun u hu => by cases hu
  | y :: xs, u :: us, .cons r t, f => fun u' hu => by
    rw [List.all_cons, Bool.and_eq_true] at f
    rcases List.mem_cons.mp hu with rfl | hu
    · rw [eqU_of r f.1]; exact eqAt_V r rx f.1 fx
    · exact mem_eqAt rx fx t f.2 u' hu
def inV (x : V) (xs : List V) : Bool := xs.any fun y => eqV y x
/-- x in a list or tuple of flat items -/
def rIn (K : PySem.W.Frag) (neg : Bool) : R2 := fun x y H Q => ∃ p xs, y = .ref p ∧ (SqL K H p xs ∨ SqT K H p xs) ∧ flatV x = true ∧ xs.all flatV = true ∧ Q (.bl (if neg then !inV x xs else inV x xs)) H
theorem op_in_seq : OpR X (compareOp .In) (rIn X.K false) := by
  intro pins s σ H x y v u Q I rx ry h
  obtain ⟨p, xs, rfl, hq, fx, fs, q⟩ := h
  cases ry
  rcases hq with hq | hq
  · obtain ⟨its, r, pl, hz⟩ := I.list hq
    refine SeqAt.in_listAt (eqU x) pl.isList (fun w hw => mem_eqAt rx fx r fs w (by simpa using hw)) ⟨.bl _, H, I, rfl, ?_⟩
    rw [show its.toArray.any (eqU x) = its.any (eqU x) by simp, any_eqU r fs]
    exact q
  · obtain ⟨its, r, pl, hz⟩ := I.tuple hq
    refine SeqAt.in_tupleAt (eqU x) pl (fun w hw => mem_eqAt rx fx r fs w (by simpa using hw)) ⟨.bl _, H, I, rfl, ?_⟩
    rw [show its.toArray.any (eqU x) = its.any (eqU x) by simp, any_eqU r fs]
    exact q
theorem op_notIn_seq : OpR X (compareOp .NotIn) (rIn X.K true) := by
  intro pins s σ H x y v u Q I rx ry h
  obtain ⟨p, xs, rfl, hq, fx, fs, q⟩ := h
  cases ry
  rcases hq with hq | hq
  · obtain ⟨its, r, pl, hz⟩ := I.list hq
    refine SeqAt.notIn_listAt (eqU x) pl.isList (fun w hw => mem_eqAt rx fx r fs w (by simpa using hw)) ⟨.bl _, H, I, rfl, ?_⟩
    rw [show its.toArray.any (eqU x) = its.any (eqU x) by simp, any_eqU r fs]
    exact q
  · obtain ⟨its, r, pl, hz⟩ := I.tuple hq
    refine SeqAt.notIn_tupleAt (eqU x) pl (fun w hw => mem_eqAt rx fx r fs w (by simpa using hw)) ⟨.bl _, H, I, rfl, ?_⟩
    rw [show its.toArray.any (eqU x) = its.any (eqU x) by simp, any_eqU r fs]
    exact q

/-! ### len, list(x), tuple(x) of any list or tuple that is read -/
theorem call_len_seq : CallR X (.builtin "len") (fun xs H Q => ∃ p ys, xs = [.ref p] ∧ (SqL X.K H p ys ∨ SqT X.K H p ys) ∧ Q (.int ys.length) H) := by
  intro pins s σ H xs us Q I r h
  obtain ⟨p, ys, rfl, hq, q⟩ := h
  obtain ⟨u, rfl, rx⟩ := vals1 r
  cases rx
  have hn := line63
  rcases hq with hq | hq
  · obtain ⟨its, r', pl, hz⟩ := I.list hq
    have hlen := r'.length
    exact Calls.call_len_list pl.isList (by simp only [List.size_toArray] <;> omega) ⟨.int ys.length, H, I.tok _, ⟨s.toks + 1, by rw [List.size_toArray, hlen]⟩, q⟩
  · obtain ⟨its, r', pl, hz⟩ := I.tuple hq
    have hlen := r'.length
    exact len_tuple pl (by simp only [List.size_toArray] <;> omega) ⟨.int ys.length, H, I.tok _, ⟨s.toks + 1, by rw [List.size_toArray, hlen]⟩, q⟩
theorem call_list_of : CallR X (.type "list") (fun xs H Q => ∃ p ys, xs = [.ref p] ∧ (SqL X.K H p ys ∨ SqT X.K H p ys) ∧ ∀ l, H l = none → Q (.ref l) (upd H l (.lst ys))) := by
  intro pins s σ H xs us Q I r h
  obtain ⟨p, ys, rfl, hq, q⟩ := h
  obtain ⟨u, rfl, rx⟩ := vals1 r
  cases rx
  have fin : ∀ (its : List Value), Vals ys its → ys.length ≤ sizeLine → ∀ (h' : Heap) (c' : Nat), (∀ b o', s.heap.get? b = some o' → h'.get? b = some o') →
      h'.get? s.heap.objs.size = some { cls := .type "list", dict := none, data := .seq its.toArray c', slots := #[] } → EP X pins σ Q (.ref s.heap.objs.size) { s with heap := h' } := fun its r' hz h' c' kp e =>
    ⟨.ref s.heap.objs.size, _, I.laid (t' := s.toks) kp (Nat.le_refl _) (show ObjOk X.prog X.w _ h' _ (.lst ys) from ⟨hz, its, c', r', e⟩), rfl, q _ (I.hok.fresh (Nat.le_refl _))⟩
  rcases hq with hq | hq
  · obtain ⟨its, r', pl, hz⟩ := I.list hq
    have hlen := r'.length
    obtain ⟨o, ho, hc, n, hd⟩ := pl.isList
    exact call_list_seq p (.inl rfl) ho hc hd (fun h' c' kp e => fin its r' hz h' c' kp e) (by simp only [List.size_toArray] <;> omega)
  · obtain ⟨its, r', pl, hz⟩ := I.tuple hq
    have hlen := r'.length
    obtain ⟨o, ho, hc, n, hd⟩ := pl
    exact call_list_seq p (.inr rfl) ho hc hd (fun h' c' kp e => fin its r' hz h' c' kp e) (by simp only [List.size_toArray] <;> omega)
theorem call_tuple_of : CallR X (.type "tuple") (fun xs H Q => ∃ p ys, xs = [.ref p] ∧ ((SqL X.K H p ys ∧ ∀ l, H l = none → Q (.ref l) (upd H l (.tup ys))) ∨ (SqT X.K H p ys ∧ Q (.ref p) H))) := by
  intro pins s σ H xs us Q I r h
  obtain ⟨p, ys, rfl, h⟩ := h
  obtain ⟨u, rfl, rx⟩ := vals1 r
  cases rx
  rcases h with ⟨hq, q⟩ | ⟨hq, q⟩
  · obtain ⟨its, r', pl, hz⟩ := I.list hq
    have hlen := r'.length
    refine call_tuple_list pl.isList (fun h' kp => ?_) (by simp only [List.size_toArray] <;> omega)
    have I1 : Inv X pins σ H { s with heap := h' } := I.kept (t' := s.toks) kp
    have I2 : Inv X pins σ (upd H h'.objs.size (.tup ys)) { s with heap := h'.push { cls := .type "tuple", data := .seq its.toArray } } :=
      I1.laid (t' := s.toks) (fun b o e => Heap.get?_push_of_some _ e) (Nat.le_refl _) (show ObjOk X.prog X.w _ _ _ (.tup ys) from ⟨hz, its, r', IsTup.new _ _⟩)
    exact ⟨.ref h'.objs.size, _, I2, rfl, q _ (I1.hok.fresh (Nat.le_refl _))⟩
  · obtain ⟨its, r', pl, hz⟩ := I.tuple hq
    exact call_tuple_same pl ⟨.ref p, H, I, rfl, q⟩

/-! ### the call of a builtin's method: o.m(..) -/
/-- the value is of that builtin type -/
def tyV (K : PySem.W.Frag) (T : String) (x : V) (H : Hp) : Prop := match x with
  | .str _ => T = "str"
  | .int _ => T = "int"
  | .ref p => (T = "list" ∧ ∃ xs, SqL K H p xs) ∨ (T = "tuple" ∧ ∃ o, K.lookup p = some o ∧ o.cls = .type "tuple" ∧ o.dict = none) ∨
      (T = "dict" ∧ ((∃ kvs, H p = some (.dK kvs)) ∨ ∃ kvs, H p = some (.dT kvs))) ∨ (T = "set" ∧ ∃ S n, H p = some (.set S n))
  | _ => False
theorem tyV_is {pins : List (Addr × Obj)} {σ : St} {H : Hp} {s : Shared} {T : String} {x : V} {v : Value} (I : Inv X pins σ H s) (r : RelV x v) (ty : tyV X.K T x H) :
    s.TypeIs v T ∧ ∀ a, v = .ref a → ∃ ob, s.heap.get? a = some ob ∧ ob.dict = none := by
  cases x with
  | str z =>
    obtain ⟨t, rfl⟩ := r
    cases (show T = "str" from ty)
    exact ⟨typeIs_str s z t, fun _ e => nomatch e⟩
  | int i =>
    obtain ⟨t, rfl⟩ := r
    cases (show T = "int" from ty)
    exact ⟨typeIs_int s i t, fun _ e => nomatch e⟩
  | ref p =>
    cases r
    rcases ty with ⟨rfl, xs, hq⟩ | ⟨rfl, o, hk, hc, hd⟩ | ⟨rfl, hk⟩ | ⟨rfl, S, n, hk⟩
    · obtain ⟨its, _, pl, _⟩ := I.list hq
      refine ⟨pl.isList.typeIs, fun a e => ?_⟩
      cases e
      obtain ⟨o, n, e, c, hd, _⟩ := pl
      exact ⟨o, e, hd⟩
    · refine ⟨⟨o, I.kIn p o hk, hc⟩, fun a e => ?_⟩
      cases e
      exact ⟨o, I.kIn _ o hk, hd⟩
    · have z : ∃ o, s.heap.get? p = some o ∧ o.ExactDict := by
        rcases hk with ⟨kvs, hk⟩ | ⟨kvs, hk⟩
        · obtain ⟨_, _, _, _, o, _, _, e, ex, _⟩ := I.hok p _ hk
          exact ⟨o, e, ex⟩
        · obtain ⟨_, _, _, _, o, _, _, e, ex, _⟩ := I.hok p _ hk
          exact ⟨o, e, ex⟩
      obtain ⟨o, e, ex⟩ := z
      refine ⟨⟨o, e, ex.1⟩, fun a e2 => ?_⟩
      cases e2
      exact ⟨o, e, ex.2.1⟩
    · obtain ⟨o, _, _, _, e, ex, _⟩ := I.hok p _ hk
      refine ⟨⟨o, e, ex.1⟩, fun a e2 => ?_⟩
      cases e2
      exact ⟨o, e, ex.2.1⟩
  | _ => exact False.elim ty
inductive BmI (K : PySem.W.Frag) (T : String) (G : VK) (x : V) (H : Hp) : Prop
  | mk (e : tyV K T x H) (q : G x H) : BmI K T G x H
def tBM (K : PySem.W.Frag) (T : String) (r : V → List V → Hp → VK → Prop) (to : TE) (t : TA) : TE := fun σ H Q => to σ H (BmI K T fun x H1 => t σ H1 fun xs H2 => r x xs H2 Q)
variable {o e : Expr} {es : List Expr} {to : TE} {t : TA} {name : Str} {apos cpos : Pos} {T id : String} {r : V → List V → Hp → VK → Prop}
theorem pe_bm (pa : PlainAttrs T) (slot : Slot T name id) (hty : typeOf (.builtin id) = pure (.type "method_descriptor")) (hm : MtR X id r) (ho : PE X o to) (ha : PA X (e :: es) t)
    (hbase : attributeBase o name X.env (eval o X.env) = eval o X.env := by rfl)
    (hfew : ((backTo cpos (starEach (e :: es) X.env)).all (fun x => !x.1) && (backToKw cpos (keywordEach [] X.env)).all (fun x => x.1.isSome)
      && decide ((e :: es).length + ([] : List Keyword).length + (if ([] : List Keyword).isEmpty then 0 else 1) < 30)) = true := by rfl)
    (hline : (apos.endLine == cpos.line) = true := by rfl) (hs : starEach (e :: es) X.env = (false, eval e X.env) :: starEach es X.env := by rfl) (hplain : (backTo cpos (starEach es X.env)).any (·.1) = false := by rfl) :
    PE X (.Call (.Attribute o name apos) (e :: es) [] cpos) (tBM X.K T r to t) := by
  intro pins s σ H Q I h
  refine wpAny_Call_method_late hbase hfew hline rfl (thn (ho pins s σ H _ I h) fun v s1 ⟨x, H1, I1, r1, ty, q1⟩ => ?_)
  obtain ⟨h1, h2⟩ := tyV_is I1 r1 ty
  refine ⟨T, id, pa, slot, hty, h1, h2, ?_⟩
  have hA := ha cpos pins s1 σ H1 _ I1 q1
  rw [hs] at hA ⊢
  refine Calls.callWith_builtin (by show (false || (backTo cpos (starEach es X.env)).any (·.1)) = false; rw [hplain] <;> rfl) (Calls.evalArgs_plain ?_)
  exact thn hA fun us s2 ⟨vs, H2, I2, r2, q2⟩ => hm pins s2 σ H2 x vs v us Q I2 r1 r2 q2
/- xs.append(e), list.index on a module's tuple .. are MtR facts of 06m -/
end
end L2

namespace L2
open PySem PySem.Spec PyProof.Rows

def MtM (X : Cx) (id : String) (r : V → List V → Hp → VK → Prop) : Prop :=
  ∀ (pins : List (Addr × Obj)) (s : Shared) (σ : St) (H : Hp) (x : V) (xs : List V) (v : Value) (us : List Value) (Q : VK), Inv X pins σ H s → RelV x v → Vals xs us → r x xs H Q →
    wpAny (model X.prog X.w) X.A (call (.builtin id) (v :: us)) (EP X pins σ Q) X.xe s

/-! ### lists of values -/
theorem Vals.one : ∀ {x : V} {us : List Value}, Vals [x] us → ∃ u, us = [u] ∧ RelV x u
  | _, _, .cons r .nil => ⟨_, rfl, r⟩
theorem Vals.zero : ∀ {us : List Value}, Vals [] us → us = []
  | _, .nil => rfl

section
variable {X : Cx} {pins : List (Addr × Obj)} {σ : St} {H : Hp} {s : Shared} {l b : Addr} {xs ys zs : List V}

/-! ### the two steps: a tracked list is rewritten, a new list is laid -/
theorem Inv.lset {its its' : List Value} {n : Nat} {f : Array Value → Array Value} {t' : Nat} (I : Inv X pins σ H s) (hH : H l = some (.lst xs))
    (e : s.heap.get? l = some { cls := .type "list", data := .seq its.toArray n }) (hf : f its.toArray = its'.toArray) (hv : Vals ys its') (hz : ys.length ≤ sizeLine) :
    Inv X pins σ (upd H l (.lst ys)) { s with heap := s.heap.update l (Obj.mapSeq f), toks := t' } := by
  have q := PySem.IsL.update e f
  rw [hf] at q
  refine I.write (x := l) (e := l) (by rw [hH]; exact trivial) (.inl rfl) (fun b' u hb hu => (Heap.get?_update_other s.heap (Obj.mapSeq f) (Ne.symm hb)).trans hu) ⟨_, q⟩ ?_
  exact ⟨hz, its', _, hv, q⟩
theorem Inv.lnew {its : List Value} {t' : Nat} (I : Inv X pins σ H s) (hv : Vals ys its) (hz : ys.length ≤ sizeLine) :
    Inv X pins σ (upd H s.heap.objs.size (.lst ys)) { s with heap := s.heap.push { cls := .type "list", data := .seq its.toArray }, toks := t' } :=
  I.laid (fun _ _ q => Heap.get?_push_of_some _ q) (Nat.le_refl _) ⟨hz, its, 0, hv, Heap.get?_push_size _ rfl⟩
theorem Inv.fresh (I : Inv X pins σ H s) : H s.heap.objs.size = none := I.hok.fresh (Nat.le_refl _)
theorem Inv.lstM (I : Inv X pins σ H s) (hH : H l = some (.lst xs)) : xs.length ≤ sizeLine ∧ ∃ (its : List Value) (n : Nat), Vals xs its ∧ xs.length = its.length ∧ s.heap.get? l = some { cls := .type "list", data := .seq its.toArray n } := by
  obtain ⟨z, its, n, r, e⟩ := I.hok l _ hH
  exact ⟨z, its, n, r, r.length, e⟩

theorem notLongL {n : Nat} (h : n ≤ sizeLine) : Builtin.List.listTooLong n = false := by
  unfold Builtin.List.listTooLong
  exact decide_eq_false (by omega)
end

section
variable {X : Cx}

/-! ### methods -/
inductive AppI (x : V) (vs : List V) (H : Hp) (Q : VK) : Prop
  | mk (l : Addr) (xs : List V) (y : V) (e1 : x = .ref l) (e2 : vs = [y]) (e3 : H l = some (.lst xs)) (e4 : xs.length < sizeLine) (q : Q .non (upd H l (.lst (xs ++ [y])))) : AppI x vs H Q
def rAppend : V → List V → Hp → VK → Prop := AppI
theorem mt_append : MtM X "list.append" rAppend := by
  intro pins s σ H x vs v us Q I rx rv h
  obtain ⟨l, xs, y, rfl, rfl, hH, hz, q⟩ := h
  cases rx
  obtain ⟨u, rfl, ru⟩ := rv.one
  obtain ⟨z, its, n, r, hl, e⟩ := I.lstM hH
  refine call_meets F.slot_list_append ⟨_, e, rfl⟩ F.entry_list_append (F.args_list_append_2 _ _) (PySem.list_append l its.toArray n u (by rw [List.size_toArray]; omega)) ⟨e, ?_⟩
  refine ⟨.non, _, I.lset (its' := its ++ [u]) hH e (by simp) (r.append (.cons ru .nil)) ?_, rfl, q⟩
  rw [List.length_append, List.length_singleton]
  omega

def rExtend : V → List V → Hp → VK → Prop := fun x vs H Q => ∃ l b xs zs, x = .ref l ∧ vs = [.ref b] ∧ H l = some (.lst xs) ∧ H b = some (.lst zs) ∧ xs.length + zs.length ≤ sizeLine ∧ Q .non (upd H l (.lst (xs ++ zs)))
theorem mt_extend : MtM X "list.extend" rExtend := by
  intro pins s σ H x vs v us Q I rx rv h
  obtain ⟨l, b, xs, zs, rfl, rfl, hH, hB, hz, q⟩ := h
  cases rx
  obtain ⟨u, rfl, ru⟩ := rv.one
  cases ru
  obtain ⟨z, its, n, r, hl, e⟩ := I.lstM hH
  obtain ⟨z2, its2, n2, r2, hl2, e2⟩ := I.lstM hB
  have hsz : its.toArray.size + its2.toArray.size ≤ sizeLine := by rw [List.size_toArray, List.size_toArray]; omega
  have hlong : ¬ (!its.toArray.isEmpty && Builtin.List.listTooLong (its.toArray.size + its2.toArray.size)) = true := by
    rw [notLongL hsz, Bool.and_false]
    exact Bool.false_ne_true
  refine call_meets F.slot_list_extend ⟨_, e, rfl⟩ F.entry_list_extend (F.args_list_extend_2 _ _)
    (AutoSeq1.list_extend_list_list_0 l its.toArray n b its2.toArray n2 hlong (by rw [List.size_toArray]; omega) (by omega)) ⟨e, e2, ?_⟩
  refine ⟨.non, _, I.lset (its' := its ++ its2) hH e (by simp) (r.append r2) ?_, rfl, q⟩
  rw [List.length_append]
  omega

/-! ### list + list, list += list, list * int -/
def rCat : R2 := fun x y H Q => ∃ l b xs zs, x = .ref l ∧ y = .ref b ∧ H l = some (.lst xs) ∧ H b = some (.lst zs) ∧ xs.length + zs.length ≤ sizeLine ∧ ∀ p, H p = none → Q (.ref p) (upd H p (.lst (xs ++ zs)))
theorem op_cat : OpR X (binaryOp .Add) rCat := by
  intro pins s σ H x y v u Q I rx ry h
  obtain ⟨l, b, xs, zs, rfl, rfl, hH, hB, hz, q⟩ := h
  cases rx
  cases ry
  obtain ⟨z, its, n, r, hl, e⟩ := I.lstM hH
  obtain ⟨z2, its2, n2, r2, hl2, e2⟩ := I.lstM hB
  refine PySem.P.add_list e e2 ?_ (by rw [List.size_toArray, List.size_toArray]; omega)
  have ea : its.toArray ++ its2.toArray = (its ++ its2).toArray := by simp
  rw [ea]
  exact ⟨.ref _, _, I.lnew (t' := s.toks) (r.append r2) (by rw [List.length_append]; omega), rfl, q _ I.fresh⟩

/-! ### del xs[i] -/
end

/-! ### xs[a:b] = ys -/
section
variable {prog : Program} {w : World} {A : Around} {E : Value → Shared → Prop} {s : Shared}
set_option maxRecDepth 100000 in
end

section
variable {X : Cx}
end
end L2

namespace L2
open PySem PySem.Spec PyProof.Rows

theorem Vals.ints : ∀ {ns : List Int} {us : List Value}, Vals (ns.map V.int) us → IntsAre us ns
  | [], us, h => by
    rw [List.map_nil] at h
    cases h
    exact IntsAre.nil
  | n :: ns, us, h => by
    rw [List.map_cons] at h
    cases h with
    | cons r t =>
      obtain ⟨k, rfl⟩ := r
      exact IntsAre.cons n k (Vals.ints t)
theorem Vals.ref1 {a : Addr} {us : List Value} (r : Vals [V.ref a] us) : us = [Value.ref a] := by
  cases r with
  | cons r t =>
    cases t
    cases r
    rfl

/-! ### the library's walks over a list of ints, kept objects alone -/
section
variable {prog : Program} {w : World} {A : Around} {E : Value → Shared → Prop} {s : Shared} {l : Addr} {its : List Value} {ns : List Int} {Q : Value → Shared → Prop}
theorem sum_raw (hh : A.handled = none) (hl : s.heap.IsList l its.toArray) (hi : IntsAre its ns)
    (h : ∀ h' tk t', (∀ b o, s.heap.get? b = some o → h'.get? b = some o) → Q (.int ns.sum t') { s with heap := h', toks := tk }) : wpAny (model prog w) A (call (.builtin "sum") [.ref l]) Q E s := by
  obtain ⟨xs, e⟩ := hi.allInts.items
  have hn : numsOf (intItems xs).toList = ns := by rw [← e]; exact hi.numsOf
  rw [nums_intItems] at hn
  rw [e] at hl
  refine PySem.sum_intListG hh hl fun h' tk t' hk => ?_
  have := h h' tk t' hk
  rw [preSum_eq, List.take_of_length_le (by simp), hn]; exact this
end

/-! ### the calls, by values (CallR of 03t; MtR of 06l) -/
section
variable {X : Cx}
/-- sum(xs) of a list of ints -/
def rSum (K : PySem.W.Frag) : List V → Hp → VK → Prop := fun vs H Q => ∃ (a : Addr) (ns : List Int), vs = [V.ref a] ∧ SqL K H a (ns.map V.int) ∧ Q (.int ns.sum) H
theorem cr_sum (hc : X.calm = true) : CallR X (.builtin "sum") (rSum X.K) := by
  intro pins s σ H vs us Q I r h
  obtain ⟨a, ns, rfl, hs, q⟩ := h
  obtain ⟨its, rv, hl, _⟩ := I.list hs
  rw [Vals.ref1 r]
  exact sum_raw (I.ok.hd hc) hl.isList rv.ints fun h' tk t' hk => ⟨.int _, H, I.kept hk, ⟨_, rfl⟩, q⟩

/-! sorted, sort (fewer than 64 items: the library's own bound) -/
end

/-! ### list.index, flat items -/
section
variable {X : Cx}
end

/-! ### type(x) of an own instance; is, is not of a module's class -/
section
variable {X : Cx}
end

/-! ### any(xs), all(xs) of a list of bools -/
section
variable {X : Cx}
end

/-! ### == and != of data at any depth: none, bools, ints, texts, lists, tuples -/
mutual
inductive Dp (K : PySem.W.Frag) (H : Hp) : V → PyData → Prop
  | non : Dp K H .non .none
  | bl (b : Bool) : Dp K H (.bl b) (.bool b)
  | int (i : Int) : Dp K H (.int i) (.int i)
  | str (x : Str) : Dp K H (.str x) (.str x)
  | lst {a : Addr} {xs : List V} {ds : List PyData} : SqL K H a xs → DpAll K H xs ds → Dp K H (.ref a) (.list ds)
  | tup {a : Addr} {xs : List V} {ds : List PyData} : SqT K H a xs → DpAll K H xs ds → Dp K H (.ref a) (.tuple ds)
inductive DpAll (K : PySem.W.Frag) (H : Hp) : List V → List PyData → Prop
  | nil : DpAll K H [] []
  | cons {v : V} {vs : List V} {d : PyData} {ds : List PyData} : Dp K H v d → DpAll K H vs ds → DpAll K H (v :: vs) (d :: ds)
end
section
variable {X : Cx} {pins : List (Addr × Obj)} {σ : St} {H : Hp} {s : Shared}
mutual
theorem Dp.reads (I : Inv X pins σ H s) : ∀ (d : PyData) (v : V) (u : Value), Dp X.K H v d → RelV v u → ∃ as, Reads s.heap u d as
  | .none, _, _, h, r => by
    cases h
    cases r
    exact ⟨_, Reads.none⟩
  | .bool b, _, _, h, r => by
    cases h
    cases r
    exact ⟨_, Reads.bool b⟩
  | .int i, _, _, h, r => by
    cases h
    obtain ⟨t, rfl⟩ := r
    exact ⟨_, Reads.int i t⟩
  | .str x, _, _, h, r => by
    cases h
    obtain ⟨t, rfl⟩ := r
    exact ⟨_, Reads.str x t⟩
  | .list ds, _, _, h, r => by
    cases h with
    | lst hs ha =>
      cases r
      obtain ⟨its, rv, ⟨o, n, ho, hc, _, hd⟩, _⟩ := I.list hs
      obtain ⟨as, hr⟩ := Dp.readsAll I ds _ its ha rv
      exact ⟨_, Reads.list ho hc hd hr⟩
  | .tuple ds, _, _, h, r => by
    cases h with
    | tup hs ha =>
      cases r
      obtain ⟨its, rv, ⟨o, ho, hc, n, hd⟩, _⟩ := I.tuple hs
      obtain ⟨as, hr⟩ := Dp.readsAll I ds _ its ha rv
      exact ⟨_, Reads.tuple ho hc hd hr⟩
  | .dict _, _, _, h, _ => by cases h
theorem Dp.readsAll (I : Inv X pins σ H s) : ∀ (ds : List PyData) (vs : List V) (us : List Value), DpAll X.K H vs ds → Vals vs us → ∃ as, ReadsAll s.heap us ds as
  | [], _, _, h, r => by
    cases h
    cases r
    exact ⟨_, ReadsAll.nil⟩
  | d :: ds, _, _, h, r => by
    cases h with
    | cons h1 h2 =>
      cases r with
      | cons r1 r2 =>
        obtain ⟨as, q1⟩ := Dp.reads I d _ _ h1 r1
        obtain ⟨bs, q2⟩ := Dp.readsAll I ds _ _ h2 r2
        exact ⟨_, ReadsAll.cons q1 q2⟩
end
end
section
variable {X : Cx}
def rEqD (K : PySem.W.Frag) : R2 := fun x y H Q => ∃ d e, Dp K H x d ∧ Dp K H y e ∧ SeqAt.shaped d = true ∧ SeqAt.shaped e = true ∧ Q (.bl (PyData.eqv d e)) H
theorem op_eqD (hu : X.A.units + 64 < cLine) : OpR X (compareOp .Eq) (rEqD X.K) := by
  intro pins s σ H x y v u Q I rx ry h
  obtain ⟨d, e, hd, he, sd, se, q⟩ := h
  obtain ⟨as, r1⟩ := Dp.reads I d x v hd rx
  obtain ⟨bs, r2⟩ := Dp.reads I e y u he ry
  exact SeqAt.compareEq_shaped r1 r2 sd se hu ⟨.bl _, H, I, rfl, q⟩
end
end L2

namespace L2
open PySem PySem.Spec PyProof.Rows
abbrev CellAt (h : Heap) (c : Addr) (v : Option Value) : Prop := h.IsCell c v
def relS (scope sc : Scope) : Scope :=
  { scope with names := scope.names.map fun (n, k) => if (k == .free && sc.kind == .function && sc.names.lookup n == some .cell) then (n, .cell) else (n, k) }

def cloFrom (cells : List (Str × Addr)) : List (Str × NameKind) → List (Str × Addr) → List (Str × Addr)
  | [], acc => acc
  | (n, k) :: r, acc => if k == .free then cloFrom cells r ((n, (cells.lookup n).getD 0) :: acc) else cloFrom cells r acc

theorem closure_loop (env : Env) (f : Str × NameKind → List (Str × Addr) → Sem (ForInStep (List (Str × Addr))))
    (hf : ∀ n k c, f (n, k) c = if k == .free then (do let a ← cellOf env n; pure (.yield ((n, a) :: c))) else pure (.yield c)) :
    ∀ (names : List (Str × NameKind)) (acc : List (Str × Addr)), (∀ y ∈ names, y.2 = .free → ∃ c, env.cells.lookup y.1 = some c) → forIn names acc f = pure (cloFrom env.cells names acc)
  | [], acc, _ => by rw [List.forIn_nil]; rfl
  | (n, k) :: r, acc, h => by
    rw [List.forIn_cons, hf]
    have ih := fun acc => closure_loop env f hf r acc fun y hy => h y (List.mem_cons_of_mem _ hy)
    unfold cloFrom
    by_cases hk : (k == NameKind.free) = true
    · rw [if_pos hk, if_pos hk]
      obtain ⟨c, hc⟩ := h (n, k) List.mem_cons_self (by simpa using hk)
      have e : cellOf env n = pure c := by unfold cellOf; rw [hc]
      rw [e]
      have e2 : (env.cells.lookup n).getD 0 = c := by rw [hc]; rfl
      rw [e2]
      exact ih _
    · rw [if_neg hk, if_neg hk]
      exact ih _
theorem closure_ok {scope : Scope} {env : Env} (h : ∀ y ∈ scope.names, y.2 = .free → ∃ c, env.cells.lookup y.1 = some c) : closureFor scope env = pure (cloFrom env.cells scope.names []) := by
  simp only [closureFor]
  rw [closure_loop env _ (fun n k c => rfl) scope.names [] h]
  rfl

theorem mem_lookup {α : Type} : ∀ {l : List (Str × α)} {n : Str} {c : α}, (n, c) ∈ l → ∃ c', l.lookup n = some c'
  | (k, v) :: r, n, c, h => by
    rw [List.lookup_cons]
    cases hb : n == k with
    | true => exact ⟨_, rfl⟩
    | false =>
      rcases List.mem_cons.mp h with e | h
      · cases e; simp at hb
      · exact mem_lookup h

theorem cloFrom_mem {cells : List (Str × Addr)} : ∀ {names : List (Str × NameKind)} {acc : List (Str × Addr)} {n : Str} {c : Addr}, (n, c) ∈ cloFrom cells names acc → (n, c) ∈ acc ∨ ((n, .free) ∈ names ∧ c = (cells.lookup n).getD 0)
  | [], _, _, _, h => .inl h
  | (m, k) :: r, acc, n, c, h => by
    unfold cloFrom at h
    split at h
    · rename_i hk
      have hk : k = .free := by simpa using hk
      rcases cloFrom_mem h with h | ⟨h1, h2⟩
      · rcases List.mem_cons.mp h with e | h
        · cases e; exact .inr ⟨hk ▸ List.mem_cons_self, rfl⟩
        · exact .inl h
      · exact .inr ⟨List.mem_cons_of_mem _ h1, h2⟩
    · rcases cloFrom_mem h with h | ⟨h1, h2⟩
      · exact .inl h
      · exact .inr ⟨List.mem_cons_of_mem _ h1, h2⟩
theorem cloFrom_acc {cells : List (Str × Addr)} : ∀ {names : List (Str × NameKind)} {acc : List (Str × Addr)} {p : Str × Addr}, p ∈ acc → p ∈ cloFrom cells names acc
  | [], _, _, h => h
  | (m, k) :: r, acc, p, h => by
    unfold cloFrom
    split
    · exact cloFrom_acc (List.mem_cons_of_mem _ h)
    · exact cloFrom_acc h
theorem cloFrom_has {cells : List (Str × Addr)} : ∀ {names : List (Str × NameKind)} {acc : List (Str × Addr)} {n : Str}, (n, .free) ∈ names → (n, (cells.lookup n).getD 0) ∈ cloFrom cells names acc
  | (m, k) :: r, acc, n, h => by
    unfold cloFrom
    rcases List.mem_cons.mp h with e | h
    · cases e
      exact cloFrom_acc List.mem_cons_self
    · split
      · exact cloFrom_has h
      · exact cloFrom_has h

theorem cells_mem : ∀ {names : List (Str × NameKind)} {h : Heap} {acc : List (Str × Addr)} {x : Str} {c : Addr}, (x, c) ∈ cellsFrom h.objs.size names acc →
    (x, c) ∈ acc ∨ ((x, .cell) ∈ names ∧ h.objs.size ≤ c ∧ CellAt (pushCells h names) c none)
  | [], _, _, _, _, h => .inl h
  | (n, k) :: r, h, acc, x, c, hm => by
    unfold cellsFrom at hm
    unfold pushCells
    split at hm
    · rename_i hk
      rw [if_pos hk]
      have hk : k = .cell := by simpa using hk
      rw [← Heap.size_push h { cls := .type "cell", data := .cell none }] at hm
      rcases cells_mem hm with hm | ⟨h1, h2, h3⟩
      · rcases List.mem_cons.mp hm with e | hm
        · cases e
          exact .inr ⟨hk ▸ List.mem_cons_self, Nat.le_refl _, _, pushCells_keeps r _ _ _ (Heap.get?_push_size _ rfl), rfl⟩
        · exact .inl hm
      · rw [Heap.size_push] at h2
        exact .inr ⟨List.mem_cons_of_mem _ h1, Nat.le_of_succ_le h2, h3⟩
    · rename_i hk
      rw [if_neg hk]
      rcases cells_mem hm with hm | ⟨h1, h2, h3⟩
      · exact .inl hm
      · exact .inr ⟨List.mem_cons_of_mem _ h1, h2, h3⟩
theorem cells_acc : ∀ {names : List (Str × NameKind)} {n : Nat} {acc : List (Str × Addr)} {p : Str × Addr}, p ∈ acc → p ∈ cellsFrom n names acc
  | [], _, _, _, h => h
  | (m, k) :: r, n, acc, p, h => by
    unfold cellsFrom
    split
    · exact cells_acc (List.mem_cons_of_mem _ h)
    · exact cells_acc h
theorem cells_has : ∀ {names : List (Str × NameKind)} {n : Nat} {acc : List (Str × Addr)} {x : Str}, (x, .cell) ∈ names → ∃ c, (x, c) ∈ cellsFrom n names acc
  | (m, k) :: r, n, acc, x, h => by
    unfold cellsFrom
    rcases List.mem_cons.mp h with e | h
    · cases e
      exact ⟨n, cells_acc List.mem_cons_self⟩
    · split
      · exact cells_has h
      · exact cells_has h
theorem cells_inj : ∀ {names : List (Str × NameKind)} {h : Heap} {acc : List (Str × Addr)} {x y : Str} {c : Addr}, (∀ p ∈ acc, p.2 < h.objs.size) → (∀ x y c, (x, c) ∈ acc → (y, c) ∈ acc → x = y) →
    (x, c) ∈ cellsFrom h.objs.size names acc → (y, c) ∈ cellsFrom h.objs.size names acc → x = y
  | [], _, _, _, _, _, _, hi, h1, h2 => hi _ _ _ h1 h2
  | (n, k) :: r, h, acc, x, y, c, hl, hi, h1, h2 => by
    unfold cellsFrom at h1 h2
    split at h1
    · rename_i hk
      rw [if_pos hk] at h2
      rw [← Heap.size_push h { cls := .type "cell", data := .cell none }] at h1 h2
      refine cells_inj (h := h.push _) (fun p hp => ?_) (fun x y c a b => ?_) h1 h2
      · rw [Heap.size_push]
        rcases List.mem_cons.mp hp with rfl | hp
        · exact Nat.lt_succ_self _
        · exact Nat.lt_succ_of_lt (hl p hp)
      · rcases List.mem_cons.mp a with e | a <;> rcases List.mem_cons.mp b with e' | b
        · cases e; cases e'; rfl
        · cases e; exact absurd (hl _ b) (Nat.lt_irrefl _)
        · cases e'; exact absurd (hl _ a) (Nat.lt_irrefl _)
        · exact hi _ _ _ a b
    · rename_i hk
      rw [if_neg hk] at h2
      exact cells_inj hl hi h1 h2

theorem newEnv_comp {M : Model} {A : Around} {E : Value → Shared → Prop} {s : Shared} {scope : Scope} {globals : Addr} {closure : List (Str × Addr)} {qual : Str} {func : Option Addr} {code : Value} {around : Env} {builtins : Addr} {Q : Env → Shared → Prop}
    (h : Q (newEnv scope s.heap.objs.size globals (cellsFrom (s.heap.objs.size + 1) scope.names closure) qual func code (some around) builtins)
      { s with heap := pushCells (s.heap.push { cls := .type "dict", data := .dict #[] }) scope.names }) :
    wpAny M A (newFunctionEnv scope globals closure [] qual func code (some around) builtins) Q E s := by
  simp only [newFunctionEnv, Option.isSome_some, if_true]
  refine wpAny_bind (wpAny_alloc ?_)
  refine wpAny_bind (wpAny_layCells _ (fun n k c => rfl) scope.names closure _ _ ?_)
  rw [show ({ s with heap := s.heap.push { cls := .type "dict", data := .dict #[] } } : Shared).heap.objs.size = s.heap.objs.size + 1 from Heap.size_push ..]
  rw [List.forIn_nil]
  exact wpAny_bind (wpAny_pure (wpAny_pure h))

/-- every name of the written scope, in the scope that runs -/
theorem lookup_relS {sc : Scope} : ∀ {names : List (Str × NameKind)} {x : Str} {k : NameKind},
    (names.map fun (n, k) => if (k == NameKind.free && sc.kind == .function && sc.names.lookup n == some .cell) then (n, NameKind.cell) else (n, k)).lookup x = some k →
    ∃ k', names.lookup x = some k' ∧ (k = k' ∨ (k' = .free ∧ k = .cell))
  | [], _, _, h => by simp at h
  | (n, k₀) :: r, x, k, h => by
    have ih := @lookup_relS sc r x k
    have h' : List.lookup x ((if (k₀ == NameKind.free && sc.kind == .function && sc.names.lookup n == some .cell) = true then (n, NameKind.cell) else (n, k₀)) :: (r.map _)) = some k := h
    cases hx : x == n with
    | true =>
      simp only [List.lookup_cons, hx]
      by_cases hc : (k₀ == NameKind.free && sc.kind == .function && sc.names.lookup n == some .cell) = true
      · rw [if_pos hc] at h'
        simp only [List.lookup_cons, hx] at h'
        cases h'
        simp only [Bool.and_eq_true, beq_iff_eq] at hc
        exact ⟨k₀, rfl, .inr ⟨hc.1.1, rfl⟩⟩
      · rw [if_neg hc] at h'
        simp only [List.lookup_cons, hx] at h'
        cases h'
        exact ⟨_, rfl, .inl rfl⟩
    | false =>
      simp only [List.lookup_cons, hx]
      by_cases hc : (k₀ == NameKind.free && sc.kind == .function && sc.names.lookup n == some .cell) = true
      · rw [if_pos hc] at h'
        simp only [List.lookup_cons, hx] at h'
        exact ih h'
      · rw [if_neg hc] at h'
        simp only [List.lookup_cons, hx] at h'
        exact ih h'

/-- the names of a comprehension's block: its own (with their places in N), or captured -/
structure BlkOk (N : List Str) (sc scope : Scope) (own : List (Str × Nat)) : Prop where
  kind : scope.kind = .function
  uniq : ∀ y ∈ scope.names, scope.names.lookup y.1 = some y.2
  ix : ∀ p ∈ own, N[p.2]? = some p.1
  free : ∀ y ∈ scope.names, y.2 = .free → sc.names.lookup y.1 = some .cell ∨ sc.names.lookup y.1 = some .free
  own : ∀ y ∈ scope.names, y.2 = .local ∨ y.2 = .cell → y.1 ∈ own.map (·.1) ∨ y.1 ∉ N
/-- the slots of the block's own names forgotten -/
def wipe (σ : St) : List Nat → St
  | [] => σ
  | v :: vs => (wipe σ vs).set v none
theorem wipe_length (σ : St) : ∀ vs : List Nat, (wipe σ vs).length = σ.length
  | [] => rfl
  | v :: vs => by unfold wipe; rw [List.length_set, wipe_length σ vs]
theorem wipe_some {σ : St} {i : Nat} {x : V} : ∀ {vs : List Nat}, (wipe σ vs)[i]? = some (some x) → σ[i]? = some (some x) ∧ i ∉ vs
  | [], h => ⟨h, by simp⟩
  | v :: vs, h => by
    unfold wipe at h
    by_cases hi : v = i
    · subst hi
      by_cases hv : v < (wipe σ vs).length
      · rw [List.getElem?_set_self hv] at h; cases h
      · rw [List.getElem?_eq_none (by simpa using hv)] at h; cases h
    · rw [List.getElem?_set_ne hi] at h
      obtain ⟨h1, h2⟩ := wipe_some h
      exact ⟨h1, by simp only [List.mem_cons, not_or]; exact ⟨fun e => hi e.symm, h2⟩⟩

/-- the context of a block that starts at s, its iterator's objects at fp -/
abbrev Cx.blk (X : Cx) (s : Shared) (H : Hp) (scope : Scope) (cenv : Env) (fp : List Addr) : Cx := { X with s_0 := s, H_0 := H, env := cenv, outer := X.stack, ex := fp, fn := fun x => scope.names.lookup x == some .cell, pn := [], xe := fun _ _ => False }
section
variable {X : Cx} {pins : List (Addr × Obj)} {σ : St} {H : Hp} {s : Shared}
theorem block_start {scope : Scope} {own : List (Str × Nat)} {fp : List Addr} (I : Inv X pins σ H s) (ok : BlkOk X.N X.env.scope scope own) (hN : X.N.Nodup) (hfp : ∀ b ∈ fp, FpOk X pins H b ∧ b < s.heap.objs.size) :
    Inv (X.blk s H scope (compEnvC scope (cellsFrom (s.heap.objs.size + 1) scope.names (cloFrom X.env.cells scope.names [])) s.heap.objs.size X.env) fp) [] (wipe σ (own.map (·.2))) H { s with heap := pushCells (s.heap.push { cls := .type "dict", data := .dict #[] }) scope.names } := by
  have hfree : ∀ y ∈ scope.names, y.2 = .free → ∃ c, X.env.cells.lookup y.1 = some c := fun y hy e => by
    rcases ok.free y hy e with k | k
    · exact I.ok.has _ (.inl k)
    · exact I.ok.has _ (.inr k)
  generalize hcenv : compEnvC scope (cellsFrom (s.heap.objs.size + 1) scope.names (cloFrom X.env.cells scope.names [])) s.heap.objs.size X.env = cenv
  have kp : ∀ b o, s.heap.get? b = some o → (pushCells (s.heap.push { cls := .type "dict", data := .dict #[] }) scope.names).get? b = some o := fun b o e => pushCells_keeps _ _ _ _ (Heap.get?_push_of_some _ e)
  have hL : cenv.locals = s.heap.objs.size := by rw [← hcenv]; rfl
  have hcl : cenv.cells = cellsFrom (s.heap.objs.size + 1) scope.names (cloFrom X.env.cells scope.names []) := by rw [← hcenv]; rfl
  have hsc : cenv.scope = relS scope X.env.scope := by rw [← hcenv]; rfl
  rw [← Heap.size_push s.heap { cls := .type "dict", data := .dict #[] }] at hcl
  have cm : ∀ {y c}, (y, c) ∈ cloFrom X.env.cells scope.names [] → X.env.cells.lookup y = some c ∧ c < s.heap.objs.size := fun {y c} hm => by
    rcases cloFrom_mem hm with hm | ⟨h1, rfl⟩
    · cases hm
    · obtain ⟨c, hc⟩ := hfree _ h1 rfl
      rw [hc]
      obtain ⟨w, z⟩ := I.cell _ _ hc
      exact ⟨rfl, z.lt⟩
  have mem : ∀ {y c}, cenv.cells.lookup y = some c → (X.env.cells.lookup y = some c ∧ c < s.heap.objs.size) ∨ (s.heap.objs.size + 1 ≤ c ∧ CellAt (pushCells (s.heap.push { cls := .type "dict", data := .dict #[] }) scope.names) c none) := fun {y c} e => by
    rw [hcl] at e
    rcases cells_mem (PySem.mem_of_lookup e) with hm | ⟨_, h2, h3⟩
    · exact .inl (cm hm)
    · rw [Heap.size_push] at h2; exact .inr ⟨h2, h3⟩
  have look : ∀ {y}, scope.names.lookup y = some .free → ∃ c, cenv.cells.lookup y = some c ∧ X.env.cells.lookup y = some c := fun {y} hl => by
    have hy : (y, NameKind.free) ∈ scope.names := PySem.mem_of_lookup hl
    obtain ⟨c', e'⟩ := mem_lookup (cells_acc (names := scope.names) (n := (s.heap.push { cls := .type "dict", data := .dict #[] }).objs.size) (cloFrom_has (cells := X.env.cells) (acc := []) hy))
    rw [← hcl] at e'
    refine ⟨c', e', ?_⟩
    rw [hcl] at e'
    rcases cells_mem (PySem.mem_of_lookup e') with hm | ⟨h1, _, _⟩
    · exact (cm hm).1
    · have := ok.uniq _ h1
      rw [hl] at this; cases this
  have okB : (X.blk s H scope cenv fp).Ok := by
    refine ⟨I.ok.mod, by show cenv.scope.kind = _; rw [hsc]; exact ok.kind, by show cenv.globals = _; rw [← hcenv]; exact I.ok.glob, by show cenv.builtins = _; rw [← hcenv]; exact I.ok.blt, by show s.heap.objs.size ≤ cenv.locals; rw [hL]; exact Nat.le_refl _,
      fun y z c e1 e2 => ?_, fun y hy => ?_, fun y c z e => ?_, I.ok.hd, I.ok.frames, .inl rfl, fun b hb => ⟨?_, fun y c e z => ?_⟩, I.bs, Nat.le_trans I.ok.bsz I.sz, fun b o e hb => ?_, fun b hb z => ?_, I.stack, I.stkFree⟩
    · have e1 : cenv.cells.lookup y = some c := e1
      have e2 : cenv.cells.lookup z = some c := e2
      rw [hcl] at e1 e2
      refine cells_inj (fun p hp => ?_) (fun y z c a b => I.ok.inj y z c (cm a).1 (cm b).1) (PySem.mem_of_lookup e1) (PySem.mem_of_lookup e2)
      rw [Heap.size_push]
      exact Nat.lt_succ_of_lt (cm (y := p.1) (c := p.2) hp).2
    · show ∃ c, cenv.cells.lookup y = some c
      have key : ∀ k, cenv.kindOf y = some k → (k = .cell ∨ k = .free) → ∃ c, cenv.cells.lookup y = some c := fun k hk hk' => by
        unfold Env.kindOf at hk
        rw [hsc] at hk
        obtain ⟨k', e, r⟩ := lookup_relS hk
        have : k' = .cell ∨ k' = .free := by
          rcases r with rfl | ⟨rfl, _⟩
          · exact hk'
          · exact .inr rfl
        rcases this with rfl | rfl
        · obtain ⟨c, hm⟩ := cells_has (n := (s.heap.push { cls := .type "dict", data := .dict #[] }).objs.size) (acc := cloFrom X.env.cells scope.names []) (PySem.mem_of_lookup e)
          obtain ⟨c', e'⟩ := mem_lookup hm
          exact ⟨c', by rw [hcl]; exact e'⟩
        · obtain ⟨c, h1, _⟩ := look e
          exact ⟨c, h1⟩
      rcases hy with hy | hy
      · exact key _ hy (.inl rfl)
      · exact key _ hy (.inr rfl)
    · have z : (scope.names.lookup y == some NameKind.cell) = true := z
      have z : scope.names.lookup y = some .cell := by simpa using z
      have e : cenv.cells.lookup y = some c := e
      rw [hcl] at e
      rcases cells_mem (PySem.mem_of_lookup e) with hm | ⟨_, h2, _⟩
      · rcases cloFrom_mem hm with hm | ⟨h1, _⟩
        · cases hm
        · have q := ok.uniq _ h1
          rw [z] at q; cases q
      · rw [Heap.size_push] at h2
        exact Nat.le_of_succ_le h2
    · show b ≠ cenv.locals
      rw [hL]; exact Nat.ne_of_lt (hfp b hb).2
    · have e : cenv.cells.lookup y = some c := e
      rcases mem e with ⟨h1, _⟩ | ⟨h1, _⟩
      · exact (hfp b hb).1.2.2.2.2.1 y c h1 z
      · have h2 : s.heap.objs.size + 1 ≤ b := by rw [← z]; exact h1
        exact absurd (Nat.lt_of_lt_of_le (hfp b hb).2 (Nat.le_of_succ_le h2)) (Nat.lt_irrefl _)
    · rcases (hfp b hb).1.2.2.2.1 with z | z
      · exact I.ok.noex b o e z
      · exact absurd (Nat.lt_of_lt_of_le (Heap.lt_size e) (Nat.le_trans I.ok.bsz z)) (Nat.lt_irrefl _)
    · rcases List.mem_cons.mp (I.stkSub b z) with z | z
      · exact (hfp b hb).1.2.1 z
      · exact (hfp b hb).1.2.2.1 z
  refine ⟨okB, rfl, I.bare, Un.kept kp, ⟨fun _ => none, ?_, fun i y av e1 e2 e3 => ?_⟩, fun y c e => ?_, ?_, fun y c e => ?_, fun p hp => ?_, I.hok.kept kp, by rw [wipe_length]; exact I.len⟩
  · show Heap.Ns _ cenv.locals _
    rw [hL]
    exact Heap.Ns.keeps (Heap.Ns.new ..) fun b o e => pushCells_keeps _ _ _ _ e
  · obtain ⟨e2, hne⟩ := wipe_some e2
    have hfr : scope.names.lookup y = some .free ∧ (cenv.kindOf y = some .cell ∨ cenv.kindOf y = some .free) := by
      have key : ∀ k, cenv.scope.names.lookup y = some k → k = .local ∨ k = .cell ∨ k = .free → scope.names.lookup y = some .free ∧ (cenv.kindOf y = some .cell ∨ cenv.kindOf y = some .free) := fun k hk hk' => by
        have hk0 := hk
        rw [hsc] at hk
        obtain ⟨k', e, r⟩ := lookup_relS hk
        have no : ¬ (k' = .local ∨ k' = .cell) := fun hh => by
          rcases ok.own _ (PySem.mem_of_lookup e) hh with e' | e'
          · obtain ⟨p, hp, hpy⟩ := List.mem_map.mp e'
            have e3 := ok.ix p hp
            have : p.1 = y := hpy
            rw [this] at e3
            exact hne (List.mem_map.mpr ⟨p, hp, nodup_ix hN e3 e1⟩)
          · exact e' (List.mem_of_getElem? e1)
        rcases r with rfl | ⟨rfl, rfl⟩
        · rcases hk' with rfl | rfl | rfl
          · exact absurd (.inl rfl) no
          · exact absurd (.inr rfl) no
          · exact ⟨e, .inr hk0⟩
        · exact ⟨e, .inl hk0⟩
      have e3 : Vis cenv.scope y := e3
      rcases e3 with e3 | e3 | e3
      · exact key _ e3 (.inl rfl)
      · exact key _ e3 (.inr (.inl rfl))
      · exact key _ e3 (.inr (.inr rfl))
    obtain ⟨m, hn, hl⟩ := I.loc
    have hvis : Vis X.env.scope y := (ok.free _ (PySem.mem_of_lookup hfr.1) rfl).elim (fun k => .inr (.inl k)) (fun k => .inr (.inr k))
    obtain ⟨w, r, q⟩ := hl i y av e1 e2 hvis
    refine ⟨w, r, .inr ⟨hfr.2, ?_⟩⟩
    obtain ⟨c, h1, h2⟩ := look hfr.1
    rcases q with ⟨k, _⟩ | ⟨_, c', e', z⟩
    · have k : X.env.scope.names.lookup y = some .local := k
      rcases ok.free _ (PySem.mem_of_lookup hfr.1) rfl with k' | k' <;> rw [show X.env.scope.names.lookup y = _ from k'] at k <;> cases k
    · rw [h2] at e'; cases e'
      exact ⟨c, h1, z.keeps kp⟩
  · have e : cenv.cells.lookup y = some c := e
    rcases mem e with ⟨h1, _⟩ | ⟨_, z⟩
    · obtain ⟨w, z⟩ := I.cell y c h1
      exact ⟨w, z.keeps kp⟩
    · exact ⟨_, z⟩
  · show H cenv.locals = none
    rw [hL]; exact I.hok.fresh (Nat.le_refl _)
  · have e : cenv.cells.lookup y = some c := e
    rcases mem e with ⟨h1, _⟩ | ⟨h1, _⟩
    · exact I.freeC y c h1
    · exact I.hok.fresh (Nat.le_of_succ_le h1)
  · exact absurd (show p ∈ ([] : List (Addr × Obj)) ++ [] from hp) (by simp)

/-- an item appended to a tracked list -/
theorem app_ok {E : Value → Shared → Prop} {D : Addr} {xs : List V} {y : V} {v : Value} {Q : Value → Shared → Prop} (I : Inv X pins σ H s) (hD : H D = some (.lst xs)) (hz : xs.length < sizeLine) (r : RelV y v)
    (h : ∀ s', Inv X pins σ (upd H D (.lst (xs ++ [y]))) s' → Q .none s') : wpAny (model X.prog X.w) X.A (call (.builtin "list.append") [.ref D, v]) Q E s := by
  obtain ⟨hz', its, n, ri, e⟩ := I.hok D _ hD
  have hl := ri.length
  refine append_at (hsz := by rw [List.size_toArray]; omega) e fun h' sb ho' => ?_
  refine h { s with heap := h' } (I.write (t' := s.toks) (by rw [hD]; trivial) (.inl rfl) (fun b u hb q => (sb.2 b hb).trans q) ⟨_, ho'⟩ ⟨by rw [List.length_append]; exact hz, its ++ [v], n + 1, ri.append (.cons r .nil), ?_⟩)
  rw [ho']
  simp

/-- a clause's tests -/
def PTs (X : Cx) (ifs : List Expr) (t : TT) : Prop :=
  ∀ (pins : List (Addr × Obj)) (s : Shared) (σ : St) (H : Hp) (Q : Bool → Hp → Prop), Inv X pins σ H s → t σ H Q →
    wpAny (model X.prog X.w) X.A (forIn ifs true fun c r => if r = true then do let ok ← isTrue c X.env (eval c X.env); pure (ForInStep.yield ok) else pure (ForInStep.yield r)) (TP X pins σ Q) X.xe s
def tYes : TT := fun _ H Q => Q true H
theorem pts_nil : PTs X [] tYes := fun _ _ _ H _ I h => wpAny_tests_nil ⟨H, I, h⟩
theorem pts_one {c : Expr} {t : TT} (h : PT X c t) : PTs X [c] t := fun pins s σ H Q I hw => wpAny_tests_one (h pins s σ H Q I hw)
end

theorem thnF {α : Type} {t : Sem α} {Q Q' : α → Shared → Prop} {M : Model} {A : Around} {E : Value → Shared → Prop} {s : Shared} (h : wpAny M A t Q (fun _ _ => False) s) (hQ : ∀ a s, Q a s → Q' a s) : wpAny M A t Q' E s := wpAny_mono h hQ fun _ _ z => False.elim z

/-- the loop of a list comprehension's block, the target of any form (codeAny_compLoop_tests asks a target that no tuple goes to; statement and proof follow it, PyProof/CompMap.lean:41-61, with the step letOwnedTupleGo kept) -/
theorem compLoop_any {prog : Program} {w : World} {A : Around} {R : Result → Shared → Prop} {s : Shared} {elt target iter : Expr} {ifs : List Expr} {scope : Scope} {pos : Pos} {it acc : Value} {env : Env} (I : Nat → Shared → Prop)
    (turn : ∀ n s, I n s → wpAny (model prog w) A (pyNext it) (fun r s₁ => match r with
      | none => R (.ok .next) s₁
      | some v => wpAny (model prog w) A (letOwnedTupleGo target it v) (fun _ s₁' => wpAny (model prog w) A (assign target env v) (fun _ s₂ =>
          wpAny (model prog w) A (forIn ifs true fun c r => if r = true then do let ok ← isTrue c env (eval c env); pure (ForInStep.yield ok) else pure (ForInStep.yield r)) (fun ok s₃ =>
            if ok = true then wpAny (model prog w) A (eval elt env) (fun x s₄ =>
              wpAny (model prog w) A (call (.builtin "list.append") [acc, x]) (fun _ s₅ => ∃ m, m < n ∧ I m s₅) (notedBy (model prog w) A env fun e s' => R (.error e) s') s₄) (notedBy (model prog w) A env fun e s' => R (.error e) s') s₃
            else ∃ m, m < n ∧ I m s₃) (notedBy (model prog w) A env fun e s' => R (.error e) s') s₂) (notedBy (model prog w) A env fun e s' => R (.error e) s') s₁') (notedBy (model prog w) A env fun e s' => R (.error e) s') s₁) (notedBy (model prog w) A env fun e s' => R (.error e) s') s)
    (n : Nat) (h : I n s) :
    codeAny (model prog w) A (.compLoop (.ListComp elt [⟨target, iter, ifs, 0⟩] scope pos) 0 it acc env) R s := by
  refine codeAny_loop rfl I (fun n s hI => ?_) n h
  show wpAny _ A ((compTurn (.ListComp elt [⟨target, iter, ifs, 0⟩] scope pos) 0 it acc env).onRaise (fun x => do noteFrame x env; theTreesLotGoes x)) _ _ s
  refine wpAny_noted ?_
  rw [compTurn_list]
  refine wpAny_bind (wpAny_standAt (wpAny_bind (wpAny_mono (turn n s hI) (fun r s₁ h₁ => ?_) fun _ _ h' => h')))
  cases r with
  | none => exact wpAny_pure h₁
  | some v =>
    refine wpAny_bind (wpAny_mono h₁ (fun _ s₁' h₁' => ?_) fun _ _ h' => h')
    refine wpAny_bind (wpAny_mono h₁' (fun _ s₂ h₂ => wpAny_bind (wpAny_mono h₂ (fun ok s₃ h₃ => ?_) fun _ _ h' => h')) fun _ _ h' => h')
    cases ok with
    | false => exact wpAny_pure ⟨rfl, h₃⟩
    | true =>
      exact wpAny_bind (wpAny_bind (wpAny_mono h₃ (fun x s₄ h₄ => wpAny_bind (wpAny_mono h₄ (fun _ s₅ h₅ => wpAny_pure (wpAny_pure ⟨rfl, h₅⟩)) fun _ _ h' => h')) fun _ _ h' => h'))

section
variable {X : Cx}
/-- [elt for target in iter if ..]: D the new list; W by the turn and a measure, Nx what a turn is to reach -/
def tLc (wi : TI) (g : TG) (tt : TT) (te : TE) (vs : List Nat) : TE := fun σ H Q => wi σ H fun J H1 => ∀ D, H1 D = none → ∃ W : Nat → Nat → Hp → Prop, (∃ m, W 0 m (upd H1 D (.lst []))) ∧ ∀ i m H, W i m H →
  (J.stop i H ∧ Q (.ref D) H) ∨ (J.go i H ∧ ∃ Nx : Hp → Prop, (∀ H', Nx H' → ∃ m', m' < m ∧ W (i + 1) m' H') ∧ ∀ x H', J.yld i H x H' → g x (wipe σ vs) H' fun σ2 H2 => wipe σ2 vs = wipe σ vs ∧ tt σ2 H2 fun b H3 =>
    if b = true then te σ2 H3 fun y H4 => ∃ acc, H4 D = some (.lst acc) ∧ acc.length < sizeLine ∧ Nx (upd H4 D (.lst (acc ++ [y]))) else Nx H3)
theorem lc_core {pins : List (Addr × Obj)} {s : Shared} {σ : St} {H : Hp} {Q : VK} {elt tg iter : Expr} {ifs : List Expr} {scope : Scope} {own : List (Str × Nat)} {pos pos' : Pos} {wi : TI} {g : TG} {tt : TT} {te : TE} {use : Option (Value → Sem Unit)} {Qf : Value → Shared → Prop}
    (hc : X.calm = true) (hN : X.N.Nodup) (I : Inv X pins σ H s) (hi : PI X tg iter wi) (ok : BlkOk X.N X.env.scope scope own)
    (hg : ∀ (s : Shared) (H : Hp) (C : Addr) (cl : List (Str × Addr)) (fp : List Addr), PG (X.blk s H scope (compEnvC scope cl C X.env) fp) tg g) (ht : ∀ (s : Shared) (H : Hp) (C : Addr) (cl : List (Str × Addr)) (fp : List Addr), PTs (X.blk s H scope (compEnvC scope cl C X.env) fp) ifs tt)
    (he : ∀ (s : Shared) (H : Hp) (C : Addr) (cl : List (Str × Addr)) (fp : List Addr), PE (X.blk s H scope (compEnvC scope cl C X.env) fp) elt te) (hs : ∀ x, foldedSetIterable iter X.env x = pure x)
    (h : tLc wi g tt te (own.map (·.2)) σ H Q)
    (hRR : ∀ D C s' m H', Inv X pins σ H' s' → Q (.ref D) H' → s'.heap.Ns C m → FpOk X pins H' C → compPost (model X.prog X.w) X.A X.xe use Qf (.ref D) C (.ok .next) s') :
    wpAny (model X.prog X.w) X.A (comprehension (.ListComp elt [⟨tg, iter, ifs, 0⟩] scope pos) scope X.env pos' (newList []) false (eval iter X.env) use) Qf X.xe s := by
  have hfree : ∀ y ∈ scope.names, y.2 = .free → ∃ c, X.env.cells.lookup y.1 = some c := fun y hy e => by
    rcases ok.free y hy e with k | k
    · exact I.ok.has _ (.inl k)
    · exact I.ok.has _ (.inr k)
  refine wpAny_comprehension_free (use := use) rfl hs (closure_ok hfree) ok.kind (fun y hy e => by rw [ok.uniq y hy, e])
    (thn (hi pins s σ H _ I h) fun xv s1 hx => thn hx fun itv s2 h2 => ?_)
  obtain ⟨it, fp, tn, J, H2, e, I2, T, st2, f2, q⟩ := h2
  subst e
  refine wpAny_newObj_type (newEnv_comp ?_) (by show 0 ≤ sizeLine; decide)
  generalize hD : s2.heap.objs.size = D
  have hDn : H2 D = none := I2.hok.fresh (Nat.le_of_eq hD)
  obtain ⟨W, ⟨m0, w0⟩, turn⟩ := q D hDn
  -- the new list
  generalize hs3 : ({ s2 with heap := s2.heap.push { cls := .type "list", data := .seq ([] : List Value).toArray } } : Shared) = s3
  have I3 : Inv X pins σ (upd H2 D (.lst [])) s3 := by
    rw [← hs3]
    refine I2.laid (t' := s2.toks) (fun b o e => Heap.get?_push_of_some _ e) (Nat.le_of_eq hD) ⟨Nat.zero_le _, [], 0, .nil, ?_⟩
    rw [← hD]
    exact Heap.get?_push_size _ rfl
  have h3 : s3.heap = s2.heap.push { cls := .type "list", data := .seq ([] : List Value).toArray } := by rw [← hs3]
  have sz : ∀ b ∈ fp, b < s2.heap.objs.size := fun b hb => by
    obtain ⟨o, e, _⟩ := T.obj _ _ st2 b hb
    exact Heap.lt_size e
  have f3 : ∀ b ∈ fp, FpOk X pins (upd H2 D (.lst [])) b ∧ b < s3.heap.objs.size := fun b hb => by
    have hlt := sz b hb
    refine ⟨⟨?_, (f2 b hb).2⟩, by rw [h3, Heap.size_push]; exact Nat.lt_succ_of_lt hlt⟩
    rw [upd_ne (by rw [← hD]; exact Nat.ne_of_lt hlt)]
    exact (f2 b hb).1
  have st3 : tn 0 s3.heap := T.keep _ _ _ st2 fun b _ o e => by rw [h3]; exact Heap.get?_push_of_some _ e
  have I4 := block_start I3 ok hN f3
  have pg := hg s3 (upd H2 D (.lst [])) s3.heap.objs.size (cellsFrom (s3.heap.objs.size + 1) scope.names (cloFrom X.env.cells scope.names [])) fp
  have pt := ht s3 (upd H2 D (.lst [])) s3.heap.objs.size (cellsFrom (s3.heap.objs.size + 1) scope.names (cloFrom X.env.cells scope.names [])) fp
  have pe := he s3 (upd H2 D (.lst [])) s3.heap.objs.size (cellsFrom (s3.heap.objs.size + 1) scope.names (cloFrom X.env.cells scope.names [])) fp
  show codeAny _ _ (.compStart (.ListComp elt [⟨tg, iter, ifs, 0⟩] scope pos) 0 (.ref it) (.ref D) (compEnvC scope (cellsFrom (s3.heap.objs.size + 1) scope.names (cloFrom X.env.cells scope.names [])) s3.heap.objs.size X.env)) (compPost (model X.prog X.w) X.A X.xe use Qf (.ref D) s3.heap.objs.size) { s3 with heap := pushCells (s3.heap.push { cls := .type "dict", data := .dict #[] }) scope.names }
  have nfp : ∀ b ∈ fp, (upd H2 D (.lst [])) b = none := fun b hb => (f3 b hb).1.1
  generalize hce : compEnvC scope (cellsFrom (s3.heap.objs.size + 1) scope.names (cloFrom X.env.cells scope.names [])) s3.heap.objs.size X.env = ce at I4 pg pt pe ⊢
  have cL : ce.locals = s3.heap.objs.size := by subst hce; rfl
  generalize hH3 : upd H2 D (.lst []) = H3 at I3 I4 pg pt pe w0 nfp f3
  generalize hs4 : ({ s3 with heap := pushCells (s3.heap.push { cls := .type "dict", data := .dict #[] }) scope.names } : Shared) = s4 at I4 ⊢
  have st4 : tn 0 s4.heap := T.keep _ _ _ st3 fun b _ o e => by rw [← hs4]; exact pushCells_keeps _ _ _ _ (Heap.get?_push_of_some _ e)
  have stat : ∀ {σ' : St} {H' : Hp} {s' : Shared}, Inv (X.blk s3 H3 scope ce fp) [] σ' H' s' → (∀ b ∈ fp, H' b = none) → ∀ b ∈ fp, FpOk (X.blk s3 H3 scope ce fp) [] H' b := fun {σ' H' s'} I' hn b hb =>
    ⟨hn b hb, (I'.ok.exf b hb).1, I'.ok.exfs b hb, .inl hb, fun x c e => (I'.ok.exf b hb).2 x c e, fun p hp => absurd (show p ∈ ([] : List (Addr × Obj)) ++ [] from hp) (by simp)⟩
  have loop : codeAny (model X.prog X.w) X.A (.compLoop (.ListComp elt [⟨tg, iter, ifs, 0⟩] scope pos) 0 (.ref it) (.ref D) ce) (compPost (model X.prog X.w) X.A X.xe use Qf (.ref D) s3.heap.objs.size) s4 := by
    refine compLoop_any (fun n s' => ∃ i H', Inv (X.blk s3 H3 scope ce fp) [] (wipe σ (own.map (·.2))) H' s' ∧ tn i s'.heap ∧ (∀ b ∈ fp, H' b = none) ∧ W i n H') ?_ m0 ⟨0, H3, I4, st4, nfp, w0⟩
    rintro n s5 ⟨i, H5, I5, st5, n5, w5⟩
    rcases turn i n H5 w5 with ⟨stop, qq⟩ | ⟨go, Nx, hNx, step⟩
    · have td := T.done (X.blk s3 H3 scope ce fp) rfl rfl rfl hc i [] s5 _ H5 (fun _ _ => False) I5 (stat I5 n5) st5 stop
      refine thnF td fun r s6 ⟨hr, I6⟩ => ?_
      subst hr
      -- back in the def's context
      have I7 : Inv X pins σ H5 s6 := I3.call' (ch := fp) I6.os I6.base I6.hok I6.bare fun b hb => ⟨(f3 b hb).1.2.2.2.1, (f3 b hb).1.2.1, (f3 b hb).1.2.2.2.2.1, (f3 b hb).1.2.2.2.2.2⟩
      have nC : H5 s3.heap.objs.size = none := by
        have z : H5 ce.locals = none := I6.free
        rw [cL] at z
        exact z
      obtain ⟨m, hn, _⟩ := I6.loc
      have hn : s6.heap.Ns ce.locals m := hn
      rw [cL] at hn
      exact hRR D s3.heap.objs.size s6 m H5 I7 qq hn (I3.fpOk (Nat.le_refl _) nC)
    · have ti := T.item (X.blk s3 H3 scope ce fp) rfl rfl rfl hc i [] s5 _ H5 (fun _ _ => False) I5 (stat I5 n5) st5 go
      refine thnF ti fun r s6 ⟨u, hr, h6⟩ => ?_
      subst hr
      refine thnF h6 fun _ s7 ⟨x, H7, I7, r7, y7, st7, n7⟩ => ?_
      have I7' := I7.pinned (stat I7 n7) (T.obj _ _ st7)
      refine thnF (pg _ s7 _ H7 x u _ I7' r7 (step x H7 y7)) fun _ s8 ⟨σ8, H8, I8, hw8, q8⟩ => ?_
      refine thnF (pt _ s8 σ8 H8 _ I8 q8) fun b s9 ⟨H9, I9, q9⟩ => ?_
      -- the turn's end
      have fin : ∀ {s' : Shared} {H' : Hp}, Inv (X.blk s3 H3 scope ce fp) ([] ++ pinsAt fp s7.heap) σ8 H' s' → Nx H' → ∃ m, m < n ∧ ∃ i H', Inv (X.blk s3 H3 scope ce fp) [] (wipe σ (own.map (·.2))) H' s' ∧ tn i s'.heap ∧ (∀ b ∈ fp, H' b = none) ∧ W i m H' := fun {s' H'} I' nx => by
        obtain ⟨m', hm, w'⟩ := hNx H' nx
        have pin' : ∀ b ∈ fp, ∀ o, s7.heap.get? b = some o → s'.heap.get? b = some o ∧ H' b = none := fun b hb o e =>
          let z := I'.pin (b, o) (List.mem_append_right _ (List.mem_append_right _ (mem_pinsAt hb e)))
          ⟨z.1, z.2.1⟩
        have hl : (wipe σ (own.map (·.2))).length = σ8.length := by rw [← hw8, wipe_length]
        refine ⟨m', hm, i + 1, H', (I'.unpinned (pins := [])).weak hl (fun j v e => ?_), T.keep _ _ _ st7 fun b hb o e => (pin' b hb o e).1, fun b hb => ?_, w'⟩
        · rw [← hw8] at e
          exact (wipe_some e).1
        · obtain ⟨o, e, _⟩ := T.obj _ _ st7 b hb
          exact (pin' b hb o e).2
      cases b with
      | false =>
        simp only [Bool.false_eq_true, if_false] at q9 ⊢
        exact fin I9 q9
      | true =>
        simp only [if_true] at q9 ⊢
        refine thnF (pe _ s9 σ8 H9 _ I9 q9) fun z s10 ⟨yv, H10, I10, r10, acc, hD10, hz10, nx⟩ => ?_
        exact app_ok (X := X.blk s3 H3 scope ce fp) I10 hD10 hz10 r10 fun s11 I11 => fin I11 nx
  exact codeAny_compStart_list loop (T.self X.A 0 _ _ _ st4 loop)
/-- as a value -/
theorem pe_lc {elt tg iter : Expr} {ifs : List Expr} {scope : Scope} {own : List (Str × Nat)} {pos : Pos} {wi : TI} {g : TG} {tt : TT} {te : TE} (hc : X.calm = true) (hN : X.N.Nodup) (hi : PI X tg iter wi) (ok : BlkOk X.N X.env.scope scope own)
    (hg : ∀ (s : Shared) (H : Hp) (C : Addr) (cl : List (Str × Addr)) (fp : List Addr), PG (X.blk s H scope (compEnvC scope cl C X.env) fp) tg g) (ht : ∀ (s : Shared) (H : Hp) (C : Addr) (cl : List (Str × Addr)) (fp : List Addr), PTs (X.blk s H scope (compEnvC scope cl C X.env) fp) ifs tt)
    (he : ∀ (s : Shared) (H : Hp) (C : Addr) (cl : List (Str × Addr)) (fp : List Addr), PE (X.blk s H scope (compEnvC scope cl C X.env) fp) elt te) (hs : ∀ x, foldedSetIterable iter X.env x = pure x := by intro _; rfl) :
    PE X (.ListComp elt [⟨tg, iter, ifs, 0⟩] scope pos) (tLc wi g tt te (own.map (·.2))) := by
  intro pins s σ H Q I h
  rw [eval_ListComp]
  refine lc_core hc hN I hi ok hg ht he hs h fun D C s' m H' I' q hn f => ⟨m, hn, fun h'' sb => ?_⟩
  obtain ⟨f0, f1, f2, f3, f4, f5⟩ := f
  exact ⟨.ref D, H', I'.turned (t' := s'.toks) (fun b o hb e => (sb.2 b hb).trans e) f0 f1 f3 f4 f5, rfl, q⟩
end

/-! ### the forms one uses -/
/-- over a range: Pv by the turn and the heap (the new list at D within) -/
theorem lc_range {lo : Int} {n : Nat} {g : TG} {tt : TT} {te : TE} {vs : List Nat} {σ : St} {H1 : Hp} {D : Addr} {Qd : Hp → Prop} (Pv : Nat → Hp → Prop) (h0 : Pv 0 (upd H1 D (.lst [])))
    (hs : ∀ i H, i < n → Pv i H → g (.int (lo + i)) (wipe σ vs) H fun σ2 H2 => wipe σ2 vs = wipe σ vs ∧ tt σ2 H2 fun b H3 =>
      if b = true then te σ2 H3 fun y H4 => ∃ acc, H4 D = some (.lst acc) ∧ acc.length < sizeLine ∧ Pv (i + 1) (upd H4 D (.lst (acc ++ [y]))) else Pv (i + 1) H3) (hd : ∀ H, Pv n H → Qd H) :
    ∃ W : Nat → Nat → Hp → Prop, (∃ m, W 0 m (upd H1 D (.lst []))) ∧ ∀ i m H, W i m H →
      ((Itr lo n).stop i H ∧ Qd H) ∨ ((Itr lo n).go i H ∧ ∃ Nx : Hp → Prop, (∀ H', Nx H' → ∃ m', m' < m ∧ W (i + 1) m' H') ∧ ∀ x H', (Itr lo n).yld i H x H' → g x (wipe σ vs) H' fun σ2 H2 => wipe σ2 vs = wipe σ vs ∧ tt σ2 H2 fun b H3 =>
        if b = true then te σ2 H3 fun y H4 => ∃ acc, H4 D = some (.lst acc) ∧ acc.length < sizeLine ∧ Nx (upd H4 D (.lst (acc ++ [y]))) else Nx H3) := by
  refine ⟨fun i m H => m = n - i ∧ i ≤ n ∧ Pv i H, ⟨n, by simp, Nat.zero_le _, h0⟩, ?_⟩
  rintro i m H ⟨rfl, hi, p⟩
  by_cases hlt : i < n
  · refine .inr ⟨hlt, Pv (i + 1), fun H' p' => ⟨n - (i + 1), by omega, rfl, hlt, p'⟩, fun x H' y => ?_⟩
    obtain ⟨e, y⟩ := y
    subst e y
    exact hs i _ hlt p
  · have e : i = n := by omega
    subst e
    exact .inl ⟨Nat.le_refl _, hd H p⟩
end L2

namespace L2
open PySem PySem.Spec PyProof.Rows

section
variable {prog : Program} {w : World} {A : Around} {R : Result → Shared → Prop} {s : Shared} {elt t0 i0 t1 i1 : Expr} {ifs0 ifs1 : List Expr} {scope : Scope} {pos : Pos} {it acc : Value} {env : Env}
end

section
variable {X : Cx}
end
end L2

namespace L2
open PySem PySem.Spec PyProof.Rows

/-! ### lists of pairs as tables -/
section
variable {κ : Type} [DecidableEq κ]
def valV (kvs : List (κ × V)) (k : κ) : Option V := (kvs.find? fun kv => decide (kv.1 = k)).map (·.2)
/-- in its place, or at the end -/
def putK (kvs : List (κ × V)) (k : κ) (v : V) : List (κ × V) :=
  if (kvs.any fun kv => decide (kv.1 = k)) = true then kvs.map (fun kv => if kv.1 = k then (kv.1, v) else kv) else kvs ++ [(k, v)]

theorem valV_pos {p : κ × V} {r : List (κ × V)} {k : κ} (e : p.1 = k) : valV (p :: r) k = some p.2 := by simp [valV, List.find?_cons, e]
theorem valV_neg {p : κ × V} {r : List (κ × V)} {k : κ} (e : ¬ p.1 = k) : valV (p :: r) k = valV r k := by simp [valV, List.find?_cons, e]
theorem valV_any (k : κ) : ∀ kvs : List (κ × V), (kvs.any fun kv => decide (kv.1 = k)) = (valV kvs k).isSome
  | [] => rfl
  | p :: r => by
    rw [List.any_cons]
    by_cases e : p.1 = k
    · simp only [valV_pos e, decide_eq_true e, Bool.true_or, Option.isSome_some]
    · rw [valV_neg e, decide_eq_false e, Bool.false_or]; exact valV_any k r
theorem valV_map (k j : κ) (y : V) : ∀ kvs : List (κ × V), valV (kvs.map fun kv => if kv.1 = k then (kv.1, y) else kv) j = (valV kvs j).map fun x => if j = k then y else x
  | [] => rfl
  | p :: r => by
    have ih := valV_map k j y r
    rw [List.map_cons]
    by_cases h : p.1 = k
    · rw [if_pos h]
      by_cases e : p.1 = j
      · rw [valV_pos (p := (p.1, y)) e, valV_pos e, Option.map_some, if_pos (e.symm.trans h)]
      · rw [valV_neg (p := (p.1, y)) e, valV_neg e, ih]
    · rw [if_neg h]
      by_cases e : p.1 = j
      · rw [valV_pos (p := p) e, valV_pos e, Option.map_some, if_neg (fun z => h (e.trans z))]
      · rw [valV_neg (p := p) e, valV_neg e, ih]
theorem valV_snoc (k j : κ) (y : V) : ∀ kvs : List (κ × V), valV kvs k = none → valV (kvs ++ [(k, y)]) j = if j = k then some y else valV kvs j
  | [], _ => by
    by_cases e : k = j
    · rw [if_pos e.symm]; exact valV_pos (p := (k, y)) e
    · rw [if_neg (fun z => e z.symm)]; exact valV_neg (p := (k, y)) e
  | p :: r, hn => by
    rw [List.cons_append]
    have hk : ¬ p.1 = k := fun z => by rw [valV_pos z] at hn; cases hn
    rw [valV_neg hk] at hn
    have ih := valV_snoc k j y r hn
    by_cases e : p.1 = j
    · rw [valV_pos e, valV_pos e, if_neg (fun z => hk (e.trans z))]
    · rw [valV_neg e, valV_neg e, ih]
theorem valV_put (kvs : List (κ × V)) (k j : κ) (y : V) : valV (putK kvs k y) j = if j = k then some y else valV kvs j := by
  unfold putK
  by_cases a : (kvs.any fun kv => decide (kv.1 = k)) = true
  · rw [if_pos a, valV_map]
    rw [valV_any] at a
    by_cases e : j = k
    · obtain ⟨x, hx⟩ := Option.isSome_iff_exists.mp a
      rw [if_pos e, e, hx, Option.map_some, if_pos rfl]
    · rw [if_neg e]
      cases valV kvs j with
      | none => rfl
      | some x => rw [Option.map_some, if_neg e]
  · rw [if_neg a]
    refine valV_snoc k j y kvs ?_
    rw [valV_any] at a
    cases q : valV kvs k with
    | none => rfl
    | some x => rw [q] at a; exact (a rfl).elim
theorem length_putK (kvs : List (κ × V)) (k : κ) (v : V) : (putK kvs k v).length ≤ kvs.length + 1 := by
  unfold putK
  split
  · rw [List.length_map]; omega
  · rw [List.length_append, List.length_cons, List.length_nil]; omega
theorem putK_new {kvs : List (κ × V)} {k : κ} (v : V) (h : valV kvs k = none) : putK kvs k v = kvs ++ [(k, v)] := by
  unfold putK
  rw [valV_any, h]
  exact if_neg (by decide)

theorem RelO.isSome_eq {o : Option V} {u : Option Value} (r : RelO o u) : o.isSome = u.isSome := by
  cases o with
  | none => cases u with
    | none => rfl
    | some _ => exact (show False from r).elim
  | some _ => cases u with
    | none => exact (show False from r).elim
    | some _ => rfl
theorem RelO.getD {o : Option V} {u : Option Value} {d : V} {d' : Value} (r : RelO o u) (rd : RelV d d') : RelV (o.getD d) (u.getD d') := by
  cases o with
  | none => cases u with
    | none => exact rd
    | some _ => exact (show False from r).elim
  | some _ => cases u with
    | none => exact (show False from r).elim
    | some _ => exact r

/-- raw tables of the same keys -/
theorem KV.val {kvs : List (κ × V)} {vs : List (κ × Value)} (r : KV kvs vs) (k : κ) : RelO (valV kvs k) (valueAt vs k) := by
  unfold KV at r
  induction r with
  | nil => exact True.intro
  | @cons p q ps qs h t ih =>
    obtain ⟨h1, h2⟩ := h
    by_cases e : p.1 = k
    · have e' : q.1 = k := h1.symm.trans e
      have b : valueAt (q :: qs) k = some q.2 := by simp [valueAt, List.find?_cons, e']
      rw [valV_pos e, b]; exact h2
    · have e' : ¬ q.1 = k := fun z => e (h1.trans z)
      have b : valueAt (q :: qs) k = valueAt qs k := by simp [valueAt, List.find?_cons, e']
      rw [valV_neg e, b]; exact ih
theorem KV.any {kvs : List (κ × V)} {vs : List (κ × Value)} (r : KV kvs vs) (k : κ) : (kvs.any fun kv => decide (kv.1 = k)) = vs.any fun kv => decide (kv.1 = k) := by
  unfold KV at r
  induction r with
  | nil => rfl
  | cons h t ih => rw [List.any_cons, List.any_cons, ih, h.1]
theorem KV.repl {kvs : List (κ × V)} {vs : List (κ × Value)} (r : KV kvs vs) (k : κ) {y : V} {u : Value} (ry : RelV y u) :
    KV (kvs.map fun kv => if kv.1 = k then (kv.1, y) else kv) (vs.map fun kv => if kv.1 = k then (kv.1, u) else kv) := by
  unfold KV at r ⊢
  induction r with
  | nil => exact .nil
  | @cons p q ps qs h t ih =>
    rw [List.map_cons, List.map_cons]
    refine .cons ?_ ih
    obtain ⟨h1, h2⟩ := h
    by_cases e : p.1 = k
    · rw [if_pos e, if_pos (h1.symm.trans e)]; exact ⟨h1, ry⟩
    · rw [if_neg e, if_neg (fun z => e (h1.trans z))]; exact ⟨h1, h2⟩
theorem KV.put {kvs : List (κ × V)} {vs : List (κ × Value)} (r : KV kvs vs) (k : κ) {y : V} {u : Value} (ry : RelV y u) : KV (putK kvs k y) (stored vs k u) := by
  unfold putK stored
  rw [r.any k]
  by_cases e : (vs.any fun kv => decide (kv.1 = k)) = true
  · rw [if_pos e, if_pos e]; exact r.repl k ry
  · rw [if_neg e, if_neg e]; exact Paired.snoc r ⟨rfl, ry⟩
theorem KV.length {kvs : List (κ × V)} {vs : List (κ × Value)} (r : KV kvs vs) : kvs.length = vs.length := Paired.length r
end

/-! ### a tracked dict, its keys ints and texts or tuples of these -/
theorem kV_is {P : Program} {w : World} {k : Key} {u : Value} (r : RelV (kV k) u) : (mixKind P w).is k u = true := by
  cases k with
  | inl i => obtain ⟨t, e⟩ := (show ∃ t, u = Value.int i t from r); subst e; exact mixKind_int P w i t
  | inr x => obtain ⟨t, e⟩ := (show ∃ t, u = Value.str x t from r); subst e; exact mixKind_str P w x t
theorem items_are {P : Program} {w : World} : ∀ {ks : List Key} {us : List Value}, Vals (ks.map kV) us → ItemsAre (mixKind P w) ks us
  | [], _, r => by rw [List.map_nil] at r; cases r; exact .nil
  | k :: ks, _, r => by
    rw [List.map_cons] at r
    cases r with
    | cons h t => exact .cons (kV_is h) (items_are t)

/-- raw entries of a dict with tuple keys -/
abbrev KT (H : Hp) : List (List Key × V) → List (List Key × Addr × Value) → Prop := Paired fun p q => p.1 = q.1 ∧ H q.2.1 = some (.tup (p.1.map kV)) ∧ RelV p.2 q.2.2
theorem KT.val {H : Hp} {kvs : List (List Key × V)} {xs : List (List Key × Addr × Value)} (r : KT H kvs xs) (k : List Key) : RelO (valV kvs k) ((atKey xs k).map (·.2)) := by
  induction r with
  | nil => exact True.intro
  | @cons p q ps qs h t ih =>
    obtain ⟨h1, _, h2⟩ := h
    by_cases e : p.1 = k
    · have e' : q.1 = k := h1.symm.trans e
      have b : atKey (q :: qs) k = some q.2 := by simp [atKey, List.find?_cons, e']
      rw [valV_pos e, b]; exact h2
    · have e' : ¬ q.1 = k := fun z => e (h1.trans z)
      have b : atKey (q :: qs) k = atKey qs k := by simp [atKey, List.find?_cons, e']
      rw [valV_neg e, b]; exact ih
theorem KT.repl {H : Hp} {kvs : List (List Key × V)} {xs : List (List Key × Addr × Value)} (r : KT H kvs xs) (k : List Key) {y : V} {u : Value} (ry : RelV y u) :
    KT H (kvs.map fun kv => if kv.1 = k then (kv.1, y) else kv) (xs.map (putAt k u)) := by
  induction r with
  | nil => exact .nil
  | @cons p q ps qs h t ih =>
    rw [List.map_cons, List.map_cons]
    refine .cons ?_ ih
    obtain ⟨h1, h2, h3⟩ := h
    unfold putAt
    by_cases e : p.1 = k
    · rw [if_pos e, if_pos (h1.symm.trans e)]; exact ⟨h1, h2, ry⟩
    · rw [if_neg e, if_neg (fun z => e (h1.trans z))]; exact ⟨h1, h2, h3⟩
theorem KT.put {H : Hp} {kvs : List (List Key × V)} {xs : List (List Key × Addr × Value)} (r : KT H kvs xs) (k : List Key) {b : Addr} {y : V} {u : Value} (hb : H b = some (.tup (k.map kV))) (ry : RelV y u) :
    KT H (putK kvs k y) (storedH xs k b u) := by
  have e : (kvs.any fun kv => decide (kv.1 = k)) = (atKey xs k).isSome := by
    rw [valV_any, (r.val k).isSome_eq, Option.isSome_map]
  unfold putK storedH
  rw [e]
  by_cases q : (atKey xs k).isSome = true
  · rw [if_pos q, if_pos q]; exact r.repl k ry
  · rw [if_neg q, if_neg q]; exact Paired.snoc r ⟨rfl, hb, ry⟩
theorem KT.keeps {H H' : Hp} {kvs : List (List Key × V)} {xs : List (List Key × Addr × Value)} (r : KT H kvs xs) (ht : ∀ b ys, H b = some (.tup ys) → H' b = some (.tup ys)) : KT H' kvs xs :=
  Paired.mapP r fun _ _ z => ⟨z.1, ht _ _ z.2.1, z.2.2⟩

section
variable {P : Program} {w : World} {H : Hp} {h : Heap} {a : Addr}
theorem rd_of {u : HO} (ok : HOk P w H h) (e : Rd H a u) : ObjOk P w H h a u := e.ok ok
theorem dk_rd {kvs : List (Key × V)} (ok : HOk P w H h) (e : Rd H a (.dK kvs)) : kvs.length ≤ sizeLine ∧ (a == sysModules) = false ∧ ∃ vs, KV kvs vs ∧ h.DictOf (mixKind P w) a vs :=
  show ObjOk P w H h a (.dK kvs) from rd_of ok e
theorem dk_of {kvs : List (Key × V)} (ok : HOk P w H h) (e : H a = some (.dK kvs)) : kvs.length ≤ sizeLine ∧ (a == sysModules) = false ∧ ∃ vs, KV kvs vs ∧ h.DictOf (mixKind P w) a vs := dk_rd ok (.inl e)
/-- a tracked tuple of ints and texts is a key -/
theorem key_of {ks : List Key} (ok : HOk P w H h) (e : H a = some (.tup (ks.map kV))) : (tupleKind (mixKind P w)).is h ks a := by
  obtain ⟨_, its, r, o, h1, h2, n, h3⟩ := (show ObjOk P w H h a (.tup (ks.map kV)) from ok a _ e)
  exact ⟨o, its.toArray, n, h1, h2, h3, by simpa using items_are r⟩
theorem dt_rd {kvs : List (List Key × V)} (ok : HOk P w H h) (e : Rd H a (.dT kvs)) : kvs.length ≤ sizeLine ∧ (a == sysModules) = false ∧
    ∃ xs, KT H kvs xs ∧ h.DictOfH (tupleKind (mixKind P w)) a xs := by
  obtain ⟨z, y, xs, r, o, es, ep, h1, h2, h3, h4, h5⟩ := (show ObjOk P w H h a (.dT kvs) from rd_of ok e)
  refine ⟨z, y, xs, r, o, es, ep, h1, h2, h3, h4, fun x hx => ?_, h5⟩
  have all : ∀ {l : List (List Key × V)} {m : List (List Key × Addr × Value)}, KT H l m → ∀ x ∈ m, (tupleKind (mixKind P w)).is h x.1 x.2.1 := by
    intro l m q
    induction q with
    | nil => intro x hx; exact nomatch hx
    | @cons p q ps qs hq t ih =>
      intro x hx
      rcases List.mem_cons.mp hx with e | hx
      · subst e
        exact key_of ok (by rw [← hq.1]; exact hq.2.1)
      · exact ih x hx
  exact all r x hx
theorem dt_of {kvs : List (List Key × V)} (ok : HOk P w H h) (e : H a = some (.dT kvs)) : kvs.length ≤ sizeLine ∧ (a == sysModules) = false ∧
    ∃ xs, KT H kvs xs ∧ h.DictOfH (tupleKind (mixKind P w)) a xs := dt_rd ok (.inl e)
end

/-- what the dict at a holds at the key y -/
def DGet (H : Hp) (a : Addr) (y : V) (r : Option V) : Prop :=
  (∃ kvs k, Rd H a (.dK kvs) ∧ y = kV k ∧ r = valV kvs k) ∨ ∃ kvs k b, Rd H a (.dT kvs) ∧ y = .ref b ∧ H b = some (.tup (k.map kV)) ∧ r = valV kvs k
/-- the heap behind a[y] = v -/
def DPut (H : Hp) (a : Addr) (y v : V) (H' : Hp) : Prop :=
  (∃ kvs k, H a = some (.dK kvs) ∧ y = kV k ∧ kvs.length < sizeLine ∧ H' = upd H a (.dK (putK kvs k v))) ∨
  ∃ kvs k b, H a = some (.dT kvs) ∧ y = .ref b ∧ H b = some (.tup (k.map kV)) ∧ kvs.length < sizeLine ∧ H' = upd H a (.dT (putK kvs k v))
theorem DGet.k {H : Hp} {a : Addr} {kvs : List (Key × V)} {k : Key} (e : H a = some (.dK kvs)) : DGet H a (kV k) (valV kvs k) := .inl ⟨kvs, k, .inl e, rfl, rfl⟩
theorem DGet.t {H : Hp} {a b : Addr} {kvs : List (List Key × V)} {k : List Key} (e : H a = some (.dT kvs)) (eb : H b = some (.tup (k.map kV))) : DGet H a (.ref b) (valV kvs k) := .inr ⟨kvs, k, b, .inl e, rfl, eb, rfl⟩
theorem DPut.k {H : Hp} {a : Addr} {kvs : List (Key × V)} {k : Key} {v : V} (e : H a = some (.dK kvs)) (hl : kvs.length < sizeLine) : DPut H a (kV k) v (upd H a (.dK (putK kvs k v))) := .inl ⟨kvs, k, e, rfl, hl, rfl⟩
theorem DPut.t {H : Hp} {a b : Addr} {kvs : List (List Key × V)} {k : List Key} {v : V} (e : H a = some (.dT kvs)) (eb : H b = some (.tup (k.map kV))) (hl : kvs.length < sizeLine) :
    DPut H a (.ref b) v (upd H a (.dT (putK kvs k v))) := .inr ⟨kvs, k, b, e, rfl, eb, hl, rfl⟩

section
variable {X : Cx} {pins : List (Addr × Obj)} {σ : St} {H : Hp} {s : Shared} {a : Addr} {y v : V} {u r : Value} {o : Option V} {A : Around} {E : Value → Shared → Prop}

theorem Inv.big (I : Inv X pins σ H s) : sysModules < s.heap.objs.size := by
  have h : mainGlobals < s.heap.objs.size := (I.mod.glob.keeps I.bk).lt
  exact Nat.lt_trans (by decide) h

/-- d[y], there -/
theorem d_getItem {Q : Value → Shared → Prop} (hu : A.units + 1 < cLine) (I : Inv X pins σ H s) (g : DGet H a y (some v)) (ry : RelV y u) (h : ∀ w' s', Inv X pins σ H s' → RelV v w' → Q w' s') :
    wpAny (model X.prog X.w) A (getItem (.ref a) u) Q E s := by
  rcases g with ⟨kvs, k, e, ey, l⟩ | ⟨kvs, k, b, e, ey, eb, l⟩
  · subst ey
    obtain ⟨z, hd, vs, rel, dd⟩ := dk_rd I.hok e
    obtain ⟨w', hw, rw'⟩ := RelO.some_of (v := v) (o := valueAt vs k) (by rw [l]; exact rel.val k)
    exact wpAny_getItem_of (kV_is ry) dd.mapOf hw (h w' _ (I.tok _) rw')
  · subst ey
    cases (show u = Value.ref b from ry)
    obtain ⟨z, hd, xs, rel, dd⟩ := dt_rd I.hok e
    obtain ⟨w', hw, rw'⟩ := RelO.some_of (v := v) (o := (atKey xs k).map (·.2)) (by rw [l]; exact rel.val k)
    obtain ⟨p, hp, hp2⟩ := Option.map_eq_some_iff.mp hw
    refine wpAny_getItem_heap (tupleKind_room_in1 hu) (key_of I.hok eb) dd hp ?_
    rw [hp2]
    exact h w' _ (I.tok _) rw'
/-- y in d -/
theorem d_in {Q : Value → Shared → Prop} (hu : A.units + 1 < cLine) (I : Inv X pins σ H s) (g : DGet H a y o) (ry : RelV y u) (h : ∀ s', Inv X pins σ H s' → Q (.bool o.isSome) s') :
    wpAny (model X.prog X.w) A (compareOp .In u (.ref a)) Q E s := by
  rcases g with ⟨kvs, k, e, ey, l⟩ | ⟨kvs, k, b, e, ey, eb, l⟩
  · subst ey
    obtain ⟨z, hd, vs, rel, dd⟩ := dk_rd I.hok e
    refine wpAny_in_of (kV_is ry) hd dd.mapOf ?_
    rw [← (rel.val k).isSome_eq, ← l]
    exact h _ (I.tok _)
  · subst ey
    cases (show u = Value.ref b from ry)
    obtain ⟨z, hd, xs, rel, dd⟩ := dt_rd I.hok e
    refine wpAny_in_heap (tupleKind_room_in1 hu) (key_of I.hok eb) hd dd ?_
    have q := (rel.val k).isSome_eq
    rw [Option.isSome_map] at q
    rw [← q, ← l]
    exact h _ (I.tok _)
/-- a dict's object is replaced -/
theorem d_write {h' : Heap} {t' : Nat} {ob : HO} (I : Inv X pins σ H s) (mu : Mut (H a)) (hs : Heap.SameBut a s.heap h') (he : ∃ q, h'.get? a = some q) (new : ObjOk X.prog X.w (upd H a ob) h' a ob) :
    Inv X pins σ (upd H a ob) { s with heap := h', toks := t' } :=
  I.write (x := a) (e := a) mu (.inl rfl) (fun b q hb z => (hs.2 b hb).trans z) he new
theorem dk_new {P : Program} {w : World} {H' : Hp} {h' : Heap} {kvs : List (Key × V)} {vs : List (Key × Value)} (z : kvs.length ≤ sizeLine) (hd : (a == sysModules) = false) (rel : KV kvs vs) (dd : h'.DictOf (mixKind P w) a vs) :
    ObjOk P w H' h' a (.dK kvs) := ⟨z, hd, vs, rel, dd⟩
/-- d[y] = v -/
theorem d_setItem {H' : Hp} {Q : Unit → Shared → Prop} (hu : A.units + 1 < cLine) (I : Inv X pins σ H s) (g : DPut H a y v H') (ry : RelV y u) (rv : RelV v r) (h : ∀ s', Inv X pins σ H' s' → Q () s') :
    wpAny (model X.prog X.w) A (setItem (.ref a) u r) Q E s := by
  rcases g with ⟨kvs, k, e, ey, l, eH⟩ | ⟨kvs, k, b, e, ey, eb, l, eH⟩
  · subst ey eH
    obtain ⟨z, hd, vs, rel, dd⟩ := dk_of I.hok e
    have hz : vs.length ≤ sizeLine := by rw [← rel.length]; exact z
    have hl : (putK kvs k v).length ≤ sizeLine := by have := length_putK kvs k v; omega
    refine wpAny_setItem_pairs (hsz := hz) (kV_is ry) dd fun h' dd' hs => h _ ?_
    have he : ∃ q, h'.get? a = some q := let ⟨q, _, _, hq, _⟩ := dd'; ⟨q, hq⟩
    exact d_write I (by rw [e]; exact True.intro) hs he (dk_new hl hd (rel.put k rv) dd')
  · subst ey eH
    cases (show u = Value.ref b from ry)
    obtain ⟨z, hd, xs, rel, dd⟩ := dt_of I.hok e
    have hz : xs.length ≤ sizeLine := by rw [← Paired.length rel]; exact z
    have hl : (putK kvs k v).length ≤ sizeLine := by have := length_putK kvs k v; omega
    refine wpAny_setItem_heap (hsz := hz) (tupleKind_room_in1 hu) (key_of I.hok eb) dd fun h' dd' hs => h _ ?_
    obtain ⟨q, es, ep, hq, h2, h3, h4, _, h5⟩ := dd'
    refine d_write I (by rw [e]; exact True.intro) hs ⟨q, hq⟩ ⟨hl, hd, _, (rel.put k eb rv).keeps fun c ys ec => ?_, q, es, ep, hq, h2, h3, h4, h5⟩
    rw [upd_ne (ne_of ec e (fun z => nomatch z))]
    exact ec
end

section
variable {X : Cx} {pins : List (Addr × Obj)} {σ : St} {H : Hp} {s : Shared} {a : Addr} {kvs : List (Key × V)} {k : Key} {u : Value} {A : Around} {E : Value → Shared → Prop}
end

/-! ### readings and rules -/
/-- the element of a subscription, not a slice -/
def NoSl (i : Expr) : Prop := ∀ ov iv, subscripted i false ov iv = operate [ov, iv] (getItem ov iv)
theorem subD_of {prog : Program} {w : World} {A : Around} {E : Value → Shared → Prop} {s : Shared} {env : Env} {value slice : Expr} {pos : Pos} {T id : String} {Q : Value → Shared → Prop}
    (hl : typeLookup (.type T) "__getitem__" = pure (some (.builtin id))) (hs : NoSl slice)
    (h : wpAny (model prog w) A (eval value env) (fun o s₁ => wpAny (model prog w) A (eval slice env) (fun i s₂ => s₂.TypeIs o T ∧ wpAny (model prog w) A (getItem o i) Q E s₂) E s₁) E s) :
    wpAny (model prog w) A (eval (.Subscript value slice pos) env) Q E s := by
  refine Subscript_ (wpAny_mono h (fun o s₁ h₁ => wpAny_mono h₁ (fun i s₂ h₂ => ?_) fun _ _ x => x) fun _ _ x => x)
  obtain ⟨hT, h₂⟩ := h₂
  unfold subscriptTail
  refine wpAny_bind ?_
  rw [getitemInPython_of_ne hT.not_modules]
  refine wpAny_bind (wpAny_specialOf hT hl ?_)
  have fin : wpAny (model prog w) A (subscripted slice false o i) (fun r s₃ => wpAny (model prog w) A (letTemporaryGo value o r >>= fun _ => pure r) Q E s₃) E s₂ := by
    rw [hs o i]
    exact wpAny_operating (wpAny_mono h₂ (fun r s₃ h₃ => wpAny_bind (wpAny_letTemporaryGo (wpAny_pure h₃))) fun _ _ x => x)
  first
    | exact wpAny_pure (wpAny_bind fin)
    | exact wpAny_bind (wpAny_pure (wpAny_bind fin))
    | exact wpAny_bind fin

theorem dict_typeIs {X : Cx} {pins : List (Addr × Obj)} {σ : St} {H : Hp} {s : Shared} {a : Addr} {y : V} {o : Option V} (I : Inv X pins σ H s) (g : DGet H a y o) : s.TypeIs (.ref a) "dict" := by
  rcases g with ⟨kvs, k, e, _, _⟩ | ⟨kvs, k, b, e, _, _, _⟩
  · obtain ⟨_, _, vs, _, dd⟩ := dk_rd I.hok e
    exact dd.typeIs
  · obtain ⟨_, _, xs, _, dd⟩ := dt_rd I.hok e
    exact dd.typeIs

/-- d[y] -/
def tDGet (td ty : TE) : TE := fun σ H Q => td σ H fun x H1 => ty σ H1 fun y H2 => ∃ a v, x = .ref a ∧ DGet H2 a y (some v) ∧ Q v H2
/-- y in d, y not in d -/
inductive DInI (y : V) (Q : VK) (x : V) (H : Hp) : Prop
  | mk (a : Addr) (o : Option V) (e : x = .ref a) (g : DGet H a y o) (q : Q (.bl o.isSome) H) : DInI y Q x H
def tDIn (ty td : TE) : TE := fun σ H Q => ty σ H fun y H1 => td σ H1 (DInI y Q)
/-- d[y] = v -/
def sDPut (td ty tv : TE) : TS := fun D σ H => tv σ H fun v H1 => td σ H1 fun x H2 => ty σ H2 fun y H3 => ∃ a H4, x = .ref a ∧ DPut H3 a y v H4 ∧ D.nx σ H4
/-- d[y] op= v -/
def sDAug (td ty tv : TE) (rd : V → V → Hp → VK → Prop) : TS := fun D σ H => td σ H fun x H1 => ty σ H1 fun y H2 => ∃ a v, x = .ref a ∧ DGet H2 a y (some v) ∧
  tv σ H2 fun y2 H3 => rd v y2 H3 fun z H4 => ∃ H5, DPut H4 a y z H5 ∧ D.nx σ H5

section
variable {X : Cx} {o i e value : Expr} {pos pos' tpos : Pos} {td ty tv : TE}
theorem pe_dget (hu : X.A.units + 1 < cLine) (ho : PE X o td) (hi : PE X i ty) (hs : NoSl i) : PE X (.Subscript o i pos) (tDGet td ty) := by
  intro pins s σ H Q I h
  refine subD_of PySem.F.slot_dict_getitem.lookup hs (thn (ho pins s σ H _ I h) fun u s1 ⟨x, H1, I1, rx, q1⟩ => thn (hi pins s1 σ H1 _ I1 q1) fun iv s2 ⟨y, H2, I2, ry, a, v, ex, g, q2⟩ => ?_)
  subst ex
  obtain rfl : u = Value.ref a := rx
  exact ⟨dict_typeIs I2 g, d_getItem hu I2 g ry fun w' s3 I3 rw' => ⟨v, H2, I3, rw', q2⟩⟩
theorem pc_din (hu : X.A.units + 1 < cLine) (hi : PE X i ty) (ho : PE X o td) : PC X .In i o (tDIn ty td) := by
  intro pins s σ H Q I h
  refine thn (hi pins s σ H _ I h) fun iv s1 ⟨y, H1, I1, ry, q1⟩ => thn (ho pins s1 σ H1 _ I1 q1) fun u s2 ⟨x, H2, I2, rx, a, ov, ex, g, q2⟩ => ?_
  subst ex
  obtain rfl : u = Value.ref a := rx
  exact d_in hu I2 g ry fun s3 I3 => ⟨.bl ov.isSome, H2, I3, rfl, q2⟩
theorem ps_dput (hu : X.A.units + 1 < cLine) (ho : PE X o td) (hi : PE X i ty) (hv : PE X value tv) (hs : swapsWith value (some (.Subscript o i pos')) pos.line X.env = pure false) :
    PS X (.Assign [.Subscript o i pos'] value pos) (sDPut td ty tv) := by
  intro pins s σ H D I h
  refine wpAny_Assign_Subscript (thn (hv pins s σ H _ I h) fun r s1 ⟨v, H1, I1, rv, q1⟩ => thn (ho pins s1 σ H1 _ I1 q1) fun u s2 ⟨x, H2, I2, rx, q2⟩ => thn (hi pins s2 σ H2 _ I2 q2) fun iv s3 ⟨y, H3, I3, ry, a, H4, ex, g, q3⟩ => ?_) hs
  subst ex
  obtain rfl : u = Value.ref a := rx
  exact d_setItem hu I3 g ry rv fun s4 I4 => ⟨σ, H4, I4, q3⟩
theorem ps_daug {op : Operator} {rd : V → V → Hp → VK → Prop} (hu : X.A.units + 1 < cLine) (ho : PE X o td) (hi : PE X i ty) (hv : PE X value tv) (hop : InOp X op rd)
    (ha : ∀ ov iv new, augStore i ov iv new = (do holding [new, ov, iv] (setItem ov iv new); release [new, ov, iv] []; pure .next)) : PS X (.AugAssign (.Subscript o i tpos) op value pos) (sDAug td ty tv rd) := by
  intro pins s σ H D I h
  refine wpAny_AugAssign_SubscriptAny (thn (ho pins s σ H _ I h) fun u s1 ⟨x, H1, I1, rx, q1⟩ => thn (hi pins s1 σ H1 _ I1 q1) fun iv s2 ⟨y, H2, I2, ry, a, v, ex, g, q2⟩ => ?_) ha
  subst ex
  obtain rfl : u = Value.ref a := rx
  refine d_getItem hu I2 g ry fun w' s3 I3 rw' => thn (hv pins s3 σ H2 _ I3 q2) fun w2 s4 ⟨y2, H3, I4, ry2, q3⟩ => thn (hop pins s4 σ H3 v y2 w' w2 _ I4 rw' ry2 q3) fun w3 s5 ⟨z, H4, I5, rz, H5, g5, q4⟩ => ?_
  exact d_setItem hu I5 g5 ry rz fun s6 I6 => ⟨σ, H5, I6, q4⟩
end

/-! ### displays -/
theorem dk_empty {P : Program} {w : World} {H : Hp} (h : Heap) (hb : sysModules < h.objs.size) : ObjOk P w H (h.push { cls := .type "dict", data := .dict #[] }) h.objs.size (.dK []) :=
  ⟨Nat.zero_le _, beq_eq_false_iff_ne.mpr (Ne.symm (Nat.ne_of_lt hb)), [], .nil, Heap.DictOf.new h⟩
theorem dt_empty {P : Program} {w : World} {H : Hp} (h : Heap) (hb : sysModules < h.objs.size) : ObjOk P w H (h.push { cls := .type "dict", data := .dict #[] }) h.objs.size (.dT []) :=
  ⟨Nat.zero_le _, beq_eq_false_iff_ne.mpr (Ne.symm (Nat.ne_of_lt hb)), [], .nil, _, #[], 0, Heap.get?_push_size _ rfl, ⟨rfl, rfl, rfl⟩, rfl, rfl, List.nodup_nil⟩
/-- {}, to be a dict of the kind that is wanted -/
def tDNewK : TE := fun _ H Q => ∀ p, H p = none → Q (.ref p) (upd H p (.dK []))
def tDNewT : TE := fun _ H Q => ∀ p, H p = none → Q (.ref p) (upd H p (.dT []))
section
variable {X : Cx} {pos : Pos}
theorem pe_dnewK : PE X (.Dict [] [] pos) tDNewK := fun pins s σ H Q I h =>
  wpAny_Dict_empty ⟨.ref s.heap.objs.size, _, I.laid (a := s.heap.objs.size) (o := .dK []) (t' := s.toks) (fun _ _ q => Heap.get?_push_of_some _ q) (Nat.le_refl _) (dk_empty s.heap I.big), rfl, h _ (I.hok.fresh (Nat.le_refl _))⟩
theorem pe_dnewT : PE X (.Dict [] [] pos) tDNewT := fun pins s σ H Q I h =>
  wpAny_Dict_empty ⟨.ref s.heap.objs.size, _, I.laid (a := s.heap.objs.size) (o := .dT []) (t' := s.toks) (fun _ _ q => Heap.get?_push_of_some _ q) (Nat.le_refl _) (dt_empty s.heap I.big), rfl, h _ (I.hok.fresh (Nat.le_refl _))⟩
end

/-! ### methods -/
structure M2 (X : Cx) (o : Expr) (m : Str) (apos : Pos) (e f : Expr) (cpos : Pos) : Prop where
  base : attributeBase o m X.env (eval o X.env) = eval o X.env
  few : ((backTo cpos (starEach [e, f] X.env)).all (fun x => !x.1) && (backToKw cpos (keywordEach [] X.env)).all (fun x => x.1.isSome)
    && decide (([e, f] : List Expr).length + ([] : List Keyword).length + (if ([] : List Keyword).isEmpty then 0 else 1) < 30)) = true
  line : (apos.endLine == cpos.line) = true
  trees : backTo cpos (starEach [e, f] X.env) = [(false, eval e X.env), (false, eval f X.env)]

/-- a is a dict, whatever its keys -/
def IsD (H : Hp) (a : Addr) : Prop := (∃ kvs, Rd H a (.dK kvs)) ∨ ∃ kvs, Rd H a (.dT kvs)
theorem isD_at {X : Cx} {pins : List (Addr × Obj)} {σ : St} {H : Hp} {s : Shared} {a : Addr} (I : Inv X pins σ H s) (d : IsD H a) :
    s.TypeIs (.ref a) "dict" ∧ (∀ b, Value.ref a = .ref b → ∃ ob, s.heap.get? b = some ob ∧ ob.dict = none) ∧ (a == sysModules) = false := by
  rcases d with ⟨kvs, e⟩ | ⟨kvs, e⟩
  · obtain ⟨_, hd, vs, _, dd⟩ := dk_rd I.hok e
    refine ⟨dd.typeIs, fun b q => ?_, hd⟩
    cases q
    obtain ⟨ob, _, _, h1, h2, _⟩ := dd
    exact ⟨ob, h1, h2.2.1⟩
  · obtain ⟨_, hd, xs, _, dd⟩ := dt_rd I.hok e
    refine ⟨dd.typeIs, fun b q => ?_, hd⟩
    cases q
    obtain ⟨ob, _, _, h1, h2, _⟩ := dd
    exact ⟨ob, h1, h2.2.1⟩

section
variable {X : Cx} {pins : List (Addr × Obj)} {σ : St} {H : Hp} {s : Shared} {a : Addr} {y d : V} {u r : Value} {o : Option V} {A : Around} {E : Value → Shared → Prop}
/-- d.get(y, x) -/
theorem d_get2 {Q : Value → Shared → Prop} (hu : A.units + 1 < cLine) (I : Inv X pins σ H s) (g : DGet H a y o) (ry : RelV y u) (rd : RelV d r) (h : ∀ w' s', Inv X pins σ H s' → RelV (o.getD d) w' → Q w' s') :
    wpAny (model X.prog X.w) A (call (.builtin "dict.get") [.ref a, u, r]) Q E s := by
  rcases g with ⟨kvs, k, e, ey, l⟩ | ⟨kvs, k, b, e, ey, eb, l⟩
  · subst ey
    obtain ⟨z, hd, vs, rel, dd⟩ := dk_rd I.hok e
    refine call_meetsIn PySem.F.slot_dict_get dd.typeIs PySem.F.entry_dict_get (PySem.F.args_dict_get_3 _ _ _) (meets_dict_get_default (mixKind X.prog X.w) a (kV_is ry) hd r) ⟨_, dd.mapOf, h _ _ (I.tok _) ?_⟩
    rw [l]
    exact (rel.val k).getD rd
  · subst ey
    cases (show u = Value.ref b from ry)
    obtain ⟨z, hd, xs, rel, dd⟩ := dt_rd I.hok e
    refine call_meetsIn PySem.F.slot_dict_get dd.typeIs PySem.F.entry_dict_get (PySem.F.args_dict_get_3 _ _ _) (meetsH_dict_get_default (tupleKind (mixKind X.prog X.w)) a b hd r) ⟨tupleKind_room_in1 hu, k, xs, key_of I.hok eb, dd, h _ _ (I.tok _) ?_⟩
    rw [l]
    exact (rel.val k).getD rd
end

def tDGet2 (td ty tx : TE) : TE := fun σ H Q => td σ H fun x H1 => ∃ a, x = .ref a ∧ IsD H1 a ∧ ty σ H1 fun y H2 => tx σ H2 fun z H3 => ∃ o, DGet H3 a y o ∧ Q (o.getD z) H3
section
variable {X : Cx} {o e f : Expr} {apos cpos : Pos} {td ty tx : TE}
theorem pe_dget2 (hu : X.A.units + 1 < cLine) (ho : PE X o td) (he : PE X e ty) (hf : PE X f tx) (m : M2 X o "get" apos e f cpos) : PE X (.Call (.Attribute o "get" apos) [e, f] [] cpos) (tDGet2 td ty tx) := by
  intro pins s σ H Q I h
  refine wpAny_Call_method m.base m.few m.line PySem.F.plainAttrs_dict PySem.F.slot_dict_get PySem.F.type_dict_get (thn (ho pins s σ H _ I h) fun u s1 ⟨x, H1, I1, rx, a, ex, d, q1⟩ => ?_)
  subst ex
  obtain rfl : u = Value.ref a := rx
  obtain ⟨t1, t2, _⟩ := isD_at I1 d
  refine ⟨t1, t2, ?_⟩
  rw [m.trees]
  refine Calls.callWith_builtin rfl (Calls.evalArgs_plain (Calls.spliced_cons (thn (he pins s1 σ H1 _ I1 q1) fun iv s2 ⟨y, H2, I2, ry, q2⟩ =>
    Calls.spliced_cons (thn (hf pins s2 σ H2 _ I2 q2) fun fv s3 ⟨z, H3, I3, rz, ov, g, q3⟩ => Calls.spliced_nil ?_))))
  exact d_get2 hu I3 g ry rz fun w' s4 I4 rw' => ⟨_, H3, I4, rw', q3⟩
end

/-! ### dict(d): a copy -/
section
variable {X : Cx} {pins : List (Addr × Obj)} {σ : St} {H : Hp} {s : Shared} {a : Addr} {kvs : List (Key × V)} {A : Around} {E : Value → Shared → Prop}
end

section
variable {X : Cx} {pins : List (Addr × Obj)} {σ : St} {H : Hp} {s : Shared} {a : Addr} {y : V} {u : Value} {A : Around} {E : Value → Shared → Prop}
end
end L2

namespace L2
open PySem PySem.Spec PyProof.Rows

section
variable {prog : Program} {w : World} {A : Around} {E : Value → Shared → Prop}

end

section
variable {X : Cx}
end
end L2

namespace L2
open PySem PySem.Spec PyProof.Rows

section
variable {X : Cx} {pins : List (Addr × Obj)} {σ : St} {H : Hp} {s : Shared} {h' : Heap}

/-! ### locking a thing while a statement runs -/
theorem Inv.lock {d : Addr} {u : HO} (I : Inv X pins σ H s) (h : H d = some u) (mu : Mut (some u)) : ∃ od, Inv X pins σ (upd H d (.frz od u)) s := by
  have x := I.hok d u h
  have ex : ∃ od, s.heap.get? d = some od := by
    cases u with
    | lst xs => obtain ⟨_, _, _, _, e⟩ := x; exact ⟨_, e⟩
    | dK kvs => obtain ⟨_, _, _, _, o, _, _, e, _⟩ := x; exact ⟨o, e⟩
    | dT kvs => obtain ⟨_, _, _, _, o, _, _, e, _⟩ := x; exact ⟨o, e⟩
    | set S n => obtain ⟨o, _, _, _, e, _⟩ := x; exact ⟨o, e⟩
    | ins C dx fs => obtain ⟨_, _, _, e, _⟩ := x; exact ⟨_, e⟩
    | ext φ => obtain ⟨_, ⟨_, e⟩, _⟩ := x; exact ⟨_, e⟩
    | _ => exact False.elim mu
  obtain ⟨od, e⟩ := ex
  have new : ObjOk X.prog X.w (upd H d (.frz od u)) s.heap d (.frz od u) := by
    refine ⟨e, x.stay (fun b v _ q => q) (fun b q => ?_) fun b xs q => ?_⟩
    · rw [upd_ne (fun z => by rw [z, h] at q; cases q; exact mu)]; exact q
    · rw [upd_ne (fun z => by rw [z, h] at q; cases q; exact mu)]; exact q
  exact ⟨od, I.write (x := d) (e := d) (t' := s.toks) (h' := s.heap) (by rw [h]; exact mu) (.inl rfl) (fun b v _ q => q) ⟨od, e⟩ new⟩
theorem Inv.nofrz {d : Addr} {u : HO} (I : Inv X pins σ H s) (h : H d = some u) (mu : Mut (some u)) : ∀ o' u', X.H_0 d ≠ some (.frz o' u') := fun o' u' e => by
  have q := I.base.frzs d o' u' e
  rw [h] at q
  cases q
  exact mu
theorem Inv.unlock {d : Addr} {od : Obj} {u : HO} (I : Inv X pins σ H s) (h : H d = some (.frz od u)) (hn : ∀ o' u', X.H_0 d ≠ some (.frz o' u')) : Inv X pins σ (upd H d u) s := by
  have neH : ∀ b o, H b = some o → (∀ o' u', o ≠ .frz o' u') → b ≠ d := fun b o e hne z => by
    rw [z, h] at e
    cases e
    exact hne _ _ rfl
  have neN : ∀ b, H b = none → b ≠ d := fun b e z => by rw [z, h] at e; cases e
  refine ⟨I.ok, I.os, I.bare, ⟨I.base.keep, I.base.slot, fun b o e n hx => ?_, I.base.there, fun b xs e => ?_, fun b o x e => ?_, fun b ps e => ?_⟩, I.loc, I.cell, ?_, fun x c e => ?_, fun p hp => ?_, fun b o e => ?_, I.len⟩
  · rw [upd_ne (neN b (I.base.free b o e n hx))]; exact I.base.free b o e n hx
  · have q := I.base.tups b xs e
    rw [upd_ne (neH b _ q (fun _ _ z => nomatch z))]; exact q
  · have q := I.base.frzs b o x e
    rw [upd_ne (fun z => by rw [z] at e; exact hn _ _ e)]; exact q
  · obtain ⟨m, q⟩ := I.base.tbls b ps e
    exact ⟨m, by rw [upd_ne (neH b _ q (fun _ _ z => nomatch z))]; exact q⟩
  · rw [upd_ne (neN _ I.free)]; exact I.free
  · rw [upd_ne (neN c (I.freeC x c e))]; exact I.freeC x c e
  · obtain ⟨e, n, r⟩ := I.pin p hp
    exact ⟨e, by rw [upd_ne (neN _ n)]; exact n, r⟩
  · by_cases hb : b = d
    · rw [hb, upd_same] at e
      cases e
      rw [hb]
      obtain ⟨_, x⟩ := I.hok d _ h
      exact x.stay (fun c v _ q => q) (fun c q => by rw [upd_ne (neH c _ q (fun _ _ z => nomatch z))]; exact q) fun c xs q => by rw [upd_ne (neH c _ q (fun _ _ z => nomatch z))]; exact q
    · rw [upd_ne hb] at e
      exact (I.hok b o e).stay (fun c v _ q => q) (fun c q => by rw [upd_ne (neH c _ q (fun _ _ z => nomatch z))]; exact q) fun c xs q => by rw [upd_ne (neH c _ q (fun _ _ z => nomatch z))]; exact q
end
/-- the statement runs while the thing at d is locked (read, not written); d and what stands there are the reading's choice -/
def tLock (t : TS) : TS := fun D σ H => ∃ d u, H d = some u ∧ Mut (some u) ∧ ∀ od, t ⟨fun σ' H' => H' d = some (.frz od u) ∧ D.nx σ' (upd H' d u), fun v H' => H' d = some (.frz od u) ∧ D.rt v (upd H' d u), fun σ' H' => H' d = some (.frz od u) ∧ D.bk σ' (upd H' d u), fun σ' H' => H' d = some (.frz od u) ∧ D.ct σ' (upd H' d u)⟩ σ (upd H d (.frz od u))
section
variable {X : Cx}
theorem ps_lock {st : Stmt} {t : TS} (h : PS X st t) : PS X st (tLock t) := by
  intro pins s σ H D I hw
  obtain ⟨d, u, hd, mu, hw⟩ := hw
  obtain ⟨od, I1⟩ := I.lock hd mu
  refine thn (h pins s σ _ _ I1 (hw od)) fun f s1 q => ?_
  cases f with
  | next => obtain ⟨σ', H', I2, e, q⟩ := q; exact ⟨σ', _, I2.unlock e (I.nofrz hd mu), q⟩
  | brk => obtain ⟨σ', H', I2, e, q⟩ := q; exact ⟨σ', _, I2.unlock e (I.nofrz hd mu), q⟩
  | cont => obtain ⟨σ', H', I2, e, q⟩ := q; exact ⟨σ', _, I2.unlock e (I.nofrz hd mu), q⟩
  | ret v => obtain ⟨x, σ', H', I2, r, e, q⟩ := q; exact ⟨x, σ', _, I2.unlock e (I.nofrz hd mu), r, q⟩

/-! ### one iterator just laid -/
theorem pi_one {tg : Expr} {pins : List (Addr × Obj)} {σ : St} {H : Hp} {s : Shared} {R : It → Hp → Prop} {J : It} {tn : Nat → Heap → Prop} {tk : Nat} (I : Inv X pins σ H s) (o : Obj)
    (T : Turn X.prog X.w X.K tg J [s.heap.objs.size] s.heap.objs.size tn) (st : tn 0 (s.heap.push o)) (q : R J H) : PIE X pins σ tg R (.ref s.heap.objs.size) { s with heap := s.heap.push o, toks := tk } := by
  refine ⟨s.heap.objs.size, [s.heap.objs.size], tn, J, H, rfl, I.kept fun b ob e => Heap.get?_push_of_some _ e, T, st, fun b hb => ?_, q⟩
  have e : b = s.heap.objs.size := by simpa using hb
  subst e
  exact I.fpOk (Nat.le_refl _) (I.hok.fresh (Nat.le_refl _))
end

/-! ### range with a step -/
section
variable {X : Cx} {tg : Expr}
end

/-! ### reversed(list) -/
section
variable {X : Cx} {tg : Expr}
end

/-! ### a str -/

/-! ### a dict's keys: any dict's entries -/
section
variable {prog : Program} {w : World} {A : Around} {E : Value → Shared → Prop} {s : Shared}
theorem iter_keys {d : Addr} {o : Obj} {es : Array DictEntry} {ep : Nat} {Q : Value → Shared → Prop} (hd : (d == sysModules) = false) (ho : s.heap.get? d = some o) (hc : o.ExactDict) (hdat : o.data = .dict es ep)
    (hQ : Q (.ref s.heap.objs.size) { s with heap := s.heap.push { cls := .type "dict_keyiterator", data := .fields #[.ref d, .int 0 0, .int es.size 0, .int ep 0] } }) :
    wpAny (model prog w) A (pyIter (.ref d)) Q E s := by
  have hT : s.TypeIs (.ref d) "dict" := ⟨o, ho, hc.1⟩
  refine wpAny_pyIter_slot hT F.slot_dict_iter (wpAny_call_entry F.slot_dict_iter hT F.entry_dict_iter ?_ (F.args_dict_iter_1 _))
  unfold Builtin.«dict.__iter__»
  refine wpAny_bind ?_
  unfold Builtin.Dict.dictSlotNone
  refine wpAny_bind (wpAny_notOrdered_dict hT ?_)
  show wpAny _ _ (pure (Value.ref d)) _ _ s
  refine wpAny_pure ?_
  show wpAny _ _ (Builtin.Dict.showsAll d >>= _) _ _ s
  unfold Builtin.Dict.showsAll
  rw [if_neg (by rw [hd]; exact Bool.false_ne_true)]
  refine wpAny_bind (wpAny_pure ?_)
  refine wpAny_bind (wpAny_dictEntries ho hdat ?_)
  refine wpAny_bind (wpAny_dictEpoch ho hdat ?_)
  refine wpAny_bind (wpAny_newObj_type (wpAny_pure ⟨_, rfl, "dict_keyiterator", _, ⟨_, Heap.get?_push_size _ rfl, rfl⟩, F.slot_dict_keyiterator_next.lookup, ?_⟩))
  simpa [rawInt] using hQ
theorem next_key_item {it d : Addr} {i n ep : Nat} {od : Obj} {es : Array DictEntry} {en : DictEntry} {Q : Option Value → Shared → Prop} (hit : s.heap.IsKeyIter it d i n ep) (hod : s.heap.get? d = some od) (hdd : od.data = .dict es ep)
    (hsz : es.size = n) (hx : es[i]? = some en) (hQ : ∀ h', h'.IsKeyIter it d (i + 1) n ep → Heap.SameBut it s.heap h' → Q (some en.key) { s with heap := h' }) : wpAny (model prog w) A (pyNext (.ref it)) Q E s := by
  obtain ⟨o, ho, hc, hd⟩ := id hit
  unfold pyNext
  refine wpAny_bind (wpAny_attempt (wpAny_callSpecial?_slot (name := Str.ofString "__next__") hit.typeIs F.slot_dict_keyiterator_next
    (wpAny_call_entry F.slot_dict_keyiterator_next hit.typeIs F.entry_dict_keyiterator_next ?_ (F.args_dict_keyiterator_next_1 _))))
  refine wpAny_bind (wpAny_pure ?_)
  refine wpAny_bind ?_
  refine wpAny_bind ?_
  first | refine wpAny_bind (wpAny_typeNameOfWhole_keyiter hit.typeIs (wpAny_pure ?_)) | refine wpAny_bind (wpAny_typeNameOf_keyiter hit.typeIs (wpAny_pure ?_))
  refine wpAny_bind (wpAny_fieldsOf ho hd ?_)
  have hown : Builtin.Dict_items.ownsTuple "dict_keyiterator" = false := by decide
  simp only [hown, Bool.false_eq_true, if_false]
  show wpAny _ _ (if (Value.ref d == Value.none) = true then _ else _) _ _ s
  rw [if_neg (show ¬ ((Value.ref d == Value.none) = true) from Bool.false_ne_true)]
  refine wpAny_bind (wpAny_pure ?_)
  refine wpAny_bind (wpAny_dictEntries hod hdd ?_)
  rw [if_neg (by rw [hsz]; simp)]
  refine wpAny_bind (wpAny_pure ?_)
  refine wpAny_bind (wpAny_dictEpoch hod hdd ?_)
  rw [if_neg (by simp)]
  refine wpAny_pure ?_
  obtain ⟨hlt', hen⟩ := Array.getElem?_eq_some_iff.mp hx
  simp only [show ¬ ((i : Int) < 0) from by omega, if_false, Int.toNat_natCast, Array.getElem?_eq_getElem hlt']
  refine wpAny_bind ?_
  first | refine wpAny_bind (wpAny_typeNameOfWhole_keyiter hit.typeIs (wpAny_pure ?_)) | refine wpAny_bind (wpAny_typeNameOf_keyiter hit.typeIs (wpAny_pure ?_))
  refine wpAny_bind (wpAny_isOneOf_keyiter hit.typeIs ?_)
  show wpAny _ _ (setField (.ref it) 1 (rawInt ((i : Int) + 1)) >>= _) _ _ s
  refine wpAny_bind (wpAny_setField ho hd (by simp) ?_)
  have hit' : (s.heap.update it (Obj.mapFields (·.setIfInBounds 1 (rawInt ((i : Int) + 1))))).IsKeyIter it d (i + 1) n ep :=
    ⟨_, Heap.get?_update_self _ ho (Obj.isFreed_of_fields (Obj.data_mapFields hd _)), (Obj.cls_mapFields ..).trans hc, by rw [Obj.data_mapFields hd]; simp [rawInt]⟩
  refine wpAny_bind (wpAny_holding ?_)
  refine wpAny_bind (wpAny_isOneOf_keyiter (s := { s with heap := s.heap.update it (Obj.mapFields (·.setIfInBounds 1 (rawInt ((i : Int) + 1)))) }) hit'.typeIs ?_)
  show wpAny _ _ (pure es[i].key) _ _ _
  rw [hen]
  exact wpAny_pure (wpAny_pure ⟨_, rfl, wpAny_pure (hQ _ hit' (Heap.SameBut.update ..))⟩)
theorem next_key_end {it d : Addr} {i n ep : Nat} {od : Obj} {es : Array DictEntry} {Q : Option Value → Shared → Prop} (hh : A.handled = none) (hit : s.heap.IsKeyIter it d i n ep) (hod : s.heap.get? d = some od) (hdd : od.data = .dict es ep)
    (hsz : es.size = n) (hge : n ≤ i) (hQ : ∀ h', Heap.ExtBut it s.heap h' → Q none { s with heap := h' }) : wpAny (model prog w) A (pyNext (.ref it)) Q E s := by
  obtain ⟨o, ho, hc, hd⟩ := id hit
  unfold pyNext
  refine wpAny_bind (wpAny_attempt (wpAny_callSpecial?_slot (name := Str.ofString "__next__") hit.typeIs F.slot_dict_keyiterator_next
    (wpAny_call_entry F.slot_dict_keyiterator_next hit.typeIs F.entry_dict_keyiterator_next ?_ (F.args_dict_keyiterator_next_1 _))))
  refine wpAny_bind (wpAny_pure ?_)
  refine wpAny_bind ?_
  refine wpAny_bind ?_
  first | refine wpAny_bind (wpAny_typeNameOfWhole_keyiter hit.typeIs (wpAny_pure ?_)) | refine wpAny_bind (wpAny_typeNameOf_keyiter hit.typeIs (wpAny_pure ?_))
  refine wpAny_bind (wpAny_fieldsOf ho hd ?_)
  have hown : Builtin.Dict_items.ownsTuple "dict_keyiterator" = false := by decide
  simp only [hown, Bool.false_eq_true, if_false]
  show wpAny _ _ (if (Value.ref d == Value.none) = true then _ else _) _ _ s
  rw [if_neg (show ¬ ((Value.ref d == Value.none) = true) from Bool.false_ne_true)]
  refine wpAny_bind (wpAny_pure ?_)
  refine wpAny_bind (wpAny_dictEntries hod hdd ?_)
  rw [if_neg (by rw [hsz]; simp)]
  refine wpAny_bind (wpAny_pure ?_)
  refine wpAny_bind (wpAny_dictEpoch hod hdd ?_)
  rw [if_neg (by simp)]
  refine wpAny_pure ?_
  have hge' : es.size ≤ i := by rw [hsz]; exact hge
  simp only [show ¬ ((i : Int) < 0) from by omega, if_false, Int.toNat_natCast, Array.getElem?_eq_none hge']
  refine wpAny_bind ?_
  first | refine wpAny_bind (wpAny_typeNameOfWhole_keyiter hit.typeIs (wpAny_pure ?_)) | refine wpAny_bind (wpAny_typeNameOf_keyiter hit.typeIs (wpAny_pure ?_))
  show wpAny _ _ (setField (.ref it) 0 .none >>= _) _ _ s
  refine wpAny_bind (wpAny_setField ho hd (by simp) ?_)
  show wpAny _ _ (newExc (.type "StopIteration") [] >>= _) _ _ _
  refine wpAny_bind ?_
  simp only [newExc, newTuple]
  refine wpAny_bind (wpAny_newObj_type ?_ (by size_fits))
  refine wpAny_bind (m := firstArgMember _ _) (wpAny_of_eq (a := Value.none) (by first | rfl | (simp only [firstArgMember]; rfl)) ?_)
  refine wpAny_newObj_type ?_ (by size_fits)
  simp only [raiseNew]
  refine wpAny_bind (wpAny_handled ?_)
  rw [show A.in1.handled = none from hh]
  refine wpAny_bind (wpAny_pure (wpAny_throw ?_))
  refine wpAny_bind (wpAny_isInstance (T := "StopIteration") (b := true) ⟨_, Heap.get?_push_size _ rfl, rfl⟩ isSubtype_stop ?_)
  exact wpAny_pure (hQ _ (((Heap.SameBut.update ..).extBut.push _).push _))
end

/-! ### a locked dict -/
theorem kv_get {κ : Type} {kvs : List (κ × V)} {vs : List (κ × Value)} (h : KV kvs vs) : ∀ {i : Nat} {k : κ} {v : V}, kvs[i]? = some (k, v) → ∃ u, vs[i]? = some (k, u) ∧ RelV v u := by
  unfold KV at h
  induction h with
  | nil => intro i k v e; simp at e
  | @cons a b l₁ l₂ r t ih =>
    intro i k v e
    cases i with
    | zero =>
      simp only [List.getElem?_cons_zero, Option.some.injEq] at e
      subst e
      refine ⟨b.2, ?_, r.2⟩
      simp only [List.getElem?_cons_zero]
      exact congrArg some (Prod.ext r.1.symm rfl)
    | succ j =>
      simp only [List.getElem?_cons_succ] at e ⊢
      exact ih e
theorem paired_get {α β : Type} {G : α → β → Prop} {l₁ : List α} {l₂ : List β} (h : Paired G l₁ l₂) : ∀ {i : Nat} {a : α}, l₁[i]? = some a → ∃ b, l₂[i]? = some b ∧ G a b := by
  induction h with
  | nil => intro i a e; simp at e
  | @cons a b l₁ l₂ r t ih =>
    intro i a' e
    cases i with
    | zero =>
      simp only [List.getElem?_cons_zero, Option.some.injEq] at e
      subst e
      exact ⟨b, rfl, r⟩
    | succ j =>
      simp only [List.getElem?_cons_succ] at e ⊢
      exact ih e
theorem relV_key {k : Key} {u : Value} (h : keyIs k u = true) : RelV (kV k) u := by
  rcases keyIs_shape h with ⟨i, t, rfl, rfl⟩ | ⟨x, t, rfl, rfl⟩
  · exact ⟨t, rfl⟩
  · exact ⟨t, rfl⟩
section
variable {X : Cx} {pins : List (Addr × Obj)} {σ : St} {H : Hp} {s : Shared} {d : Addr} {o : Obj}
theorem Inv.frzK {kvs : List (Key × V)} (I : Inv X pins σ H s) (h : H d = some (.frz o (.dK kvs))) :
    (d == sysModules) = false ∧ s.heap.get? d = some o ∧ o.ExactDict ∧ ∃ (es : Array DictEntry) (ep : Nat) (vs : List (Key × Value)), o.data = .dict es ep ∧ es.size = kvs.length ∧ KV kvs vs ∧ s.heap.DictAt (mixKind X.prog X.w) d vs ep := by
  obtain ⟨hd, z, hs, vs, kv, o', es, ep, ho, hx, hdt, r⟩ := I.hok d _ h
  rw [hd] at ho
  cases ho
  refine ⟨hs, hd, hx, es, ep, vs, hdt, ?_, kv, o, es, hd, hx, hdt, r⟩
  have l1 := r.2.1.length
  have l2 : kvs.length = vs.length := Paired.length kv
  rw [Array.length_toList] at l1
  omega
/-- the same for tuple keys -/
theorem Inv.frzT {kvs : List (List Key × V)} (I : Inv X pins σ H s) (h : H d = some (.frz o (.dT kvs))) :
    (d == sysModules) = false ∧ s.heap.get? d = some o ∧ o.ExactDict ∧ ∃ (es : Array DictEntry) (ep : Nat), o.data = .dict es ep ∧ es.size = kvs.length ∧
      ∀ (i : Nat) (k : List Key) (v : V), kvs[i]? = some (k, v) → ∃ (en : DictEntry) (q : Addr), es[i]? = some en ∧ en.key = .ref q ∧ H q = some (.tup (k.map kV)) := by
  obtain ⟨hd, z, hs, xs, pr, o', es, ep, ho, hx, hdt, he, _⟩ := I.hok d _ h
  rw [hd] at ho
  cases ho
  refine ⟨hs, hd, hx, es, ep, hdt, ?_, fun i k v e => ?_⟩
  · have l1 : es.size = xs.length := size_of_entries he
    have l2 : kvs.length = xs.length := Paired.length pr
    omega
  · obtain ⟨b, hb, e1, e2, _⟩ := paired_get pr e
    have q := entry_at he i
    rw [hb] at q
    exact ⟨_, b.2.1, q, rfl, e2⟩
end

/-- the keys of the locked dict at d, in their order -/
def Itk (d : Addr) (o : Obj) (kvs : List (Key × V)) : It :=
  ⟨fun i H => H d = some (.frz o (.dK kvs)) ∧ i < kvs.length, fun i H x H' => H' = H ∧ ∃ k v, kvs[i]? = some (k, v) ∧ x = kV k, fun i H => H d = some (.frz o (.dK kvs)) ∧ kvs.length ≤ i⟩
/-- .. of tuple keys: the key's own tuple -/
def Itkt (d : Addr) (o : Obj) (kvs : List (List Key × V)) : It :=
  ⟨fun i H => H d = some (.frz o (.dT kvs)) ∧ i < kvs.length, fun i H x H' => H' = H ∧ ∃ (k : List Key) (v : V) (q : Addr), kvs[i]? = some (k, v) ∧ x = .ref q ∧ H q = some (.tup (k.map kV)), fun i H => H d = some (.frz o (.dT kvs)) ∧ kvs.length ≤ i⟩
theorem dict_ep {o : Obj} {es es' : Array DictEntry} {ep ep' : Nat} (h : o.data = .dict es ep) (h' : o.data = .dict es' ep') : es' = es ∧ ep' = ep := by
  rw [h] at h'
  cases h'
  exact ⟨rfl, rfl⟩
section
variable {P : Program} {w : World} {K : PySem.W.Frag} {tg : Expr} {d : Addr} {o : Obj} {es : Array DictEntry} {ep : Nat}
theorem turn_keys {kvs : List (Key × V)} (it : Addr) (hod : o.data = .dict es ep) : Turn P w K tg (Itk d o kvs) [it] it (fun i h => h.IsKeyIter it d i kvs.length ep) where
  mem := by simp
  obj := fun i h st b hb => by
    have e : b = it := by simpa using hb
    subst e
    obtain ⟨oi, e, c, dd⟩ := st
    exact ⟨oi, e, fun v z => by rw [dd] at z; cases z⟩
  keep := fun i h h' st k => st.at fun oi e => k it (by simp) oi e
  item := by
    intro X hP hw hK hc i pins s σ H E I hf st hg
    subst hP hw hK
    obtain ⟨hd, hi⟩ := hg
    obtain ⟨f0, f1, f2, f3, f4, f5⟩ := hf it (by simp)
    obtain ⟨hs, hgd, hx, es', ep', vs, hdt, hsz, kv, hm⟩ := I.frzK hd
    obtain ⟨rfl, rfl⟩ := dict_ep hod hdt
    obtain ⟨⟨k, v⟩, hkv⟩ : ∃ p, kvs[i]? = some p := ⟨kvs[i], List.getElem?_eq_getElem hi⟩
    obtain ⟨u, hu, ru⟩ := kv_get kv hkv
    have hl : kvs.length = vs.length := Paired.length kv
    rw [hl] at st
    refine wpAny_pyNext_dict_item st hm hu fun key h' hkey st' sb => ?_
    have I1 : Inv X pins σ H { s with heap := h' } := I.turned (t' := s.toks) (fun b ob hb e => (sb.2 b hb).trans e) f0 f1 f3 f4 f5
    obtain ⟨oi, e, c, dd⟩ := id st'
    refine ⟨key, rfl, go_of (s := { s with heap := h' }) e c dd (by decide) ⟨kV k, H, I1, relV_key (show keyIs k key = true from hkey), ⟨rfl, k, v, hkv, rfl⟩, ?_, fun b hb => (hf b hb).1⟩⟩
    show h'.IsKeyIter it d (i + 1) kvs.length _
    rw [hl]
    exact st'
  done := by
    intro X hP hw hK hc i pins s σ H E I hf st hg
    subst hP hw hK
    obtain ⟨hd, hi⟩ := hg
    obtain ⟨f0, f1, f2, f3, f4, f5⟩ := hf it (by simp)
    obtain ⟨hs, hgd, hx, es', ep', vs, hdt, hsz, kv, hm⟩ := I.frzK hd
    obtain ⟨rfl, rfl⟩ := dict_ep hod hdt
    exact next_key_end (I.ok.hd hc) st hgd hdt hsz hi fun h' eb => ⟨rfl, I.turned (t' := s.toks) (fun b ob hb e => eb b ob hb e) f0 f1 f3 f4 f5⟩
  self := fun A i s Q E st h => wpAny_pyIter_keyiter st h
theorem turn_keysT {kvs : List (List Key × V)} (it : Addr) (hod : o.data = .dict es ep) : Turn P w K tg (Itkt d o kvs) [it] it (fun i h => h.IsKeyIter it d i kvs.length ep) where
  mem := by simp
  obj := fun i h st b hb => by
    have e : b = it := by simpa using hb
    subst e
    obtain ⟨oi, e, c, dd⟩ := st
    exact ⟨oi, e, fun v z => by rw [dd] at z; cases z⟩
  keep := fun i h h' st k => st.at fun oi e => k it (by simp) oi e
  item := by
    intro X hP hw hK hc i pins s σ H E I hf st hg
    subst hP hw hK
    obtain ⟨hd, hi⟩ := hg
    obtain ⟨f0, f1, f2, f3, f4, f5⟩ := hf it (by simp)
    obtain ⟨hs, hgd, hx, es', ep', hdt, hsz, ent⟩ := I.frzT hd
    obtain ⟨rfl, rfl⟩ := dict_ep hod hdt
    obtain ⟨⟨k, v⟩, hkv⟩ : ∃ p, kvs[i]? = some p := ⟨kvs[i], List.getElem?_eq_getElem hi⟩
    obtain ⟨en, q, hen, hkey, hq⟩ := ent i k v hkv
    refine next_key_item st hgd hdt hsz hen fun h' st' sb => ?_
    have I1 : Inv X pins σ H { s with heap := h' } := I.turned (t' := s.toks) (fun b ob hb e => (sb.2 b hb).trans e) f0 f1 f3 f4 f5
    obtain ⟨oi, e, c, dd⟩ := id st'
    exact ⟨en.key, rfl, go_of (s := { s with heap := h' }) e c dd (by decide) ⟨.ref q, H, I1, hkey, ⟨rfl, k, v, q, hkv, rfl, hq⟩, st', fun b hb => (hf b hb).1⟩⟩
  done := by
    intro X hP hw hK hc i pins s σ H E I hf st hg
    subst hP hw hK
    obtain ⟨hd, hi⟩ := hg
    obtain ⟨f0, f1, f2, f3, f4, f5⟩ := hf it (by simp)
    obtain ⟨hs, hgd, hx, es', ep', hdt, hsz, ent⟩ := I.frzT hd
    obtain ⟨rfl, rfl⟩ := dict_ep hod hdt
    exact next_key_end (I.ok.hd hc) st hgd hdt hsz hi fun h' eb => ⟨rfl, I.turned (t' := s.toks) (fun b ob hb e => eb b ob hb e) f0 f1 f3 f4 f5⟩
  self := fun A i s Q E st h => by
    refine wpAny_pyIter_slot st.typeIs F.slot_dict_keyiterator_iter (wpAny_call_entry F.slot_dict_keyiterator_iter st.typeIs F.entry_dict_keyiterator_iter ?_ (F.args_dict_keyiterator_iter_1 _))
    show wpAny _ _ (ret (.ref it)) _ _ s
    exact wpAny_pure ⟨_, rfl, "dict_keyiterator", _, st.typeIs, F.slot_dict_keyiterator_next.lookup, h⟩
end

/-! ### for k in d, d.keys(), d.values(), d.items() -/
/-- the dict is locked (tLock, or by the caller) -/
def iKeys (td : TE) : TI := fun σ H R => td σ H fun x H1 => ∃ d o, x = .ref d ∧ ((∃ kvs, H1 d = some (.frz o (.dK kvs)) ∧ R (Itk d o kvs) H1) ∨ ∃ kvs, H1 d = some (.frz o (.dT kvs)) ∧ R (Itkt d o kvs) H1)
section
variable {X : Cx} {tg e : Expr} {td : TE} {apos cpos : Pos}
theorem pi_keys (he : PE X e td) : PI X tg e (iKeys td) := by
  intro pins s σ H R I h
  refine thn (he pins s σ H _ I h) fun u s1 ⟨x, H1, I1, rx, d, o, ex, q⟩ => ?_
  subst ex
  obtain rfl : u = Value.ref d := rx
  rcases q with ⟨kvs, hd, q⟩ | ⟨kvs, hd, q⟩
  · obtain ⟨hs, hgd, hx, es, ep, vs, hdt, hsz, kv, hm⟩ := I1.frzK hd
    refine iter_keys hs hgd hx hdt (pi_one (tk := s1.toks) I1 _ (turn_keys _ hdt) ⟨_, Heap.get?_push_size _ rfl, rfl, ?_⟩ q)
    rw [hsz] <;> rfl
  · obtain ⟨hs, hgd, hx, es, ep, hdt, hsz, ent⟩ := I1.frzT hd
    refine iter_keys hs hgd hx hdt (pi_one (tk := s1.toks) I1 _ (turn_keysT _ hdt) ⟨_, Heap.get?_push_size _ rfl, rfl, ?_⟩ q)
    rw [hsz] <;> rfl
end

/-! ### enumerate(list) -/
/-! ### zip(list, list) -/
end L2

section 
namespace Bits
open PySem PyProof.Rows

end Bits
end 

section 
namespace TL
open PySem PySem.Builtin PySem.Builtin.Str PySem.StrLaws

/-! ### the list functions -/

/-! ### the model's split and partition are these -/

/-! ### computing spl and par -/

/-! ### digits -/

/-! ### words: x.split() -/
end TL
end 

namespace L2
open PySem PySem.Spec PyProof.Rows

section
variable {X : Cx} {pins : List (Addr × Obj)} {σ : St} {H : Hp} {s : Shared} {Q : VK}
end

section
variable {X : Cx}

/-! ### of a text alone -/

/-! ### of a text and a text -/

end

section
variable {X : Cx} {o e : Expr} {to te : TE}

end
end L2

namespace L2
open PySem PySem.Spec PyProof.Rows

section
variable {X : Cx}
end

/-! ### slices of a text -/

end L2

namespace Att
open PySem PySem.W PySem.Calls PyProof.Rows

/-! ### the script -/

/-! ### the attachment: holds_open's last premise (the goal 'hc' behind k_head) from a wpAny of the law's body -/

/-! ### rules over ANY heap (no ledger) from facts about the written part K: the library's own take a ledger (News) for what they write -/
section
variable {prog : Program} {w : World} {A : Around} {E : Value → Shared → Prop} {s : Shared} {K : Frag}

/-! the whole heap as the ledger: makes every rule that writes through a ledger a rule over any heap -/

end
end Att

namespace L2
open PySem PySem.Spec PyProof.Rows

end L2

namespace L2
open PySem PySem.Spec PyProof.Rows

abbrev KOf {K : PySem.W.Frag} {h : Heap} (_ : K.In h) : PySem.W.Frag := K

end L2

/- THE LAST THEOREM (shape; LID, My.* are yours):
   My.Adr: a structure of the addresses that your layer names (classes, functions); My.Txt K t: a structure (Prop) of the equations over K;
   My.txt_mk : {K} {implicit addresses ..} (e1 : nsIn K mainGlobals "law" = some (some (.ref f))) (e2 : K.lookup f = some ⟨oc, od, .func (fnOf "law" "law" params body scope dV kV doc pm an cdv ct), sl⟩) (e3 : codeIn K cdv "law" = true) .. : ∃ t, My.Txt K t

set_option maxRecDepth 100000 in
set_option maxHeartbeats 0 in
theorem PySem.Challenge.cw_LID_holds : PySem.Challenge.rw_LID.Holds := by
  w_on; o_law; k_head; (case hw => w_witness2)
  k_fill
  refine L2.walk_of (l := PySem.Challenge.rw_LID) (n := 63) (k := 40) (x := "script") (CX := fun w => ..) (sp := fun _ => My.sp_law) rfl (by decide) rfl ⟨rfl, by decide, by decide⟩ (fun w h Y => PySem.W.kIn_of Y) ?F ?S ?C
  case F =>
    intro w mg fa h KX G hmg
    have T : ∃ t, My.Txt (L2.KOf KX) t := by
      dsimp only [L2.KOf]                          -- K must stand as «<heap const> w.params» for k_is
      refine' My.txt_mk ?e1 ?e2 ?e3 ..
      (case e1 => PySem.W.k_is)                    -- in the order: a name -> its address -> its object -> its parts
      (case e2 => PySem.W.k_is)
      ..
    obtain ⟨t, T⟩ := T
    have e0 := hmg.symm.trans (PySem.W.mg_of KX G T.law)
    cases e0                                       -- fa is the law's own address
    exact ⟨_, fun s u => .of_eq rfl, fun base kb nb => My.law_fn T kb nb⟩     -- if «.of_eq rfl» comes too early: refine' ⟨_, ?b, fun base kb nb => My.law_fn T kb nb⟩; exact fun s u => .of_eq rfl
  case S => exact fun w H a ns hl hO hS => ..
  case C => exact ..
(the tactic k_is has no namespace: write k_is) -/

/-! SHORT WORDS over the layer: a def of the text, its body, what a loop and a test want. -/
namespace L2
open PySem PySem.Spec PyProof.Rows

/-! ### the text by places -/
/-- the j-th statement of a class's body -/
def inClass (s : Stmt) (j : Nat) : Stmt := match s with
  | .ClassDef _ _ _ body _ _ _ _ _ _ _ => body.getD j (.Pass ⟨0, 0, 0, 0⟩)
  | _ => .Pass ⟨0, 0, 0, 0⟩
def defArgs (s : Stmt) : Arguments := match s with
  | .FunctionDef _ a _ _ _ _ _ _ _ _ => a
  | _ => { posonlyargs := [], args := [], vararg := none, kwonlyargs := [], kw_defaults := [], kwarg := none, defaults := [] }
def defBody (s : Stmt) : List Stmt := match s with
  | .FunctionDef _ _ b _ _ _ _ _ _ _ => b
  | _ => []
def defScope (s : Stmt) : Scope := match s with
  | .FunctionDef _ _ _ _ _ _ sc _ _ _ => sc
  | _ => { kind := .function, names := [], isGenerator := false, isCoroutine := false }

/-! ### no exception leaves a def -/
abbrev CX0 : CXT := fun _ _ _ _ _ _ => False
abbrev E0 : XK := fun _ _ _ => False
theorem pass0 {X : Cx} : Passes CX0 X E0 := fun _ _ _ _ _ _ _ h => h.elim

/-! ### a def (or method) of the text as it stands behind the top -/
structure Fun (K : PySem.W.Frag) (x qual : Str) (st : Stmt) (f : Addr) (fd : FuncData) : Prop where
  ex : ∃ (oc : Value) (od : Option Addr) (kV doc pm : Value) (an : Option Addr) (cdv ct : Value) (osl : Array (Option Value)),
    fd = PySem.W.fnOf x qual (defArgs st) (defBody st) (defScope st) .none kV doc pm an cdv ct ∧ K.lookup f = some ⟨oc, od, .func fd, osl⟩ ∧ PySem.W.codeIn K cdv qual = true
  kp : PySem.W.keepIn K (.ref f) = true
section
variable {P : Program} {w : World} {K : PySem.W.Frag} {mg : Str → Option Value} {base : Heap}
/-- THE RULE for a def: its body as a term of rules, and the reading of that term -/
theorem Fun.ok {x qual : Str} {st : Stmt} {f : Addr} {fd : FuncData} {N ps : List Str} {k : Nat} {sp : Sp} (F : Fun K x qual st f fd) (S : FnScope N ps (defScope st)) (len : ∀ vs H Q E, sp vs H Q E → vs.length = ps.length)
    (hbody : ∀ (cdv : Value) (A : Around) (outer : List Env) (s : Shared) (H : Hp) (vs : List V) (Q : VK) (E : XK), Room k (A.deeper (envOfC qual (defScope st) s.heap.objs.size f cdv)) → sp vs H Q E →
      ∃ t, PSs (cxOf CX0 P w K mg base N qual (defScope st) f cdv A outer s H E).nox (defBody st) t ∧ t { nx := fun _ H' => Q .non H', rt := Q } (start N vs) H) : FnOk P w K mg base CX0 (k + 1) f fd ps sp := by
  obtain ⟨oc, od, kV, doc, pm, an, cdv, ct, osl, rfl, lk, hcd⟩ := F.ex
  refine fn_of lk hcd S len fun A outer s H vs Q E hr hsp => ?_
  obtain ⟨t, h, q⟩ := hbody cdv A outer s H vs Q E hr hsp
  exact ⟨t, h.nox, q⟩
/-- how its arguments bind (no defaults): h is «fun _ _ _ _ _ _ us hl => match us, hl with | [_, _], _ => rfl», one _ a parameter -/
theorem Fun.binds {x qual : Str} {st : Stmt} {f : Addr} {fd : FuncData} {ps : List Str} (F : Fun K x qual st f fd)
    (h : ∀ (kV doc pm : Value) (an : Option Addr) (cdv ct : Value) (us : List Value), us.length = ps.length → bindArgs (PySem.W.fnOf x qual (defArgs st) (defBody st) (defScope st) .none kV doc pm an cdv ct) ⟨us, []⟩ = pure (ps.zip us)) : Binds K fd ps [] := by
  obtain ⟨oc, od, kV, doc, pm, an, cdv, ct, osl, rfl, lk, hcd⟩ := F.ex
  exact .all (h kV doc pm an cdv ct)
theorem fun_mk {x qual : Str} {st : Stmt} {f : Addr} {oc : Value} {od an : Option Addr} {osl : Array (Option Value)} {kV doc pm cdv ct : Value} (l : K.lookup f = some ⟨oc, od, .func (PySem.W.fnOf x qual (defArgs st) (defBody st) (defScope st) .none kV doc pm an cdv ct), osl⟩)
    (c : PySem.W.codeIn K cdv qual = true) (k : PySem.W.keepIn K (.ref f) = true) : Fun K x qual st f (PySem.W.fnOf x qual (defArgs st) (defBody st) (defScope st) .none kV doc pm an cdv ct) := ⟨⟨oc, od, kV, doc, pm, an, cdv, ct, osl, rfl, l, c⟩, k⟩
end
theorem hu_of {A : Around} {k : Nat} (hr : Room k A) : A.units + 1 < cLine := Nat.lt_of_le_of_lt (Nat.add_le_add_left (by decide : 1 ≤ 64) _) hr.units

/-! ### expressions in short: the name that stands in the i-th slot -/
section
variable {X : Cx}
theorem pv (i : Nat) {x : Str} {pos : Pos} (hN : X.N[i]? = some x := by rfl) (hv : Vis X.env.scope x := by first | exact Or.inl rfl | exact Or.inr (Or.inl rfl) | exact Or.inr (Or.inr rfl)) (hd : (x == ("__debug__" : Str)) = false := by decide)
    (hcd : (x == ("__classdict__" : Str)) = false := by decide) : PE X (.Name x pos) (tVar i) := pe_var hN hv hd hcd
end

/-! ### tests -/
theorem iteF {A B : Prop} (h : B) : if false = true then A else B := by
  rw [if_neg Bool.false_ne_true]
  exact h
theorem iteT {A B : Prop} (h : A) : if true = true then A else B := by
  rw [if_pos rfl]
  exact h

/-! ### heaps -/
/-- all that was tracked is as it was -/
def Same (H H' : Hp) : Prop := ∀ b o, H b = some o → H' b = some o
theorem Same.refl (H : Hp) : Same H H := fun _ _ h => h
theorem Same.trans {H H1 H2 : Hp} (a : Same H H1) (b : Same H1 H2) : Same H H2 := fun c o h => b c o (a c o h)
theorem Same.free {H H' : Hp} (e : Same H H') {l : Addr} (h : H' l = Option.none) : H l = Option.none := by
  cases q : H l with
  | none => rfl
  | some o =>
    rw [e l o q] at h
    cases h
theorem Same.seq {K : PySem.W.Frag} {H H' : Hp} {a : Addr} {xs : List V} (e : Same H H') (h : SqL K H a xs) : SqL K H' a xs := by
  rcases h with (h | ⟨o, h⟩) | h
  · exact .inl (.inl (e _ _ h))
  · exact .inl (.inr ⟨o, e _ _ h⟩)
  · exact .inr h

/-! ### a dict's pairs: keys that differ -/
section
variable {κ : Type} [DecidableEq κ]
theorem valV_not {kvs : List (κ × V)} {k : κ} (h : valV kvs k = none) : ¬ k ∈ kvs.map (·.1) := by
  intro m
  obtain ⟨p, hp, e⟩ := List.mem_map.mp m
  have q : (kvs.any fun kv => decide (kv.1 = k)) = true := List.any_eq_true.mpr ⟨p, hp, decide_eq_true e⟩
  rw [valV_any, h] at q
  exact absurd q (by simp)
theorem valV_in {kvs : List (κ × V)} {k : κ} {v : V} (h : valV kvs k = some v) : k ∈ kvs.map (·.1) := by
  have q : (kvs.any fun kv => decide (kv.1 = k)) = true := by
    rw [valV_any, h]
    all_goals rfl
  obtain ⟨p, hp, e⟩ := List.any_eq_true.mp q
  exact List.mem_map.mpr ⟨p, hp, of_decide_eq_true e⟩
end
/-! ### lists -/
theorem at_of {xs : List V} {z : Int} {j : Nat} {v : V} (e : z = (j : Int)) (h : xs[j]? = some v) : atI xs z = some v := by
  rw [e]
  exact atI_nat h
end L2

section
set_option Elab.async false
set_option linter.all false
set_option maxRecDepth 100000
set_option maxHeartbeats 2000000
namespace L2
open PySem PySem.Spec PyProof.Rows
open PySem.W (WData Codec OpenSpec Well WellAll ReadsW ReadsAllW)
/-! ### an answer as data -/
mutual
/-- x stands for the datum d, lists and tuples all the way -/
inductive Dw (K : PySem.W.Frag) (H : Hp) : V → WData → Prop
  | non : Dw K H .non .none
  | bl (b : Bool) : Dw K H (.bl b) (.bool b)
  | int (i : Int) : Dw K H (.int i) (.int i)
  | str (x : Str) : Dw K H (.str x) (.str x)
  | byt (b : Array UInt8) : Dw K H (.byt b) (.bytes b.toList)
  | lst {a : Addr} {xs : List V} {ds : List WData} : SqL K H a xs → DwAll K H xs ds → Dw K H (.ref a) (.list ds)
  | tup {a : Addr} {xs : List V} {ds : List WData} : SqT K H a xs → DwAll K H xs ds → Dw K H (.ref a) (.tuple ds)
inductive DwAll (K : PySem.W.Frag) (H : Hp) : List V → List WData → Prop
  | nil : DwAll K H [] []
  | cons {v : V} {vs : List V} {d : WData} {ds : List WData} : Dw K H v d → DwAll K H vs ds → DwAll K H (v :: vs) (d :: ds)
end
theorem dw_ints {K : PySem.W.Frag} {H : Hp} : ∀ ns : List Int, DwAll K H (ns.map V.int) (ns.map WData.int)
  | [] => .nil
  | n :: r => .cons (.int n) (dw_ints r)
theorem ints_dw {K : PySem.W.Frag} {H : Hp} : ∀ (ns : List Int) (xs : List V), DwAll K H xs (ns.map WData.int) → xs = ns.map V.int
  | [], xs, h => by
    cases h
    rfl
  | n :: r, xs, h => by
    cases h with
    | cons h1 h2 =>
      cases h1
      rw [ints_dw r _ h2] <;> rfl
section
variable {P : Program} {w : World} {K : PySem.W.Frag} {H : Hp} {h : Heap} {R : PySem.W.WRecords} {cl : Str → Option Addr}
theorem sqL_at {a : Addr} {xs : List V} (hok : HOk P w H h) (KX : K.In h) (q : SqL K H a xs) : ∃ (its : List Value) (o : Obj) (n : Nat), Vals xs its ∧ h.get? a = some o ∧ o.cls = .type "list" ∧ o.data = .seq its.toArray n := by
  rcases q with q | ⟨o, its, n, e, hc, _, hd, _, hv⟩
  · obtain ⟨_, its, n, hv, e⟩ := (show ObjOk P w H h a (.lst xs) from q.ok hok)
    exact ⟨its, _, n, hv, e, rfl, rfl⟩
  · exact ⟨its.toList, o, n, hv, KX _ _ e, hc, by simp [hd]⟩
theorem sqT_at {a : Addr} {xs : List V} (hok : HOk P w H h) (KX : K.In h) (q : SqT K H a xs) : ∃ (its : List Value) (o : Obj) (n : Nat), Vals xs its ∧ h.get? a = some o ∧ o.cls = .type "tuple" ∧ o.data = .seq its.toArray n := by
  rcases q with q | ⟨o, its, n, e, hc, hd, _, hv⟩
  · obtain ⟨_, its, hv, o, e, hc, n, hd⟩ := (show ObjOk P w H h a (.tup xs) from q.ok hok)
    exact ⟨its, o, n, hv, e, hc, hd⟩
  · exact ⟨its.toList, o, n, hv, KX _ _ e, hc, by simp [hd]⟩
mutual
theorem Dw.reads (hok : HOk P w H h) (KX : K.In h) : ∀ (d : WData) (v : V) (u : Value), Dw K H v d → RelV v u → ∃ as, ReadsW R cl h u d as
  | .none, _, _, x, r => by
    cases x
    cases r
    exact ⟨_, ReadsW.none⟩
  | .bool b, _, _, x, r => by
    cases x
    cases r
    exact ⟨_, ReadsW.bool b⟩
  | .int i, _, _, x, r => by
    cases x
    obtain ⟨t, rfl⟩ := r
    exact ⟨_, ReadsW.int i t⟩
  | .str s, _, _, x, r => by
    cases x
    obtain ⟨t, rfl⟩ := r
    exact ⟨_, ReadsW.str s t⟩
  | .bytes b, _, _, x, r => by
    cases x
    obtain ⟨t, rfl⟩ := r
    exact ⟨_, ReadsW.bytes _ t⟩
  | .list ds, _, _, x, r => by
    cases x with
    | lst hs ha =>
      cases r
      obtain ⟨its, o, n, rv, ho, hc, hd⟩ := sqL_at hok KX hs
      obtain ⟨as, hr⟩ := Dw.readsAll hok KX ds _ its ha rv
      exact ⟨_, ReadsW.list ho hc hd hr⟩
  | .tuple ds, _, _, x, r => by
    cases x with
    | tup hs ha =>
      cases r
      obtain ⟨its, o, n, rv, ho, hc, hd⟩ := sqT_at hok KX hs
      obtain ⟨as, hr⟩ := Dw.readsAll hok KX ds _ its ha rv
      exact ⟨_, ReadsW.tuple ho hc hd hr⟩
  | .float _, _, _, x, _ => by cases x
  | .dict _, _, _, x, _ => by cases x
  | .bytearray _, _, _, x, _ => by cases x
  | .set _, _, _, x, _ => by cases x
  | .frozenset _, _, _, x, _ => by cases x
  | .obj _ _, _, _, x, _ => by cases x
theorem Dw.readsAll (hok : HOk P w H h) (KX : K.In h) : ∀ (ds : List WData) (vs : List V) (us : List Value), DwAll K H vs ds → Vals vs us → ∃ as, ReadsAllW R cl h us ds as
  | [], _, _, x, r => by
    cases x
    cases r
    exact ⟨_, ReadsAllW.nil⟩
  | d :: ds, _, _, x, r => by
    cases x with
    | cons h1 h2 =>
      cases r with
      | cons r1 r2 =>
        obtain ⟨as, q1⟩ := Dw.reads hok KX d _ _ h1 r1
        obtain ⟨bs, q2⟩ := Dw.readsAll hok KX ds _ _ h2 r2
        exact ⟨_, ReadsAllW.cons q1 q2⟩
end
end
/-! ### the arguments -/
mutual
/-- data that a codec tells -/
def plW : WData → Bool
  | .none => true
  | .bool _ => true
  | .int _ => true
  | .str _ => true
  | .bytes _ => true
  | .list xs => plWs xs
  | .tuple xs => plWs xs
  | _ => false
def plWs : List WData → Bool
  | [] => true
  | x :: r => plW x && plWs r
end
theorem plWs_map {α : Type} {f : α → WData} (h : ∀ a, plW (f a) = true) : ∀ l : List α, plWs (l.map f) = true
  | [] => rfl
  | x :: r => by
    show (plW (f x) && plWs (r.map f)) = true
    rw [h x, plWs_map h r] <;> rfl
theorem pl_enc : ∀ (c : Codec) (a : c.denote), plW (c.enc a) = true
  | .unit, _ => rfl
  | .bool, _ => rfl
  | .int _ _, _ => rfl
  | .nat _ _, _ => rfl
  | .u8, _ => rfl
  | .bytes _ _, _ => rfl
  | .text _ _ _ _, _ => rfl
  | .list _ _ c, a => plWs_map (fun x => pl_enc c x) a
  | .pair c d, a => by
    show (plW (c.enc a.1) && (plW (d.enc a.2) && true)) = true
    rw [pl_enc c a.1, pl_enc d a.2] <;> rfl
  | .triple c d e, a => by
    show (plW (c.enc a.1) && (plW (d.enc a.2.1) && (plW (e.enc a.2.2) && true))) = true
    rw [pl_enc c a.1, pl_enc d a.2.1, pl_enc e a.2.2] <;> rfl
  | .option c, none => rfl
  | .option c, some x => pl_enc c x
theorem pl_encAll : ∀ (cs : List Codec) (a : Codec.denoteAll cs), plWs (Codec.encAll cs a) = true
  | [], _ => rfl
  | c :: cs, a => by
    show (plW (c.enc a.1) && plWs (Codec.encAll cs a.2)) = true
    rw [pl_enc c a.1, pl_encAll cs a.2] <;> rfl
theorem weight_mem : ∀ {xs : List WData} {d : WData}, d ∈ xs → d.weight ≤ WData.weightAll xs
  | [], d, h => absurd h (by simp)
  | x :: r, d, h => by
    show d.weight ≤ x.weight + 1 + WData.weightAll r
    rcases List.mem_cons.mp h with e | m
    · rw [e]
      omega
    · have z := weight_mem m
      omega
def toV : Value → V
  | .none => .non
  | .bool b => .bl b
  | .int i _ => .int i
  | .str x _ => .str x
  | .bytes b _ => .byt b
  | .ref a => .ref a
  | _ => .non
/-- a value of the arguments, its objects among A -/
def OkU (A : List Addr) : Value → Prop
  | .none => True
  | .bool _ => True
  | .int _ _ => True
  | .str _ _ => True
  | .bytes _ _ => True
  | .ref a => a ∈ A
  | _ => False
theorem OkU.mono {A B : List Addr} (h : ∀ a ∈ A, a ∈ B) : ∀ {u : Value}, OkU A u → OkU B u := fun {u} x => by
  cases u with
  | ref a => exact h a x
  | none => trivial
  | bool b => trivial
  | int i t => trivial
  | str s t => trivial
  | bytes b t => trivial
  | _ => exact False.elim x
theorem relV_toV {A : List Addr} {u : Value} (x : OkU A u) : RelV (toV u) u := by
  cases u with
  | ref a => rfl
  | none => rfl
  | bool b => rfl
  | int i t => exact ⟨t, rfl⟩
  | str s t => exact ⟨t, rfl⟩
  | bytes b t => exact ⟨t, rfl⟩
  | _ => exact False.elim x
theorem vals_toV {A : List Addr} : ∀ {vs : List Value}, (∀ u ∈ vs, OkU A u) → Vals (vs.map toV) vs
  | [], _ => .nil
  | u :: r, h => .cons (relV_toV (h u (List.mem_cons_self ..))) (vals_toV fun x hx => h x (List.mem_cons_of_mem _ hx))
/-- an object of the arguments -/
def ArgOb (h : Heap) (A : List Addr) (a : Addr) : Prop := ∃ vs : List Value, vs.length ≤ sizeLine ∧ (∀ u ∈ vs, OkU A u) ∧
  (h.get? a = some { cls := .type "list", data := .seq vs.toArray } ∨ h.get? a = some { cls := .type "tuple", data := .seq vs.toArray })
theorem ArgOb.mono {h : Heap} {A B : List Addr} {a : Addr} (k : ∀ a ∈ A, a ∈ B) (x : ArgOb h A a) : ArgOb h B a := by
  obtain ⟨vs, h1, h2, h3⟩ := x
  exact ⟨vs, h1, fun u hu => (h2 u hu).mono k, h3⟩
theorem wellAll_len {P : Params} {h : Heap} : ∀ {vs : List Value} {ds : List WData}, WellAll P h vs ds → vs.length = ds.length
  | _, _, .nil => rfl
  | _, _, .cons _ b => by
    show _ + 1 = _ + 1
    rw [wellAll_len b]
theorem well_list {P : Params} {h : Heap} {v : Value} {ds : List WData} (x : Well P h v (.list ds)) : ∃ (a : Addr) (vs : List Value), v = .ref a ∧ h.get? a = some { cls := .type "list", data := .seq vs.toArray } ∧ WellAll P h vs ds := by
  cases x with
  | list ho hall => exact ⟨_, _, rfl, ho, hall⟩
theorem well_tuple {P : Params} {h : Heap} {v : Value} {ds : List WData} (x : Well P h v (.tuple ds)) : ∃ (a : Addr) (vs : List Value), v = .ref a ∧ h.get? a = some { cls := .type "tuple", data := .seq vs.toArray } ∧ WellAll P h vs ds := by
  cases x with
  | tuple ho hall => exact ⟨_, _, rfl, ho, hall⟩
theorem well_cons {P : Params} {h : Heap} {us : List Value} {d : WData} {ds : List WData} (x : WellAll P h us (d :: ds)) : ∃ (v : Value) (vs : List Value), us = v :: vs ∧ Well P h v d ∧ WellAll P h vs ds := by
  cases x with
  | cons a b => exact ⟨_, _, rfl, a, b⟩
theorem line_of {n : Nat} (h : n ≤ 1048576) : n ≤ sizeLine := Nat.le_trans h (by decide)
section
variable {P : Params} {h : Heap}
mutual
theorem area_one : ∀ (d : WData) (v : Value), Well P h v d → plW d = true → d.weight ≤ 1048576 → ∃ A : List Addr, OkU A v ∧ ∀ a ∈ A, ArgOb h A a
  | .none, _, x, _, _ => by
    cases x
    exact ⟨[], trivial, fun a m => absurd m (by simp)⟩
  | .bool b, _, x, _, _ => by
    cases x
    exact ⟨[], trivial, fun a m => absurd m (by simp)⟩
  | .int i, _, x, _, _ => by
    cases x
    exact ⟨[], trivial, fun a m => absurd m (by simp)⟩
  | .str s, _, x, _, _ => by
    cases x
    exact ⟨[], trivial, fun a m => absurd m (by simp)⟩
  | .bytes b, _, x, _, _ => by
    cases x
    exact ⟨[], trivial, fun a m => absurd m (by simp)⟩
  | .list ds, _, x, p, z => by
    obtain ⟨a, vs, rfl, ho, hall⟩ := well_list x
    have z2 : WData.weightAll ds ≤ 1048576 := z
    obtain ⟨A, h1, h2⟩ := area_all ds _ hall p fun d hd => Nat.le_trans (weight_mem hd) z2
    have k : ∀ b ∈ A, b ∈ a :: A := fun b hb => List.mem_cons_of_mem _ hb
    refine ⟨a :: A, List.mem_cons_self .., fun b hb => ?_⟩
    rcases List.mem_cons.mp hb with e | m
    · rw [e]
      exact ⟨vs, line_of (by rw [wellAll_len hall]; exact Nat.le_trans (PySem.W.length_le_weightAllW ds) z2), fun u hu => (h1 u hu).mono k, .inl ho⟩
    · exact (h2 b m).mono k
  | .tuple ds, _, x, p, z => by
    obtain ⟨a, vs, rfl, ho, hall⟩ := well_tuple x
    have z2 : WData.weightAll ds ≤ 1048576 := z
    obtain ⟨A, h1, h2⟩ := area_all ds _ hall p fun d hd => Nat.le_trans (weight_mem hd) z2
    have k : ∀ b ∈ A, b ∈ a :: A := fun b hb => List.mem_cons_of_mem _ hb
    refine ⟨a :: A, List.mem_cons_self .., fun b hb => ?_⟩
    rcases List.mem_cons.mp hb with e | m
    · rw [e]
      exact ⟨vs, line_of (by rw [wellAll_len hall]; exact Nat.le_trans (PySem.W.length_le_weightAllW ds) z2), fun u hu => (h1 u hu).mono k, .inr ho⟩
    · exact (h2 b m).mono k
  | .float _, _, _, p, _ => Bool.noConfusion (show false = true from p)
  | .dict _, _, _, p, _ => Bool.noConfusion (show false = true from p)
  | .bytearray _, _, _, p, _ => Bool.noConfusion (show false = true from p)
  | .set _, _, _, p, _ => Bool.noConfusion (show false = true from p)
  | .frozenset _, _, _, p, _ => Bool.noConfusion (show false = true from p)
  | .obj _ _, _, _, p, _ => Bool.noConfusion (show false = true from p)
theorem area_all : ∀ (ds : List WData) (vs : List Value), WellAll P h vs ds → plWs ds = true → (∀ d ∈ ds, d.weight ≤ 1048576) → ∃ A : List Addr, (∀ u ∈ vs, OkU A u) ∧ ∀ a ∈ A, ArgOb h A a
  | [], _, x, _, _ => by
    cases x
    exact ⟨[], fun u m => absurd m (by simp), fun a m => absurd m (by simp)⟩
  | d :: ds, _, x, p, z => by
    obtain ⟨v, vs, rfl, x1, x2⟩ := well_cons x
    have q : plW d = true ∧ plWs ds = true := Bool.and_eq_true_iff.mp p
    obtain ⟨A, a1, a2⟩ := area_one d v x1 q.1 (z d (List.mem_cons_self ..))
    obtain ⟨B, b1, b2⟩ := area_all ds vs x2 q.2 fun e he => z e (List.mem_cons_of_mem _ he)
    have kA : ∀ b ∈ A, b ∈ A ++ B := fun b hb => List.mem_append.mpr (.inl hb)
    have kB : ∀ b ∈ B, b ∈ A ++ B := fun b hb => List.mem_append.mpr (.inr hb)
    refine ⟨A ++ B, fun u hu => ?_, fun b hb => ?_⟩
    · rcases List.mem_cons.mp hu with e | m
      · rw [e]
        exact a1.mono kA
      · exact (b1 u m).mono kB
    · rcases List.mem_append.mp hb with m | m
      · exact (a2 b m).mono kA
      · exact (b2 b m).mono kB
end
end
/-- what is tracked of an argument's object -/
def hoOf (o : Obj) : Option HO := match o.data with
  | .seq vs _ => if (o.cls == Value.type "list") = true then some (.frz o (.lst (vs.toList.map toV))) else some (.frz o (.tup (vs.toList.map toV)))
  | _ => none
def argH (K : PySem.W.Frag) (h : Heap) (A : List Addr) : Hp := fun b => if b ∈ A then (if (K.lookup b).isNone = true then (h.get? b).bind hoOf else none) else none
/-- nothing is tracked but what is known to the object -/
def OnlyF (H : Hp) : Prop := ∀ b, H b = none ∨ ∃ o u, H b = some (.frz o u)
theorem hoOf_lst (vs : List Value) : hoOf { cls := .type "list", data := .seq vs.toArray } = some (.frz { cls := .type "list", data := .seq vs.toArray } (.lst (vs.map toV))) := by
  show (if (Value.type "list" == Value.type "list") = true then some (HO.frz { cls := .type "list", data := .seq vs.toArray } (.lst (vs.toArray.toList.map toV))) else some (HO.frz { cls := .type "list", data := .seq vs.toArray } (.tup (vs.toArray.toList.map toV)))) = _
  rw [if_pos (beq_self_eq_true _)]
theorem hoOf_tup (vs : List Value) : hoOf { cls := .type "tuple", data := .seq vs.toArray } = some (.frz { cls := .type "tuple", data := .seq vs.toArray } (.tup (vs.map toV))) := by
  show (if (Value.type "tuple" == Value.type "list") = true then some (HO.frz { cls := .type "tuple", data := .seq vs.toArray } (.lst (vs.toArray.toList.map toV))) else some (HO.frz { cls := .type "tuple", data := .seq vs.toArray } (.tup (vs.toArray.toList.map toV)))) = _
  rw [if_neg (by decide)]
section
variable {P : Program} {w : World} {K : PySem.W.Frag} {h : Heap} {A : List Addr}
theorem argH_at {b : Addr} {o : Obj} (hb : b ∈ A) (hk : K.lookup b = none) (e : h.get? b = some o) : argH K h A b = hoOf o := by
  unfold argH
  rw [if_pos hb, hk, if_pos (show (none : Option Obj).isNone = true from rfl), e] <;> rfl
theorem of_argH {b : Addr} {u : HO} (q : argH K h A b = some u) : b ∈ A ∧ K.lookup b = none := by
  unfold argH at q
  by_cases hb : b ∈ A
  · rw [if_pos hb] at q
    cases hk : K.lookup b with
    | none => exact ⟨hb, rfl⟩
    | some o =>
      rw [hk, if_neg (by simp)] at q
      cases q
  · rw [if_neg hb] at q
    cases q
/-- what stands tracked -/
theorem argH_is (ar : ∀ a ∈ A, ArgOb h A a) {b : Addr} {u : HO} (q : argH K h A b = some u) : K.lookup b = none ∧ ∃ vs : List Value, vs.length ≤ sizeLine ∧ (∀ u ∈ vs, OkU A u) ∧
    ((h.get? b = some { cls := .type "list", data := .seq vs.toArray } ∧ u = .frz { cls := .type "list", data := .seq vs.toArray } (.lst (vs.map toV))) ∨
     (h.get? b = some { cls := .type "tuple", data := .seq vs.toArray } ∧ u = .frz { cls := .type "tuple", data := .seq vs.toArray } (.tup (vs.map toV)))) := by
  obtain ⟨hb, hk⟩ := of_argH q
  obtain ⟨vs, h1, h2, h3⟩ := ar b hb
  refine ⟨hk, vs, h1, h2, ?_⟩
  rcases h3 with e | e
  · rw [argH_at hb hk e, hoOf_lst] at q
    exact .inl ⟨e, (Option.some.inj q).symm⟩
  · rw [argH_at hb hk e, hoOf_tup] at q
    exact .inr ⟨e, (Option.some.inj q).symm⟩
theorem argH_only (ar : ∀ a ∈ A, ArgOb h A a) : OnlyF (argH K h A) := fun b => by
  cases q : argH K h A b with
  | none => exact .inl rfl
  | some u =>
    obtain ⟨_, vs, _, _, ⟨_, e⟩ | ⟨_, e⟩⟩ := argH_is ar q
    · exact .inr ⟨_, _, by rw [e]⟩
    · exact .inr ⟨_, _, by rw [e]⟩
theorem argH_ok (ar : ∀ a ∈ A, ArgOb h A a) : HOk P w (argH K h A) h := fun b u q => by
  obtain ⟨_, vs, h1, h2, ⟨e, rfl⟩ | ⟨e, rfl⟩⟩ := argH_is ar q
  · exact ⟨e, by rw [List.length_map]; exact h1, vs, _, vals_toV h2, e⟩
  · exact ⟨e, by rw [List.length_map]; exact h1, vs, vals_toV h2, _, e, rfl, _, rfl⟩
theorem seq_inj {c c' : Value} {vs us : List Value} (e : (some { cls := c, data := .seq vs.toArray } : Option Obj) = some { cls := c', data := .seq us.toArray }) : c = c' ∧ vs = us := by
  have e1 := Option.some.inj e
  have e2 : c = c' := congrArg Obj.cls e1
  have e3 : Data.seq vs.toArray = Data.seq us.toArray := congrArg Obj.data e1
  injection e3 with e4
  refine ⟨e2, ?_⟩
  have e5 := congrArg Array.toList e4
  simpa using e5
/-- a list argument -/
theorem argL (KX : K.In h) (ar : ∀ a ∈ A, ArgOb h A a) {a : Addr} {vs : List Value} (ha : a ∈ A) (e : h.get? a = some { cls := .type "list", data := .seq vs.toArray }) : (∀ u ∈ vs, OkU A u) ∧ SqL K (argH K h A) a (vs.map toV) := by
  obtain ⟨us, h1, h2, h3⟩ := ar a ha
  have hu : us = vs := by
    rcases h3 with q | q
    · rw [e] at q
      exact (seq_inj q).2.symm
    · rw [e] at q
      exact absurd (Value.type.inj (seq_inj q).1) (by decide)
  subst hu
  refine ⟨h2, ?_⟩
  cases hk : K.lookup a with
  | none => exact .inl (.inr ⟨_, by rw [argH_at ha hk e, hoOf_lst]⟩)
  | some o =>
    have e2 := KX a o hk
    rw [e] at e2
    obtain rfl := Option.some.inj e2
    exact .inr ⟨_, us.toArray, _, hk, rfl, rfl, rfl, by rw [List.size_toArray]; exact h1, by simpa using vals_toV h2⟩
theorem argT (KX : K.In h) (ar : ∀ a ∈ A, ArgOb h A a) {a : Addr} {vs : List Value} (ha : a ∈ A) (e : h.get? a = some { cls := .type "tuple", data := .seq vs.toArray }) : (∀ u ∈ vs, OkU A u) ∧ SqT K (argH K h A) a (vs.map toV) := by
  obtain ⟨us, h1, h2, h3⟩ := ar a ha
  have hu : us = vs := by
    rcases h3 with q | q
    · rw [e] at q
      exact absurd (Value.type.inj (seq_inj q).1) (by decide)
    · rw [e] at q
      exact (seq_inj q).2.symm
  subst hu
  refine ⟨h2, ?_⟩
  cases hk : K.lookup a with
  | none => exact .inl (.inr ⟨_, by rw [argH_at ha hk e, hoOf_tup]⟩)
  | some o =>
    have e2 := KX a o hk
    rw [e] at e2
    obtain rfl := Option.some.inj e2
    exact .inr ⟨_, us.toArray, _, hk, rfl, rfl, by rw [List.size_toArray]; exact h1, by simpa using vals_toV h2⟩
mutual
theorem dw_one {Pm : Params} (KX : K.In h) (ar : ∀ a ∈ A, ArgOb h A a) : ∀ (d : WData) (v : Value), Well Pm h v d → plW d = true → OkU A v → Dw K (argH K h A) (toV v) d
  | .none, _, x, _, _ => by
    cases x
    exact .non
  | .bool b, _, x, _, _ => by
    cases x
    exact .bl b
  | .int i, _, x, _, _ => by
    cases x
    exact .int i
  | .str s, _, x, _, _ => by
    cases x
    exact .str s
  | .bytes b, _, x, _, _ => by
    cases x
    have z := Dw.byt (K := K) (H := argH K h A) b.toArray
    exact z
  | .list ds, _, x, p, hu => by
    obtain ⟨a, vs, rfl, ho, hall⟩ := well_list x
    obtain ⟨h2, hs⟩ := argL KX ar hu ho
    exact .lst hs (dw_all KX ar ds _ hall p h2)
  | .tuple ds, _, x, p, hu => by
    obtain ⟨a, vs, rfl, ho, hall⟩ := well_tuple x
    obtain ⟨h2, hs⟩ := argT KX ar hu ho
    exact .tup hs (dw_all KX ar ds _ hall p h2)
  | .float _, _, _, p, _ => Bool.noConfusion (show false = true from p)
  | .dict _, _, _, p, _ => Bool.noConfusion (show false = true from p)
  | .bytearray _, _, _, p, _ => Bool.noConfusion (show false = true from p)
  | .set _, _, _, p, _ => Bool.noConfusion (show false = true from p)
  | .frozenset _, _, _, p, _ => Bool.noConfusion (show false = true from p)
  | .obj _ _, _, _, p, _ => Bool.noConfusion (show false = true from p)
theorem dw_all {Pm : Params} (KX : K.In h) (ar : ∀ a ∈ A, ArgOb h A a) : ∀ (ds : List WData) (vs : List Value), WellAll Pm h vs ds → plWs ds = true → (∀ u ∈ vs, OkU A u) → DwAll K (argH K h A) (vs.map toV) ds
  | [], _, x, _, _ => by
    cases x
    exact .nil
  | d :: ds, _, x, p, hu => by
    obtain ⟨v, vs, rfl, x1, x2⟩ := well_cons x
    have q : plW d = true ∧ plWs ds = true := Bool.and_eq_true_iff.mp p
    exact .cons (dw_one KX ar d v x1 q.1 (hu _ (List.mem_cons_self ..))) (dw_all KX ar ds vs x2 q.2 fun u m => hu u (List.mem_cons_of_mem _ m))
end
end
/-! ### the call -/
theorem spec_call {P : Program} {w : World} {K : PySem.W.Frag} {mg mb : Str → Option Value} {CX : CXT} {k : Nat} {fa : Addr} {fd : FuncData} {ps : List Str} {sp : Sp} {s₁ : Shared} {vals : List Value} {ds : List WData} {R : PySem.W.WRecords} {cl : Str → Option Addr} {d0 : WData}
    (KX : K.In s₁.heap) (hns : s₁.heap.Ns mainGlobals mg) (hb : s₁.heap.Ns builtinsNs mb) (hbb : ∀ x : Str, x ≠ "__name__" → mb x = bootBuiltins x) (hlim : s₁.heap.NoLimit) (hg : s₁.gens = #[])
    (hwl : WellAll w.params s₁.heap vals ds) (hpl : plWs ds = true) (hwt : ∀ d ∈ ds, d.weight ≤ 1048576) (hr : Room k callerA)
    (F : ∀ base : Heap, K.In base → base.Ns mainGlobals mg → FnOk P w K mg base CX k fa fd ps sp) (hbind : ∀ (s : Shared) (us : List Value), us.length = ps.length → BindsTo s fd ⟨us, []⟩ (ps.zip us)) (hlen : ds.length = ps.length)
    (hsp : ∀ (H : Hp) (xs : List V), OnlyF H → DwAll K H xs ds → sp xs H (fun v H' => Dw K H' v d0) fun _ _ _ => False)
    (hCX : ∀ H e s', CX [] H s₁ (fun _ _ _ => False) e s' → False) :
    codeAny (model P w) callerA (.call (.ref fa) ⟨vals, []⟩) (fun r s' => ∃ u as, r = .ok (.ret u) ∧ ReadsW R cl s'.heap u d0 as ∧ OldK s₁.heap s'.heap ∧ s'.os = s₁.os ∧ AllBare s'.gens) s₁ := by
  obtain ⟨A, ho, ar⟩ := area_all ds vals hwl hpl hwt
  have hO : OnlyF (argH K s₁.heap A) := argH_only ar
  have hok : HOk P w (argH K s₁.heap A) s₁.heap := argH_ok ar
  have hS := dw_all KX ar ds vals hwl hpl ho
  have hV := vals_toV ho
  have hK : ∀ b u, argH K s₁.heap A b = some u → K.lookup b = none := fun b u q => (argH_is ar q).1
  have noA : ∀ {b : Addr} {o : Obj} {es : Array DictEntry} {ep : Nat}, s₁.heap.get? b = some o → o.data = .dict es ep → argH K s₁.heap A b = none := fun {b o es ep} e d => by
    cases q : argH K s₁.heap A b with
    | none => rfl
    | some u =>
      obtain ⟨_, vs, _, _, ⟨e2, _⟩ | ⟨e2, _⟩⟩ := argH_is ar q
      · rw [e2] at e
        cases e
        have d' : Data.seq vs.toArray _ = Data.dict es ep := d
        cases d'
      · rw [e2] at e
        cases e
        have d' : Data.seq vs.toArray _ = Data.dict es ep := d
        cases d'
  generalize argH K s₁.heap A = H at hO hok hS hK noA
  have base_of : ∀ {b : Addr} {o : Obj}, s₁.heap.get? b = some o → H b = none → (hidT s₁.heap H).get? b = some o := fun e n => hidT_get e n
  have nsK : ∀ {b : Addr} {m : Str → Option Value}, s₁.heap.Ns b m → (hidT s₁.heap H).Ns b m := fun {b m} ⟨o, es, ep, e, d, r⟩ => ⟨o, es, ep, base_of e (noA e d), d, r⟩
  have nK : ∀ b o, K.lookup b = some o → H b = none := fun b o e => by
    cases q : H b with
    | none => rfl
    | some u =>
      rw [hK b u q] at e
      cases e
  have hKb : K.In (hidT s₁.heap H) := fun b o e => base_of (KX b o e) (nK b o e)
  have hM : Mod K mg (hidT s₁.heap H) := ⟨hKb, nsK hns, ⟨mb, nsK hb, hbb⟩, let ⟨mc, h1, h2⟩ := hlim; ⟨mc, nsK h1, h2⟩⟩
  have e0 : Env0 P w K mg (hidT s₁.heap H) callerA [] s₁ H := ⟨rfl, hM, fun b o e => of_hidT e, Nat.le_of_eq (hidT_size _ _), trivial, fun b hb => absurd (show b ∈ ([] : List Addr) from hb) (by simp), hok, .of_eq hg⟩
  have hl : vals.length = ps.length := by rw [wellAll_len hwl]; exact hlen
  refine codeAny_mono ((F _ hKb (nsK hns)).run callerA [] s₁ H ⟨vals, []⟩ vals (vals.map toV) _ _ hr e0 (hbind s₁ vals hl) hV (hsp H _ hO hS)) fun r s' x => ?_
  cases r with
  | error e => exact (hCX H e s' x).elim
  | ok fl =>
    cases fl with
    | next => exact False.elim x
    | brk => exact False.elim x
    | cont => exact False.elim x
    | ret u =>
      obtain ⟨v, H', os, bare, un, hok', r', q⟩ := x
      have kept : ∀ b o, s₁.heap.get? b = some o → s'.heap.get? b = some o := fun b o e => by
        cases q2 : H b with
        | none => exact un.keep b o e q2 (by intro z; exact absurd (show b ∈ ([] : List Addr) from z) (by simp)) (by simp)
        | some u2 =>
          rcases hO b with z | ⟨ob, u3, z⟩
          · rw [q2] at z
            cases z
          · have z2 := un.frzs b ob _ z
            obtain ⟨e1, _⟩ := hok b _ z
            obtain ⟨e2, _⟩ := hok' b _ z2
            rw [e] at e1
            cases e1
            exact e2
      have KX' : K.In s'.heap := fun b o e => kept b o (KX b o e)
      obtain ⟨as, hrd⟩ := Dw.reads (R := R) (cl := cl) hok' KX' d0 v u q r'
      exact ⟨u, as, rfl, hrd, OldK.of_keep kept, os, bare⟩
/-! ### the row -/
theorem layable_weight {ds : List WData} (h : WData.layableAll ds = true) : ∀ d ∈ ds, d.weight ≤ 1048576 := fun d hd =>
  (PySem.W.layableW_iff.mp (List.all_eq_true.mp h d hd)).2.2
theorem encAll_len : ∀ (cs : List Codec) (a : Codec.denoteAll cs), (Codec.encAll cs a).length = cs.length
  | [], _ => rfl
  | c :: cs, a => by
    show (Codec.encAll cs a.2).length + 1 = cs.length + 1
    rw [encAll_len cs a.2]
/-- the goal that k_headS leaves (case hc), from the promise of the row's def: whatever the arguments that the codecs let and the row asks for, the def gives what stands for enc (f ..) -/
theorem walk_spec {r : OpenSpec} {k : Nat} {q : Program} {loose : List Str} {XP : (Str → Option Value) → Heap → Prop} {YP : World → Heap → Prop} {d : DefRec} {K : Params → PySem.W.Frag} {CX : World → CXT} {ps : List Str} {sp : World → Sp}
    (hwell : r.wellSaid = true) (hdf : d.params.defaults = []) (hlen : r.args.length = ps.length) (hr : Room k callerA)
    (hY : ∀ (w : World) (h : Heap), YP w h → (K w.params).In h)
    (F : ∀ (w : World) (mg : Str → Option Value) (fa : Addr) (h : Heap), YP w h → (K w.params).In h → h.Ns mainGlobals mg → mg d.name = some (.ref fa) →
      ∃ fd : FuncData, (∀ (s : Shared) (us : List Value), us.length = ps.length → BindsTo s fd ⟨us, []⟩ (ps.zip us)) ∧
        ∀ base : Heap, (K w.params).In base → base.Ns mainGlobals mg → FnOk r.prog w (K w.params) mg base (CX w) k fa fd ps (sp w))
    (hsp : ∀ (w : World) (H : Hp) (xs : List V) (a : Codec.denoteAll r.args), OnlyF H → Codec.withinAll r.args a = true → Codec.app r.args r.asked a = true → DwAll (K w.params) H xs (Codec.encAll r.args a) →
      sp w xs H (fun v H' => Dw (K w.params) H' v (r.ret.enc (Codec.app r.args r.f a))) fun _ _ _ => False)
    (hCX : ∀ (w : World) (H : Hp) (s : Shared) (e : Value) (s' : Shared), CX w [] H s (fun _ _ _ => False) e s' → False) :
    PySem.W.WalkOS q loose XP YP r d [] (fun f vs => PySem.call f vs) := by
  intro w s_0 s₁ mg mb G Y fa o pm cd doc dV kV ho hd hcd hD hmg hg args vals as hpre hlay hrd hwl hlo
  obtain ⟨a, e1, e2⟩ := PySem.W.os_pre_some hpre
  obtain ⟨e3, hwi⟩ := Codec.encAll_of_decAll r.args args a e1
  subst e3
  have KX := hY w _ Y
  obtain ⟨fd, hb, hF⟩ := F w mg fa _ Y KX G.T.g hmg
  refine PySem.W.enter_call (codeAny_mono (spec_call (R := []) (cl := classAt s_0.heap) (d0 := r.ret.enc (Codec.app r.args r.f a)) KX G.T.g G.T.b G.T.builtins G.T.nolimit hg hwl (pl_encAll _ _) (layable_weight hlay) hr hF hb (by rw [encAll_len]; exact hlen)
    (fun H xs hO hS => hsp w H xs a hO hwi e2 hS) fun H e s' => hCX w H s₁ e s') fun r' s' hq => ?_)
  obtain ⟨u, as', rfl, h1, h2, h3, h4⟩ := hq
  exact ⟨.inl ⟨u, _, as', rfl, fun _ => rfl, h1, (OpenSpec.post_iff hwell hwi _ _).mpr rfl, fun z => Bool.noConfusion (show false = true from z)⟩, h2, h3, h4⟩
/-- the same where the promise hangs on the written part alone -/
theorem walk_specK {r : OpenSpec} {k : Nat} {q : Program} {loose : List Str} {XP : (Str → Option Value) → Heap → Prop} {YP : World → Heap → Prop} {d : DefRec} {K : Params → PySem.W.Frag} {CX : CXT} {ps : List Str} {sp : PySem.W.Frag → Sp}
    (hwell : r.wellSaid = true) (hdf : d.params.defaults = []) (hlen : r.args.length = ps.length) (hr : Room k callerA)
    (hY : ∀ (w : World) (h : Heap), YP w h → (K w.params).In h)
    (F : ∀ (w : World) (mg : Str → Option Value) (fa : Addr) (h : Heap), YP w h → (K w.params).In h → h.Ns mainGlobals mg → mg d.name = some (.ref fa) →
      ∃ fd : FuncData, (∀ (s : Shared) (us : List Value), us.length = ps.length → BindsTo s fd ⟨us, []⟩ (ps.zip us)) ∧
        ∀ base : Heap, (K w.params).In base → base.Ns mainGlobals mg → FnOk r.prog w (K w.params) mg base CX k fa fd ps (sp (K w.params)))
    (hsp : ∀ (K : PySem.W.Frag) (H : Hp) (xs : List V) (a : Codec.denoteAll r.args), OnlyF H → Codec.withinAll r.args a = true → Codec.app r.args r.asked a = true → DwAll K H xs (Codec.encAll r.args a) →
      sp K xs H (fun v H' => Dw K H' v (r.ret.enc (Codec.app r.args r.f a))) fun _ _ _ => False)
    (hCX : ∀ (H : Hp) (s : Shared) (e : Value) (s' : Shared), CX [] H s (fun _ _ _ => False) e s' → False) :
    PySem.W.WalkOS q loose XP YP r d [] (fun f vs => PySem.call f vs) :=
  walk_spec (K := K) (CX := fun _ => CX) (sp := fun w => sp (K w.params)) hwell hdf hlen hr hY F (fun w H xs a h1 h2 h3 h4 => hsp (K w.params) H xs a h1 h2 h3 h4) fun _ H s e s' => hCX H s e s'
end L2
-- rests on (row put in by the clerk, for the bench that shows a file only what it spells): KE.SpHead KE.OsShapes
end


section
set_option Elab.async false
set_option linter.all false
set_option maxRecDepth 100000
namespace Nw
open Sf65 (Bytes)
/-! ### the specification's table, cell by cell -/
def part (way : Nat) (s t : Bytes) (n : Nat) : Array Nat := (List.range n).foldl (fun (T : Array Nat) (k : Nat) => T.push (Sf93.cell way s t T (k / (t.length + 1)) (k % (t.length + 1)))) #[]
theorem part_succ (way : Nat) (s t : Bytes) (n : Nat) : part way s t (n + 1) = (part way s t n).push (Sf93.cell way s t (part way s t n) (n / (t.length + 1)) (n % (t.length + 1))) := by
  unfold part
  rw [List.range_succ, List.foldl_append, List.foldl_cons, List.foldl_nil]
theorem part_size (way : Nat) (s t : Bytes) : ∀ n, (part way s t n).size = n
  | 0 => rfl
  | n + 1 => by rw [part_succ, Array.size_push, part_size way s t n]
theorem getD_push_lt {T : Array Nat} {x k : Nat} (h : k < T.size) : (T.push x).getD k 0 = T.getD k 0 := by
  simp only [Array.getD_eq_getD_getElem?, Array.getElem?_push]
  rw [if_neg (by omega)]
theorem getD_push_eq {T : Array Nat} {x : Nat} : (T.push x).getD T.size 0 = x := by
  simp only [Array.getD_eq_getD_getElem?, Array.getElem?_push]
  simp
theorem part_get (way : Nat) (s t : Bytes) {k n : Nat} (h : k < n) : ∀ m, n ≤ m → (part way s t m).getD k 0 = (part way s t n).getD k 0
  | 0, hm => by
    have : n = 0 := by omega
    omega
  | m + 1, hm => by
    by_cases e : n = m + 1
    · rw [e]
    · rw [part_succ, getD_push_lt (by rw [part_size]; omega)]
      exact part_get way s t h m (by omega)
def D (way : Nat) (s t : Bytes) (i j : Nat) : Nat := (Sf93.table way s t).getD ((t.length + 1) * i + j) 0
theorem table_part (way : Nat) (s t : Bytes) : Sf93.table way s t = part way s t ((s.length + 1) * (t.length + 1)) := rfl
theorem lastBefore_lt {s : Bytes} {i p : Nat} {b : UInt8} (h : Sf93.lastBefore s i b = some p) : p < i := by
  have := List.mem_of_find?_eq_some h
  simpa using this
theorem idx_lt {w i j a b : Nat} (hb : b < w) (h : a < i) : w * a + b < w * i + j := by
  have h1 : w * a + w ≤ w * i := by
    rw [← Nat.mul_succ]
    exact Nat.mul_le_mul_left w h
  omega
theorem D_cell (way : Nat) (s t : Bytes) {i j : Nat} (hi : i ≤ s.length) (hj : j ≤ t.length) : D way s t i j = Sf93.cell way s t (Sf93.table way s t) i j := by
  have hj' : j < t.length + 1 := Nat.lt_succ_of_le hj
  have hk : (t.length + 1) * i + j < (s.length + 1) * (t.length + 1) := by
    have h := idx_lt (w := t.length + 1) (j := 0) hj' (Nat.lt_succ_of_le hi)
    rw [Nat.add_zero, Nat.mul_comm (t.length + 1) (s.length + 1)] at h
    exact h
  have hd : ((t.length + 1) * i + j) / (t.length + 1) = i := by rw [Nat.mul_add_div (Nat.succ_pos _), Nat.div_eq_of_lt hj', Nat.add_zero]
  have hm : ((t.length + 1) * i + j) % (t.length + 1) = j := by rw [Nat.mul_add_mod, Nat.mod_eq_of_lt hj']
  have e1 : D way s t i j = Sf93.cell way s t (part way s t ((t.length + 1) * i + j)) i j := by
    show (Sf93.table way s t).getD ((t.length + 1) * i + j) 0 = _
    rw [table_part, part_get way s t (Nat.lt_succ_self _) _ hk, part_succ]
    have := getD_push_eq (T := part way s t ((t.length + 1) * i + j)) (x := Sf93.cell way s t (part way s t ((t.length + 1) * i + j)) (((t.length + 1) * i + j) / (t.length + 1)) (((t.length + 1) * i + j) % (t.length + 1)))
    rw [part_size] at this
    rw [this, hd, hm]
  have e2 : ∀ q, q < (t.length + 1) * i + j → (part way s t ((t.length + 1) * i + j)).getD q 0 = (Sf93.table way s t).getD q 0 := fun q hq => by
    rw [table_part]
    exact (part_get way s t hq _ (Nat.le_of_lt hk)).symm
  rw [e1]
  unfold Sf93.cell
  by_cases h0 : i = 0
  · rw [if_pos h0, if_pos h0]
  · rw [if_neg h0, if_neg h0]
    by_cases h1 : j = 0
    · rw [if_pos h1, if_pos h1]
    · rw [if_neg h1, if_neg h1]
      have i1 : i - 1 < i := Nat.sub_lt (Nat.pos_of_ne_zero h0) Nat.one_pos
      have j1 : j - 1 < j := Nat.sub_lt (Nat.pos_of_ne_zero h1) Nat.one_pos
      have a1 : (t.length + 1) * (i - 1) + j < (t.length + 1) * i + j := idx_lt hj' i1
      have a2 : (t.length + 1) * i + (j - 1) < (t.length + 1) * i + j := Nat.add_lt_add_left j1 _
      have a3 : (t.length + 1) * (i - 1) + (j - 1) < (t.length + 1) * i + j := idx_lt (Nat.lt_trans j1 hj') i1
      simp only [e2 _ a1, e2 _ a2, e2 _ a3]
      split
      · rfl
      · split
        · rename_i p q hp hq
          have b1 := lastBefore_lt hp
          have b2 := lastBefore_lt hq
          rw [e2 _ (idx_lt (Nat.lt_trans (Nat.lt_trans b2 j1) hj') (Nat.lt_trans b1 i1))]
        · rfl
theorem D_zero (way : Nat) (s t : Bytes) {j : Nat} (hj : j ≤ t.length) : D way s t 0 j = j := by
  rw [D_cell way s t (Nat.zero_le _) hj]
  unfold Sf93.cell
  rw [if_pos rfl]
theorem D_left (way : Nat) (s t : Bytes) {i : Nat} (hi : i ≤ s.length) : D way s t i 0 = i := by
  rw [D_cell way s t hi (Nat.zero_le _)]
  unfold Sf93.cell
  by_cases h : i = 0
  · rw [if_pos h, h]
  · rw [if_neg h, if_pos rfl]
/-- what the three plain edits give at a cell -/
def three (way : Nat) (s t : Bytes) (i j : Nat) : Nat :=
  min (min (D way s t i (j + 1) + 1) (D way s t (i + 1) j + 1)) (D way s t i j + (if s.getD i 0 = t.getD j 0 then 0 else Sf93.other way))
theorem D_step (way : Nat) (s t : Bytes) {i j : Nat} (hi : i < s.length) (hj : j < t.length) : D way s t (i + 1) (j + 1) =
    if way ≠ 2 then three way s t i j else match Sf93.lastBefore s i (t.getD j 0), Sf93.lastBefore t j (s.getD i 0) with
      | some p, some q => min (three way s t i j) (D way s t p q + ((i - 1 - p) + (1 + (j - 1 - q))))
      | _, _ => three way s t i j := by
  rw [D_cell way s t (show i + 1 ≤ s.length from hi) (show j + 1 ≤ t.length from hj)]
  unfold Sf93.cell
  rw [if_neg (Nat.succ_ne_zero i), if_neg (Nat.succ_ne_zero j)]
  simp only [Nat.add_sub_cancel]
  show (if way ≠ 2 then three way s t i j else _) = _
  split
  · rfl
  · have e1 : ∀ p, i + 1 - 2 - p = i - 1 - p := fun p => rfl
    have e2 : ∀ q, j + 1 - 2 - q = j - 1 - q := fun q => rfl
    cases hp : Sf93.lastBefore s i (t.getD j 0) with
    | none => rfl
    | some p =>
      cases hq : Sf93.lastBefore t j (s.getD i 0) with
      | none => rfl
      | some q =>
        show min (three way s t i j) _ = min (three way s t i j) _
        rw [e1, e2]
        rfl
theorem three1 (way : Nat) (s t : Bytes) (i j : Nat) : three way s t i j ≤ D way s t i (j + 1) + 1 := Nat.le_trans (Nat.min_le_left _ _) (Nat.min_le_left _ _)
theorem three2 (way : Nat) (s t : Bytes) (i j : Nat) : three way s t i j ≤ D way s t (i + 1) j + 1 := Nat.le_trans (Nat.min_le_left _ _) (Nat.min_le_right _ _)
theorem three3 (way : Nat) (s t : Bytes) (i j : Nat) : three way s t i j ≤ D way s t i j + (if s.getD i 0 = t.getD j 0 then 0 else Sf93.other way) := Nat.min_le_right _ _
theorem three_ge {way : Nat} {s t : Bytes} {i j k : Nat} (h1 : k ≤ D way s t i (j + 1) + 1) (h2 : k ≤ D way s t (i + 1) j + 1) (h3 : k ≤ D way s t i j) : k ≤ three way s t i j :=
  Nat.le_min.mpr ⟨Nat.le_min.mpr ⟨h1, h2⟩, Nat.le_trans h3 (Nat.le_add_right _ _)⟩
theorem step_le (way : Nat) (s t : Bytes) {i j : Nat} (hi : i < s.length) (hj : j < t.length) : D way s t (i + 1) (j + 1) ≤ three way s t i j := by
  rw [D_step way s t hi hj]
  split
  · exact Nat.le_refl _
  · split
    · exact Nat.min_le_left _ _
    · exact Nat.le_refl _
theorem D_le (way : Nat) (s t : Bytes) : ∀ i j, i ≤ s.length → j ≤ t.length → D way s t i j ≤ i + j
  | 0, j, _, hj => by rw [D_zero way s t hj, Nat.zero_add]; exact Nat.le_refl _
  | i + 1, 0, hi, _ => by rw [D_left way s t hi]; exact Nat.le_refl _
  | i + 1, j + 1, hi, hj => by
    have ih := D_le way s t i (j + 1) (Nat.le_of_succ_le hi) hj
    have e : i + 1 + (j + 1) = i + (j + 1) + 1 := Nat.add_right_comm i 1 (j + 1)
    rw [e]
    exact Nat.le_trans (step_le way s t hi hj) (Nat.le_trans (three1 way s t i j) (Nat.succ_le_succ ih))
theorem far_D (way : Nat) (s t : Bytes) (h : way ≠ 3) : Sf93.far way s t = some (D way s t s.length t.length) := by
  unfold Sf93.far
  rw [if_neg h]
  show some _ = some ((Sf93.table way s t).getD _ 0)
  have e : (s.length + 1) * (t.length + 1) - 1 = (t.length + 1) * s.length + t.length := by
    rw [Nat.mul_comm (s.length + 1), Nat.mul_succ]
    omega
  rw [e]
/-! ### the last place of a byte -/
theorem lastBefore_succ (s : Bytes) (i : Nat) (b : UInt8) : Sf93.lastBefore s (i + 1) b = if s.getD i 0 = b then some i else Sf93.lastBefore s i b := by
  unfold Sf93.lastBefore
  rw [List.range_succ, List.reverse_append]
  show List.find? _ (i :: (List.range i).reverse) = _
  rw [List.find?_cons]
  by_cases h : s.getD i 0 = b
  · rw [if_pos h, h]
    simp
  · rw [if_neg h]
    have : (s.getD i 0 == b) = false := beq_eq_false_iff_ne.mpr h
    rw [this]
theorem lastBefore_zero (s : Bytes) (b : UInt8) : Sf93.lastBefore s 0 b = none := rfl
/-- as the program keeps it: the place and one, or 0 -/
def last1 (s : Bytes) (i : Nat) (b : UInt8) : Nat := match Sf93.lastBefore s i b with
  | some p => p + 1
  | none => 0
theorem last1_zero (s : Bytes) (b : UInt8) : last1 s 0 b = 0 := rfl
theorem last1_succ (s : Bytes) (i : Nat) (b : UInt8) : last1 s (i + 1) b = if s.getD i 0 = b then i + 1 else last1 s i b := by
  unfold last1
  rw [lastBefore_succ]
  by_cases h : s.getD i 0 = b
  · rw [if_pos h, if_pos h]
  · rw [if_neg h, if_neg h]
theorem last1_le (s : Bytes) (i : Nat) (b : UInt8) : last1 s i b ≤ i := by
  unfold last1
  cases h : Sf93.lastBefore s i b with
  | none => exact Nat.zero_le _
  | some p => exact lastBefore_lt h
/-! ### neighbouring cells -/
theorem lastBefore_at {s : Bytes} {i p : Nat} {b : UInt8} (h : Sf93.lastBefore s i b = some p) : s.getD p 0 = b := by
  have := List.find?_some h
  simpa using this
theorem D_down (way : Nat) (s t : Bytes) {i j : Nat} (hi : i < s.length) (hj : j ≤ t.length) : D way s t (i + 1) j ≤ D way s t i j + 1 := by
  cases j with
  | zero => rw [D_left way s t hi, D_left way s t (Nat.le_of_lt hi)]; exact Nat.le_refl _
  | succ j => exact Nat.le_trans (step_le way s t hi hj) (three1 way s t i j)
theorem D_right (way : Nat) (s t : Bytes) {i j : Nat} (hi : i ≤ s.length) (hj : j < t.length) : D way s t i (j + 1) ≤ D way s t i j + 1 := by
  cases i with
  | zero => rw [D_zero way s t hj, D_zero way s t (Nat.le_of_lt hj)]; exact Nat.le_refl _
  | succ i => exact Nat.le_trans (step_le way s t hi hj) (three2 way s t i j)
theorem D_same (way : Nat) (s t : Bytes) {i j : Nat} (hi : i < s.length) (hj : j < t.length) (h : s.getD i 0 = t.getD j 0) : D way s t (i + 1) (j + 1) ≤ D way s t i j := by
  have q := three3 way s t i j
  rw [if_pos h] at q
  exact Nat.le_trans (step_le way s t hi hj) q
theorem D_downs (way : Nat) (s t : Bytes) {i j : Nat} (hj : j ≤ t.length) : ∀ a, i + a ≤ s.length → D way s t (i + a) j ≤ D way s t i j + a
  | 0, _ => Nat.le_refl _
  | a + 1, h => Nat.le_trans (D_down way s t (i := i + a) h hj) (Nat.succ_le_succ (D_downs way s t (i := i) hj a (Nat.le_of_succ_le h)))
theorem D_rights (way : Nat) (s t : Bytes) {i j : Nat} (hi : i ≤ s.length) : ∀ a, j + a ≤ t.length → D way s t i (j + a) ≤ D way s t i j + a
  | 0, _ => Nat.le_refl _
  | a + 1, h => Nat.le_trans (D_right way s t (j := j + a) hi h) (Nat.succ_le_succ (D_rights way s t (j := j) hi a (Nat.le_of_succ_le h)))
/-- a cell is one of these -/
theorem D_cases (way : Nat) (s t : Bytes) {i j : Nat} (hi : i < s.length) (hj : j < t.length) : D way s t (i + 1) (j + 1) = three way s t i j ∨
    ∃ p q, p < i ∧ q < j ∧ s.getD p 0 = t.getD j 0 ∧ t.getD q 0 = s.getD i 0 ∧ D way s t (i + 1) (j + 1) = D way s t p q + (i - p) + (j - 1 - q) := by
  rw [D_step way s t hi hj]
  split
  · exact .inl rfl
  · cases hp : Sf93.lastBefore s i (t.getD j 0) with
    | none => exact .inl rfl
    | some p =>
      cases hq : Sf93.lastBefore t j (s.getD i 0) with
      | none => exact .inl rfl
      | some q =>
        have b1 := lastBefore_lt hp
        have b2 := lastBefore_lt hq
        show min (three way s t i j) (D way s t p q + ((i - 1 - p) + (1 + (j - 1 - q)))) = _ ∨ _
        by_cases c : three way s t i j ≤ D way s t p q + ((i - 1 - p) + (1 + (j - 1 - q)))
        · exact .inl (Nat.min_eq_left c)
        · refine .inr ⟨p, q, b1, b2, lastBefore_at hp, lastBefore_at hq, ?_⟩
          show min (three way s t i j) (D way s t p q + ((i - 1 - p) + (1 + (j - 1 - q)))) = _
          rw [Nat.min_eq_right (by omega)]
          omega
theorem far_path (way : Nat) (s t : Bytes) {p q i j : Nat} (hp : p ≤ i) (hq : q ≤ j) (hi : i ≤ s.length) (hj : j ≤ t.length) : D way s t i j ≤ D way s t p q + (i - p) + (j - q) := by
  have a1 := D_downs way s t (i := p) (j := q) (Nat.le_trans hq hj) (i - p) (by rw [Nat.add_sub_cancel' hp]; exact hi)
  have a2 := D_rights way s t (i := i) (j := q) hi (j - q) (by rw [Nat.add_sub_cancel' hq]; exact hj)
  rw [Nat.add_sub_cancel' hp] at a1
  rw [Nat.add_sub_cancel' hq] at a2
  exact Nat.le_trans a2 (Nat.add_le_add_right a1 _)
theorem lift2 {a b c : Nat} (h : a ≤ b + 1) (g : b ≤ c + 1) : a ≤ c + 1 + 1 := Nat.le_trans h (Nat.succ_le_succ g)
theorem three_pass {way : Nat} {s t : Bytes} {i j k : Nat} (e : D way s t (i + 1) (j + 1) = three way s t i j) (h1 : k ≤ D way s t i (j + 1) + 1 + 1) (h2 : k ≤ D way s t (i + 1) j + 1 + 1) (h3 : k ≤ D way s t i j + 1) : k ≤ D way s t (i + 1) (j + 1) + 1 := by
  rw [e]
  cases k with
  | zero => exact Nat.zero_le _
  | succ k => exact Nat.succ_le_succ (three_ge (Nat.le_of_succ_le_succ h1) (Nat.le_of_succ_le_succ h2) (Nat.le_of_succ_le_succ h3))
theorem D_backR (way : Nat) (s t : Bytes) {j : Nat} (hj : j < t.length) : ∀ i, i ≤ s.length → D way s t i j ≤ D way s t i (j + 1) + 1
  | 0, _ => by rw [D_zero way s t hj, D_zero way s t (Nat.le_of_lt hj)]; exact Nat.le_add_right j 2
  | i + 1, hi => by
    have ih := D_backR way s t hj i (Nat.le_of_succ_le hi)
    have d1 := D_down way s t (i := i) (j := j) hi (Nat.le_of_lt hj)
    rcases D_cases way s t (i := i) hi hj with e | ⟨p, q, hp, hq, e1, e2, e⟩
    · exact three_pass e (lift2 d1 ih) (Nat.le_add_right _ 2) d1
    · have a1 := far_path way s t (i := i) (j := q) (Nat.le_of_lt hp) (Nat.le_refl q) (Nat.le_of_succ_le hi) (Nat.le_trans (Nat.le_of_lt hq) (Nat.le_of_lt hj))
      have a2 := D_same way s t (i := i) (j := q) hi (Nat.lt_trans hq hj) e2.symm
      have a3 := far_path way s t (p := i + 1) (q := q + 1) (i := i + 1) (j := j) (Nat.le_refl (i + 1)) hq hi (Nat.le_of_lt hj)
      omega
theorem D_backD (way : Nat) (s t : Bytes) {i : Nat} (hi : i < s.length) : ∀ j, j ≤ t.length → D way s t i j ≤ D way s t (i + 1) j + 1
  | 0, _ => by rw [D_left way s t hi, D_left way s t (Nat.le_of_lt hi)]; exact Nat.le_add_right i 2
  | j + 1, hj => by
    have ih := D_backD way s t hi j (Nat.le_of_succ_le hj)
    have d1 := D_right way s t (i := i) (j := j) (Nat.le_of_lt hi) hj
    rcases D_cases way s t (j := j) hi hj with e | ⟨p, q, hp, hq, e1, e2, e⟩
    · exact three_pass e (Nat.le_add_right _ 2) (lift2 d1 ih) d1
    · have a1 := far_path way s t (i := p) (j := j) (Nat.le_refl p) (Nat.le_of_lt hq) (Nat.le_trans (Nat.le_of_lt hp) (Nat.le_of_lt hi)) (Nat.le_of_succ_le hj)
      have a2 := D_same way s t (i := p) (j := j) (Nat.lt_trans hp hi) hj e1
      have a3 := far_path way s t (p := p + 1) (q := j + 1) (i := i) (j := j + 1) hp (Nat.le_refl (j + 1)) (Nat.le_of_lt hi) hj
      omega
/-- a byte that can stay as it is does -/
theorem cell_same (way : Nat) (s t : Bytes) {i j : Nat} (hi : i < s.length) (hj : j < t.length) (h : s.getD i 0 = t.getD j 0) : D way s t (i + 1) (j + 1) = D way s t i j := by
  refine Nat.le_antisymm (D_same way s t hi hj h) ?_
  rcases D_cases way s t hi hj with e | ⟨p, q, hp, hq, e1, e2, e⟩
  · rw [e]
    exact three_ge (D_backR way s t hj i (Nat.le_of_lt hi)) (D_backD way s t hi j (Nat.le_of_lt hj)) (Nat.le_refl _)
  · have a2 := D_same way s t (i := p) (j := q) (Nat.lt_trans hp hi) (Nat.lt_trans hq hj) (e1.trans (h.symm.trans e2.symm))
    have a3 := far_path way s t (p := p + 1) (q := q + 1) (i := i) (j := j) hp hq (Nat.le_of_lt hi) (Nat.le_of_lt hj)
    omega
/-- else the fewest of these -/
theorem cell_diff (way : Nat) (s t : Bytes) {i j : Nat} (hi : i < s.length) (hj : j < t.length) (h : ¬ s.getD i 0 = t.getD j 0) :
    (D way s t (i + 1) (j + 1) : Int) = if way = 2 ∧ ¬ last1 t j (s.getD i 0) = 0 ∧ ¬ last1 s i (t.getD j 0) = 0 then
      min (three way s t i j : Int) ((D way s t (last1 s i (t.getD j 0) - 1) (last1 t j (s.getD i 0) - 1) : Int) + (((i + 1 : Nat) : Int) - (last1 s i (t.getD j 0) : Nat) - 1) + 1 + (((j + 1 : Nat) : Int) - (last1 t j (s.getD i 0) : Nat) - 1))
    else (three way s t i j : Int) := by
  rw [D_step way s t hi hj]
  by_cases h2 : way = 2
  · rw [if_neg (fun z => z h2)]
    unfold last1
    cases hp : Sf93.lastBefore s i (t.getD j 0) with
    | none => rw [if_neg (fun z => z.2.2 rfl)]
    | some p =>
      cases hq : Sf93.lastBefore t j (s.getD i 0) with
      | none => rw [if_neg (fun z => z.2.1 rfl)]
      | some q =>
        have b1 := lastBefore_lt hp
        have b2 := lastBefore_lt hq
        rw [if_pos ⟨h2, Nat.succ_ne_zero q, Nat.succ_ne_zero p⟩]
        show ((min (three way s t i j) (D way s t p q + ((i - 1 - p) + (1 + (j - 1 - q)))) : Nat) : Int) = _
        rw [show ∀ a b : Nat, ((min a b : Nat) : Int) = min (a : Int) (b : Int) from fun a b => by omega]
        congr 1
        show ((D way s t p q + ((i - 1 - p) + (1 + (j - 1 - q))) : Nat) : Int) = (D way s t p q : Int) + (((i + 1 : Nat) : Int) - ((p + 1 : Nat) : Int) - 1) + 1 + (((j + 1 : Nat) : Int) - ((q + 1 : Nat) : Int) - 1)
        omega
  · rw [if_pos h2, if_neg (fun z => h2 z.1)]
end Nw

end
section
set_option Elab.async false
set_option linter.all false
set_option maxRecDepth 100000
namespace Nw
open Sf65 (Bytes)
/-! ### words as whole numbers -/
def bi (b : UInt8) : Int := ((b.toNat : Nat) : Int)
def wints (s : Bytes) : List Int := s.map bi
theorem bi_inj {a b : UInt8} (h : bi a = bi b) : a = b := by
  unfold bi at h
  exact UInt8.toNat_inj.mp (by omega)
theorem bi_eq (a b : UInt8) : (bi a = bi b) = (a = b) := propext ⟨bi_inj, fun h => by rw [h]⟩
theorem bi_lo (a : UInt8) : 0 ≤ bi a := by unfold bi; omega
theorem bi_hi (a : UInt8) : bi a ≤ 255 := by
  unfold bi
  have := a.toNat_lt
  omega
theorem bi_ofNat {z : Int} (h0 : 0 ≤ z) (h1 : z ≤ 255) : bi (UInt8.ofNat z.toNat) = z := by
  unfold bi
  rw [UInt8.toNat_ofNat']
  omega
theorem ofNat_bi (b : UInt8) : UInt8.ofNat (bi b).toNat = b := bi_inj (bi_ofNat (bi_lo b) (bi_hi b))
theorem bytesOf_ints : ∀ s : Bytes, Sf93Neutral.bytesOf (wints s) = s
  | [] => rfl
  | b :: s => by
    show UInt8.ofNat (bi b).toNat :: Sf93Neutral.bytesOf (wints s) = b :: s
    rw [ofNat_bi, bytesOf_ints s]
theorem ints_bytesOf : ∀ {l : List Int}, NeutralIO.bytes l = true → wints (Sf93Neutral.bytesOf l) = l
  | [], _ => rfl
  | z :: l, h => by
    unfold NeutralIO.bytes at h
    rw [List.all_cons, Bool.and_eq_true, Bool.and_eq_true] at h
    have h0 := of_decide_eq_true h.1.1
    have h1 := of_decide_eq_true h.1.2
    show bi (UInt8.ofNat z.toNat) :: wints (Sf93Neutral.bytesOf l) = z :: l
    rw [bi_ofNat h0 h1, ints_bytesOf (show NeutralIO.bytes l = true from h.2)]
theorem ints_length (s : Bytes) : (wints s).length = s.length := List.length_map _
theorem ints_inj {s t : Bytes} (h : wints s = wints t) : s = t := by rw [← bytesOf_ints s, h, bytesOf_ints]
theorem ints_get {s : Bytes} {i : Nat} (h : i < s.length) : (wints s)[i]? = some (bi (s.getD i 0)) := by
  unfold wints
  rw [List.getElem?_map, List.getElem?_eq_getElem h, List.getD_eq_getElem?_getD, List.getElem?_eq_getElem h]
  rfl
theorem getD_of {s : Bytes} {i : Nat} {b : UInt8} (h : s[i]? = some b) : s.getD i 0 = b := by
  rw [List.getD_eq_getElem?_getD, h]
  rfl
theorem get_of {s : Bytes} {i : Nat} (h : i < s.length) : s[i]? = some (s.getD i 0) := by
  rw [List.getElem?_eq_getElem h, List.getD_eq_getElem?_getD, List.getElem?_eq_getElem h]
  rfl
/-! ### far as the program tells it -/
def farI (way : Nat) (s t : Bytes) : Int := match Sf93.far way s t with
  | some n => (n : Int)
  | none => -2
theorem farI_D (way : Nat) (s t : Bytes) (h : way ≠ 3) : farI way s t = (D way s t s.length t.length : Int) := by
  unfold farI
  rw [far_D way s t h]
theorem farI_3ne (s t : Bytes) (h : s.length ≠ t.length) : farI 3 s t = -2 := by
  unfold farI Sf93.far
  rw [if_pos rfl, if_neg h]
/-- how many of the first i places differ -/
def diff (s t : Bytes) (i : Nat) : Nat := (List.range i).countP fun k => s.getD k 0 != t.getD k 0
theorem diff_succ (s t : Bytes) (i : Nat) : diff s t (i + 1) = diff s t i + (if s.getD i 0 = t.getD i 0 then 0 else 1) := by
  unfold diff
  rw [List.range_succ, List.countP_append, List.countP_cons, List.countP_nil]
  by_cases h : s.getD i 0 = t.getD i 0
  · rw [if_pos h, h]
    simp
  · rw [if_neg h]
    have : (s.getD i 0 != t.getD i 0) = true := by simpa [bne_iff_ne] using h
    simp only [this, if_true, Nat.zero_add]
theorem diff_cons (a b : UInt8) (s t : Bytes) : ∀ i, diff (a :: s) (b :: t) (i + 1) = (if a = b then 0 else 1) + diff s t i
  | 0 => by
    rw [diff_succ]
    show 0 + (if a = b then 0 else 1) = _ + 0
    omega
  | i + 1 => by
    rw [diff_succ, diff_cons a b s t i, diff_succ s t i]
    show _ + (if s.getD i 0 = t.getD i 0 then 0 else 1) = _
    omega
theorem diff_zip : ∀ (s t : Bytes), s.length = t.length → (List.zip s t).countP (fun (x : UInt8 × UInt8) => x.1 != x.2) = diff s t s.length
  | [], [], _ => rfl
  | a :: s, b :: t, h => by
    have h : s.length + 1 = t.length + 1 := h
    have ih := diff_zip s t (by omega)
    show ((a, b) :: List.zip s t).countP _ = diff (a :: s) (b :: t) (s.length + 1)
    rw [List.countP_cons, ih, diff_cons]
    by_cases e : a = b
    · rw [if_pos e]
      simp [e]
    · rw [if_neg e]
      simp [e]
      omega
theorem farI_3eq (s t : Bytes) (h : s.length = t.length) : farI 3 s t = (diff s t s.length : Int) := by
  unfold farI Sf93.far
  rw [if_pos rfl, if_pos h, diff_zip s t h]
theorem diff_le (s t : Bytes) : ∀ i, diff s t i ≤ i
  | 0 => Nat.le_refl _
  | i + 1 => by
    have := diff_le s t i
    rw [diff_succ]
    split <;> omega
/-! ### common, shares -/
theorem common_I (s t : Bytes) : ((Sf93.common s t : Nat) : Int) = ((s.length : Int) + (t.length : Int) - farI 0 s t) / 2 := by
  have e := far_D 0 s t (by decide)
  have b := D_le 0 s t s.length t.length (Nat.le_refl _) (Nat.le_refl _)
  rw [farI_D 0 s t (by decide)]
  unfold Sf93.common
  rw [e]
  show (((s.length + t.length - D 0 s t s.length t.length) / 2 : Nat) : Int) = _
  omega
theorem drop_get {s : Bytes} {i : Nat} {b : UInt8} (h : s[i]? = some b) : s.drop i = b :: s.drop (i + 1) := by
  obtain ⟨h1, e⟩ := List.getElem?_eq_some_iff.mp h
  rw [List.drop_eq_getElem_cons h1, e]
theorem sub_turn {c w : Bytes} {f i : Nat} {b : UInt8} (hw : w[i]? = some b) :
    (c.drop (if f < c.length ∧ c.getD f 0 = b then f + 1 else f)).isSublist (w.drop (i + 1)) = (c.drop f).isSublist (w.drop i) := by
  rw [drop_get hw]
  by_cases hf : f < c.length
  · have e := drop_get (get_of hf)
    by_cases hb : c.getD f 0 = b
    · rw [if_pos ⟨hf, hb⟩, e, hb]
      show _ = List.isSublist (b :: _) (b :: _)
      simp only [List.isSublist, beq_self_eq_true, if_true]
    · rw [if_neg (fun z => hb z.2), e]
      have hb' : (c.getD f 0 == b) = false := beq_eq_false_iff_ne.mpr hb
      simp only [List.isSublist, hb']
      rfl
  · rw [if_neg (fun z => hf z.1), List.drop_eq_nil_of_le (by omega)]
    cases w.drop (i + 1) <;> rfl
theorem sub_end {c : Bytes} {f : Nat} (h : f ≤ c.length) : (c.drop f).isSublist ([] : Bytes) = decide (f = c.length) := by
  by_cases e : f = c.length
  · rw [decide_eq_true e, List.drop_eq_nil_of_le (by omega)]
    rfl
  · rw [decide_eq_false e, drop_get (get_of (show f < c.length by omega))]
    rfl
/-! ### makes -/
def oneEdit (way n : Nat) (w : Bytes) : Option Bytes := match Sf93.editOf n with
  | none => none
  | some o => if o.ok way = true then o.on w else none
def runs (way : Nat) : List Nat → Bytes → Option Bytes
  | [], w => some w
  | n :: l, w => (oneEdit way n w).bind (runs way l)
theorem mapM_len {f : Nat → Option Sf65.Op} : ∀ {l : List Nat} {es : List Sf65.Op}, l.mapM f = some es → es.length = l.length
  | [], es, h => by
    rw [List.mapM_nil] at h
    cases h
    rfl
  | n :: l, es, h => by
    rw [List.mapM_cons] at h
    cases e : f n with
    | none =>
      rw [e] at h
      cases h
    | some o =>
      rw [e] at h
      cases e2 : l.mapM f with
      | none =>
        rw [e2] at h
        cases h
      | some es2 =>
        rw [e2] at h
        cases h
        show es2.length + 1 = l.length + 1
        rw [mapM_len e2]
theorem made_runs (way : Nat) (t : Bytes) (F : Bool) : ∀ (l : List Nat) (s : Bytes), (match l.mapM Sf93.editOf with
    | none => false
    | some es => es.all (Sf65.Op.ok way) && (Sf65.edited es s == some t && F)) = (runs way l s == some t && F)
  | [], s => by
    rw [List.mapM_nil]
    show (true && (some s == some t && F)) = (some s == some t && F)
    rw [Bool.true_and]
  | n :: l, s => by
    rw [List.mapM_cons]
    cases e : Sf93.editOf n with
    | none =>
      show false = ((oneEdit way n s).bind (runs way l) == some t && F)
      unfold oneEdit
      rw [e]
      rfl
    | some o =>
      have e1 : runs way (n :: l) s = (if o.ok way = true then o.on s else none).bind (runs way l) := by
        show (oneEdit way n s).bind (runs way l) = _
        unfold oneEdit
        rw [e]
      rw [e1]
      cases e2 : l.mapM Sf93.editOf with
      | none =>
        show false = _
        by_cases ho : o.ok way = true
        · rw [if_pos ho]
          cases e3 : o.on s with
          | none => rfl
          | some s2 =>
            have ih := made_runs way t F l s2
            rw [e2] at ih
            exact ih
        · rw [if_neg ho]
          rfl
      | some es =>
        show ((o.ok way && es.all (Sf65.Op.ok way)) && ((o.on s).bind (fun t => Sf65.edited es t) == some t && F)) = _
        by_cases ho : o.ok way = true
        · rw [if_pos ho, ho, Bool.true_and]
          cases e3 : o.on s with
          | none =>
            show (es.all (Sf65.Op.ok way) && (false && F)) = (false && F)
            simp
          | some s2 =>
            have ih := made_runs way t F l s2
            rw [e2] at ih
            exact ih
        · rw [if_neg ho]
          have ho' : o.ok way = false := by simpa using ho
          rw [ho']
          rfl
theorem makes_runs (way : Nat) (s t : Bytes) (l : List Nat) : Sf93.makes way s t l = (runs way l s == some t && Sf93.far way s t == some l.length) := by
  rw [← made_runs way t (Sf93.far way s t == some l.length) l s]
  unfold Sf93.makes
  cases e : l.mapM Sf93.editOf with
  | none => rfl
  | some es =>
    show _ = _
    simp only [mapM_len e]
/-- the kinds of a way -/
def kinds (way : Nat) : List Nat := if way = 0 then [1, 2] else if way = 1 then [1, 2, 3] else if way = 2 then [1, 2, 3, 4] else [3]
def room (kind len : Nat) : Int := if kind = 1 then (len : Int) + 1 else if kind = 4 then (len : Int) - 1 else len
def canB (way n len : Nat) : Bool := (kinds way).contains (n / 65536) && (!((n / 65536 == 2 || n / 65536 == 4) && n % 256 != 0) && decide (((n / 256 % 256 : Nat) : Int) < room (n / 65536) len))
def edB (n : Nat) (w : Bytes) : Bytes :=
  let p := n / 256 % 256
  let c := UInt8.ofNat (n % 256)
  if n / 65536 = 1 then w.take p ++ (c :: w.drop p)
  else if n / 65536 = 2 then w.take p ++ w.drop (p + 1)
  else if n / 65536 = 3 then w.take p ++ (c :: w.drop (p + 1))
  else w.take p ++ (w.getD (p + 1) 0 :: w.getD p 0 :: w.drop (p + 2))
theorem swap_on (p : Nat) (w : Bytes) : (Sf65.Op.swap p).on w = if p + 1 < w.length then some (w.take p ++ (w.getD (p + 1) 0 :: w.getD p 0 :: w.drop (p + 2))) else none := by
  by_cases hl : p + 1 < w.length
  · rw [if_pos hl]
    have d1 := drop_get (get_of (show p < w.length by omega))
    have d2 := drop_get (get_of hl)
    unfold Sf65.Op.on
    simp only
    rw [d1, d2]
  · rw [if_neg hl]
    unfold Sf65.Op.on
    simp only
    by_cases hl2 : p < w.length
    · rw [drop_get (get_of hl2), List.drop_eq_nil_of_le (show w.length ≤ p + 1 by omega)]
    · rw [List.drop_eq_nil_of_le (show w.length ≤ p by omega)]
theorem put_on (p : Nat) (c : UInt8) (w : Bytes) : (Sf65.Op.put p c).on w = if p ≤ w.length then some (w.take p ++ (c :: w.drop p)) else none := rfl
theorem cut_on (p : Nat) (w : Bytes) : (Sf65.Op.cut p).on w = if p < w.length then some (w.take p ++ w.drop (p + 1)) else none := rfl
theorem set_on (p : Nat) (c : UInt8) (w : Bytes) : (Sf65.Op.set p c).on w = if p < w.length then some (w.take p ++ (c :: w.drop (p + 1))) else none := rfl
theorem oneEdit_can {way : Nat} (hw : way ≤ 3) (n : Nat) (w : Bytes) : oneEdit way n w = if canB way n w.length = true then some (edB n w) else none := by
  have four : n / 65536 = 1 ∨ n / 65536 = 2 ∨ n / 65536 = 3 ∨ n / 65536 = 4 ∨ (n / 65536 ≠ 1 ∧ n / 65536 ≠ 2 ∧ n / 65536 ≠ 3 ∧ n / 65536 ≠ 4) := by omega
  have ways : way = 0 ∨ way = 1 ∨ way = 2 ∨ way = 3 := by omega
  generalize hp : n / 256 % 256 = p
  generalize hc : n % 256 = c
  unfold oneEdit Sf93.editOf canB edB room
  simp only [hp, hc]
  have o1 : ∀ x, Sf65.Op.ok way (.put p x) = (kinds way).contains 1 := fun x => by rcases ways with rfl | rfl | rfl | rfl <;> rfl
  have o2 : Sf65.Op.ok way (.cut p) = (kinds way).contains 2 := by rcases ways with rfl | rfl | rfl | rfl <;> rfl
  have o3 : ∀ x, Sf65.Op.ok way (.set p x) = (kinds way).contains 3 := fun x => by rcases ways with rfl | rfl | rfl | rfl <;> rfl
  have o4 : Sf65.Op.ok way (.swap p) = (kinds way).contains 4 := by rcases ways with rfl | rfl | rfl | rfl <;> rfl
  have o5 : ∀ m : Nat, m ≠ 1 → m ≠ 2 → m ≠ 3 → m ≠ 4 → (kinds way).contains m = false := fun m a b c d => by rcases ways with rfl | rfl | rfl | rfl <;> simp [kinds, a, b, c, d]
  clear ways hw
  rcases four with e | e | e | e | ⟨e1, e2, e3, e4⟩
  · rw [e]
    have eq : ((p : Int) < (w.length : Int) + 1) = (p ≤ w.length) := propext (by omega)
    generalize (kinds way).contains 1 = b at o1 ⊢
    cases b <;> by_cases hl : p ≤ w.length <;> simp [o1, hl, eq, put_on]
  · rw [e]
    by_cases hc0 : c = 0
    · generalize (kinds way).contains 2 = b at o2 ⊢
      cases b <;> by_cases hl : p < w.length <;> simp [o2, hl, hc0, cut_on]
    · simp [hc0]
  · rw [e]
    generalize (kinds way).contains 3 = b at o3 ⊢
    cases b <;> by_cases hl : p < w.length <;> simp [o3, hl, set_on]
  · rw [e]
    by_cases hc0 : c = 0
    · have eq : ((p : Int) < (w.length : Int) - 1) = (p + 1 < w.length) := propext (by omega)
      generalize (kinds way).contains 4 = b at o4 ⊢
      cases b <;> by_cases hl : p + 1 < w.length <;> simp [o4, hl, eq, hc0, swap_on]
    · simp [hc0]
  · rw [o5 _ e1 e2 e3 e4]
    simp [e1, e2, e3, e4]
/-- the program's walk through the edits: some: the word then; none: one can't be done -/
theorem runs_snoc (way n : Nat) : ∀ (l : List Nat) (s : Bytes), runs way (l ++ [n]) s = (runs way l s).bind (oneEdit way n)
  | [], s => by
    show (oneEdit way n s).bind (fun w => some w) = oneEdit way n s
    cases oneEdit way n s <;> rfl
  | m :: l, s => by
    show (oneEdit way m s).bind (runs way (l ++ [n])) = ((oneEdit way m s).bind (runs way l)).bind (oneEdit way n)
    cases oneEdit way m s with
    | none => rfl
    | some w => exact runs_snoc way n l w
theorem runs_none_app (way : Nat) : ∀ (l r : List Nat) (s : Bytes), runs way l s = none → runs way (l ++ r) s = none
  | [], r, s, h => by cases h
  | m :: l, r, s, h => by
    have h : (oneEdit way m s).bind (runs way l) = none := h
    show (oneEdit way m s).bind (runs way (l ++ r)) = none
    cases e : oneEdit way m s with
    | none => rfl
    | some w =>
      rw [e] at h
      exact runs_none_app way l r w h
end Nw

end
section
set_option Elab.async false
set_option linter.all false
set_option maxRecDepth 100000
namespace Nw
open Sf65 (Bytes)
/-! ### words by their bytes -/
theorem before_irr : ∀ a : Bytes, Sf65.before a a = false
  | [] => rfl
  | x :: a => by
    show (decide (x < x) || (x == x && Sf65.before a a)) = false
    rw [before_irr a]
    simp
theorem before_trans : ∀ {a b c : Bytes}, Sf65.before a b = true → Sf65.before b c = true → Sf65.before a c = true
  | [], [], c, h, _ => by simp [Sf65.before] at h
  | [], y :: b, [], _, h => by simp [Sf65.before] at h
  | [], y :: b, z :: c, _, _ => rfl
  | x :: a, [], c, h, _ => by simp [Sf65.before] at h
  | x :: a, y :: b, [], _, h => by simp [Sf65.before] at h
  | x :: a, y :: b, z :: c, h1, h2 => by
    have ih := before_trans (a := a) (b := b) (c := c)
    simp only [Sf65.before, Bool.or_eq_true, Bool.and_eq_true, decide_eq_true_eq, beq_iff_eq] at h1 h2 ⊢
    rcases h1 with h1 | ⟨h1, g1⟩ <;> rcases h2 with h2 | ⟨h2, g2⟩
    · exact .inl (UInt8.lt_trans h1 h2)
    · subst h2
      exact .inl h1
    · subst h1
      exact .inl h2
    · subst h1 h2
      exact .inr ⟨rfl, ih g1 g2⟩
theorem before_conn : ∀ {a b : Bytes}, Sf65.before a b = false → Sf65.before b a = false → a = b
  | [], [], _, _ => rfl
  | [], y :: b, h, _ => by simp [Sf65.before] at h
  | x :: a, [], _, h => by simp [Sf65.before] at h
  | x :: a, y :: b, h1, h2 => by
    have ih := before_conn (a := a) (b := b)
    simp only [Sf65.before, Bool.or_eq_false_iff, Bool.and_eq_false_iff, decide_eq_false_iff_not, beq_eq_false_iff_ne] at h1 h2
    have e : x = y := by
      have a1 := UInt8.not_lt.mp h1.1
      have a2 := UInt8.not_lt.mp h2.1
      exact UInt8.le_antisymm a2 a1
    subst e
    have g1 := h1.2.resolve_left (fun z => z rfl)
    have g2 := h2.2.resolve_left (fun z => z rfl)
    rw [ih g1 g2]
theorem before_asym {a b : Bytes} (h : Sf65.before a b = true) : Sf65.before b a = false := by
  cases e : Sf65.before b a with
  | false => rfl
  | true =>
    have := before_trans h e
    rw [before_irr] at this
    cases this
/-! ### nearer first -/
theorem ahead_iff (x y : Nat × Bytes) : Sf93.ahead x y = true ↔ x.1 < y.1 ∨ (x.1 = y.1 ∧ Sf65.before y.2 x.2 = false) := by
  unfold Sf93.ahead
  simp only [Bool.or_eq_true, Bool.and_eq_true, decide_eq_true_eq, beq_iff_eq, Bool.not_eq_true']
theorem ahead_total (x y : Nat × Bytes) : (Sf93.ahead x y || Sf93.ahead y x) = true := by
  rw [Bool.or_eq_true, ahead_iff, ahead_iff]
  by_cases h : x.1 < y.1
  · exact .inl (.inl h)
  · by_cases h2 : y.1 < x.1
    · exact .inr (.inl h2)
    · have e : x.1 = y.1 := by omega
      cases hb : Sf65.before y.2 x.2 with
      | false => exact .inl (.inr ⟨e, rfl⟩)
      | true => exact .inr (.inr ⟨e.symm, before_asym hb⟩)
theorem ahead_trans (x y z : Nat × Bytes) (h1 : Sf93.ahead x y = true) (h2 : Sf93.ahead y z = true) : Sf93.ahead x z = true := by
  rw [ahead_iff] at h1 h2 ⊢
  rcases h1 with h1 | ⟨e1, b1⟩ <;> rcases h2 with h2 | ⟨e2, b2⟩
  · exact .inl (by omega)
  · exact .inl (by omega)
  · exact .inl (by omega)
  · refine .inr ⟨by omega, ?_⟩
    cases h : Sf65.before z.2 x.2 with
    | false => rfl
    | true =>
      -- z < x, x ≤ y, y ≤ z
      cases hxy : Sf65.before x.2 y.2 with
      | true =>
        have := before_trans h hxy
        rw [b2] at this
        cases this
      | false =>
        have e := before_conn hxy b1
        rw [e] at h
        rw [b2] at h
        cases h
theorem ahead_anti {x y : Nat × Bytes} (h1 : Sf93.ahead x y = true) (h2 : Sf93.ahead y x = true) : x = y := by
  rw [ahead_iff] at h1 h2
  have e : x.1 = y.1 := by omega
  have b1 : Sf65.before y.2 x.2 = false := by rcases h1 with h | ⟨_, h⟩; omega; exact h
  have b2 : Sf65.before x.2 y.2 = false := by rcases h2 with h | ⟨_, h⟩; omega; exact h
  exact Prod.ext e (before_conn b2 b1)
/-- two lists in order with the same members are one -/
theorem perm_one {α : Type} {r : α → α → Prop} (anti : ∀ x y, r x y → r y x → x = y) : ∀ {l m : List α}, l.Perm m → l.Pairwise r → m.Pairwise r → l = m
  | [], m, p, _, _ => by rw [List.Perm.nil_eq p]
  | x :: l, [], p, _, _ => by
    have := p.length_eq
    simp at this
  | x :: l, y :: m, p, h1, h2 => by
    obtain ⟨a1, a2⟩ := List.pairwise_cons.mp h1
    obtain ⟨b1, b2⟩ := List.pairwise_cons.mp h2
    have e : x = y := by
      have mx : x ∈ y :: m := p.mem_iff.mp (List.mem_cons_self ..)
      have my : y ∈ x :: l := p.mem_iff.mpr (List.mem_cons_self ..)
      rcases List.mem_cons.mp mx with e | mx
      · exact e
      · rcases List.mem_cons.mp my with e | my
        · exact e.symm
        · exact anti x y (a1 y my) (b1 x mx)
    subst e
    rw [perm_one anti (List.Perm.cons_inv p) a2 b2]
/-- the words within reach, with how far each is -/
def reach (way : Nat) (words : List Bytes) (s : Bytes) (k : Nat) : List (Nat × Bytes) := words.filterMap fun (w : Bytes) => match Sf93.far way s w with
  | some n => if n ≤ k then some (n, w) else none
  | none => none
theorem near_sorted (way : Nat) (words : List Bytes) (s : Bytes) (k : Nat) : (Sf93.near way words s k).Pairwise fun x y => Sf93.ahead x y = true := by
  unfold Sf93.near
  exact List.pairwise_mergeSort (le := Sf93.ahead) ahead_trans ahead_total _
theorem near_perm (way : Nat) (words : List Bytes) (s : Bytes) (k : Nat) : (Sf93.near way words s k).Perm (reach way words s k) := by
  unfold Sf93.near
  exact List.mergeSort_perm _ _
theorem near_is {way : Nat} {words : List Bytes} {s : Bytes} {k : Nat} {l : List (Nat × Bytes)} (p : l.Perm (reach way words s k)) (h : l.Pairwise fun x y => Sf93.ahead x y = true) : Sf93.near way words s k = l :=
  perm_one (r := fun x y => Sf93.ahead x y = true) (fun _ _ => ahead_anti) ((near_perm way words s k).trans p.symm) (near_sorted way words s k) h
theorem near_length (way : Nat) (words : List Bytes) (s : Bytes) (k : Nat) : (Sf93.near way words s k).length = (reach way words s k).length := (near_perm way words s k).length_eq
end Nw

end
section
set_option Elab.async false
set_option linter.all false
set_option maxRecDepth 100000
namespace Nw
open Sf65 (Bytes)
/-! ### the calls, read from the list -/
theorem drop_head {l : List Int} {n : Nat} {p : Int} {r : List Int} (h : l.drop n = p :: r) : l[n]? = some p ∧ l.drop (n + 1) = r ∧ n < l.length := by
  have hl : n < l.length := by
    by_cases q : n < l.length
    · exact q
    · rw [List.drop_eq_nil_of_le (by omega)] at h
      cases h
  rw [List.drop_eq_getElem_cons hl] at h
  injection h with h1 h2
  exact ⟨by rw [List.getElem?_eq_getElem hl, h1], h2, hl⟩
theorem row_at {l : List Int} {n : Nat} {x s : List Int} (h : PyFlat.row (l.drop n) = some (x, s)) : ∃ m : Nat, l[n]? = some (m : Int) ∧ n + 1 + m ≤ l.length ∧ x = (l.drop (n + 1)).take m ∧ x.length = m ∧ s = l.drop (n + 1 + m) := by
  cases e : l.drop n with
  | nil =>
    rw [e] at h
    cases h
  | cons z r =>
    obtain ⟨h1, h2, h3⟩ := drop_head e
    rw [e] at h
    unfold PyFlat.row at h
    simp only at h
    by_cases q : 0 ≤ z ∧ z.toNat ≤ r.length
    · rw [if_pos q] at h
      have hx := Option.some.inj h
      injection hx with hx hs
      have hr : r.length = l.length - (n + 1) := by rw [← h2, List.length_drop]
      refine ⟨z.toNat, ?_, by omega, by rw [h2]; exact hx.symm, ?_, ?_⟩
      · rw [h1]
        congr 1
        omega
      · rw [← hx, List.length_take]
        omega
      · rw [← hs, ← h2, List.drop_drop]
    · rw [if_neg q] at h
      cases h
/-- a row of bytes at the place n -/
def Row (l : List Int) (n : Nat) (s : Bytes) : Prop := l[n]? = some (s.length : Int) ∧ n + 1 + s.length ≤ l.length ∧ (l.drop (n + 1)).take s.length = wints s ∧ s.length ≤ 40
/-- a row of edits at the place n -/
def ERow (l : List Int) (n : Nat) (es : List Nat) : Prop := l[n]? = some (es.length : Int) ∧ n + 1 + es.length ≤ l.length ∧ (l.drop (n + 1)).take es.length = es.map (fun (k : Nat) => (k : Int)) ∧ es.length ≤ 80
theorem row_word {l : List Int} {n m : Nat} {x : List Int} (h1 : l[n]? = some (m : Int)) (h2 : n + 1 + m ≤ l.length) (h3 : x = (l.drop (n + 1)).take m) (h4 : x.length = m) (hw : Sf93Neutral.word x = true) :
    Row l n (Sf93Neutral.bytesOf x) ∧ (Sf93Neutral.bytesOf x).length = m := by
  unfold Sf93Neutral.word at hw
  rw [Bool.and_eq_true] at hw
  have hb := ints_bytesOf hw.1
  have hl : (Sf93Neutral.bytesOf x).length = m := by
    rw [← ints_length, hb]
    exact h4
  refine ⟨⟨by rw [hl]; exact h1, by rw [hl]; exact h2, by rw [hl, hb]; exact h3.symm, ?_⟩, hl⟩
  have := of_decide_eq_true hw.2
  omega
theorem toNat_map : ∀ {x : List Int}, (x.all fun (z : Int) => decide (0 ≤ z) && decide (z ≤ 2147483647)) = true → (x.map Int.toNat).map (fun (k : Nat) => (k : Int)) = x
  | [], _ => rfl
  | z :: x, h => by
    rw [List.all_cons, Bool.and_eq_true, Bool.and_eq_true] at h
    have h0 := of_decide_eq_true h.1.1
    show ((z.toNat : Nat) : Int) :: (x.map Int.toNat).map (fun (k : Nat) => (k : Int)) = z :: x
    rw [toNat_map h.2]
    congr 1
    omega
theorem row_edits {l : List Int} {n m : Nat} {x : List Int} (h1 : l[n]? = some (m : Int)) (h2 : n + 1 + m ≤ l.length) (h3 : x = (l.drop (n + 1)).take m) (h4 : x.length = m) (hw : Sf93Neutral.edits x = true) :
    ERow l n (x.map Int.toNat) ∧ (x.map Int.toNat).length = m := by
  unfold Sf93Neutral.edits at hw
  rw [Bool.and_eq_true] at hw
  have hl : (x.map Int.toNat).length = m := by rw [List.length_map]; exact h4
  refine ⟨⟨by rw [hl]; exact h1, by rw [hl]; exact h2, by rw [hl, toNat_map hw.2]; exact h3.symm, ?_⟩, hl⟩
  have := of_decide_eq_true hw.1
  omega
/-- the call that stands at the place n, and the place behind it -/
inductive Nx (l : List Int) (n : Nat) : Sf93.Call → Nat → Prop
  | far (y : Int) (s t : Bytes) : l[n]? = some 0 → l[n + 1]? = some y → Row l (n + 2) s → Row l (n + 3 + s.length) t → Nx l n (.far y s t) (n + 3 + s.length + 1 + t.length)
  | makes (y : Int) (s t : Bytes) (es : List Nat) : l[n]? = some 1 → l[n + 1]? = some y → Row l (n + 2) s → Row l (n + 3 + s.length) t → ERow l (n + 3 + s.length + 1 + t.length) es → Nx l n (.makes y s t es) (n + 3 + s.length + 1 + t.length + 1 + es.length)
  | common (s t : Bytes) : l[n]? = some 2 → Row l (n + 1) s → Row l (n + 2 + s.length) t → Nx l n (.common s t) (n + 2 + s.length + 1 + t.length)
  | shares (s t c : Bytes) : l[n]? = some 3 → Row l (n + 1) s → Row l (n + 2 + s.length) t → Row l (n + 2 + s.length + 1 + t.length) c → Nx l n (.shares s t c) (n + 2 + s.length + 1 + t.length + 1 + c.length)
  | grams (q : Int) (s t : Bytes) : l[n]? = some 4 → l[n + 1]? = some q → Row l (n + 2) s → Row l (n + 3 + s.length) t → Nx l n (.grams q s t) (n + 3 + s.length + 1 + t.length)
  | add (s : Bytes) : l[n]? = some 5 → Row l (n + 1) s → Nx l n (.add s) (n + 2 + s.length)
  | near (y k i : Int) (s : Bytes) : l[n]? = some 6 → l[n + 1]? = some y → l[n + 2]? = some k → l[n + 3]? = some i → Row l (n + 4) s → Nx l n (.near y k i s) (n + 5 + s.length)
  | count (y k : Int) (s : Bytes) : l[n]? = some 7 → l[n + 1]? = some y → l[n + 2]? = some k → Row l (n + 3) s → Nx l n (.count y k s) (n + 4 + s.length)
/-- the rows behind the numbers -/
theorem rowsS {l : List Int} {n k : Nat} {xs : List (List Int)} {t : List Int} (h : PyFlat.rows (k + 1) (l.drop n) = some (xs, t)) :
    ∃ (x : List Int) (m : Nat) (ys : List (List Int)), xs = x :: ys ∧ l[n]? = some (m : Int) ∧ n + 1 + m ≤ l.length ∧ x = (l.drop (n + 1)).take m ∧ x.length = m ∧ PyFlat.rows k (l.drop (n + 1 + m)) = some (ys, t) := by
  unfold PyFlat.rows at h
  cases e : PyFlat.row (l.drop n) with
  | none =>
    rw [e] at h
    cases h
  | some p =>
    obtain ⟨x, s⟩ := p
    rw [e] at h
    obtain ⟨m, a1, a2, a3, a4, a5⟩ := row_at e
    simp only at h
    cases e2 : PyFlat.rows k s with
    | none =>
      rw [e2] at h
      cases h
    | some q =>
      obtain ⟨ys, u⟩ := q
      rw [e2] at h
      simp only at h
      injection h with h'
      injection h' with q1 q2
      refine ⟨x, m, ys, q1.symm, a1, a2, a3, a4, ?_⟩
      rw [← a5, e2, q2]
theorem rows0 {r : List Int} {xs : List (List Int)} {t : List Int} (h : PyFlat.rows 0 r = some (xs, t)) : xs = [] ∧ t = r := by
  unfold PyFlat.rows at h
  injection h with h
  injection h with q1 q2
  exact ⟨q1.symm, q2.symm⟩
theorem take_one {l : List Int} {n : Nat} (h : ¬ (l.drop n).length < 1) : ∃ y, l[n]? = some y ∧ (l.drop n).take 1 = [y] := by
  cases e : l.drop n with
  | nil => rw [e] at h; simp at h
  | cons y r =>
    obtain ⟨h1, _, _⟩ := drop_head e
    exact ⟨y, h1, rfl⟩
theorem take_two {l : List Int} {n : Nat} (h : ¬ (l.drop n).length < 2) : ∃ y k, l[n]? = some y ∧ l[n + 1]? = some k ∧ (l.drop n).take 2 = [y, k] := by
  cases e : l.drop n with
  | nil => rw [e] at h; simp at h
  | cons y r =>
    obtain ⟨h1, h2, _⟩ := drop_head e
    cases r with
    | nil => rw [e] at h; simp at h
    | cons k r =>
      obtain ⟨h3, _, _⟩ := drop_head h2
      exact ⟨y, k, h1, h3, rfl⟩
theorem take_three {l : List Int} {n : Nat} (h : ¬ (l.drop n).length < 3) : ∃ y k i, l[n]? = some y ∧ l[n + 1]? = some k ∧ l[n + 2]? = some i ∧ (l.drop n).take 3 = [y, k, i] := by
  cases e : l.drop n with
  | nil => rw [e] at h; simp at h
  | cons y r =>
    obtain ⟨h1, h2, _⟩ := drop_head e
    cases r with
    | nil => rw [e] at h; simp at h
    | cons k r =>
      obtain ⟨h3, h4, _⟩ := drop_head h2
      cases r with
      | nil => rw [e] at h; simp at h
      | cons i r =>
        obtain ⟨h5, _, _⟩ := drop_head h4
        exact ⟨y, k, i, h1, h3, h5, rfl⟩
end Nw

end
section
set_option Elab.async false
set_option linter.all false
set_option maxRecDepth 100000
namespace Nw
open Sf65 (Bytes)
/-- an answer as numbers, its count ahead -/
def ansI (a : Sf93.Ans) : List Int := a.value :: a.out.map bi
def outI (a : Sf93.Ans) : List Int := ((ansI a).length : Int) :: ansI a
/-- at the place n, with the dictionary d and the answers out: what is due in all -/
structure Todo (l : List Int) (n : Nat) (d : List Bytes) (out : List Int) : Prop where
  ex : ∃ (cs : List (List (List Int))) (f : Nat), PyFlat.calls PySf93.shape f (l.drop n) = some cs ∧ (cs.map PySf93.whole).all Sf93Neutral.asked1 = true ∧
    PySf93.answers l = out ++ PyFlat.told (PyFlat.played Sf93Neutral.step d (cs.map PySf93.whole)) ∧ cs.length ≤ 300
  le : n ≤ l.length
theorem todo_start {l : List Int} (h : PySf93.answers_asked l = true) : Todo l 0 [] [] := by
  unfold PySf93.answers_asked PySf93.calls at h
  refine ⟨?_, Nat.zero_le _⟩
  cases e : PyFlat.calls PySf93.shape l.length l with
  | none =>
    rw [e] at h
    cases h
  | some cs =>
    rw [e] at h
    simp only at h
    rw [Bool.and_eq_true] at h
    have h1 : cs.length ≤ 300 := by
      have := of_decide_eq_true (show decide ((cs.map PySf93.whole).length ≤ 300) = true from h.1)
      rwa [List.length_map] at this
    have h2 := h.2
    unfold Sf93Neutral.asked at h2
    rw [Bool.and_eq_true, Bool.and_eq_true] at h2
    refine ⟨cs, l.length, by rw [List.drop_zero]; exact e, h2.2.2, ?_, h1⟩
    unfold PySf93.answers PySf93.calls
    rw [e]
    rfl
theorem todo_end {l : List Int} {n : Nat} {d : List Bytes} {out : List Int} (h : Todo l n d out) (hn : l.length ≤ n) : out = PySf93.answers l := by
  obtain ⟨cs, f, h1, _, h3, _⟩ := h.ex
  rw [List.drop_eq_nil_of_le hn] at h1
  have : cs = [] := by
    cases f with
    | zero =>
      unfold PyFlat.calls at h1
      exact (Option.some.inj h1).symm
    | succ f =>
      unfold PyFlat.calls at h1
      exact (Option.some.inj h1).symm
  rw [h3, this]
  show out = out ++ []
  rw [List.append_nil]
theorem step_I (d : List Bytes) (c : List (List Int)) (x : Sf93.Call) (h : Sf93Neutral.callOf c = some x) : Sf93Neutral.step d c = ((Sf93.step d x).1, ansI (Sf93.step d x).2) := by
  unfold Sf93Neutral.step
  rw [h]
  rfl
theorem told_cons (d : List Bytes) (c : List (List Int)) (r : List (List (List Int))) : PyFlat.told (PyFlat.played Sf93Neutral.step d (c :: r)) = (((Sf93Neutral.step d c).2.length : Int) :: (Sf93Neutral.step d c).2) ++ PyFlat.told (PyFlat.played Sf93Neutral.step (Sf93Neutral.step d c).1 r) := by
  show List.flatMap _ ((Sf93Neutral.step d c).2 :: PyFlat.played Sf93Neutral.step (Sf93Neutral.step d c).1 r) = _
  rw [List.flatMap_cons]
  rfl
theorem shape_cases {p : Int} {ab : Nat × Nat} (h : PySf93.shape p = some ab) : (p = 0 ∧ ab = (1, 2)) ∨ (p = 1 ∧ ab = (1, 3)) ∨ (p = 2 ∧ ab = (0, 2)) ∨ (p = 3 ∧ ab = (0, 3)) ∨ (p = 4 ∧ ab = (1, 2)) ∨ (p = 5 ∧ ab = (0, 1)) ∨ (p = 6 ∧ ab = (3, 1)) ∨ (p = 7 ∧ ab = (2, 1)) := by
  unfold PySf93.shape at h
  have one : ∀ {c : Prop} [Decidable c] {x : Nat × Nat} {e : Option (Nat × Nat)}, (if c then some x else e) = some ab → (c ∧ ab = x) ∨ e = some ab := fun {c _ x e} h => by
    by_cases q : c
    · rw [if_pos q] at h
      exact .inl ⟨q, (Option.some.inj h).symm⟩
    · rw [if_neg q] at h
      exact .inr h
  rcases one h with h | h
  · exact .inl h
  rcases one h with h | h
  · exact .inr (.inl h)
  rcases one h with h | h
  · exact .inr (.inr (.inl h))
  rcases one h with h | h
  · exact .inr (.inr (.inr (.inl h)))
  rcases one h with h | h
  · exact .inr (.inr (.inr (.inr (.inl h))))
  rcases one h with h | h
  · exact .inr (.inr (.inr (.inr (.inr (.inl h)))))
  rcases one h with h | h
  · exact .inr (.inr (.inr (.inr (.inr (.inr (.inl h))))))
  rcases one h with h | h
  · exact .inr (.inr (.inr (.inr (.inr (.inr (.inr h))))))
  · cases h
theorem call_at {l : List Int} {n : Nat} {p : Int} {r : List Int} (e : l.drop n = p :: r) {c : List (List Int)} {t : List Int} (h : PyFlat.call PySf93.shape (p :: r) = some (c, t)) :
    ∃ (a b : Nat) (xs : List (List Int)), PySf93.shape p = some (a, b) ∧ ¬ (l.drop (n + 1)).length < a ∧ PyFlat.rows b (l.drop (n + 1 + a)) = some (xs, t) ∧ c = (p :: (l.drop (n + 1)).take a) :: xs := by
  obtain ⟨_, g2, _⟩ := drop_head e
  unfold PyFlat.call at h
  simp only at h
  cases hs : PySf93.shape p with
  | none =>
    rw [hs] at h
    cases h
  | some ab =>
    obtain ⟨a, b⟩ := ab
    rw [hs] at h
    simp only at h
    rw [← g2] at h
    by_cases hl : (l.drop (n + 1)).length < a
    · rw [if_pos hl] at h
      cases h
    · rw [if_neg hl, List.drop_drop] at h
      cases e4 : PyFlat.rows b (l.drop (n + 1 + a)) with
      | none =>
        rw [e4] at h
        cases h
      | some q =>
        obtain ⟨xs, u⟩ := q
        rw [e4] at h
        injection h with h
        injection h with h1 h2
        exact ⟨a, b, xs, rfl, hl, by rw [← h2]; exact e4, h1.symm⟩
theorem row_here {l : List Int} {n m : Nat} {x : List Int} (h1 : l[n]? = some (m : Int)) (h2 : n + 1 + m ≤ l.length) (h3 : x = (l.drop (n + 1)).take m) (h4 : x.length = m) (hw : Sf93Neutral.word x = true) :
    Row l n (Sf93Neutral.bytesOf x) ∧ m = (Sf93Neutral.bytesOf x).length := by
  obtain ⟨a, b⟩ := row_word h1 h2 h3 h4 hw
  exact ⟨a, b.symm⟩
/-- which call it is: with any goal -/
theorem pick_call {G : Prop} {l : List Int} {n : Nat} {p : Int} {r : List Int} {c : List (List Int)} {t : List Int} (e : l.drop n = p :: r) (e2 : PyFlat.call PySf93.shape (p :: r) = some (c, t)) (as : Sf93Neutral.asked1 (PySf93.whole c) = true)
    (fin : ∀ (x : Sf93.Call) (n' : Nat), PySf93.whole c = c → Sf93Neutral.callOf c = some x → Nx l n x n' → n < n' → n' ≤ l.length → t = l.drop n' → G) : G := by
  obtain ⟨g1, g2, _⟩ := drop_head e
  have up : ∀ {a b : Nat}, n < a → n < a + b := fun {a b} q => Nat.lt_of_lt_of_le q (Nat.le_add_right a b)
  have u3 : n < n + 3 := Nat.lt_add_of_pos_right (by decide)
  have u2 : n < n + 2 := Nat.lt_add_of_pos_right (by decide)
  obtain ⟨a, b, xs, hs, hl, e4, hc⟩ := call_at e e2
  clear e2
  rcases shape_cases hs with ⟨rfl, q⟩ | ⟨rfl, q⟩ | ⟨rfl, q⟩ | ⟨rfl, q⟩ | ⟨rfl, q⟩ | ⟨rfl, q⟩ | ⟨rfl, q⟩ | ⟨rfl, q⟩ <;> cases q
  · obtain ⟨y, gy, ty⟩ := take_one hl
    obtain ⟨x0, m0, _, rfl, a0, b0, c0, d0, r0⟩ := rowsS e4
    obtain ⟨x1, m1, _, rfl, a1, b1, c1, d1, r1⟩ := rowsS r0
    obtain ⟨rfl, rz⟩ := rows0 r1
    obtain rfl : c = [[0, y], x0, x1] := by rw [hc, ty]
    have as : (Sf93Neutral.whole32 y && (Sf93Neutral.word x0 && Sf93Neutral.word x1)) = true := as
    rw [Bool.and_eq_true, Bool.and_eq_true] at as
    obtain ⟨R0, rfl⟩ := row_here a0 b0 c0 d0 as.2.1
    obtain ⟨R1, rfl⟩ := row_here a1 b1 c1 d1 as.2.2
    exact fin _ _ rfl rfl (.far y _ _ g1 gy R0 R1) (up (up (up u3))) b1 rz
  · obtain ⟨y, gy, ty⟩ := take_one hl
    obtain ⟨x0, m0, _, rfl, a0, b0, c0, d0, r0⟩ := rowsS e4
    obtain ⟨x1, m1, _, rfl, a1, b1, c1, d1, r1⟩ := rowsS r0
    obtain ⟨x2, m2, _, rfl, a2, b2, c2, d2, r2⟩ := rowsS r1
    obtain ⟨rfl, rz⟩ := rows0 r2
    obtain rfl : c = [[1, y], x0, x1, x2] := by rw [hc, ty]
    have as : (Sf93Neutral.whole32 y && (Sf93Neutral.word x0 && (Sf93Neutral.word x1 && Sf93Neutral.edits x2))) = true := as
    rw [Bool.and_eq_true, Bool.and_eq_true, Bool.and_eq_true] at as
    obtain ⟨R0, rfl⟩ := row_here a0 b0 c0 d0 as.2.1
    obtain ⟨R1, rfl⟩ := row_here a1 b1 c1 d1 as.2.2.1
    obtain ⟨R2, q2⟩ := row_edits a2 b2 c2 d2 as.2.2.2
    subst q2
    exact fin _ _ rfl rfl (.makes y _ _ _ g1 gy R0 R1 R2) (up (up (up (up (up u3))))) b2 rz
  · obtain ⟨x0, m0, _, rfl, a0, b0, c0, d0, r0⟩ := rowsS e4
    obtain ⟨x1, m1, _, rfl, a1, b1, c1, d1, r1⟩ := rowsS r0
    obtain ⟨rfl, rz⟩ := rows0 r1
    obtain rfl : c = [[2], x0, x1] := hc
    have as : (Sf93Neutral.word x0 && Sf93Neutral.word x1) = true := as
    rw [Bool.and_eq_true] at as
    obtain ⟨R0, rfl⟩ := row_here a0 b0 c0 d0 as.1
    obtain ⟨R1, rfl⟩ := row_here a1 b1 c1 d1 as.2
    exact fin _ _ rfl rfl (.common _ _ g1 R0 R1) (up (up (up u2))) b1 rz
  · obtain ⟨x0, m0, _, rfl, a0, b0, c0, d0, r0⟩ := rowsS e4
    obtain ⟨x1, m1, _, rfl, a1, b1, c1, d1, r1⟩ := rowsS r0
    obtain ⟨x2, m2, _, rfl, a2, b2, c2, d2, r2⟩ := rowsS r1
    obtain ⟨rfl, rz⟩ := rows0 r2
    obtain rfl : c = [[3], x0, x1, x2] := hc
    have as : (Sf93Neutral.word x0 && (Sf93Neutral.word x1 && Sf93Neutral.word x2)) = true := as
    rw [Bool.and_eq_true, Bool.and_eq_true] at as
    obtain ⟨R0, rfl⟩ := row_here a0 b0 c0 d0 as.1
    obtain ⟨R1, rfl⟩ := row_here a1 b1 c1 d1 as.2.1
    obtain ⟨R2, rfl⟩ := row_here a2 b2 c2 d2 as.2.2
    exact fin _ _ rfl rfl (.shares _ _ _ g1 R0 R1 R2) (up (up (up (up (up u2))))) b2 rz
  · obtain ⟨y, gy, ty⟩ := take_one hl
    obtain ⟨x0, m0, _, rfl, a0, b0, c0, d0, r0⟩ := rowsS e4
    obtain ⟨x1, m1, _, rfl, a1, b1, c1, d1, r1⟩ := rowsS r0
    obtain ⟨rfl, rz⟩ := rows0 r1
    obtain rfl : c = [[4, y], x0, x1] := by rw [hc, ty]
    have as : (Sf93Neutral.whole32 y && (Sf93Neutral.word x0 && Sf93Neutral.word x1)) = true := as
    rw [Bool.and_eq_true, Bool.and_eq_true] at as
    obtain ⟨R0, rfl⟩ := row_here a0 b0 c0 d0 as.2.1
    obtain ⟨R1, rfl⟩ := row_here a1 b1 c1 d1 as.2.2
    exact fin _ _ rfl rfl (.grams y _ _ g1 gy R0 R1) (up (up (up u3))) b1 rz
  · obtain ⟨x0, m0, _, rfl, a0, b0, c0, d0, r0⟩ := rowsS e4
    obtain ⟨rfl, rz⟩ := rows0 r0
    obtain rfl : c = [[5], x0] := hc
    have as : Sf93Neutral.word x0 = true := as
    obtain ⟨R0, rfl⟩ := row_here a0 b0 c0 d0 as
    exact fin _ _ rfl rfl (.add _ g1 R0) (up u2) b0 rz
  · obtain ⟨y, k, i, gy, gk, gi, ty⟩ := take_three hl
    obtain ⟨x0, m0, _, rfl, a0, b0, c0, d0, r0⟩ := rowsS e4
    obtain ⟨rfl, rz⟩ := rows0 r0
    obtain rfl : c = [[6, y, k, i], x0] := by rw [hc, ty]
    have as : (Sf93Neutral.whole32 y && (Sf93Neutral.whole32 k && (Sf93Neutral.whole32 i && Sf93Neutral.word x0))) = true := as
    rw [Bool.and_eq_true, Bool.and_eq_true, Bool.and_eq_true] at as
    obtain ⟨R0, rfl⟩ := row_here a0 b0 c0 d0 as.2.2.2
    exact fin _ _ rfl rfl (.near y k i _ g1 gy gk gi R0) (up (Nat.lt_add_of_pos_right (by decide))) b0 rz
  · obtain ⟨y, k, gy, gk, ty⟩ := take_two hl
    obtain ⟨x0, m0, _, rfl, a0, b0, c0, d0, r0⟩ := rowsS e4
    obtain ⟨rfl, rz⟩ := rows0 r0
    obtain rfl : c = [[7, y, k], x0] := by rw [hc, ty]
    have as : (Sf93Neutral.whole32 y && (Sf93Neutral.whole32 k && Sf93Neutral.word x0)) = true := as
    rw [Bool.and_eq_true, Bool.and_eq_true] at as
    obtain ⟨R0, rfl⟩ := row_here a0 b0 c0 d0 as.2.2
    exact fin _ _ rfl rfl (.count y k _ g1 gy gk R0) (up (Nat.lt_add_of_pos_right (by decide))) b0 rz
theorem todo_next {l : List Int} {n : Nat} {d : List Bytes} {out : List Int} (h : Todo l n d out) (hn : n < l.length) :
    ∃ (c : Sf93.Call) (n' : Nat), Nx l n c n' ∧ n < n' ∧ Todo l n' (Sf93.step d c).1 (out ++ outI (Sf93.step d c).2) := by
  obtain ⟨cs, f, h1, h2, h3, h4⟩ := h.ex
  obtain ⟨p, r, e⟩ : ∃ p r, l.drop n = p :: r := ⟨_, _, List.drop_eq_getElem_cons hn⟩
  rw [e] at h1
  cases f with
  | zero =>
    unfold PyFlat.calls at h1
    cases h1
  | succ f =>
    unfold PyFlat.calls at h1
    cases e2 : PyFlat.call PySf93.shape (p :: r) with
    | none =>
      rw [e2] at h1
      cases h1
    | some q =>
      obtain ⟨c, t⟩ := q
      rw [e2] at h1
      simp only at h1
      cases e3 : PyFlat.calls PySf93.shape f t with
      | none =>
        rw [e3] at h1
        cases h1
      | some cs' =>
        rw [e3] at h1
        obtain rfl : c :: cs' = cs := Option.some.inj h1
        rw [List.map_cons, List.all_cons, Bool.and_eq_true] at h2
        rw [List.map_cons] at h3
        -- what remains once the call is known
        have fin : ∀ (x : Sf93.Call) (n' : Nat), PySf93.whole c = c → Sf93Neutral.callOf c = some x → Nx l n x n' → n < n' → n' ≤ l.length → t = l.drop n' → ∃ (c : Sf93.Call) (n' : Nat), Nx l n c n' ∧ n < n' ∧ Todo l n' (Sf93.step d c).1 (out ++ outI (Sf93.step d c).2) := by
          intro x n' hw hx hN hlt hle ht
          refine ⟨x, n', hN, hlt, ⟨⟨cs', f, by rw [← ht]; exact e3, h2.2, ?_, Nat.le_of_succ_le h4⟩, hle⟩⟩
          rw [h3, hw, told_cons, step_I d c x hx, List.append_assoc]
          rfl
        exact pick_call e e2 h2.1 fin
end Nw

end
section
set_option Elab.async false
set_option linter.all false
set_option maxRecDepth 100000
namespace L2
open PySem PySem.Spec PyProof.Rows
section
variable {X : Cx}
theorem vals2b {x y : V} {us : List Value} (r : Vals [x, y] us) : ∃ u v, us = [u, v] ∧ RelV x u ∧ RelV y v := by
  cases r with
  | cons r1 t1 =>
    cases t1 with
    | cons r2 t2 =>
      cases t2
      exact ⟨_, _, rfl, r1, r2⟩
theorem call_min2i (hc : X.calm = true) : CallR X (.builtin "min") (fun xs H Q => ∃ i j, xs = [.int i, .int j] ∧ Q (.int (min i j)) H) := by
  intro pins s σ H xs us Q I r h
  obtain ⟨i, j, rfl, q⟩ := h
  refine call_min2 hc pins s σ H _ us Q I r ⟨i, j, rfl, ?_⟩
  have e : (if j < i then j else i) = min i j := by split <;> omega
  rw [e]
  exact q
/-- a list or a tuple -/
def Sq (K : PySem.W.Frag) (H : Hp) (a : Addr) (xs : List V) : Prop := SqL K H a xs ∨ SqT K H a xs
theorem Same.sqT {K : PySem.W.Frag} {H H' : Hp} {a : Addr} {xs : List V} (e : Same H H') (h : SqT K H a xs) : SqT K H' a xs := by
  rcases h with (h | ⟨o, h⟩) | h
  · exact .inl (.inl (e _ _ h))
  · exact .inl (.inr ⟨o, e _ _ h⟩)
  · exact .inr h
theorem Same.sq {K : PySem.W.Frag} {H H' : Hp} {a : Addr} {xs : List V} (e : Same H H') (h : Sq K H a xs) : Sq K H' a xs := h.elim (fun h => .inl (e.seq h)) (fun h => .inr (e.sqT h))
inductive IxQI (K : PySem.W.Frag) (x y : V) (H : Hp) (Q : VK) : Prop
  | mk (p : Addr) (xs : List V) (i : Int) (v : V) (e1 : x = .ref p) (e2 : y = .int i) (e3 : Sq K H p xs) (e4 : atI xs i = some v) (q : Q v H) : IxQI K x y H Q
def rIxQ (K : PySem.W.Frag) : R2 := IxQI K
/-- len of a list or a tuple -/
inductive LenI (K : PySem.W.Frag) (xs : List V) (H : Hp) (Q : VK) : Prop
  | mk (p : Addr) (ys : List V) (e : xs = [.ref p]) (h : SqL K H p ys ∨ SqT K H p ys) (q : Q (.int ys.length) H) : LenI K xs H Q
theorem call_lenS : CallR X (.builtin "len") (LenI X.K) := by
  intro pins s σ H xs us Q I r h
  obtain ⟨p, ys, e, h, q⟩ := h
  exact call_len_seq pins s σ H xs us Q I r ⟨p, ys, e, h, q⟩
theorem ix_sq : IxR X (rIxQ X.K) := by
  intro value slice pins s σ H x y v u Q I rx ry h hs
  obtain ⟨p, xs, i, z, ex, ey, hq, he, q⟩ := h
  rcases hq with hq | hq
  · exact ix_list value slice pins s σ H x y v u Q I rx ry ⟨p, xs, i, z, ex, ey, hq, he, q⟩ hs
  · exact ix_tup value slice pins s σ H x y v u Q I rx ry ⟨p, xs, i, z, ex, ey, hq, he, q⟩ hs
/-- range(n) as a value -/
theorem call_range1 : CallR X (.type "range") (fun xs H Q => ∃ j, xs = [.int j] ∧ ∀ p, H p = none → Q (.ref p) (upd H p (.rng 0 j))) := by
  intro pins s σ H xs us Q I r h
  obtain ⟨j, rfl, q⟩ := h
  obtain ⟨u, rfl, ⟨t, rfl⟩⟩ := vals1 r
  refine call_range_1 ?_
  have hn : H s.heap.objs.size = none := I.hok.fresh (Nat.le_refl _)
  refine ⟨.ref s.heap.objs.size, _, ?_, rfl, q _ hn⟩
  exact I.laid (fun b o e => Heap.get?_push_of_some _ e) (Nat.le_refl _) ⟨_, _, _, Heap.get?_push_size s.heap rfl⟩
def rngV (lo : Int) (n : Nat) : List V := (List.range n).map fun k => V.int (lo + (k : Nat))
theorem vals_items {lo : Int} : ∀ (its : List Value) (k : Nat), (∀ j v, its[j]? = some v → ∃ t, v = Value.int (lo + ((k + j : Nat) : Int)) t) → Vals ((List.range' k its.length).map fun k => V.int (lo + (k : Nat))) its
  | [], _, _ => .nil
  | u :: r, k, h => by
    show Vals (_ :: (List.range' (k + 1) r.length).map _) _
    refine .cons ?_ (vals_items r (k + 1) fun j v e => ?_)
    · have := h 0 u rfl
      show ∃ t, u = Value.int (lo + ((k : Nat) : Int)) t
      simpa using this
    · have := h (j + 1) v (by simpa using e)
      rw [show k + 1 + j = k + (j + 1) by omega]
      exact this
/-- list(a range) -/
theorem call_list_rng (hc : X.calm = true) : CallR X (.type "list") (fun xs H Q => ∃ p lo hi, xs = [.ref p] ∧ H p = some (.rng lo hi) ∧ (-(2 ^ 62) ≤ lo ∧ lo < 2 ^ 62 ∧ -(2 ^ 62) ≤ hi ∧ hi < 2 ^ 62) ∧ (hi - lo).toNat ≤ 16777216 ∧
    ∀ l, H l = none → Q (.ref l) (upd H l (.lst (rngV lo (hi - lo).toNat)))) := by
  intro pins s σ H xs us Q I r h
  obtain ⟨p, lo, hi, rfl, hp, ⟨h1, h2, h3, h4⟩, hz, q⟩ := h
  obtain ⟨u, rfl, rx⟩ := vals1 r
  cases rx
  obtain ⟨t, u, v, e⟩ := I.hok p _ hp
  have hn : Builtin.Range.rangeSize lo hi 1 = ((hi - lo).toNat : Int) := by rw [rangeSize_one]; split <;> omega
  refine call_list_range (n := (hi - lo).toNat) (I.ok.hd hc) (show IsRange s.heap p lo hi 1 t u v from e) (small_one h1 h2 h3 h4) hn (by omega) fun h' tk acc' c' kp hS hit => ?_
  refine ⟨.ref s.heap.objs.size, _, I.laid (t' := tk) kp (Nat.le_refl _) (show ObjOk X.prog X.w _ h' _ (.lst (rngV lo (hi - lo).toNat)) from ⟨?_, acc'.toList, c', ?_, ?_⟩), rfl, q _ (I.hok.fresh (Nat.le_refl _))⟩
  · unfold rngV
    rw [List.length_map, List.length_range, sizeLine_eq]
    exact hz
  · have hv := vals_items (lo := lo) acc'.toList 0 fun j v e => by
      have := hit.2 j v (by simpa using e)
      simpa using this
    have hl : acc'.toList.length = (hi - lo).toNat := by rw [Array.length_toList]; exact hit.1
    rw [hl, ← List.range_eq_range'] at hv
    exact hv
  · simpa using hS
end
/-! small things -/
theorem Same.upd {H H' : Hp} {p : Addr} {o : HO} (e : Same H H') (h : H' p = none) : Same H (L2.upd H' p o) := fun b u q => by
  have q' := e b u q
  rw [upd_ne (ne_of_none q' h)]
  exact q'
theorem Same.seqT {K : PySem.W.Frag} {H H' : Hp} {a : Addr} {xs : List V} (e : Same H H') (h : SqT K H a xs) : SqT K H' a xs := by
  rcases h with (h | ⟨o, h⟩) | h
  · exact .inl (.inl (e _ _ h))
  · exact .inl (.inr ⟨o, e _ _ h⟩)
  · exact .inr h
end L2

end
section
set_option Elab.async false
set_option linter.all false
set_option maxRecDepth 100000
namespace L2
open PySem PySem.Spec PyProof.Rows
theorem lay_ints : ∀ ns : List Int, PyData.canLayAll0 (ns.map PyData.int) = true
  | [] => rfl
  | n :: r => by
    show (true && PyData.canLayAll0 (r.map PyData.int)) = true
    rw [lay_ints r]
    rfl
theorem deep_ints : ∀ ns : List Int, PyData.depthAll (ns.map PyData.int) = 0
  | [] => by simp [PyData.depthAll]
  | n :: r => by
    rw [List.map_cons]
    simp [PyData.depthAll, PyData.depth, deep_ints r]
theorem shaped_ints (ns : List Int) : SeqAt.shaped (.list (ns.map PyData.int)) = true := by
  unfold SeqAt.shaped
  rw [Bool.and_eq_true]
  refine ⟨?_, decide_eq_true ?_⟩
  · simp only [PyData.canLay0]
    exact lay_ints ns
  · simp [PyData.depth, deep_ints]
theorem dpAll_ints {K : PySem.W.Frag} {H : Hp} : ∀ ns : List Int, DpAll K H (ns.map V.int) (ns.map PyData.int)
  | [] => .nil
  | n :: r => .cons (.int n) (dpAll_ints r)
section
variable {X : Cx}
/-- two lists of whole numbers compared -/
def rEqL (K : PySem.W.Frag) : R2 := fun x y H Q => ∃ (a b : Addr) (ns ms : List Int), x = .ref a ∧ y = .ref b ∧ SqL K H a (ns.map V.int) ∧ SqL K H b (ms.map V.int) ∧ Q (.bl (decide (ns = ms))) H
theorem op_eqL (hu : X.A.units + 64 < cLine) : OpR X (compareOp .Eq) (rEqL X.K) := by
  intro pins s σ H x y v u Q I rx ry h
  obtain ⟨a, b, ns, ms, rfl, rfl, ha, hb, q⟩ := h
  refine op_eqD hu pins s σ H _ _ v u Q I rx ry ⟨_, _, .lst ha (dpAll_ints ns), .lst hb (dpAll_ints ms), shaped_ints ns, shaped_ints ms, ?_⟩
  have e : PyData.eqv (.list (ns.map PyData.int)) (.list (ms.map PyData.int)) = decide (ns = ms) := by
    rw [← PySem.W.ked_eqvAll ns ms]
    simp [PyData.eqv]
  rw [e]
  exact q
end
/-! slices -/
theorem cut_to (xs : List V) (p : Nat) : cutV xs none (some (p : Int)) = xs.take p := by
  unfold cutV
  rw [HT.sIx_none, HT.sIx_nat, List.drop_zero, Nat.sub_zero]
  by_cases h : p ≤ xs.length
  · rw [Nat.min_eq_left h]
  · rw [Nat.min_eq_right (by omega), List.take_of_length_le (Nat.le_refl _), List.take_of_length_le (by omega)]
theorem cut_from (xs : List V) (p : Nat) : cutV xs (some (p : Int)) none = xs.drop p := by
  unfold cutV
  rw [HT.sIx_none, HT.sIx_nat]
  by_cases h : p ≤ xs.length
  · rw [Nat.min_eq_left h, List.take_of_length_le (by rw [List.length_drop]; omega)]
  · rw [Nat.min_eq_right (by omega), Nat.sub_self, List.take_zero, List.drop_eq_nil_of_le (by omega)]
theorem cut_mid (xs : List V) {p n : Nat} (h : p + n ≤ xs.length) : cutV xs (some (p : Int)) (some ((p + n : Nat) : Int)) = (xs.drop p).take n := by
  unfold cutV
  rw [HT.sIx_nat, HT.sIx_nat, Nat.min_eq_left h, Nat.min_eq_left (show p ≤ xs.length by omega)]
  congr 1
  omega
theorem hu64 {A : Around} {k : Nat} (hr : Room k A) : A.units + 64 < cLine := hr.units
end L2

end
section
set_option Elab.async false
set_option linter.all false
set_option maxRecDepth 100000
set_option maxHeartbeats 4000000
namespace NwT
open PySem PyProof.Rows
open PySem.Sem (wp)
/-! ### the sort's run carried from one heap to another: only its comparisons look at the heap -/
section
variable {M : Model} {Γ : Ctx} {s s2 : Shared} {kd : SortKind} {α β : Type}
/-- what the two heaps share: a comparison that ends at s2 ends at s, with the same word -/
def Cmp (M : Model) (Γ : Ctx) (s s2 : Shared) (kd : SortKind) : Prop :=
  ∀ (x y : Value) (R : Except Value Bool → Pos → Shared → Prop) (q : Pos), wp M Γ (keyLt' kd x y) (fun b p u => R (.ok b) p u) (fun e p u => R (.error e) p u) q s2 →
    ∃ b q', R (.ok b) q' s2 ∧ ∀ p, wp M Γ (keyLt' kd x y) (fun c _ u => c = b ∧ u = s) (fun _ _ _ => False) p s
def Tr (M : Model) (Γ : Ctx) (s s2 : Shared) (kd : SortKind) (m : StateT SortSt Sem α) : Prop :=
  ∀ (st : SortSt), kindOf st = kd → ∀ (Q : α → SortSt → Pos → Shared → Prop) (p q : Pos), wp M Γ (m.run st) (fun r q' u => Q r.1 r.2 q' u) (fun _ _ _ => False) q s2 →
    wp M Γ (m.run st) (fun r _ u => u = s ∧ kindOf r.2 = kd ∧ ∃ q', Q r.1 r.2 q' s2) (fun _ _ _ => False) p s
theorem tr_pure {a : α} : Tr M Γ s s2 kd (pure a) := fun st hk Q p q h => by
  rw [StateT.run_pure] at h ⊢
  exact ⟨rfl, hk, q, h⟩
theorem tr_bind {m : StateT SortSt Sem α} {f : α → StateT SortSt Sem β} (h1 : Tr M Γ s s2 kd m) (h2 : ∀ a, Tr M Γ s s2 kd (f a)) : Tr M Γ s s2 kd (m >>= f) := fun st hk Q p q h => by
  rw [StateT.run_bind] at h ⊢
  rw [Sem.wp_bind'] at h ⊢
  have g := h1 st hk (fun a st' q' u => wp M Γ ((f a).run st') (fun r q' u => Q r.1 r.2 q' u) (fun _ _ _ => False) q' u) p q h
  exact Sem.wp_mono M Γ _ (fun r p' u x => by
    obtain ⟨rfl, k, q', y⟩ := x
    exact h2 r.1 r.2 k Q p' q' y) (fun _ _ _ x => x) p s g
theorem tr_bindO {m : StateT SortSt Sem (Option α)} {f : Option α → StateT SortSt Sem β} (h1 : Tr M Γ s s2 kd m) (h2 : Tr M Γ s s2 kd (f none)) (h3 : ∀ a, Tr M Γ s s2 kd (f (some a))) : Tr M Γ s s2 kd (m >>= f) :=
  tr_bind h1 fun a => by cases a with | none => exact h2 | some a => exact h3 a
theorem tr_bindP {γ : Type} {m : StateT SortSt Sem (Option α × γ)} {f : Option α × γ → StateT SortSt Sem β} (h1 : Tr M Γ s s2 kd m) (h2 : ∀ c, Tr M Γ s s2 kd (f (none, c))) (h3 : ∀ a c, Tr M Γ s s2 kd (f (some a, c))) : Tr M Γ s s2 kd (m >>= f) :=
  tr_bind h1 fun a => by
    obtain ⟨a, c⟩ := a
    cases a with
    | none => exact h2 c
    | some a => exact h3 a c
theorem tr_get {f : SortSt → StateT SortSt Sem β} (h : ∀ st, kindOf st = kd → Tr M Γ s s2 kd (f st)) : Tr M Γ s s2 kd (get >>= f) := fun st hk Q p q x => by
  rw [StateT.run_bind, StateT.run_get, pure_bind] at x ⊢
  exact h st hk st hk Q p q x
theorem tr_mod {f : SortSt → SortSt} (h : ∀ st, kindOf (f st) = kindOf st) : Tr M Γ s s2 kd (modify f) := fun st hk Q p q x => by
  rw [StateT.run_modify] at x ⊢
  exact ⟨rfl, (h st).trans hk, q, x⟩
theorem tr_set {st' : SortSt} (h : kindOf st' = kd) : Tr M Γ s s2 kd (set st') := fun st hk Q p q x => by
  rw [StateT.run_set] at x ⊢
  exact ⟨rfl, h, q, x⟩
theorem tr_bad {what : String} : Tr M Γ s s2 kd (liftM (unsupported what : Sem α) : StateT SortSt Sem α) := fun st hk Q p q x => by
  exact False.elim x
theorem tr_bad2 {what : String} : Tr M Γ s s2 kd (unsupported what : StateT SortSt Sem α) := fun st hk Q p q x => by
  exact False.elim x
theorem tr_rule {tag : String} : Tr M Γ s s2 kd (liftM (rule tag) : StateT SortSt Sem Unit) := fun st hk Q p q x => by
  exact ⟨rfl, hk, q, x⟩
theorem tr_ite {c : Prop} [Decidable c] {a b : StateT SortSt Sem α} (h1 : Tr M Γ s s2 kd a) (h2 : Tr M Γ s s2 kd b) : Tr M Γ s s2 kd (if c then a else b) := by
  split
  · exact h1
  · exact h2
theorem tr_list {γ : Type} {f : γ → β → StateT SortSt Sem (ForInStep β)} (h : ∀ x b, Tr M Γ s s2 kd (f x b)) : ∀ (l : List γ) (b : β), Tr M Γ s s2 kd (forIn l b f)
  | [], b => by
    rw [List.forIn_nil]
    exact tr_pure
  | x :: l, b => by
    rw [List.forIn_cons]
    refine tr_bind (h x b) fun r => ?_
    cases r with
    | done b' => exact tr_pure
    | yield b' => exact tr_list h l b'
theorem tr_for {a n : Nat} {b : β} {f : Nat → β → StateT SortSt Sem (ForInStep β)} (h : ∀ x b, Tr M Γ s s2 kd (f x b)) : Tr M Γ s s2 kd (forIn [a:n] b f) := by
  rw [Std.Legacy.Range.forIn_eq_forIn_range']
  exact tr_list h _ _
theorem tr_lt (C : Cmp M Γ s s2 kd) (x y : Keyed) : Tr M Γ s s2 kd (lt' x y) := fun st hk Q p q h => by
  rw [lt'_eq, StateT.run_bind, StateT.run_get, pure_bind] at h ⊢
  dsimp only at h ⊢
  rw [hk] at h ⊢
  rw [StateT.run_bind, Sem.wp_bind'] at h ⊢
  have e : ∀ {m : Sem (Except Value Bool)}, (liftM m : StateT SortSt Sem _).run st = m >>= fun a => pure (a, st) := fun {m} => rfl
  rw [e, Sem.wp_bind', Sem.wp_attempt] at h ⊢
  obtain ⟨b, q', r, k⟩ := C x.1 y.1 (fun v p u => wp M Γ (pure (v, st) : Sem _) _ _ p u) q h
  exact Sem.wp_mono M Γ _ (fun c p' u z => by
    obtain ⟨rfl, rfl⟩ := z
    exact ⟨rfl, hk, q', r⟩) (fun _ _ _ z => z.elim) p s (k p)
theorem tr_elem (arr : Array Keyed) (i : Nat) : Tr M Γ s s2 kd (elem' arr i) := by
  rw [elem'_eq]
  split
  · exact tr_pure
  · first | exact tr_bad | exact tr_bad2
theorem tr_ltAt (C : Cmp M Γ s s2 kd) (i j : Nat) : Tr M Γ s s2 kd (ltAt' i j) := by
  rw [ltAt'_eq]
  exact tr_get fun st _ => tr_bind (tr_elem _ _) fun x => tr_bind (tr_elem _ _) fun y => tr_lt C x y
theorem tr_rev (i j : Nat) : Tr M Γ s s2 kd (reverseSlice' i j) := by
  rw [reverseSlice'_eq]
  exact tr_mod fun st => rfl
theorem tr_down (i j : Nat) : Tr M Γ s s2 kd (moveDown' i j) := by
  rw [moveDown'_eq]
  exact tr_mod fun st => rfl
theorem tr_setG (g : Nat) : Tr M Γ s s2 kd (setMinGallop' g) := by
  rw [setMinGallop'_eq]
  exact tr_mod fun st => rfl
theorem tr_bin (C : Cmp M Γ s s2 kd) (lo n ok : Nat) : Tr M Γ s s2 kd (binarySort' lo n ok) := by
  rw [binarySort'_eq]
  repeat' first | with_reducible exact tr_pure | with_reducible exact tr_ltAt C _ _ | with_reducible exact tr_down _ _ | with_reducible refine tr_ite ?_ ?_ | with_reducible refine tr_for fun _ _ => ?_ | with_reducible refine tr_bindP ?_ (fun _ => ?_) (fun _ _ => ?_) | with_reducible refine tr_bindO ?_ ?_ (fun _ => ?_) | with_reducible refine tr_bind ?_ fun _ => ?_ | split | dsimp only
theorem tr_run (C : Cmp M Γ s s2 kd) (lo n : Nat) : Tr M Γ s s2 kd (countRun' lo n) := by
  rw [countRun'_eq]
  repeat' first | with_reducible exact tr_pure | with_reducible exact tr_ltAt C _ _ | with_reducible exact tr_rev _ _ | with_reducible exact tr_rule | with_reducible refine tr_ite ?_ ?_ | with_reducible refine tr_for fun _ _ => ?_ | with_reducible refine tr_bindP ?_ (fun _ => ?_) (fun _ _ => ?_) | with_reducible refine tr_bindO ?_ ?_ (fun _ => ?_) | with_reducible refine tr_bind ?_ fun _ => ?_ | split | dsimp only
theorem tr_bey (C : Cmp M Γ s s2 kd) (left : Bool) (key : Keyed) (arr : Array Keyed) (b i : Nat) : Tr M Γ s s2 kd (beyond' left key arr b i) := by
  unfold beyond'
  repeat' first | with_reducible exact tr_pure | with_reducible exact tr_lt C _ _ | with_reducible exact tr_elem _ _ | with_reducible refine tr_ite ?_ ?_ | with_reducible refine tr_bindP ?_ (fun _ => ?_) (fun _ _ => ?_) | with_reducible refine tr_bindO ?_ ?_ (fun _ => ?_) | with_reducible refine tr_bind ?_ fun _ => ?_ | split | dsimp only
theorem tr_gal (C : Cmp M Γ s s2 kd) (left : Bool) (key : Keyed) (arr : Array Keyed) (b n i : Nat) : Tr M Γ s s2 kd (gallop' left key arr b n i) := by
  rw [gallop'_eq]
  repeat' first | with_reducible exact tr_pure | with_reducible exact tr_bey C _ _ _ _ _ | with_reducible refine tr_ite ?_ ?_ | with_reducible refine tr_for fun _ _ => ?_ | with_reducible refine tr_bindP ?_ (fun _ => ?_) (fun _ _ => ?_) | with_reducible refine tr_bindO ?_ ?_ (fun _ => ?_) | with_reducible refine tr_bind ?_ fun _ => ?_ | split | dsimp only
theorem tr_mLo (C : Cmp M Γ s s2 kd) (a b : Array Keyed) : Tr M Γ s s2 kd (mergeLo' a b) := by
  rw [mergeLo'_eq]
  repeat' first | with_reducible exact tr_pure | with_reducible exact tr_lt C _ _ | with_reducible exact tr_elem _ _ | with_reducible exact tr_gal C _ _ _ _ _ _ | with_reducible exact tr_setG _ | with_reducible exact tr_rule | exact tr_bad2 | exact tr_bad | with_reducible refine tr_ite ?_ ?_ | with_reducible refine tr_for fun _ _ => ?_ | with_reducible refine tr_get fun _ _ => ?_ | with_reducible refine tr_bindP ?_ (fun _ => ?_) (fun _ _ => ?_) | with_reducible refine tr_bindO ?_ ?_ (fun _ => ?_) | with_reducible refine tr_bind ?_ fun _ => ?_ | split | dsimp only
theorem tr_mHi (C : Cmp M Γ s s2 kd) (a b : Array Keyed) : Tr M Γ s s2 kd (mergeHi' a b) := by
  rw [mergeHi'_eq]
  repeat' first | with_reducible exact tr_pure | with_reducible exact tr_lt C _ _ | with_reducible exact tr_elem _ _ | with_reducible exact tr_gal C _ _ _ _ _ _ | with_reducible exact tr_setG _ | with_reducible exact tr_rule | exact tr_bad2 | exact tr_bad | with_reducible refine tr_ite ?_ ?_ | with_reducible refine tr_for fun _ _ => ?_ | with_reducible refine tr_get fun _ _ => ?_ | with_reducible refine tr_bindP ?_ (fun _ => ?_) (fun _ _ => ?_) | with_reducible refine tr_bindO ?_ ?_ (fun _ => ?_) | with_reducible refine tr_bind ?_ fun _ => ?_ | split | dsimp only
theorem tr_mAt (C : Cmp M Γ s s2 kd) (i : Nat) : Tr M Γ s s2 kd (mergeAt' i) := by
  rw [mergeAt'_eq]
  repeat' first | with_reducible exact tr_pure | with_reducible exact tr_elem _ _ | with_reducible exact tr_gal C _ _ _ _ _ _ | with_reducible exact tr_mLo C _ _ | with_reducible exact tr_mHi C _ _ | exact tr_set (by assumption) | exact tr_mod (fun _ => rfl) | exact tr_bad2 | exact tr_bad | with_reducible refine tr_ite ?_ ?_ | with_reducible refine tr_get fun _ _ => ?_ | with_reducible refine tr_bindP ?_ (fun _ => ?_) (fun _ _ => ?_) | with_reducible refine tr_bindO ?_ ?_ (fun _ => ?_) | with_reducible refine tr_bind ?_ fun _ => ?_ | split | dsimp only
theorem tr_runs (C : Cmp M Γ s s2 kd) : Tr M Γ s s2 kd sortRuns' := by
  rw [sortRuns'_eq]
  repeat' first | with_reducible exact tr_pure | with_reducible exact tr_run C _ _ | with_reducible exact tr_bin C _ _ _ | with_reducible exact tr_mAt C _ | with_reducible exact tr_rule | exact tr_mod (fun _ => rfl) | with_reducible refine tr_ite ?_ ?_ | with_reducible refine tr_for fun _ _ => ?_ | with_reducible refine tr_get fun _ _ => ?_ | with_reducible refine tr_bindP ?_ (fun _ => ?_) (fun _ _ => ?_) | with_reducible refine tr_bindO ?_ ?_ (fun _ => ?_) | with_reducible refine tr_bind ?_ fun _ => ?_ | split | dsimp only
end
end NwT

end
section
set_option Elab.async false
set_option linter.all false
set_option maxRecDepth 100000
set_option maxHeartbeats 4000000
namespace NwT
open PySem PyProof.Rows
open PySem.Sem (wp)
/-! ### a heap in which a key is as long as its rank: its tuples are compared by their lengths -/
def fObj (r : Nat) : Obj := { cls := .type "tuple", data := .seq (List.replicate r Value.none).toArray 0 }
def fDead : Obj := { cls := .type "tuple", data := .freed }
def fHeap (N : Nat) (f : Addr → Option Nat) : Heap := { objs := ((List.range N).map fun a => match f a with | some r => fObj r | none => fDead).toArray }
theorem f_cell (N : Nat) (f : Addr → Option Nat) (a : Addr) : (fHeap N f).objs[a]? = if a < N then some (match f a with | some r => fObj r | none => fDead) else none := by
  show ((List.range N).map fun a => match f a with | some r => fObj r | none => fDead).toArray[a]? = _
  rw [List.getElem?_toArray, List.getElem?_map]
  by_cases h : a < N
  · rw [if_pos h, List.getElem?_range h]; rfl
  · rw [if_neg h, List.getElem?_eq_none (by simpa using h)]; rfl
theorem f_at {N : Nat} {f : Addr → Option Nat} {a : Addr} {r : Nat} (h : a < N) (e : f a = some r) : (fHeap N f).get? a = some (fObj r) := by
  unfold Heap.get?
  rw [f_cell, if_pos h, e]
  rfl
theorem f_get {N : Nat} {f : Addr → Option Nat} {a : Addr} {o : Obj} (h : (fHeap N f).get? a = some o) : ∃ r, f a = some r ∧ o = fObj r := by
  unfold Heap.get? at h
  rw [f_cell] at h
  by_cases ha : a < N
  · rw [if_pos ha] at h
    cases e : f a with
    | none => rw [e] at h; exact nomatch h
    | some r => rw [e] at h; exact ⟨r, rfl, (Option.some.inj h).symm⟩
  · rw [if_neg ha] at h; exact nomatch h
section
variable {M : Model} {Γ : Ctx} {α : Type}
theorem eq_none {R : Bool → Pos → Shared → Prop} {E : Value → Pos → Shared → Prop} {q : Pos} {u : Shared} : wp M Γ (eqBool .none .none) R E q u = R true q u := by
  unfold eqBool
  rw [Sem.wp_holding]
  rfl
theorem loop_inv {body : (Value × Value) × Nat → Option Bool × Unit → Sem (ForInStep (Option Bool × Unit))}
    (hb : ∀ i (R : ForInStep (Option Bool × Unit) → Pos → Shared → Prop) E q u, wp M Γ (body ((.none, .none), i) (none, ())) R E q u → R (.yield (none, ())) q u) :
    ∀ (n i : Nat) (R : Option Bool × Unit → Pos → Shared → Prop) (E : Value → Pos → Shared → Prop) (q : Pos) (u : Shared),
      wp M Γ (forIn ((List.replicate n (Value.none, Value.none)).zipIdx i) (none, ()) body) R E q u → R (none, ()) q u
  | 0, i, R, E, q, u, h => by
    simpa using h
  | n + 1, i, R, E, q, u, h => by
    rw [List.replicate_succ, List.zipIdx_cons, List.forIn_cons, Sem.wp_bind'] at h
    exact loop_inv hb n (i + 1) R E q u (hb i _ E q u h)
theorem items_inv {x : Value} {N : Nat} {f : Addr → Option Nat} {u : Shared} (hu : u.heap = fHeap N f) {R : Array Value → Pos → Shared → Prop} {E : Value → Pos → Shared → Prop} {q : Pos} (h : wp M Γ (Builtin.List.listItems x) R E q u) :
    ∃ a r, x = .ref a ∧ f a = some r ∧ R (List.replicate r Value.none).toArray q u := by
  unfold Builtin.List.listItems seqItems? at h
  cases x with
  | ref a =>
    simp only [Sem.wp_bind'] at h
    obtain ⟨o, ho, h⟩ := (show ∃ o, u.heap.get? a = some o ∧ _ from h)
    rw [hu] at ho
    obtain ⟨r, e, rfl⟩ := f_get ho
    exact ⟨a, r, rfl, e, h⟩
  | builtin id =>
    simp only [Sem.wp_bind', notAStandIn] at h
    split at h
    · exact h.elim
    · exact h.elim
  | _ => exact h.elim
theorem cmp_of {s s2 : Shared} {b : Bool} {N : Nat} {f : Addr → Option Nat} (hu : s2.heap = fHeap N f)
    (hr : ∀ x y r t, f x = some r → f y = some t → ∀ p, wp M Γ (keyLt' (tuples' b) (.ref x) (.ref y)) (fun c _ u => c = decide (r < t) ∧ u = s) (fun _ _ _ => False) p s) : Cmp M Γ s s2 (tuples' b) := by
  intro x y R q h
  have h0 := h
  rw [kat_lt_eq] at h
  simp only [Sem.wp_bind'] at h
  obtain ⟨a, r, rfl, e1, h⟩ := items_inv hu h
  obtain ⟨c, t, rfl, e2, h⟩ := items_inv hu h
  refine ⟨decide (r < t), q, ?_, hr a c r t e1 e2⟩
  have ez : (List.replicate r Value.none).toArray.toList.zip (List.replicate t Value.none).toArray.toList = List.replicate (min r t) (Value.none, Value.none) := by simp
  rw [ez] at h
  have g := loop_inv (fun i R E q u h => by
    simp only [Sem.wp_bind', eq_none] at h
    simpa using h) _ _ _ _ _ _ h
  simpa using g
end
end NwT

end
section
set_option Elab.async false
set_option linter.all false
set_option maxRecDepth 100000
set_option maxHeartbeats 4000000
namespace NwT
open PySem PyProof.Rows
open PySem.Sem (wp)
/-- refs by the rank that f gives them -/
@[reducible] def fKind (f : Addr → Option Nat) : KeyKind where
  α := Nat
  blt := fun a b => decide (a < b)
  irrefl := fun a => by simp
  trans := fun a b c h1 h2 => by simp at h1 h2 ⊢; omega
  negTrans := fun a b c h => by simp at h ⊢; omega
  total := fun a b h1 h2 => by simp at h1 h2; omega
  keyOf := fun v => match v with | .ref a => f a | _ => none
  dflt := 0
theorem fKind_some {f : Addr → Option Nat} {v : Value} {r : Nat} (h : (fKind f).keyOf v = some r) : ∃ a, v = .ref a ∧ f a = some r := by
  cases v with
  | ref a => exact ⟨a, rfl, h⟩
  | _ => exact nomatch h
section
variable {prog : Program} {w : World} {A : Around} {E : Value → Shared → Prop} {s s2 : Shared} {N : Nat} {f : Addr → Option Nat}
theorem lex_none {b fin : Bool} {Q : Bool → Shared → Prop} (h : Q fin s) : ∀ n i, W.KatLex prog w A b fin Q (List.replicate n (Value.none, Value.none)) i s
  | 0, i => W.kat_nil h
  | n + 1, i => W.kat_cons (fun Γ p _ => by
    rw [eq_none]
    exact W.kat_yes (lex_none h n (i + 1)))
theorem lt2 {b : Bool} (hu : s2.heap = fHeap N f) (hN : ∀ a r, f a = some r → a < N) : G.LtAt prog w s2 (fKind f) (tuples' b) := by
  intro A E x y r t Q hx hy q
  obtain ⟨a, rfl, e1⟩ := fKind_some hx
  obtain ⟨c, rfl, e2⟩ := fKind_some hy
  refine W.kat_lt (ox := fObj r) (oy := fObj t) (by rw [hu]; exact f_at (hN _ _ e1) e1) rfl (by rw [hu]; exact f_at (hN _ _ e2) e2) rfl ?_
  have ez : (List.replicate r Value.none).toArray.toList.zip (List.replicate t Value.none).toArray.toList = List.replicate (min r t) (Value.none, Value.none) := by simp
  rw [ez]
  refine lex_none ?_ _ _
  simpa using q
theorem run_sorted {vs : List Value} {b : Bool} (hN : ∀ a r, f a = some r → a < N) (hv : ∀ v ∈ vs, ∃ a r, v = .ref a ∧ f a = some r) (h2 : 2 ≤ vs.length)
    (hr : ∀ x y r t, f x = some r → f y = some t → wpAny (model prog w) A (keyLt' (tuples' b) (.ref x) (.ref y)) (fun c u => c = decide (r < t) ∧ u = s) (fun _ _ => False) s) :
    wpAny (model prog w) A (sortRuns'.run (SortSt.mk' (tuples' b) (pairsOf vs) #[] 7 none)) (fun r u => u = s ∧ failedOf r.2 = none ∧ (arrOf r.2).Perm (pairsOf vs) ∧ SortedToK (fKind f) (arrOf r.2) (pairsOf vs).size) E s := by
  intro Γ p hΓ
  have k0 : KeysOf (fKind f) (pairsOf vs) := fun x hx => by
    rw [pairsOf_toList] at hx
    obtain ⟨a, r, e, e2⟩ := hv _ (mem_zip_self hx).2
    exact ⟨r, by rw [e]; exact e2⟩
  let s3 : Shared := { s with heap := fHeap N f }
  have z := G.wpS_sortRunsSt (A := A) (E := fun _ _ => False) (s := s3) (st := SortSt.mk' (tuples' b) (pairsOf vs) #[] 7 none) (lt2 (b := b) (prog := prog) (w := w) (s2 := s3) rfl hN) k0 ⟨Array.Perm.refl _, rfl, rfl⟩ rfl (Stable.refl _) (by rw [pairsOf_size]; exact h2)
    (Q := fun _ st' => failedOf st' = none ∧ (arrOf st').Perm (pairsOf vs) ∧ SortedToK (fKind f) (arrOf st') (pairsOf vs).size) (fun st' a1 a2 a3 _ => ⟨a2, a1, a3⟩)
  have t := tr_runs (cmp_of (s2 := s3) rfl fun x y r t e1 e2 p => hr x y r t e1 e2 Γ p hΓ) _ rfl (fun _ st' _ u => u = s3 ∧ failedOf st' = none ∧ (arrOf st').Perm (pairsOf vs) ∧ SortedToK (fKind f) (arrOf st') (pairsOf vs).size) p p (z Γ p hΓ)
  exact Sem.wp_mono _ Γ _ (fun r _ u ⟨e, _, q', _, g⟩ => ⟨e, g⟩) (fun _ _ _ x => x.elim) p s t
/-- list.sort of tuples, its run given -/
theorem sort_shell {kd : SortKind} {a : Addr} {vs : List Value} {n : Nat} {P : PySem.Fin → Shared → Prop} {G0 : Array Keyed → Prop} (ho : s.heap.get? a = some (seqObj "list" vs.toArray n)) (hL : vs.length ≤ sizeLine)
    (hk : 2 ≤ vs.length → wpAny (model prog w) A (keyKind' vs.toArray) (fun k u => k = kd ∧ u = { s with heap := G.sortHeap6 s.heap a vs }) E { s with heap := G.sortHeap6 s.heap a vs })
    (hr : 2 ≤ vs.length → wpAny (model prog w) A (sortRuns'.run (SortSt.mk' kd (pairsOf vs) #[] 7 none)) (fun r u => u = { s with heap := G.sortHeap6 s.heap a vs } ∧ failedOf r.2 = none ∧ (arrOf r.2).Perm (pairsOf vs) ∧ G0 (arrOf r.2)) E { s with heap := G.sortHeap6 s.heap a vs })
    (h1 : vs.length < 2 → G0 (pairsOf vs)) (h : ∀ arr : Array Keyed, arr.Perm (pairsOf vs) → G0 arr → P (.done (.ret .none)) { s with heap := sortedHeap s.heap a vs (arr.map (·.2)) }) :
    wpAny (model prog w) A (Builtin.«list.sort» ⟨[.ref a], []⟩) P E s := by
  have ha : a < s.heap.objs.size := Heap.lt_size ho
  obtain ⟨e1, g1⟩ : ∃ e1, (s.heap.update a (Obj.mapSeq fun _ => #[])).get? a = some (seqObj "list" #[] e1) := ⟨_, get?_update_seq ho (fun _ => #[])⟩
  have g6 : (G.sortHeap6 s.heap a vs).get? a = some (seqObj "list" #[] e1) := by
    unfold G.sortHeap6
    rw [Heap.get?_push_ne, Heap.get?_push_ne, g1]
    · exact Nat.ne_of_lt (by rw [Heap.size_update]; exact ha)
    · exact Nat.ne_of_lt (by rw [size_push', Heap.size_update]; exact Nat.lt_succ_of_lt ha)
  have en : ∀ arr : Array Keyed, arr.Perm (pairsOf vs) → (arr.map (·.2)).size ≤ sizeLine + 1 := fun arr q => by
    rw [Array.size_map, q.size_eq, pairsOf_size]; exact Nat.le_succ_of_le hL
  rw [list_sort_plain]
  refine wpAny_bind (listItems_at ho rfl (wpAny_bind (listUpdate_at ho rfl (wpAny_bind (seqEpoch_at g1 rfl (wpAny_bind (wpAny_newTuple (wpAny_bind (wpAny_newList (wpAny_holding ?_))))))))))
  show wpAny (model prog w) A _ P E { s with heap := G.sortHeap6 s.heap a vs }
  dsimp only
  by_cases c : vs.toArray.size < 2
  · have c' : vs.length < 2 := by simpa using c
    rw [if_pos c, if_pos c]
    refine wpAny_bind (wpAny_pure (wpAny_bind (wpAny_pure ?_)))
    refine wpAny_bind (seqEpoch_at g6 rfl (wpAny_bind (listUpdate_at g6 rfl ?_ (hsz2 := en _ (Array.Perm.refl _)))))
    simp only [bne_self_eq_false, Bool.false_eq_true, if_false]
    exact wpAny_pure (h _ (Array.Perm.refl _) (h1 c'))
  · have c' : 2 ≤ vs.length := by
      have : ¬ vs.length < 2 := by simpa using c
      omega
    rw [if_neg c, if_neg c]
    refine wpAny_bind (wpAny_mono (hk c') ?_ fun _ _ e => e)
    rintro _ _ ⟨rfl, rfl⟩
    refine wpAny_bind (wpAny_mono (hr c') ?_ fun _ _ e => e)
    rintro ⟨⟨⟩, st⟩ _ ⟨rfl, f0, pm, g0⟩
    refine wpAny_bind (seqEpoch_at g6 rfl (wpAny_bind (listUpdate_at g6 rfl ?_ (hsz2 := en _ pm))))
    rw [f0]
    simp only [bne_self_eq_false, Bool.false_eq_true, if_false]
    exact wpAny_pure (h _ pm g0)
/-- sorted of a list of tuples, its run given -/
theorem sorted_shell {kd : SortKind} {l : Addr} {vs : List Value} {Q : Value → Shared → Prop} {G0 : Array Keyed → Prop} (hl : s.heap.IsList l vs.toArray) (hL : vs.length ≤ sizeLine)
    (hk : 2 ≤ vs.length → ∀ S : Shared, G.KeepsTups s.heap S.heap → wpAny (model prog w) A.in1.in1 (keyKind' vs.toArray) (fun k u => k = kd ∧ u = S) E S)
    (hr : 2 ≤ vs.length → ∀ S : Shared, G.KeepsTups s.heap S.heap → wpAny (model prog w) A.in1.in1 (sortRuns'.run (SortSt.mk' kd (pairsOf vs) #[] 7 none)) (fun r u => u = S ∧ failedOf r.2 = none ∧ (arrOf r.2).Perm (pairsOf vs) ∧ G0 (arrOf r.2)) E S)
    (h1 : vs.length < 2 → G0 (pairsOf vs)) (h : ∀ arr : Array Keyed, arr.Perm (pairsOf vs) → G0 arr → Q (.ref (s.heap.objs.size + 1)) { s with heap := sortedAll s.heap vs (arr.map (·.2)) }) :
    wpAny (model prog w) A (call (.builtin "sorted") [.ref l]) Q E s := by
  refine Calls.call_function_entry kind_sorted plain_sorted entry_sorted (args_sorted1 _) ?_
  unfold Builtin.«sorted»
  refine wpAny_bind (m := checkCount "sorted" 1 1 _) (wpAny_pure (wpAny_bind (collect_list hl (wpAny_bind (wpAny_newList ?_)))))
  have z1 : ((s.heap.push (seqObj "list" #[] 0)).update s.heap.objs.size (Obj.mapSeq (· ++ vs.toArray))).objs.size = s.heap.objs.size + 1 := by rw [Heap.size_update]; exact size_push' _ _
  have gN : (s.heap.push (seqObj "list" #[] 0)).get? s.heap.objs.size = some (seqObj "list" #[] 0) := Heap.get?_push_size _ rfl
  have gL : (((s.heap.push (seqObj "list" #[] 0)).update s.heap.objs.size (Obj.mapSeq (· ++ vs.toArray))).push (seqObj "list" vs.toArray 0)).get? (s.heap.objs.size + 1) = some (seqObj "list" vs.toArray 0) := by
    rw [← z1]
    exact Heap.get?_push_size _ rfl
  have kp := (((G.KeepsTups.push s.heap (seqObj "list" #[] 0)).trans (G.KeepsTups.update (Obj.mapSeq (· ++ vs.toArray)) gN G.not_tuple_list)).trans (G.KeepsTups.push _ (seqObj "list" vs.toArray 0))).trans (G.keeps_sort6 (vs := vs) gL)
  show wpAny _ _ _ _ _ { s with heap := ((s.heap.push (seqObj "list" #[] 0)).update s.heap.objs.size (Obj.mapSeq (· ++ vs.toArray))).push (seqObj "list" vs.toArray 0) }
  rw [z1]
  exact wpAny_bind (wpAny_holding (wpAny_call_entry slot_list_sort ⟨_, gL, rfl⟩ entry_list_sort (sort_shell (kd := kd) (G0 := G0) gL hL (fun c => hk c _ kp) (fun c => hr c _ kp) h1 fun arr a1 a2 => ⟨_, rfl, wpAny_pure ⟨_, rfl, h arr a1 a2⟩⟩) (args_list_sort _)))
end
end NwT

end
section
set_option Elab.async false
set_option linter.all false
set_option maxRecDepth 100000
set_option maxHeartbeats 4000000
namespace Nw
open PySem PySem.Spec PyProof.Rows L2
open Sf65 (Bytes)
/-! ### sorted of (how far, word): what each holds -/
structure Fnd where
  t : Addr
  d : Nat
  q : Addr
  w : Bytes
def Fnd.k (x : Fnd) : Nat × Bytes := (x.d, x.w)
def ltF (x y : Fnd) : Bool := !Sf93.ahead y.k x.k
theorem ltF_self (x : Fnd) : ltF x x = false := by
  have := ahead_total x.k x.k
  rw [Bool.or_self] at this
  unfold ltF
  rw [this]
  rfl
theorem ltF_false {x y : Fnd} (h : ltF x y = false) : Sf93.ahead y.k x.k = true := by
  unfold ltF at h
  simpa using h
theorem ltF_true {x y : Fnd} (h : ltF x y = true) : Sf93.ahead y.k x.k = false := by
  unfold ltF at h
  simpa using h
theorem ltF_up {x y z : Fnd} (h : ltF x y = true) (g : ltF z x = true) : ltF z y = true := by
  have h1 := ltF_true h
  have h2 : Sf93.ahead x.k y.k = true := by
    have := ahead_total x.k y.k
    rw [h1, Bool.or_false] at this
    exact this
  cases e : ltF z y with
  | true => rfl
  | false =>
    have := ahead_trans _ _ _ h2 (ltF_false e)
    rw [ltF_true g] at this
    cases this
theorem ltF_down {x y z : Fnd} (h : ltF x y = false) (g : ltF z y = true) : ltF z x = true := by
  cases e : ltF z x with
  | true => rfl
  | false =>
    have := ahead_trans _ _ _ (ltF_false h) (ltF_false e)
    rw [ltF_true g] at this
    cases this
def rankF (its : List Fnd) (x : Fnd) : Nat := its.countP fun y => ltF y x
theorem countP_less {α : Type} {p r : α → Bool} {a : α} : ∀ {l : List α}, (∀ z ∈ l, p z = true → r z = true) → a ∈ l → p a = false → r a = true → l.countP p < l.countP r
  | [], _, h, _, _ => nomatch h
  | b :: l, hm, h, h1, h2 => by
    rw [List.countP_cons, List.countP_cons]
    have hm' : ∀ z ∈ l, p z = true → r z = true := fun z hz => hm z (List.mem_cons_of_mem _ hz)
    have le := List.countP_mono_left hm'
    rcases List.mem_cons.mp h with rfl | h
    · rw [h1, h2]
      simp only [Bool.false_eq_true, if_false, if_true]
      omega
    · have ih := countP_less hm' h h1 h2
      cases e : p b with
      | false =>
        simp only [Bool.false_eq_true, if_false]
        omega
      | true =>
        rw [hm b List.mem_cons_self e]
        simp only [if_true]
        omega
theorem rank_lt {its : List Fnd} {x y : Fnd} (hx : x ∈ its) : decide (rankF its x < rankF its y) = ltF x y := by
  cases e : ltF x y with
  | true => exact decide_eq_true (countP_less (fun z _ g => ltF_up e g) hx (ltF_self x) e)
  | false =>
    have := List.countP_mono_left (l := its) (p := fun z => ltF z y) (q := fun z => ltF z x) (fun z _ g => ltF_down e g)
    exact decide_eq_false (Nat.not_lt.mpr this)
theorem perm_map_ex {α β : Type} {g : α → β} : ∀ {its : List α} {l : List β}, l.Perm (its.map g) → ∃ its' : List α, its'.Perm its ∧ its'.map g = l
  | [], l, h => ⟨[], .refl _, by rw [List.map_nil] at h ⊢; exact h.eq_nil.symm⟩
  | x :: its, l, h => by
    have hm : g x ∈ l := h.mem_iff.mpr (by simp)
    obtain ⟨l1, l2, rfl⟩ := List.append_of_mem hm
    have h2 : (l1 ++ l2).Perm (its.map g) := (List.perm_middle.symm.trans h).cons_inv
    obtain ⟨js, hj, ej⟩ := perm_map_ex h2
    refine ⟨js.take l1.length ++ x :: js.drop l1.length, ?_, ?_⟩
    · exact List.perm_middle.trans (List.Perm.cons x (by rw [List.take_append_drop]; exact hj))
    · rw [List.map_append, List.map_cons, List.map_take, List.map_drop, ej, List.take_left', List.drop_left']
      · rfl
      · rfl
theorem lex_before : ∀ a b : Bytes, HT.lexLt (wints a) (wints b) = Sf65.before a b
  | [], [] => rfl
  | [], _ :: _ => rfl
  | _ :: _, [] => rfl
  | x :: a, y :: b => by
    show (if bi x = bi y then HT.lexLt (wints a) (wints b) else decide (bi x < bi y)) = (decide (x < y) || (x == y && Sf65.before a b))
    rw [lex_before a b]
    by_cases h : x = y
    · subst h
      rw [if_pos rfl]
      simp
    · rw [if_neg (fun z => h (bi_inj z))]
      have e1 : (x == y) = false := beq_eq_false_iff_ne.mpr h
      rw [e1, Bool.false_and, Bool.or_false]
      apply decide_eq_decide.mpr
      unfold bi
      rw [UInt8.lt_iff_toNat_lt]
      omega
theorem ltF_eq (x y : Fnd) : ltF x y = if x.d = y.d then Sf65.before x.w y.w else decide (x.d < y.d) := by
  have h := ahead_iff y.k x.k
  have e1 : y.k.1 = y.d := rfl
  have e2 : x.k.1 = x.d := rfl
  have e3 : y.k.2 = y.w := rfl
  have e4 : x.k.2 = x.w := rfl
  rw [e1, e2, e3, e4] at h
  unfold ltF
  cases a : Sf93.ahead y.k x.k with
  | true =>
    rcases h.mp a with b | ⟨b, c⟩
    · rw [if_neg (by omega), decide_eq_false (by omega)]
      rfl
    · rw [if_pos b.symm, c]
      rfl
  | false =>
    have n : ¬ (y.d < x.d ∨ y.d = x.d ∧ Sf65.before x.w y.w = false) := fun z => by
      rw [h.mpr z] at a
      cases a
    by_cases b : x.d = y.d
    · rw [if_pos b]
      cases c : Sf65.before x.w y.w with
      | true => rfl
      | false => exact (n (.inr ⟨b.symm, c⟩)).elim
    · rw [if_neg b, decide_eq_true (by
        have : ¬ y.d < x.d := fun z => n (.inl z)
        omega)]
      rfl
/-- a found word's own tuple and its word's, as the heap has them -/
def FndAt (H : Hp) (x : Fnd) : Prop := H x.t = some (.tup [.int (x.d : Nat), .ref x.q]) ∧ H x.q = some (.tup ((wints x.w).map V.int))
theorem wints_inj : ∀ {a b : Bytes}, wints a = wints b → a = b
  | [], [], _ => rfl
  | [], _ :: _, h => nomatch h
  | _ :: _, [], h => nomatch h
  | x :: a, y :: b, h => by
    have h1 : bi x = bi y := (List.cons.inj h).1
    have h2 : wints a = wints b := (List.cons.inj h).2
    rw [bi_inj h1, wints_inj h2]
theorem vint_inj : ∀ {a b : List Int}, a.map V.int = b.map V.int → a = b
  | [], [], _ => rfl
  | [], _ :: _, h => nomatch h
  | _ :: _, [], h => nomatch h
  | x :: a, y :: b, h => by
    have h1 : V.int x = V.int y := (List.cons.inj h).1
    rw [vint_inj (List.cons.inj h).2, V.int.inj h1]
theorem FndAt.same {H : Hp} {x y : Fnd} (hx : FndAt H x) (hy : FndAt H y) (e : x.t = y.t) : x = y := by
  obtain ⟨t, d, q, w⟩ := x
  obtain ⟨t', d', q', w'⟩ := y
  obtain rfl : t = t' := e
  have h1 := hx.1.symm.trans hy.1
  simp only [Option.some.injEq, HO.tup.injEq, List.cons.injEq, V.int.injEq, V.ref.injEq, and_true] at h1
  obtain ⟨e1, rfl⟩ := h1
  have h2 := hx.2.symm.trans hy.2
  simp only [Option.some.injEq, HO.tup.injEq] at h2
  have e3 : w = w' := wints_inj (vint_inj h2)
  have e4 : d = d' := by omega
  rw [e3, e4]
def rankAt (its : List Fnd) (a : Addr) : Option Nat := (its.find? fun x => x.t == a).map (rankF its)
theorem rankAt_some {its : List Fnd} {a : Addr} {r : Nat} (h : rankAt its a = some r) : ∃ x ∈ its, x.t = a ∧ r = rankF its x := by
  unfold rankAt at h
  obtain ⟨x, hx, e⟩ := Option.map_eq_some_iff.mp h
  have p := List.find?_some hx
  exact ⟨x, List.mem_of_find?_eq_some hx, by simpa using p, e.symm⟩
theorem rankAt_of {H : Hp} {its : List Fnd} (hf : ∀ x ∈ its, FndAt H x) {x : Fnd} (hx : x ∈ its) : rankAt its x.t = some (rankF its x) := by
  unfold rankAt
  cases e : its.find? (fun y => y.t == x.t) with
  | none =>
    have := List.find?_eq_none.mp e x hx
    simp at this
  | some y =>
    have p := List.find?_some e
    have ey : y.t = x.t := by simpa using p
    rw [FndAt.same (hf y (List.mem_of_find?_eq_some e)) (hf x hx) ey]
    rfl
section
variable {X : Cx}
/-- one comparison of two found words -/
theorem cmp_fnd {prog : Program} {w : World} {A : Around} {S : Shared} {x y : Fnd} {t1 t2 : Tok} {i1 i2 j1 j2 : List Value} {oc : Value} (hu : A.units < cLine) (h1 : IsTup S.heap x.t i1.toArray) (h2 : IsTup S.heap y.t i2.toArray) (e1 : i1 = [.int (x.d : Nat) t1, .ref x.q]) (e2 : i2 = [.int (y.d : Nat) t2, .ref y.q])
    (q1 : IsTup S.heap x.q j1.toArray) (q2 : IsTup S.heap y.q j2.toArray) (v1 : Vals ((wints x.w).map V.int) j1) (v2 : Vals ((wints y.w).map V.int) j2) :
    wpAny (model prog w) A (keyLt' (tuples' true) (.ref x.t) (.ref y.t)) (fun c u => c = ltF x y ∧ u = S) (fun _ _ => False) S := by
  obtain ⟨o1, g1, c1, n1, d1⟩ := h1
  obtain ⟨o2, g2, c2, n2, d2⟩ := h2
  refine W.kat_lt g1 d1 g2 d2 ?_
  subst e1 e2
  have kk : ∀ {z : Fnd} {j : List Value}, IsTup S.heap z.q j.toArray → Vals ((wints z.w).map V.int) j → IsTupleKey (mixKind prog w) S.heap ((wints z.w).map (Sum.inl : Int → Key)) z.q := fun {z j} a b => by
    obtain ⟨o, g, c, n, d⟩ := a
    refine ⟨o, j.toArray, n, g, c, d, ?_⟩
    have eb : (wints z.w).map V.int = ((wints z.w).map (Sum.inl : Int → Key)).map kV := by
      rw [List.map_map]
      rfl
    rw [eb] at b
    simpa using items_are (P := prog) (w := w) b
  show W.KatLex prog w A true _ _ [(Value.int (x.d : Nat) t1, Value.int (y.d : Nat) t2), (Value.ref x.q, Value.ref y.q)] 0 S
  refine W.kat_cons (wpAny_eqBool_int (W.kat_go (fun e => W.kat_yes ?_) (fun e => W.kat_no ?_)))
  · have ed : x.d = y.d := by
      have := beq_iff_eq.mp e
      omega
    refine W.kat_cons (wpAny_eqBool_tuple hu (kk q1 v1) (kk q2 v2) (W.kat_go (fun e => W.kat_yes (W.kat_nil ?_)) (fun e => W.kat_no ?_)))
    · have ew : x.w = y.w := wints_inj (List.map_inj_right (f := (Sum.inl : Int → Key)) (fun _ _ z => Sum.inl.inj z) |>.mp (of_decide_eq_true e))
      rw [ltF_eq, if_pos ed, ew, before_irr]
      exact ⟨rfl, rfl⟩
    · refine W.kat_one _ _ (HT.lt_tupInts q1 q2 (by simpa using v1.ints) (by simpa using v2.ints) hu ?_)
      rw [lex_before, ltF_eq, if_pos ed]
      exact ⟨rfl, rfl⟩
  · have ed : ¬ x.d = y.d := fun z => by
      rw [z] at e
      simp at e
    refine oneLt_int ⟨?_, rfl⟩
    rw [ltF_eq, if_neg ed]
    exact decide_eq_decide.mpr (by omega)
/-- sorted(found) -/
def rSortF (K : PySem.W.Frag) : List V → Hp → VK → Prop := fun vs H Q => ∃ (a : Addr) (its : List Fnd), vs = [V.ref a] ∧ SqL K H a (its.map fun x => V.ref x.t) ∧ its.length ≤ 1000 ∧ (∀ x ∈ its, FndAt H x) ∧
  ∀ (out : List Fnd) (p : Addr), out.Perm its → (out.Pairwise fun x y => Sf93.ahead x.k y.k = true) → H p = none → Q (.ref p) (upd H p (.lst (out.map fun x => V.ref x.t)))
theorem vals_refs : ∀ {l : List Fnd} {us : List Value}, Vals (l.map fun x => V.ref x.t) us → us = l.map fun x => Value.ref x.t
  | [], us, h => Vals.zero h
  | x :: l, us, h => by
    cases h with
    | cons r t => rw [vals_refs t, show _ = Value.ref x.t from r]; rfl
theorem vals_of_refs : ∀ (l : List Fnd), Vals (l.map fun x => V.ref x.t) (l.map fun x => Value.ref x.t)
  | [] => .nil
  | x :: l => .cons rfl (vals_of_refs l)
theorem cr_sortF (hu : X.A.units + 64 < cLine) : CallR X (.builtin "sorted") (rSortF X.K) := by
  intro pins s σ H vs us Q I r h
  obtain ⟨a, its, rfl, hs, hn, hf, q⟩ := h
  obtain ⟨vals, rv, hl, _⟩ := I.list hs
  rw [Vals.ref1 r]
  have hL : (its.map fun x => Value.ref x.t).length ≤ sizeLine := by
    rw [List.length_map, sizeLine_eq]
    omega
  have ev := vals_refs rv
  subst ev
  -- each of the tuples, at any heap that keeps them
  have tup : ∀ S : Shared, G.KeepsTups s.heap S.heap → ∀ (b : Addr) (ys : List V), H b = some (.tup ys) → ∃ l : List Value, Vals ys l ∧ IsTup S.heap b l.toArray := fun S k b ys e => by
    obtain ⟨_, l, v, o, g, c, n, d⟩ := (show ObjOk X.prog X.w H s.heap b (.tup ys) from I.hok b _ e)
    exact ⟨l, v, o, k b o g c, c, n, d⟩
  have hv : ∀ v ∈ its.map fun x => Value.ref x.t, ∃ a r, v = .ref a ∧ rankAt its a = some r := fun v hv => by
    obtain ⟨x, hx, rfl⟩ := List.mem_map.mp hv
    exact ⟨x.t, _, rfl, rankAt_of hf hx⟩
  refine NwT.sorted_shell (kd := tuples' true) (G0 := fun arr => SortedToK (NwT.fKind (rankAt its)) arr its.length) hl.isList hL (fun c S k => ?_) (fun c S k => ?_) (fun c => ?_) (fun arr pm so => ?_)
  · have all : ∀ l : List Fnd, (∀ x ∈ l, FndAt H x) → ∃ fs, TupsOf S.heap (fun _ => false) (l.map fun x => Value.ref x.t) fs := fun l => by
      induction l with
      | nil => exact fun _ => ⟨[], .nil⟩
      | cons x l ih =>
        intro hx
        obtain ⟨fs, g⟩ := ih fun y hy => hx y (List.mem_cons_of_mem _ hy)
        obtain ⟨l1, v1, o, g1, c1, n1, d1⟩ := tup S k _ _ (hx x List.mem_cons_self).1
        obtain ⟨u1, u2, rfl, ⟨t1, rfl⟩, _⟩ := vals2b v1
        exact ⟨_ :: fs, .cons ⟨x.t, o, _, n1, rfl, g1, c1, d1, rfl, fun _ => ⟨_, _, rfl⟩, fun z => nomatch z⟩ g⟩
    obtain ⟨fs, g⟩ := all its hf
    exact tup_kind (s := S) (by rw [G.TupsOf.length g]; omega) g ⟨rfl, rfl⟩
  · have z := NwT.run_sorted (prog := X.prog) (w := X.w) (A := X.A.in1.in1) (E := X.xe) (s := S) (b := true) (f := rankAt its) (N := s.heap.objs.size) (vs := its.map fun x => Value.ref x.t) (fun b r e => ?_) hv c (fun b1 b2 r1 r2 e1 e2 => ?_)
    · rw [pairsOf_size, List.length_map] at z
      exact z
    · obtain ⟨x, hx, rfl, _⟩ := rankAt_some e
      obtain ⟨_, l, v, o, g, _⟩ := (show ObjOk X.prog X.w H s.heap x.t (.tup _) from I.hok x.t _ (hf x hx).1)
      exact Heap.lt_size g
    · obtain ⟨x, hx, rfl, rfl⟩ := rankAt_some e1
      obtain ⟨y, hy, rfl, rfl⟩ := rankAt_some e2
      rw [rank_lt hx]
      obtain ⟨l1, v1, g1⟩ := tup S k _ _ (hf x hx).1
      obtain ⟨l2, v2, g2⟩ := tup S k _ _ (hf y hy).1
      obtain ⟨m1, w1, k1⟩ := tup S k _ _ (hf x hx).2
      obtain ⟨m2, w2, k2⟩ := tup S k _ _ (hf y hy).2
      obtain ⟨u1, u2, rfl, ⟨t1, rfl⟩, e3⟩ := vals2b v1
      obtain ⟨u3, u4, rfl, ⟨t2, rfl⟩, e4⟩ := vals2b v2
      exact cmp_fnd (oc := .none) (by show X.A.units + 1 + 1 < cLine; omega) g1 g2 (by rw [show u2 = Value.ref x.q from e3]) (by rw [show u4 = Value.ref y.q from e4]) k1 k2 w1 w2
  · intro i j hij hj
    have : i = j := by
      rw [List.length_map] at c
      omega
    subst this
    exact KeyOrd.kle_refl _
  · obtain ⟨ep, he'⟩ := sortedAll_at s.heap (its.map fun x => Value.ref x.t) (arr.map (·.2))
    have pm2 : arr.toList.Perm (its.map fun x => ((Value.ref x.t, Value.ref x.t) : Keyed)) := by
      have := Array.perm_iff_toList_perm.mp pm
      rw [pairsOf_toList] at this
      have ez : ∀ l : List Fnd, (l.map fun x => Value.ref x.t).zip (l.map fun x => Value.ref x.t) = l.map fun x => ((Value.ref x.t, Value.ref x.t) : Keyed) := fun l => by
        induction l with
        | nil => rfl
        | cons x l ih => rw [List.map_cons, List.zip_cons_cons, ih]; rfl
      rw [ez] at this
      exact this
    obtain ⟨out, po, eo⟩ := perm_map_ex pm2
    have eA : (arr.map (·.2)).toList = out.map fun x => Value.ref x.t := by
      rw [Array.toList_map, ← eo, List.map_map]
      rfl
    have hz : out.length = its.length := po.length_eq
    have mem : ∀ x ∈ out, x ∈ its := fun x hx => po.mem_iff.mp hx
    have sorted : out.Pairwise fun x y => Sf93.ahead x.k y.k = true := by
      rw [List.pairwise_iff_getElem]
      intro i j hi hj hij
      have g := so i j (by omega) (by omega)
      have at_ : ∀ k (hk : k < out.length), KK (NwT.fKind (rankAt its)) arr k = rankF its out[k] := fun k hk => by
        have e : arr[k]? = some (Value.ref out[k].t, Value.ref out[k].t) := by
          rw [← Array.getElem?_toList, ← eo, List.getElem?_map, List.getElem?_eq_getElem hk]
          rfl
        unfold KK
        rw [e]
        show (rankAt its out[k].t).getD 0 = _
        rw [rankAt_of hf (mem _ (List.getElem_mem hk))]
        rfl
      rw [at_ i hi, at_ j hj] at g
      have g2 : decide (rankF its out[j] < rankF its out[i]) = false := g
      rw [rank_lt (mem _ (List.getElem_mem hj))] at g2
      exact ltF_false g2
    have hlen : (out.map fun x => V.ref x.t).length ≤ sizeLine := by
      rw [List.length_map, hz, sizeLine_eq]
      omega
    refine ⟨.ref _, upd H (s.heap.objs.size + 1) (.lst (out.map fun x => V.ref x.t)), I.laid (t' := s.toks) (fun _ _ => sortedAll_old) (Nat.le_succ _) ⟨hlen, (arr.map (·.2)).toList, ep, ?_, he'⟩, rfl, q out _ po sorted (I.hok.fresh (Nat.le_succ _))⟩
    rw [eA]
    exact vals_of_refs out
end
end Nw

end
section
set_option Elab.async false
set_option linter.all false
set_option maxRecDepth 100000
set_option maxHeartbeats 2000000
namespace Nw
open PySem PySem.Spec PyProof.Rows L2
open Sf65 (Bytes)
def top (i : Nat) : Stmt := PySem.Challenge.pw_nearwords_s01_answers.main.body.getD i (.Pass ⟨0, 0, 0, 0⟩)
abbrev sHow : Stmt := top 5
abbrev sPla : Stmt := top 6
abbrev sFew : Stmt := top 7
abbrev sNext : Stmt := top 8
abbrev sAbo : Stmt := top 9
/-- a word as the program holds it -/
def wv (s : Bytes) : List V := (wints s).map V.int
theorem wv_len (s : Bytes) : (wv s).length = s.length := by unfold wv; rw [List.length_map, ints_length]
theorem wv_get {s : Bytes} {i : Nat} (h : i < s.length) : (wv s)[i]? = some (V.int (bi (s.getD i 0))) := by
  unfold wv
  rw [List.getElem?_map, ints_get h]
  rfl
structure TxtD (K : PySem.W.Frag) (mg : Str → Option Value) : Prop where
  aF : ∃ t, mg "ALL_FOUR" = some (.int 2 t)
  sA : ∃ t, mg "SET_ALONE" = some (.int 3 t)
  nD : ∃ t, mg "NO_DISTANCE" = some (.int (-2) t)
  eR : ∃ a, mg "EDITS_TO_REPLACE" = some (.ref a) ∧ ∀ H, SqT K H a [.int 2, .int 1, .int 1]
  len : mg "len" = none
  range : mg "range" = none
  sum : mg "sum" = none
  list : mg "list" = none
  min : mg "min" = none
section
variable {P : Program} {w : World} {K : PySem.W.Frag} {mg : Str → Option Value} {base : Heap}
/-! ### changed_about -/
inductive SpAboI (K : PySem.W.Frag) (vs : List V) (H : Hp) (Q : VK) : Prop
  | mk (T : Addr) (p q : Nat) (i j : Int) (xs : List V) (r : Addr) (ys : List V) (v : Int) (e0 : vs = [.ref T, .int p, .int q, .int i, .int j]) (e1 : ¬ p = 0) (e2 : ¬ q = 0) (e3 : SqL K H T xs) (e4 : xs[p - 1]? = some (.ref r)) (e5 : SqL K H r ys) (e6 : ys[q - 1]? = some (.int v)) (e7 : Q (.int (v + (i - p - 1) + 1 + (j - q - 1))) H) : SpAboI K vs H Q
def spAbo (K : PySem.W.Frag) : Sp := fun vs H Q _ => SpAboI K vs H Q
theorem scAbo : FnScope ["table", "first_row", "first_column", "i", "j", "cut_out", "put_in"] ["table", "first_row", "first_column", "i", "j"] (defScope sAbo) := ⟨rfl, rfl, rfl, by decide +kernel, rfl, by decide +kernel, by decide +kernel⟩
theorem ok_abo {f : Addr} {fd : FuncData} (F : Fun K "changed_about" "changed_about" sAbo f fd) : FnOk P w K mg base CX0 1 f fd ["table", "first_row", "first_column", "i", "j"] (spAbo K) := by
  refine F.ok scAbo (fun vs H Q E h => ?_) (fun cdv A outer s H vs Q E hr h => ?_)
  · obtain ⟨T, p, q, i, j, xs, r, ys, v, rfl, _⟩ := h
    rfl
  · obtain ⟨T, p, q, i, j, xs, r, ys, v, rfl, hp, hq, a1, a2, a3, a4, a5⟩ := h
    refine ⟨_, pss_cons (ps_set (i := 5) scAbo.nd rfl (Or.inl rfl) (pe_op op_sub (pe_op op_sub (pv 3) (pv 1)) pe_int))
      (pss_cons (ps_set (i := 6) scAbo.nd rfl (Or.inl rfl) (pe_op op_sub (pe_op op_sub (pv 4) (pv 2)) pe_int))
      (pss_one (ps_ret (pe_op op_add (pe_op op_add (pe_op op_add (pe_ix ix_list (pe_ix ix_list (pv 0) (pe_op op_sub (pv 1) pe_int) (fun _ _ => rfl)) (pe_op op_sub (pv 2) pe_int) (fun _ _ => rfl)) (pv 5)) pe_int) (pv 6))))), ?_⟩
    refine ⟨_, rfl, _, rfl, _, _, rfl, rfl, _, _, rfl, rfl, _, rfl, _, rfl, _, _, rfl, rfl, _, _, rfl, rfl, ?_⟩
    refine ⟨_, rfl, _, rfl, _, _, rfl, rfl, T, xs, _, _, rfl, rfl, a1, at_of (j := p - 1) (by omega) a2, _, rfl, _, _, rfl, rfl, r, ys, _, _, rfl, rfl, a3, at_of (j := q - 1) (by omega) a4, _, rfl, _, _, rfl, rfl, _, _, rfl, rfl, _, rfl, _, _, rfl, rfl, a5⟩
end
end Nw

end
section
set_option Elab.async false
set_option linter.all false
set_option maxRecDepth 100000
set_option maxHeartbeats 2000000
namespace Nw
open PySem PySem.Spec PyProof.Rows L2
open Sf65 (Bytes)
/-- a def of the text: where it is, how it binds -/
structure Dfn (K : PySem.W.Frag) (mg : Str → Option Value) (x : Str) (st : Stmt) (f : Addr) (fd : FuncData) (ps : List Str) : Prop where
  F : Fun K x x st f fd
  mgf : mg x = some (.ref f)
  b : Binds K fd ps []
/-- the first m cells of a row -/
def rowP (way : Nat) (s t : Bytes) (k m : Nat) : List V := (List.range m).map fun j => V.int (D way s t k j : Nat)
theorem rowP_len (way : Nat) (s t : Bytes) (k m : Nat) : (rowP way s t k m).length = m := by unfold rowP; rw [List.length_map, List.length_range]
theorem rowP_get {way : Nat} {s t : Bytes} {k m j : Nat} (h : j < m) : (rowP way s t k m)[j]? = some (V.int (D way s t k j : Nat)) := by
  unfold rowP
  rw [List.getElem?_map, List.getElem?_range h]
  rfl
theorem rowP_succ (way : Nat) (s t : Bytes) (k m : Nat) : rowP way s t k (m + 1) = rowP way s t k m ++ [V.int (D way s t k m : Nat)] := by
  unfold rowP
  rw [List.range_succ, List.map_append]
  rfl
/-- the table with the rows 0 to i, and where each byte was last -/
structure TabAt (H : Hp) (T L : Addr) (rows : List Addr) (kvs : List (Key × V)) (way : Nat) (s t : Bytes) (i : Nat) : Prop where
  tab : H T = some (.lst (rows.map V.ref))
  len : rows.length = i + 1
  row : ∀ (k : Nat) (r : Addr), rows[k]? = some r → H r = some (.lst (rowP way s t k (t.length + 1)))
  dic : H L = some (.dK kvs)
  dl : kvs.length ≤ i
  last : ∀ b : UInt8, valV kvs (Sum.inl (bi b) : Key) = if last1 s i b = 0 then none else some (V.int (last1 s i b : Nat))
theorem TabAt.same {H H' : Hp} {T L : Addr} {rows : List Addr} {kvs : List (Key × V)} {way : Nat} {s t : Bytes} {i : Nat} (x : TabAt H T L rows kvs way s t i) (e : Same H H') : TabAt H' T L rows kvs way s t i :=
  ⟨e _ _ x.tab, x.len, fun k r h => e _ _ (x.row k r h), e _ _ x.dic, x.dl, x.last⟩
section
variable {P : Program} {w : World} {K : PySem.W.Frag} {mg : Str → Option Value} {base : Heap}
theorem iteP {c : Bool} {A B : Prop} (e : c = true) (h : A) : if c = true then A else B := by rw [if_pos e]; exact h
theorem iteN {c : Bool} {A B : Prop} (e : c = false) (h : B) : if c = true then A else B := by rw [e, if_neg Bool.false_ne_true]; exact h
/-- a statement's if that sets the slot j -/
theorem ifS_val {t u : TS} {D : Ends} {σ : L2.St} {H : Hp} {c : Bool} {j : Nat} {v1 v2 : V} (h1 : c = true → ∀ D' : Ends, D'.nx (σ.set j (some v1)) H → t D' σ H) (h2 : c = false → ∀ D' : Ends, D'.nx (σ.set j (some v2)) H → u D' σ H)
    (h : D.nx (σ.set j (some (if c = true then v1 else v2))) H) : if c = true then t D σ H else u D σ H := by
  cases c with
  | true => exact iteT (h1 rfl D (by simpa using h))
  | false => exact iteF (h2 rfl D (by simpa using h))
theorem same_write {H H' : Hp} {p : Addr} {o : HO} (e : Same H H') (h : H p = none) : Same H (L2.upd H' p o) := fun b u q => by
  rw [upd_ne (ne_of_none q h)]
  exact e b u q
inductive SpNextI (K : PySem.W.Frag) (vs : List V) (H : Hp) (Q : VK) : Prop
  | mk (way i : Nat) (s t : Bytes) (T L tt : Addr) (rows : List Addr) (kvs : List (Key × V)) (e0 : vs = [.int way, .ref T, .ref L, .int (bi (s.getD i 0)), .ref tt]) (e1 : way ≤ 2) (e2 : i < s.length) (e3 : i ≤ 1000) (e4 : t.length ≤ 1000) (e5 : TabAt H T L rows kvs way s t i) (e6 : Sq K H tt (wv t)) (e7 : ∀ (H' : Hp) (r : Addr), Same H H' → H r = none → H' r = some (.lst (rowP way s t (i + 1) (t.length + 1))) → Q (.ref r) H') : SpNextI K vs H Q
def spNext (K : PySem.W.Frag) : Sp := fun vs H Q _ => SpNextI K vs H Q
theorem scNext : FnScope ["way", "table", "last_row_of", "byte", "t", "i", "above", "replaced", "fewest", "row", "last_match", "j", "other"] ["way", "table", "last_row_of", "byte", "t"] (defScope sNext) := ⟨rfl, rfl, rfl, by decide +kernel, rfl, by decide +kernel, by decide +kernel⟩
theorem repl_at {way : Nat} (h : way ≤ 2) : atI [V.int 2, V.int 1, V.int 1] (way : Int) = some (V.int (Sf93.other way : Nat)) := by
  have : way = 0 ∨ way = 1 ∨ way = 2 := by omega
  rcases this with rfl | rfl | rfl <;> rfl
theorem eqV {a b : Int} : decide (V.int a = V.int b) = decide (a = b) := by
  by_cases h : a = b
  · rw [decide_eq_true h, h]
    simp
  · rw [decide_eq_false h]
    exact decide_eq_false fun e => h (by injection e)
theorem ar1 (n : Nat) : (1 : Int) + (n : Int) - 1 = ((n : Nat) : Int) := by omega
theorem ar2 (n : Nat) : (1 : Int) + (n : Int) = ((n + 1 : Nat) : Int) := by omega
theorem min_if (a b : Int) : (if decide (a < b) = true then V.int a else V.int b) = V.int (min a b) := by
  by_cases h : a < b
  · rw [if_pos (decide_eq_true h), Int.min_eq_left (Int.le_of_lt h)]
  · rw [if_neg (by rw [decide_eq_false h]; exact Bool.false_ne_true), Int.min_eq_right (Int.not_lt.mp h)]
theorem three_int {way : Nat} {s t : Bytes} {i n : Nat} (hb : ¬ s.getD i 0 = t.getD n 0) : ((three way s t i n : Nat) : Int) = min ((D way s t i n : Int) + (Sf93.other way : Nat)) (min ((D way s t i (n + 1) : Int) + 1) ((D way s t (i + 1) n : Int) + 1)) := by
  unfold three
  rw [if_neg hb]
  omega
theorem ok_next {f fA : Addr} {fd fdA : FuncData} (F : Fun K "next_row" "next_row" sNext f fd) (T : TxtD K mg) (DA : Dfn K mg "changed_about" sAbo fA fdA ["table", "first_row", "first_column", "i", "j"]) :
    FnOk P w K mg base CX0 2 f fd ["way", "table", "last_row_of", "byte", "t"] (spNext K) := by
  have GA : FnOk P w K mg base CX0 1 fA fdA ["table", "first_row", "first_column", "i", "j"] (spAbo K) := ok_abo DA.F
  refine F.ok scNext (fun vs H Q E h => ?_) (fun cdv A outer s0 H vs Q E hr h => ?_)
  · obtain ⟨way, i, s, t, T1, L, tt, rows, kvs, rfl, _⟩ := h
    rfl
  · obtain ⟨way, i, s, t, T1, L, tt, rows, kvs, rfl, hw, his, hi1, htl, tb, ht, k⟩ := h
    obtain ⟨tF, gF⟩ := T.aF
    obtain ⟨aR, gR, sR⟩ := T.eR
    have hu := hu_of hr
    have nd := scNext.nd
    refine ⟨_, pss_cons (ps_set (i := 5) nd rfl (Or.inl rfl) (pe_callB call_lenS (by rfl) T.len PySem.boot_len (pa_cons (pv 1) pa_nil)))
      (pss_cons (ps_set (i := 6) nd rfl (Or.inl rfl) (pe_ix ix_list (pv 1) (pe_op op_sub (pv 5) pe_int) (fun _ _ => rfl)))
      (pss_cons (ps_set (i := 7) nd rfl (Or.inl rfl) (pe_ix ix_tup (pe_glob (v := .ref aR) (by rfl) gR rfl) (pv 0) (fun _ _ => rfl)))
      (pss_cons (ps_set (i := 8) nd rfl (Or.inl rfl) (pv 5))
      (pss_cons (ps_set (i := 9) nd rfl (Or.inl rfl) (pe_lst (pa_cons (pv 8) pa_nil)))
      (pss_cons (ps_set (i := 10) nd rfl (Or.inl rfl) pe_int)
      (pss_cons (ps_for PassesOwn.never rfl (pi_range2 rfl T.range (pa_cons pe_int (pa_cons (pe_op op_add (pe_callB call_lenS (by rfl) T.len PySem.boot_len (pa_cons (pv 4) pa_nil)) pe_int) pa_nil))) (pg_name (i := 11) nd rfl (Or.inl rfl))
        (pss_cons (ps_set (i := 12) nd rfl (Or.inl rfl) (pe_ix ix_sq (pv 4) (pe_op op_sub (pv 11) pe_int) (fun _ _ => rfl)))
        (pss_cons (ps_if (pt_cmpR op_eq (pv 3) (pv 12) (nomark _))
          (pss_cons (ps_set (i := 8) nd rfl (Or.inl rfl) (pe_ix ix_list (pv 6) (pe_op op_sub (pv 11) pe_int) (fun _ _ => rfl)))
          (pss_one (ps_set (i := 10) nd rfl (Or.inl rfl) (pv 11))))
          (pss_cons (ps_aug (i := 8) nd rfl (Or.inl rfl) pe_int ip_add)
          (pss_cons (ps_if (pt_cmpR op_lt (pe_op op_add (pe_ix ix_list (pv 6) (pv 11) (fun _ _ => rfl)) pe_int) (pv 8) (nomark _)) (pss_one (ps_set (i := 8) nd rfl (Or.inl rfl) (pe_op op_add (pe_ix ix_list (pv 6) (pv 11) (fun _ _ => rfl)) pe_int))) pss_nil)
          (pss_cons (ps_if (pt_cmpR op_lt (pe_op op_add (pe_ix ix_list (pv 6) (pe_op op_sub (pv 11) pe_int) (fun _ _ => rfl)) (pv 7)) (pv 8) (nomark _)) (pss_one (ps_set (i := 8) nd rfl (Or.inl rfl) (pe_op op_add (pe_ix ix_list (pv 6) (pe_op op_sub (pv 11) pe_int) (fun _ _ => rfl)) (pv 7)))) pss_nil)
          (pss_one (ps_if (PW.pt (pw_and (pt_cmpR op_eq (pv 0) (pe_glob (v := .int 2) (by rfl) gF ⟨_, rfl⟩) (nomark _)) (pw_and (pt_cmpR op_gt (pv 10) pe_int (nomark _)) (pw_and1 (pt_cmp (pc_din hu (pv 12) (pv 2)) rfl)))))
            (pss_one (ps_set (i := 8) nd rfl (Or.inl rfl) (pe_callB (call_min2i rfl) (by rfl) T.min boot_min (pa_cons (pv 8) (pa_cons
              (pe_call GA hr rfl DA.mgf DA.F.kp DA.b .nil pass0 (pa_cons (pv 1) (pa_cons (pe_dget hu (pv 2) (pv 12) (fun _ _ => rfl)) (pa_cons (pv 10) (pa_cons (pv 5) (pa_cons (pv 11) pa_nil)))))) pa_nil)))))
            pss_nil))))))
        (pss_one (ps_expr (pe_bm PySem.F.plainAttrs_list PySem.F.slot_list_append PySem.F.type_list_append mt_append (pv 9) (pa_cons (pv 8) pa_nil)))))))
      (pss_one (ps_ret (pv 9))))))))), ?_⟩
    have r0 : ∃ a0, rows[i]? = some a0 := ⟨_, List.getElem?_eq_getElem (by rw [tb.len]; omega)⟩
    obtain ⟨a0, ha0⟩ := r0
    have hA0 := tb.row i a0 ha0
    -- i = len(table); above = table[i - 1]; replaced = ..
    refine ⟨_, rfl, T1, _, rfl, .inl (SqL.of tb.tab), _, rfl, _, rfl, _, _, rfl, rfl, T1, _, _, _, rfl, rfl, SqL.of tb.tab, at_of (j := i) (v := V.ref a0) (by rw [List.length_map, tb.len]; omega) (by rw [List.getElem?_map, ha0]; rfl), ?_⟩
    refine ⟨_, rfl, aR, _, _, _, rfl, rfl, sR _, repl_at hw, ?_⟩
    -- fewest = i; row = [fewest]
    refine ⟨_, rfl, _, rfl, (by show 1 ≤ sizeLine; decide), fun r hr0 => ?_⟩
    have eI : ((rows.map V.ref).length : Int) = ((i + 1 : Nat) : Int) := by rw [List.length_map, tb.len]
    rw [eI]
    have eD : ((i + 1 : Nat) : Int) = ((D way s t (i + 1) 0 : Nat) : Int) := by rw [D_left way s t (by omega)]
    have e0 : [V.int ((i + 1 : Nat) : Int)] = rowP way s t (i + 1) 1 := by
      show _ = [V.int (D way s t (i + 1) 0 : Nat)]
      rw [eD]
    rw [e0]
    have s1 : Same H (upd H r (.lst (rowP way s t (i + 1) 1))) := (Same.refl H).upd hr0
    refine ⟨_, rfl, tt, _, rfl, s1.sq ht, _, _, rfl, rfl, _, _, rfl, ⟨by omega, by omega, by rw [wv_len]; omega, by rw [wv_len]; omega⟩, ?_⟩
    have eN : (((wv t).length : Int) + 1 - 1).toNat = t.length := by rw [wv_len]; omega
    rw [eN]
    refine for_range (lo := 1) (n := t.length) (fun n σ H' => ∃ (v11 v12 : Option V), σ = [some (.int way), some (.ref T1), some (.ref L), some (.int (bi (s.getD i 0))), some (.ref tt), some (.int ((i + 1 : Nat) : Int)), some (.ref a0), some (.int (Sf93.other way : Nat)), some (.int (D way s t (i + 1) n : Nat)), some (.ref r), some (.int (last1 t n (s.getD i 0) : Nat)), v11, v12] ∧
      Same H H' ∧ H' r = some (.lst (rowP way s t (i + 1) (n + 1)))) ⟨none, none, by rw [← eD]; rfl, s1, upd_same⟩ ?_ ?_
    · rintro n σ H1 hn ⟨v11, v12, rfl, s2, hR⟩
      have hT := tb.same s2
      have gO := wv_get (s := t) hn
      have dEq : decide (V.int (bi (s.getD i 0)) = V.int (bi (t.getD n 0))) = decide (s.getD i 0 = t.getD n 0) := by
        rw [eqV]
        exact decide_eq_decide.mpr (by rw [bi_eq])
      have hAb := hT.row i a0 ha0
      -- behind the if: row.append(fewest)
      have fin : ∀ (v10 : Option V), v10 = some (V.int (last1 t (n + 1) (s.getD i 0) : Nat)) → ∀ (fw : Int), fw = (D way s t (i + 1) (n + 1) : Nat) →
          ∃ (v11 v12 : Option V), [some (V.int way), some (.ref T1), some (.ref L), some (.int (bi (s.getD i 0))), some (.ref tt), some (.int ((i + 1 : Nat) : Int)), some (.ref a0), some (.int (Sf93.other way : Nat)), some (.int fw), some (.ref r), v10, some (.int (1 + (n : Int))), some (.int (bi (t.getD n 0)))]
            = [some (.int way), some (.ref T1), some (.ref L), some (.int (bi (s.getD i 0))), some (.ref tt), some (.int ((i + 1 : Nat) : Int)), some (.ref a0), some (.int (Sf93.other way : Nat)), some (.int (D way s t (i + 1) (n + 1) : Nat)), some (.ref r), some (.int (last1 t (n + 1) (s.getD i 0) : Nat)), v11, v12] ∧
            Same H (upd H1 r (.lst (rowP way s t (i + 1) (n + 1) ++ [V.int fw]))) ∧ upd H1 r (.lst (rowP way s t (i + 1) (n + 1) ++ [V.int fw])) r = some (.lst (rowP way s t (i + 1) (n + 1 + 1))) := fun v10 e1 fw e2 => by
        subst e1 e2
        exact ⟨_, _, rfl, same_write s2 hr0, by rw [upd_same, ← rowP_succ]⟩
      have hlr : (rowP way s t (i + 1) (n + 1)).length < sizeLine := by rw [rowP_len, sizeLine_eq]; omega
      -- other = t[j - 1]
      refine ⟨_, rfl, _, rfl, _, _, rfl, rfl, tt, _, _, _, rfl, rfl, s2.sq ht, at_of (j := n) (ar1 n) gO, ?_⟩
      refine ⟨_, rfl, _, rfl, rfl, _, rfl, ?_⟩
      rw [dEq]
      by_cases hb : s.getD i 0 = t.getD n 0
      · refine iteP (decide_eq_true hb) ⟨_, rfl, _, rfl, _, _, rfl, rfl, a0, _, _, _, rfl, rfl, SqL.of hAb, at_of (j := n) (ar1 n) (rowP_get (Nat.lt_succ_of_lt hn)), _, rfl, ?_⟩
        refine ⟨_, rfl, .inl ⟨rfl, _, SqL.of hR⟩, _, rfl, r, _, _, rfl, rfl, hR, hlr, fin _ ?_ _ ?_⟩
        · rw [last1_succ, if_pos hb.symm]
          show some (V.int (1 + (n : Int))) = _
          congr 2
          omega
        · rw [cell_same way s t his hn hb]
      · refine iteN (decide_eq_false hb) ?_
        have hL : last1 t (n + 1) (s.getD i 0) = last1 t n (s.getD i 0) := by rw [last1_succ, if_neg (fun z => hb z.symm)]
        have hcell := cell_diff way s t his hn hb
        -- fewest += 1
        refine ⟨_, rfl, _, _, rfl, rfl, ?_⟩
        -- above[j] + 1
        refine ⟨_, rfl, _, rfl, a0, _, _, _, rfl, rfl, SqL.of hAb, at_of (j := n + 1) (ar2 n) (rowP_get (Nat.succ_lt_succ hn)), _, _, rfl, rfl, _, rfl, _, _, rfl, rfl, _, rfl,
          ifS_val (j := 8) (v1 := V.int ((D way s t i (n + 1) : Int) + 1)) (v2 := V.int ((D way s t (i + 1) n : Int) + 1)) (fun _ D' q => ⟨_, rfl, _, rfl, a0, _, _, _, rfl, rfl, SqL.of hAb, at_of (j := n + 1) (ar2 n) (rowP_get (Nat.succ_lt_succ hn)), _, _, rfl, rfl, q⟩) (fun _ D' q => q) ?_⟩
        rw [min_if]
        -- above[j - 1] + replaced
        refine ⟨_, rfl, _, rfl, _, _, rfl, rfl, a0, _, _, _, rfl, rfl, SqL.of hAb, at_of (j := n) (ar1 n) (rowP_get (Nat.lt_succ_of_lt hn)), _, rfl, _, _, rfl, rfl, _, rfl, _, _, rfl, rfl, _, rfl,
          ifS_val (j := 8) (v1 := V.int ((D way s t i n : Int) + (Sf93.other way : Nat))) (v2 := V.int (min ((D way s t i (n + 1) : Int) + 1) ((D way s t (i + 1) n : Int) + 1))) (fun _ D' q => ⟨_, rfl, _, rfl, _, _, rfl, rfl, a0, _, _, _, rfl, rfl, SqL.of hAb, at_of (j := n) (ar1 n) (rowP_get (Nat.lt_succ_of_lt hn)), _, rfl, _, _, rfl, rfl, q⟩) (fun _ D' q => q) ?_⟩
        rw [min_if, ← three_int hb]
        have bS := last1_le s i (t.getD n 0)
        have bT := last1_le t n (s.getD i 0)
        -- way == ALL_FOUR and last_match > 0 and other in last_row_of
        have no : ¬ (way = 2 ∧ ¬ last1 t n (s.getD i 0) = 0 ∧ ¬ last1 s i (t.getD n 0) = 0) → ((three way s t i n : Nat) : Int) = (D way s t (i + 1) (n + 1) : Nat) := fun z => by
          rw [hcell, if_neg z]
        have app : ∀ fw : Int, fw = (D way s t (i + 1) (n + 1) : Nat) → _ := fun fw e => fin (some (V.int (last1 t n (s.getD i 0) : Nat))) (by rw [hL]) fw e
        refine ⟨_, rfl, rfl, _, rfl, ?_⟩
        rw [eqV]
        by_cases h2 : way = 2
        · refine iteP (decide_eq_true (by omega)) ⟨_, rfl, _, _, rfl, rfl, _, rfl, ?_⟩
          by_cases h3 : last1 t n (s.getD i 0) = 0
          · refine iteN (decide_eq_false (by omega)) (iteF ⟨_, rfl, .inl ⟨rfl, _, SqL.of hR⟩, _, rfl, r, _, _, rfl, rfl, hR, hlr, app _ (no (by omega))⟩)
          · refine iteP (decide_eq_true (by omega)) ⟨_, rfl, _, rfl, L, _, rfl, DGet.k (k := Sum.inl (bi (t.getD n 0))) hT.dic, _, rfl, ?_⟩
            rw [tb.last]
            by_cases h4 : last1 s i (t.getD n 0) = 0
            · rw [if_pos h4]
              refine iteN rfl ⟨_, rfl, .inl ⟨rfl, _, SqL.of hR⟩, _, rfl, r, _, _, rfl, rfl, hR, hlr, app _ (no (by omega))⟩
            · rw [if_neg h4]
              have hp : last1 s i (t.getD n 0) - 1 < rows.length := by rw [hT.len]; omega
              have hg : DGet H1 L (V.int (bi (t.getD n 0))) (some (V.int (last1 s i (t.getD n 0) : Nat))) := by
                have g := DGet.k (k := Sum.inl (bi (t.getD n 0))) hT.dic
                rw [tb.last, if_neg h4] at g
                exact g
              refine iteP rfl ⟨_, rfl, _, rfl, _, rfl, _, rfl, L, _, rfl, hg, _, rfl, _, rfl, _, rfl, ?_⟩
              refine ⟨T1, last1 s i (t.getD n 0), last1 t n (s.getD i 0), _, _, _, rows[last1 s i (t.getD n 0) - 1], _, _, rfl, h4, h3, SqL.of hT.tab, (by rw [List.getElem?_map, List.getElem?_eq_getElem hp]; rfl), SqL.of (hT.row _ _ (List.getElem?_eq_getElem hp)), rowP_get (by omega), _, _, rfl, ?_⟩
              refine ⟨_, rfl, .inl ⟨rfl, _, SqL.of hR⟩, _, rfl, r, _, _, rfl, rfl, hR, hlr, app _ ?_⟩
              rw [hcell, if_pos ⟨h2, h3, h4⟩]
              congr 1
              omega
        · refine iteN (decide_eq_false (by omega)) (iteF ⟨_, rfl, .inl ⟨rfl, _, SqL.of hR⟩, _, rfl, r, _, _, rfl, rfl, hR, hlr, app _ (no (by omega))⟩)
    · rintro σ H1 ⟨v11, v12, rfl, s2, hR⟩
      exact ⟨_, rfl, k H1 r s2 hr0 hR⟩
end
end Nw

end
section
set_option Elab.async false
set_option linter.all false
set_option maxRecDepth 100000
set_option maxHeartbeats 2000000
namespace Nw
open PySem PySem.Spec PyProof.Rows L2
open Sf65 (Bytes)
section
variable {P : Program} {w : World} {K : PySem.W.Frag} {mg : Str → Option Value} {base : Heap}
inductive SpFewI (K : PySem.W.Frag) (vs : List V) (H : Hp) (Q : VK) : Prop
  | mk (way : Nat) (s t : Bytes) (a b : Addr) (e0 : vs = [.int way, .ref a, .ref b]) (e1 : way ≤ 2) (e2 : s.length ≤ 1000) (e3 : t.length ≤ 1000) (e4 : SqL K H a (wv s)) (e5 : Sq K H b (wv t)) (e6 : ∀ H' : Hp, Same H H' → Q (.int (D way s t s.length t.length : Nat)) H') : SpFewI K vs H Q
def spFew (K : PySem.W.Frag) : Sp := fun vs H Q _ => SpFewI K vs H Q
theorem scFew : FnScope ["way", "s", "t", "table", "last_row_of", "byte", "row"] ["way", "s", "t"] (defScope sFew) := ⟨rfl, rfl, rfl, by decide +kernel, rfl, by decide +kernel, by decide +kernel⟩
theorem rng_row (way : Nat) (s t : Bytes) : rngV 0 (t.length + 1) = rowP way s t 0 (t.length + 1) := by
  unfold rngV rowP
  apply List.map_congr_left
  intro j hj
  have : j < t.length + 1 := by simpa using hj
  rw [D_zero way s t (by omega)]
  congr 1
  omega
theorem row_ne_tab {way : Nat} {s t : Bytes} {k m : Nat} {rows : List Addr} (h : 0 < rows.length) : HO.lst (rowP way s t k (m + 1)) ≠ HO.lst (rows.map V.ref) := by
  intro e
  injection e with e
  cases rows with
  | nil => simp at h
  | cons r rows =>
    have := congrArg (fun l => l[0]?) e
    rw [rowP_get (by omega)] at this
    simp at this
theorem TabAt.grow {H H2 : Hp} {T L r : Addr} {rows : List Addr} {kvs : List (Key × V)} {way : Nat} {s t : Bytes} {i : Nat} (x : TabAt H T L rows kvs way s t i) (e : Same H H2) (hr : H r = none) (hR : H2 r = some (.lst (rowP way s t (i + 1) (t.length + 1)))) :
    TabAt (upd (upd H2 L (.dK (putK kvs (Sum.inl (bi (s.getD i 0)) : Key) (V.int ((i + 1 : Nat) : Int))))) T (.lst (rows.map V.ref ++ [V.ref r]))) T L (rows ++ [r]) (putK kvs (Sum.inl (bi (s.getD i 0)) : Key) (V.int ((i + 1 : Nat) : Int))) way s t (i + 1) := by
  have y := x.same e
  have lT : L ≠ T := ne_of x.dic x.tab (by intro z; cases z)
  refine ⟨?_, ?_, fun k q hk => ?_, ?_, ?_, fun b => ?_⟩
  · rw [upd_same, List.map_append]
    rfl
  · rw [List.length_append, x.len]
    rfl
  · by_cases hlt : k < rows.length
    · rw [List.getElem?_append_left hlt] at hk
      have hq := y.row k q hk
      have n1 : q ≠ T := ne_of hq y.tab (row_ne_tab (by omega))
      have n2 : q ≠ L := ne_of hq y.dic (by intro z; cases z)
      rw [upd_ne n1, upd_ne n2]
      exact hq
    · have ek : k = rows.length := by
        have := (List.getElem?_eq_some_iff.mp hk).1
        rw [List.length_append] at this
        simp at this
        omega
      subst ek
      rw [List.getElem?_append_right (Nat.le_refl _), Nat.sub_self] at hk
      have eq : r = q := by simpa using hk
      subst eq
      have n1 : r ≠ T := fun z => by rw [z, x.tab] at hr; cases hr
      have n2 : r ≠ L := fun z => by rw [z, x.dic] at hr; cases hr
      rw [upd_ne n1, upd_ne n2, x.len]
      exact hR
  · rw [upd_ne lT, upd_same]
  · have := length_putK kvs (Sum.inl (bi (s.getD i 0)) : Key) (V.int ((i + 1 : Nat) : Int))
    have := x.dl
    omega
  · rw [valV_put, last1_succ, x.last]
    by_cases h : s.getD i 0 = b
    · rw [if_pos h, if_pos (by rw [h]), if_neg (by omega)]
    · have : ¬ (Sum.inl (bi (s.getD i 0)) : Key) = Sum.inl (bi b) := fun z => h (bi_inj (Sum.inl.inj z))
      rw [if_neg h]
      first | rw [if_neg this] | rw [if_neg (fun z => this z.symm)]
theorem ok_few {f fA fN : Addr} {fd fdA fdN : FuncData} (F : Fun K "fewest_edits" "fewest_edits" sFew f fd) (T : TxtD K mg) (DA : Dfn K mg "changed_about" sAbo fA fdA ["table", "first_row", "first_column", "i", "j"])
    (DN : Dfn K mg "next_row" sNext fN fdN ["way", "table", "last_row_of", "byte", "t"]) : FnOk P w K mg base CX0 3 f fd ["way", "s", "t"] (spFew K) := by
  have GN : FnOk P w K mg base CX0 2 fN fdN ["way", "table", "last_row_of", "byte", "t"] (spNext K) := ok_next DN.F T DA
  refine F.ok scFew (fun vs H Q E h => ?_) (fun cdv A outer s0 H vs Q E hr h => ?_)
  · obtain ⟨way, s, t, a, b, rfl, _⟩ := h
    rfl
  · obtain ⟨way, s, t, a, b, rfl, hw, hsl, htl, ha, hb, k⟩ := h
    have hu := hu_of hr
    have nd := scFew.nd
    refine ⟨_, pss_cons (ps_set (i := 3) nd rfl (Or.inl rfl) (pe_lst (pa_cons (pe_callTy (call_list_rng rfl) (by rfl) T.list boot_list (pa_cons (pe_callTy call_range1 (by rfl) T.range boot_range
        (pa_cons (pe_op op_add (pe_callB call_lenS (by rfl) T.len PySem.boot_len (pa_cons (pv 2) pa_nil)) pe_int) pa_nil)) pa_nil)) pa_nil)))
      (pss_cons (ps_set (i := 4) nd rfl (Or.inl rfl) pe_dnewK)
      (pss_cons (ps_for PassesOwn.never rfl (pi_list (pv 1)) (pg_name (i := 5) nd rfl (Or.inl rfl))
        (pss_cons (ps_set (i := 6) nd rfl (Or.inl rfl) (pe_call GN hr rfl DN.mgf DN.F.kp DN.b .nil pass0 (pa_cons (pv 0) (pa_cons (pv 3) (pa_cons (pv 4) (pa_cons (pv 5) (pa_cons (pv 2) pa_nil)))))))
        (pss_cons (ps_dput hu (pv 4) (pv 5) (pe_callB call_lenS (by rfl) T.len PySem.boot_len (pa_cons (pv 3) pa_nil)) rfl)
        (pss_one (ps_expr (pe_bm PySem.F.plainAttrs_list PySem.F.slot_list_append PySem.F.type_list_append mt_append (pv 3) (pa_cons (pv 6) pa_nil)))))))
      (pss_one (ps_ret (pe_ix ix_list (pe_ix ix_list (pv 3) (pe_callB call_lenS (by rfl) T.len PySem.boot_len (pa_cons (pv 1) pa_nil)) (fun _ _ => rfl)) (pe_callB call_lenS (by rfl) T.len PySem.boot_len (pa_cons (pv 2) pa_nil)) (fun _ _ => rfl)))))), ?_⟩
    -- table = [list(range(len(t) + 1))]
    refine ⟨_, rfl, b, _, rfl, hb, _, _, rfl, rfl, _, rfl, fun p hp => ?_⟩
    refine ⟨p, 0, _, rfl, upd_same, ⟨by omega, by omega, by rw [wv_len]; omega, by rw [wv_len]; omega⟩, by rw [wv_len]; omega, fun l hl => ?_⟩
    have eN : (((wv t).length : Int) + 1 - 0).toNat = t.length + 1 := by rw [wv_len]; omega
    rw [eN, rng_row way s t]
    have s1 : Same H (upd (upd H p (.rng 0 (((wv t).length : Int) + 1))) l (.lst (rowP way s t 0 (t.length + 1)))) := ((Same.refl H).upd hp).upd hl
    refine ⟨(by show 1 ≤ sizeLine; decide), fun T1 hT1 => ?_⟩
    have s2 := s1.upd (o := .lst [V.ref l]) hT1
    intro L hL
    have s3 := s2.upd (o := .dK []) hL
    have fT : H T1 = none := s1.free hT1
    have fL : H L = none := s2.free hL
    have tab0 : TabAt (upd (upd (upd (upd H p (.rng 0 (((wv t).length : Int) + 1))) l (.lst (rowP way s t 0 (t.length + 1)))) T1 (.lst [V.ref l])) L (.dK [])) T1 L [l] [] way s t 0 := by
      have nl : l ≠ T1 := fun z => by rw [← z, upd_same] at hT1; cases hT1
      have nL : T1 ≠ L := fun z => by rw [← z, upd_same] at hL; cases hL
      have nl2 : l ≠ L := fun z => by rw [← z, upd_ne nl, upd_same] at hL; cases hL
      refine ⟨by rw [upd_ne nL, upd_same]; rfl, rfl, fun k q hk => ?_, upd_same, Nat.le_refl _, fun b => ?_⟩
      · cases k with
        | zero =>
          have eq : l = q := by simpa using hk
          subst eq
          rw [upd_ne nl2, upd_ne nl, upd_same]
        | succ k => simp at hk
      · rw [last1_zero, if_pos rfl]
        rfl
    refine ⟨_, rfl, a, rfl, ⟨_, s3.seq ha⟩, for_list (K := K) (a := a) (xs := wv s) (fun i σ H' => ∃ (rows : List Addr) (kvs : List (Key × V)) (v5 v6 : Option V), σ = [some (.int way), some (.ref a), some (.ref b), some (.ref T1), some (.ref L), v5, v6] ∧
      Same H H' ∧ TabAt H' T1 L rows kvs way s t i) ⟨[l], [], none, none, rfl, s3, tab0⟩ (fun i σ H' _ ⟨_, _, _, _, _, s4, _⟩ => s4.seq ha) ?_ ?_⟩
    · rintro i y σ H1 hi ⟨rows, kvs, v5, v6, rfl, s4, tb⟩
      have hil : i < s.length := by
        have := (List.getElem?_eq_some_iff.mp hi).1
        rwa [wv_len] at this
      rw [wv_get hil] at hi
      obtain rfl := Option.some.inj hi
      refine ⟨_, rfl, _, rfl, _, rfl, _, rfl, _, rfl, ⟨way, i, s, t, T1, L, b, rows, kvs, rfl, hw, hil, by omega, htl, tb, s4.sq hb, fun H2 r e2 fr hR => ?_⟩⟩
      have t2 := tb.same e2
      refine ⟨_, rfl, T1, _, rfl, .inl (SqL.of t2.tab), _, rfl, _, rfl, L, _, rfl, DPut.k (k := Sum.inl (bi (s.getD i 0))) t2.dic (by have := tb.dl; rw [sizeLine_eq]; omega), ?_⟩
      have eL : ((rows.map V.ref).length : Int) = ((i + 1 : Nat) : Int) := by rw [List.length_map, tb.len]
      rw [eL]
      have nL : T1 ≠ L := ne_of tb.tab tb.dic (by intro z; cases z)
      refine ⟨_, rfl, .inl ⟨rfl, _, SqL.of (by rw [upd_ne nL]; exact t2.tab)⟩, _, rfl, T1, _, _, rfl, rfl, (by rw [upd_ne nL]; exact t2.tab), (by rw [List.length_map, tb.len, sizeLine_eq]; omega), ?_⟩
      exact ⟨_, _, _, _, rfl, same_write (same_write (s4.trans e2) fL) fT, tb.grow e2 fr hR⟩
    · rintro σ H1 ⟨rows, kvs, v5, v6, rfl, s4, tb⟩
      rw [wv_len] at tb
      have hr2 : ∃ q, rows[s.length]? = some q := ⟨_, List.getElem?_eq_getElem (by rw [tb.len]; omega)⟩
      obtain ⟨q, hq⟩ := hr2
      refine ⟨_, rfl, _, rfl, a, _, rfl, .inl (s4.seq ha), T1, _, _, _, rfl, rfl, SqL.of tb.tab, at_of (j := s.length) (v := V.ref q) (by rw [wv_len]) (by rw [List.getElem?_map, hq]; rfl),
        _, rfl, b, _, rfl, s4.sq hb, q, _, _, _, rfl, rfl, SqL.of (tb.row _ _ hq), at_of (j := t.length) (by rw [wv_len]) (rowP_get (by omega)), k H1 s4⟩
end
end Nw

end
section
set_option Elab.async false
set_option linter.all false
set_option maxRecDepth 100000
set_option maxHeartbeats 2000000
namespace Nw
open PySem PySem.Spec PyProof.Rows L2
open Sf65 (Bytes)
section
variable {P : Program} {w : World} {K : PySem.W.Frag} {mg : Str → Option Value} {base : Heap}
inductive SpPlaI (K : PySem.W.Frag) (vs : List V) (H : Hp) (Q : VK) : Prop
  | mk (s t : Bytes) (a b : Addr) (e0 : vs = [.ref a, .ref b]) (e1 : s.length ≤ 1000) (e2 : t.length ≤ 1000) (e3 : SqL K H a (wv s)) (e4 : Sq K H b (wv t)) (e5 : ∀ H' : Hp, Same H H' → Q (.int (farI 3 s t)) H') : SpPlaI K vs H Q
def spPla (K : PySem.W.Frag) : Sp := fun vs H Q _ => SpPlaI K vs H Q
theorem scPla : FnScope ["s", "t", "place"] ["s", "t"] (defScope sPla) := ⟨rfl, rfl, rfl, by decide +kernel, rfl, by decide +kernel, by decide +kernel⟩
/-- ones, as many as told -/
def ones (n : Nat) : List Int := List.replicate n 1
theorem ones_sum : ∀ n, (ones n).sum = (n : Int)
  | 0 => rfl
  | n + 1 => by
    show ((1 : Int) :: ones n).sum = _
    rw [List.sum_cons, ones_sum n]
    omega
theorem ones_snoc (n : Nat) : (ones n).map V.int ++ [V.int 1] = (ones (n + 1)).map V.int := by
  unfold ones
  rw [List.replicate_succ', List.map_append]
  rfl
theorem blkPla : BlkOk ["s", "t", "place"] (defScope sPla) { kind := .function, names := [(Str.ofString ".0", NameKind.local), (Str.ofString "place", NameKind.local), (Str.ofString "s", NameKind.free), (Str.ofString "t", NameKind.free)], isGenerator := false, isCoroutine := false } [("place", 2)] :=
  ⟨rfl, by decide +kernel, by decide +kernel, by decide +kernel, by decide +kernel⟩
theorem ok_pla {f : Addr} {fd : FuncData} (F : Fun K "places_that_differ" "places_that_differ" sPla f fd) (T : TxtD K mg) : FnOk P w K mg base CX0 1 f fd ["s", "t"] (spPla K) := by
  refine F.ok scPla (fun vs H Q E h => ?_) (fun cdv A outer s0 H vs Q E hr h => ?_)
  · obtain ⟨s, t, a, b, rfl, _⟩ := h
    rfl
  · obtain ⟨s, t, a, b, rfl, hsl, htl, ha, hb, k⟩ := h
    obtain ⟨tN, gN⟩ := T.nD
    have nd := scPla.nd
    refine ⟨_, pss_cons (ps_if (pt_cmpR op_ne (pe_callB call_lenS (by rfl) T.len PySem.boot_len (pa_cons (pv 0) pa_nil)) (pe_callB call_lenS (by rfl) T.len PySem.boot_len (pa_cons (pv 1) pa_nil)) (nomark _))
        (pss_one (ps_ret (pe_glob (v := .int (-2)) (by rfl) gN ⟨_, rfl⟩))) pss_nil)
      (pss_one (ps_ret (pe_callB (cr_sum rfl) (by rfl) T.sum boot_sum (pa_cons (pe_lc (own := [("place", 2)]) rfl nd (pi_range1 rfl T.range (pa_cons (pe_callB call_lenS (by rfl) T.len PySem.boot_len (pa_cons (pv 0) pa_nil)) pa_nil))
        blkPla
        (fun _ _ _ _ _ => pg_name (i := 2) nd rfl (Or.inl rfl)) (fun _ _ _ _ _ => pts_one (pt_cmpR op_ne (pe_ix (r := rIxL K) ix_list (pv 0) (pv 2) (fun _ _ => rfl)) (pe_ix (r := rIxQ K) ix_sq (pv 1) (pv 2) (fun _ _ => rfl)) (nomark _))) (fun _ _ _ _ _ => pe_int)) pa_nil)))), ?_⟩
    refine ⟨_, rfl, a, _, rfl, .inl ha, _, rfl, b, _, rfl, hb, rfl, _, rfl, ?_⟩
    rw [eqV, wv_len, wv_len]
    by_cases hst : s.length = t.length
    · refine iteN (by rw [decide_eq_true (by omega)]; rfl) ?_
      refine ⟨_, rfl, a, _, rfl, .inl ha, _, rfl, (by rw [wv_len]; omega), (by rw [wv_len]; omega), fun D0 hD => ?_⟩
      have eN : (((wv s).length : Int)).toNat = s.length := by rw [wv_len]; omega
      rw [eN]
      refine lc_range (lo := 0) (n := s.length) (fun i H' => Same H H' ∧ H' D0 = some (.lst ((ones (diff s t i)).map V.int))) ⟨(Same.refl H).upd hD, upd_same⟩ ?_ ?_
      · rintro i H1 hi ⟨s1, hl⟩
        refine ⟨rfl, _, rfl, _, rfl, a, _, _, _, rfl, rfl, s1.seq ha, at_of (j := i) (by omega) (wv_get hi), _, rfl, _, rfl, b, _, _, _, rfl, rfl, s1.sq hb, at_of (j := i) (by omega) (wv_get (by omega)), rfl, _, rfl, ?_⟩
        rw [eqV]
        by_cases h : s.getD i 0 = t.getD i 0
        · refine iteN (by rw [decide_eq_true (by rw [h])]; rfl) ⟨s1, ?_⟩
          rw [diff_succ, if_pos h]
          exact hl
        · refine iteP (by rw [decide_eq_false (by rw [bi_eq]; exact h)]; rfl) ⟨_, hl, ?_, same_write s1 hD, ?_⟩
          · have := diff_le s t i
            unfold ones
            rw [List.length_map, List.length_replicate, sizeLine_eq]
            omega
          · rw [upd_same, ones_snoc, diff_succ, if_neg h]
      · rintro H1 ⟨s1, hl⟩
        refine ⟨D0, _, rfl, SqL.of hl, ?_⟩
        rw [ones_sum, ← farI_3eq s t hst]
        exact k H1 s1
    · refine iteP (by rw [decide_eq_false (by omega)]; rfl) ?_
      have := k H (Same.refl H)
      rw [farI_3ne s t hst] at this
      exact this
/-! ### how_far -/
inductive SpHowI (K : PySem.W.Frag) (vs : List V) (H : Hp) (Q : VK) : Prop
  | mk (way : Nat) (s t : Bytes) (a b : Addr) (e0 : vs = [.int way, .ref a, .ref b]) (e1 : way ≤ 3) (e2 : s.length ≤ 1000) (e3 : t.length ≤ 1000) (e4 : SqL K H a (wv s)) (e5 : Sq K H b (wv t)) (e6 : ∀ H' : Hp, Same H H' → Q (.int (farI way s t)) H') : SpHowI K vs H Q
def spHow (K : PySem.W.Frag) : Sp := fun vs H Q _ => SpHowI K vs H Q
theorem scHow : FnScope ["way", "s", "t"] ["way", "s", "t"] (defScope sHow) := ⟨rfl, rfl, rfl, by decide +kernel, rfl, by decide +kernel, by decide +kernel⟩
theorem ok_how {f fA fN fP fW : Addr} {fd fdA fdN fdP fdW : FuncData} (F : Fun K "how_far" "how_far" sHow f fd) (T : TxtD K mg) (DA : Dfn K mg "changed_about" sAbo fA fdA ["table", "first_row", "first_column", "i", "j"])
    (DN : Dfn K mg "next_row" sNext fN fdN ["way", "table", "last_row_of", "byte", "t"]) (DP : Dfn K mg "places_that_differ" sPla fP fdP ["s", "t"]) (DW : Dfn K mg "fewest_edits" sFew fW fdW ["way", "s", "t"]) :
    FnOk P w K mg base CX0 4 f fd ["way", "s", "t"] (spHow K) := by
  have GP : FnOk P w K mg base CX0 3 fP fdP ["s", "t"] (spPla K) := (ok_pla DP.F T).mono (by decide)
  have GW : FnOk P w K mg base CX0 3 fW fdW ["way", "s", "t"] (spFew K) := ok_few DW.F T DA DN
  refine F.ok scHow (fun vs H Q E h => ?_) (fun cdv A outer s0 H vs Q E hr h => ?_)
  · obtain ⟨way, s, t, a, b, rfl, _⟩ := h
    rfl
  · obtain ⟨way, s, t, a, b, rfl, hw, hsl, htl, ha, hb, k⟩ := h
    obtain ⟨tS, gS⟩ := T.sA
    refine ⟨_, pss_cons (ps_if (pt_cmpR op_eq (pv 0) (pe_glob (v := .int 3) (by rfl) gS ⟨_, rfl⟩) (nomark _)) (pss_one (ps_ret (pe_call GP hr rfl DP.mgf DP.F.kp DP.b .nil pass0 (pa_cons (pv 1) (pa_cons (pv 2) pa_nil))))) pss_nil)
      (pss_one (ps_ret (pe_call GW hr rfl DW.mgf DW.F.kp DW.b .nil pass0 (pa_cons (pv 0) (pa_cons (pv 1) (pa_cons (pv 2) pa_nil)))))), ?_⟩
    refine ⟨_, rfl, rfl, _, rfl, ?_⟩
    rw [eqV]
    by_cases h3 : way = 3
    · subst h3
      exact iteP (decide_eq_true rfl) ⟨_, rfl, _, rfl, s, t, a, b, rfl, hsl, htl, ha, hb, k⟩
    · refine iteN (decide_eq_false (by omega)) ⟨_, rfl, _, rfl, _, rfl, way, s, t, a, b, rfl, by omega, hsl, htl, ha, hb, fun H' e => ?_⟩
      have := k H' e
      rw [farI_D way s t h3] at this
      exact this
end
end Nw

end
section
set_option Elab.async false
set_option linter.all false
set_option maxRecDepth 100000
set_option maxHeartbeats 2000000
namespace Nw
open PySem PySem.Spec PyProof.Rows L2
open Sf65 (Bytes)
abbrev sCom : Stmt := top 12
abbrev sSha : Stmt := top 13
abbrev sWit : Stmt := top 14
section
variable {P : Program} {w : World} {K : PySem.W.Frag} {mg : Str → Option Value} {base : Heap}
/-- how_far, as a caller needs it -/
structure How (P : Program) (w : World) (K : PySem.W.Frag) (mg : Str → Option Value) (base : Heap) : Prop where
  ex : ∃ f fd, mg "how_far" = some (.ref f) ∧ PySem.W.keepIn K (.ref f) = true ∧ Binds K fd ["way", "s", "t"] [] ∧ FnOk P w K mg base CX0 4 f fd ["way", "s", "t"] (spHow K)
/-! ### common_length -/
inductive SpComI (K : PySem.W.Frag) (vs : List V) (H : Hp) (Q : VK) : Prop
  | mk (s t : Bytes) (a b : Addr) (e0 : vs = [.ref a, .ref b]) (e1 : s.length ≤ 1000) (e2 : t.length ≤ 1000) (e3 : SqL K H a (wv s)) (e4 : SqL K H b (wv t)) (e5 : ∀ H' : Hp, Same H H' → Q (.int (Sf93.common s t : Nat)) H') : SpComI K vs H Q
def spCom (K : PySem.W.Frag) : Sp := fun vs H Q _ => SpComI K vs H Q
theorem scCom : FnScope ["s", "t"] ["s", "t"] (defScope sCom) := ⟨rfl, rfl, rfl, by decide +kernel, rfl, by decide +kernel, by decide +kernel⟩
theorem ok_com {f : Addr} {fd : FuncData} (F : Fun K "common_length" "common_length" sCom f fd) (T : TxtD K mg) (gP : ∃ t, mg "PUT_IN_AND_CUT_OUT" = some (.int 0 t)) (W : How P w K mg base) : FnOk P w K mg base CX0 5 f fd ["s", "t"] (spCom K) := by
  obtain ⟨fW, fdW, mgW, kW, bW, GW⟩ := W.ex
  refine F.ok scCom (fun vs H Q E h => ?_) (fun cdv A outer s0 H vs Q E hr h => ?_)
  · obtain ⟨s, t, a, b, rfl, _⟩ := h
    rfl
  · obtain ⟨s, t, a, b, rfl, hsl, htl, ha, hb, k⟩ := h
    obtain ⟨tP, gP⟩ := gP
    refine ⟨_, pss_one (ps_ret (pe_op op_fdiv (pe_op op_sub (pe_op op_add (pe_callB call_lenS (by rfl) T.len PySem.boot_len (pa_cons (pv 0) pa_nil)) (pe_callB call_lenS (by rfl) T.len PySem.boot_len (pa_cons (pv 1) pa_nil)))
      (pe_call GW hr rfl mgW kW bW .nil pass0 (pa_cons (pe_glob (v := .int 0) (by rfl) gP ⟨_, rfl⟩) (pa_cons (pv 0) (pa_cons (pv 1) pa_nil))))) pe_int)), ?_⟩
    refine ⟨_, rfl, a, _, rfl, .inl ha, _, rfl, b, _, rfl, .inl hb, _, _, rfl, rfl, _, rfl, _, rfl, 0, s, t, a, b, rfl, by decide, hsl, htl, ha, .inl hb, fun H' e => ⟨_, _, rfl, rfl, _, _, rfl, rfl, ⟨by decide, by decide⟩, ?_⟩⟩
    show Q (V.int ((((wv s).length : Int) + ((wv t).length : Int) - farI 0 s t) / 2)) H'
    rw [wv_len, wv_len, ← common_I]
    exact k H' e
/-! ### is_within -/
inductive SpWitI (K : PySem.W.Frag) (vs : List V) (H : Hp) (Q : VK) : Prop
  | mk (c s : Bytes) (a b : Addr) (e0 : vs = [.ref a, .ref b]) (e1 : c.length ≤ 1000) (e2 : s.length ≤ 1000) (e3 : SqL K H a (wv c)) (e4 : SqL K H b (wv s)) (e5 : Q (.bl (c.isSublist s)) H) : SpWitI K vs H Q
def spWit (K : PySem.W.Frag) : Sp := fun vs H Q _ => SpWitI K vs H Q
theorem scWit : FnScope ["c", "word", "found", "byte"] ["c", "word"] (defScope sWit) := ⟨rfl, rfl, rfl, by decide +kernel, rfl, by decide +kernel, by decide +kernel⟩
theorem ok_wit {f : Addr} {fd : FuncData} (F : Fun K "is_within" "is_within" sWit f fd) (T : TxtD K mg) : FnOk P w K mg base CX0 1 f fd ["c", "word"] (spWit K) := by
  refine F.ok scWit (fun vs H Q E h => ?_) (fun cdv A outer s0 H vs Q E hr h => ?_)
  · obtain ⟨c, s, a, b, rfl, _⟩ := h
    rfl
  · obtain ⟨c, s, a, b, rfl, hcl, hsl, ha, hb, k⟩ := h
    have nd := scWit.nd
    refine ⟨_, pss_cons (ps_set (i := 2) nd rfl (Or.inl rfl) pe_int)
      (pss_cons (ps_for PassesOwn.never rfl (pi_list (pv 1)) (pg_name (i := 3) nd rfl (Or.inl rfl))
        (pss_one (ps_if (pw_and (pt_cmpR op_lt (pv 2) (pe_callB call_lenS (by rfl) T.len PySem.boot_len (pa_cons (pv 0) pa_nil)) (nomark _)) (pw_and1 (pt_cmpR op_eq (pe_ix ix_list (pv 0) (pv 2) (fun _ _ => rfl)) (pv 3) (nomark _)))).pt
          (pss_one (ps_aug (i := 2) nd rfl (Or.inl rfl) pe_int ip_add)) pss_nil)))
      (pss_one (ps_ret (pe_cmpR op_eq (pv 2) (pe_callB call_lenS (by rfl) T.len PySem.boot_len (pa_cons (pv 0) pa_nil)) (nomark _))))), ?_⟩
    refine ⟨_, rfl, b, rfl, ⟨_, hb⟩, for_list (K := K) (a := b) (xs := wv s) (fun i σ H' => ∃ (g : Nat) (v3 : Option V), H' = H ∧ σ = [some (.ref a), some (.ref b), some (.int g), v3] ∧ g ≤ c.length ∧ (c.drop g).isSublist (s.drop i) = c.isSublist s)
      ⟨0, none, rfl, rfl, Nat.zero_le _, rfl⟩ (fun i σ H' _ ⟨_, _, e, _⟩ => by rw [e]; exact hb) ?_ ?_⟩
    · rintro i y σ H1 hi ⟨g, v3, rfl, rfl, hg, inv⟩
      have hil : i < s.length := by
        have := (List.getElem?_eq_some_iff.mp hi).1
        rwa [wv_len] at this
      rw [wv_get hil] at hi
      obtain rfl := Option.some.inj hi
      have turn := sub_turn (c := c) (f := g) (get_of hil)
      rw [inv] at turn
      refine ⟨_, rfl, _, rfl, a, _, rfl, .inl ha, _, _, rfl, rfl, _, rfl, ?_⟩
      rw [wv_len]
      by_cases h1 : g < c.length
      · refine iteP (decide_eq_true (by omega)) ⟨_, rfl, _, rfl, a, _, _, _, rfl, rfl, ha, at_of (j := g) rfl (wv_get h1), _, rfl, rfl, _, rfl, ?_⟩
        rw [eqV]
        by_cases h2 : c.getD g 0 = s.getD i 0
        · rw [if_pos ⟨h1, h2⟩] at turn
          exact iteP (decide_eq_true (by rw [h2])) ⟨_, rfl, _, _, rfl, rfl, g + 1, _, rfl, rfl, h1, turn⟩
        · rw [if_neg (fun z => h2 z.2)] at turn
          exact iteN (decide_eq_false (by rw [bi_eq]; exact h2)) ⟨g, _, rfl, rfl, hg, turn⟩
      · rw [if_neg (fun z => h1 z.1)] at turn
        refine iteN (decide_eq_false (by omega)) (iteF ⟨g, _, rfl, rfl, hg, turn⟩)
    · rintro σ H1 ⟨g, v3, rfl, rfl, hg, inv⟩
      rw [wv_len, List.drop_eq_nil_of_le (Nat.le_refl _), sub_end hg] at inv
      refine ⟨_, rfl, _, rfl, a, _, rfl, .inl ha, rfl, ?_⟩
      have e : decide (V.int (g : Int) = V.int ((wv c).length : Int)) = c.isSublist s := by
        rw [eqV, wv_len, ← inv]
        exact decide_eq_decide.mpr (by omega)
      rw [e]
      exact k
/-! ### shares -/
inductive SpShaI (K : PySem.W.Frag) (vs : List V) (H : Hp) (Q : VK) : Prop
  | mk (s t c : Bytes) (a b d : Addr) (e0 : vs = [.ref a, .ref b, .ref d]) (e1 : s.length ≤ 1000) (e2 : t.length ≤ 1000) (e3 : c.length ≤ 1000) (e4 : SqL K H a (wv s)) (e5 : SqL K H b (wv t)) (e6 : SqL K H d (wv c)) (e7 : ∀ H' : Hp, Same H H' → Q (.int (if Sf93.shares s t c = true then 1 else 0)) H') : SpShaI K vs H Q
def spSha (K : PySem.W.Frag) : Sp := fun vs H Q _ => SpShaI K vs H Q
theorem scSha : FnScope ["s", "t", "c"] ["s", "t", "c"] (defScope sSha) := ⟨rfl, rfl, rfl, by decide +kernel, rfl, by decide +kernel, by decide +kernel⟩
theorem ok_sha {f fC fI : Addr} {fd fdC fdI : FuncData} (F : Fun K "shares" "shares" sSha f fd) (T : TxtD K mg) (gP : ∃ t, mg "PUT_IN_AND_CUT_OUT" = some (.int 0 t)) (W : How P w K mg base)
    (DC : Dfn K mg "common_length" sCom fC fdC ["s", "t"]) (DI : Dfn K mg "is_within" sWit fI fdI ["c", "word"]) : FnOk P w K mg base CX0 6 f fd ["s", "t", "c"] (spSha K) := by
  have GC : FnOk P w K mg base CX0 5 fC fdC ["s", "t"] (spCom K) := ok_com DC.F T gP W
  have GI : FnOk P w K mg base CX0 5 fI fdI ["c", "word"] (spWit K) := (ok_wit DI.F T).mono (by decide)
  refine F.ok scSha (fun vs H Q E h => ?_) (fun cdv A outer s0 H vs Q E hr h => ?_)
  · obtain ⟨s, t, c, a, b, d, rfl, _⟩ := h
    rfl
  · obtain ⟨s, t, c, a, b, d, rfl, hsl, htl, hcl, ha, hb, hd, k⟩ := h
    refine ⟨_, pss_cons (ps_if (PW.pt (pw_and (pt_val (pe_call GI hr rfl DI.mgf DI.F.kp DI.b .nil pass0 (pa_cons (pv 2) (pa_cons (pv 0) pa_nil)))) (pw_and (pt_val (pe_call GI hr rfl DI.mgf DI.F.kp DI.b .nil pass0 (pa_cons (pv 2) (pa_cons (pv 1) pa_nil))))
        (pw_and1 (pt_cmpR op_eq (pe_callB call_lenS (by rfl) T.len PySem.boot_len (pa_cons (pv 2) pa_nil)) (pe_call GC hr rfl DC.mgf DC.F.kp DC.b .nil pass0 (pa_cons (pv 0) (pa_cons (pv 1) pa_nil))) (nomark _))))))
        (pss_one (ps_ret pe_int)) pss_nil) (pss_one (ps_ret pe_int)), ?_⟩
    refine ⟨_, rfl, _, rfl, c, s, d, a, rfl, hcl, hsl, hd, ha, _, rfl, ?_⟩
    cases e1 : c.isSublist s with
    | false =>
      refine iteF (iteF ?_)
      have := k H (Same.refl H)
      unfold Sf93.shares at this
      rw [e1] at this
      exact this
    | true =>
      refine iteT ⟨_, rfl, _, rfl, c, t, d, b, rfl, hcl, htl, hd, hb, _, rfl, ?_⟩
      cases e2 : c.isSublist t with
      | false =>
        refine iteF (iteF ?_)
        have := k H (Same.refl H)
        unfold Sf93.shares at this
        rw [e1, e2] at this
        exact this
      | true =>
        refine iteT ⟨_, rfl, d, _, rfl, .inl hd, _, rfl, _, rfl, s, t, a, b, rfl, hsl, htl, ha, hb, fun H' e => ⟨rfl, _, rfl, ?_⟩⟩
        have := k H' e
        unfold Sf93.shares at this
        rw [e1, e2] at this
        rw [eqV, wv_len]
        by_cases h : c.length = Sf93.common s t
        · refine iteP (decide_eq_true (by omega)) ?_
          have hb : (c.length == Sf93.common s t) = true := by rw [h]; exact beq_self_eq_true _
          rw [hb] at this
          exact this
        · refine iteN (decide_eq_false (by omega)) ?_
          have hb : (c.length == Sf93.common s t) = false := beq_eq_false_iff_ne.mpr h
          rw [hb] at this
          exact this
end
end Nw

end
section
set_option Elab.async false
set_option linter.all false
set_option maxRecDepth 100000
set_option maxHeartbeats 2000000
namespace Nw
open PySem PySem.Spec PyProof.Rows L2
open Sf65 (Bytes)
abbrev sMak : Stmt := top 28
abbrev sKin : Stmt := top 29
abbrev sPlc : Stmt := top 30
abbrev sByt : Stmt := top 31
abbrev sCan : Stmt := top 32
abbrev sPfo : Stmt := top 33
abbrev sEdi : Stmt := top 34
structure TxtE (K : PySem.W.Frag) (mg : Str → Option Value) : Prop where
  p1 : ∃ t, mg "PUT_IN" = some (.int 1 t)
  p2 : ∃ t, mg "CUT_OUT" = some (.int 2 t)
  p3 : ∃ t, mg "SET" = some (.int 3 t)
  p4 : ∃ t, mg "CHANGE_ABOUT" = some (.int 4 t)
  ew : ∃ a a0 a1 a2 a3, mg "EDITS_OF_WAY" = some (.ref a) ∧ (∀ H, SqT K H a [.ref a0, .ref a1, .ref a2, .ref a3]) ∧ (∀ H, SqT K H a0 [.int 1, .int 2]) ∧ (∀ H, SqT K H a1 [.int 1, .int 2, .int 3]) ∧
    (∀ H, SqT K H a2 [.int 1, .int 2, .int 3, .int 4]) ∧ (∀ H, SqT K H a3 [.int 3])
section
variable {P : Program} {w : World} {K : PySem.W.Frag} {mg : Str → Option Value} {base : Heap}
/-! ### the parts of an edit's number -/
inductive SpNumI (g : Nat → Nat) (vs : List V) (H : Hp) (Q : VK) : Prop
  | mk (n : Nat) (e0 : vs = [.int n]) (e1 : Q (.int (g n : Nat)) H) : SpNumI g vs H Q
def spNum (g : Nat → Nat) : Sp := fun vs H Q _ => SpNumI g vs H Q
theorem scKin : FnScope ["number"] ["number"] (defScope sKin) := ⟨rfl, rfl, rfl, by decide +kernel, rfl, by decide +kernel, by decide +kernel⟩
theorem scPlc : FnScope ["number"] ["number"] (defScope sPlc) := ⟨rfl, rfl, rfl, by decide +kernel, rfl, by decide +kernel, by decide +kernel⟩
theorem scByt : FnScope ["number"] ["number"] (defScope sByt) := ⟨rfl, rfl, rfl, by decide +kernel, rfl, by decide +kernel, by decide +kernel⟩
theorem ok_kin {f : Addr} {fd : FuncData} (F : Fun K "kind_of" "kind_of" sKin f fd) : FnOk P w K mg base CX0 1 f fd ["number"] (spNum fun n => n / 65536) := by
  refine F.ok scKin (fun vs H Q E h => ?_) (fun cdv A outer s0 H vs Q E hr h => ?_)
  · obtain ⟨n, rfl, _⟩ := h
    rfl
  · obtain ⟨n, rfl, k⟩ := h
    refine ⟨_, pss_one (ps_ret (pe_op op_fdiv (pv 0) pe_int)), ?_⟩
    refine ⟨_, rfl, _, _, rfl, rfl, ⟨by decide, by decide⟩, ?_⟩
    show Q (V.int ((n : Int) / 65536)) H
    have e : (n : Int) / 65536 = ((n / 65536 : Nat) : Int) := by omega
    rw [e]
    exact k
theorem ok_plc {f : Addr} {fd : FuncData} (F : Fun K "place_of" "place_of" sPlc f fd) : FnOk P w K mg base CX0 1 f fd ["number"] (spNum fun n => n / 256 % 256) := by
  refine F.ok scPlc (fun vs H Q E h => ?_) (fun cdv A outer s0 H vs Q E hr h => ?_)
  · obtain ⟨n, rfl, _⟩ := h
    rfl
  · obtain ⟨n, rfl, k⟩ := h
    refine ⟨_, pss_one (ps_ret (pe_op op_mod (pe_op op_fdiv (pv 0) pe_int) pe_int)), ?_⟩
    refine ⟨_, rfl, _, _, rfl, rfl, ⟨by decide, by decide⟩, _, _, rfl, rfl, (by show (0 : Int) < 256; decide), ?_⟩
    show Q (V.int ((n : Int) / 256 % 256)) H
    have e : (n : Int) / 256 % 256 = ((n / 256 % 256 : Nat) : Int) := by omega
    rw [e]
    exact k
theorem ok_byt {f : Addr} {fd : FuncData} (F : Fun K "byte_of" "byte_of" sByt f fd) : FnOk P w K mg base CX0 1 f fd ["number"] (spNum fun n => n % 256) := by
  refine F.ok scByt (fun vs H Q E h => ?_) (fun cdv A outer s0 H vs Q E hr h => ?_)
  · obtain ⟨n, rfl, _⟩ := h
    rfl
  · obtain ⟨n, rfl, k⟩ := h
    refine ⟨_, pss_one (ps_ret (pe_op op_mod (pv 0) pe_int)), ?_⟩
    refine ⟨_, rfl, _, _, rfl, rfl, (by show (0 : Int) < 256; decide), ?_⟩
    show Q (V.int ((n : Int) % 256)) H
    have e : (n : Int) % 256 = ((n % 256 : Nat) : Int) := by omega
    rw [e]
    exact k
/-! ### places_for -/
inductive SpPfoI (vs : List V) (H : Hp) (Q : VK) : Prop
  | mk (kind len : Nat) (e0 : vs = [.int kind, .int len]) (e1 : Q (.int (room kind len)) H) : SpPfoI  vs H Q
def spPfo : Sp := fun vs H Q _ => SpPfoI  vs H Q
theorem scPfo : FnScope ["kind", "length"] ["kind", "length"] (defScope sPfo) := ⟨rfl, rfl, rfl, by decide +kernel, rfl, by decide +kernel, by decide +kernel⟩
theorem ok_pfo {f : Addr} {fd : FuncData} (F : Fun K "places_for" "places_for" sPfo f fd) (T : TxtE K mg) : FnOk P w K mg base CX0 1 f fd ["kind", "length"] spPfo := by
  refine F.ok scPfo (fun vs H Q E h => ?_) (fun cdv A outer s0 H vs Q E hr h => ?_)
  · obtain ⟨kind, len, rfl, _⟩ := h
    rfl
  · obtain ⟨kind, len, rfl, k⟩ := h
    obtain ⟨_, g1⟩ := T.p1
    obtain ⟨_, g4⟩ := T.p4
    refine ⟨_, pss_cons (ps_if (pt_cmpR op_eq (pv 0) (pe_glob (v := .int 1) (by rfl) g1 ⟨_, rfl⟩) (nomark _)) (pss_one (ps_ret (pe_op op_add (pv 1) pe_int))) pss_nil)
      (pss_cons (ps_if (pt_cmpR op_eq (pv 0) (pe_glob (v := .int 4) (by rfl) g4 ⟨_, rfl⟩) (nomark _)) (pss_one (ps_ret (pe_op op_sub (pv 1) pe_int))) pss_nil)
      (pss_one (ps_ret (pv 1)))), ?_⟩
    unfold room at k
    refine ⟨_, rfl, rfl, _, rfl, ?_⟩
    rw [eqV]
    by_cases h1 : kind = 1
    · rw [if_pos h1] at k
      exact iteP (decide_eq_true (by omega)) ⟨_, rfl, _, _, rfl, rfl, k⟩
    · rw [if_neg h1] at k
      refine iteN (decide_eq_false (by omega)) ⟨_, rfl, rfl, _, rfl, ?_⟩
      rw [eqV]
      by_cases h4 : kind = 4
      · rw [if_pos h4] at k
        exact iteP (decide_eq_true (by omega)) ⟨_, rfl, _, _, rfl, rfl, k⟩
      · rw [if_neg h4] at k
        exact iteN (decide_eq_false (by omega)) ⟨_, rfl, k⟩
/-! ### can_be_done -/
inductive SpCanI (vs : List V) (H : Hp) (Q : VK) : Prop
  | mk (way n len : Nat) (e0 : vs = [.int way, .int n, .int len]) (e1 : way ≤ 3) (e2 : ∀ H' : Hp, Same H H' → Q (.bl (canB way n len)) H') : SpCanI  vs H Q
def spCan : Sp := fun vs H Q _ => SpCanI  vs H Q
theorem scCan : FnScope ["way", "number", "length", "kind"] ["way", "number", "length"] (defScope sCan) := ⟨rfl, rfl, rfl, by decide +kernel, rfl, by decide +kernel, by decide +kernel⟩
theorem inV_nats (k : Nat) : ∀ l : List Nat, inV (V.int (k : Int)) (l.map fun n => V.int (n : Nat)) = l.contains k
  | [] => rfl
  | n :: l => by
    show (L2.eqV (V.int (n : Int)) (V.int (k : Int)) || inV (V.int (k : Int)) (l.map fun n => V.int (n : Nat))) = (n :: l).contains k
    rw [inV_nats k l, List.contains_cons]
    congr 1
    show ((n : Int) == (k : Int)) = (k == n)
    by_cases h : k = n
    · subst h
      simp
    · rw [beq_eq_false_iff_ne.mpr h]
      exact beq_eq_false_iff_ne.mpr (by omega)
theorem kinds_at (T : TxtE K mg) : ∃ a xs, mg "EDITS_OF_WAY" = some (.ref a) ∧ (∀ H, SqT K H a xs) ∧ ∀ way : Nat, way ≤ 3 → ∃ b, atI xs (way : Int) = some (V.ref b) ∧ ∀ H, SqT K H b ((kinds way).map fun n => V.int (n : Nat)) := by
  obtain ⟨a, a0, a1, a2, a3, g, h, h0, h1, h2, h3⟩ := T.ew
  refine ⟨a, _, g, h, fun way hw => ?_⟩
  have : way = 0 ∨ way = 1 ∨ way = 2 ∨ way = 3 := by omega
  rcases this with rfl | rfl | rfl | rfl
  · exact ⟨a0, rfl, h0⟩
  · exact ⟨a1, rfl, h1⟩
  · exact ⟨a2, rfl, h2⟩
  · exact ⟨a3, rfl, h3⟩
theorem flat_nats : ∀ l : List Nat, (l.map fun n => V.int (n : Nat)).all flatV = true
  | [] => rfl
  | n :: l => flat_nats l
theorem ok_can {f fK fP fB fO : Addr} {fd fdK fdP fdB fdO : FuncData} (F : Fun K "can_be_done" "can_be_done" sCan f fd) (T : TxtE K mg) (DK : Dfn K mg "kind_of" sKin fK fdK ["number"]) (DP : Dfn K mg "place_of" sPlc fP fdP ["number"])
    (DB : Dfn K mg "byte_of" sByt fB fdB ["number"]) (DO : Dfn K mg "places_for" sPfo fO fdO ["kind", "length"]) : FnOk P w K mg base CX0 2 f fd ["way", "number", "length"] spCan := by
  have GK : FnOk P w K mg base CX0 1 fK fdK ["number"] (spNum fun n => n / 65536) := ok_kin DK.F
  have GP : FnOk P w K mg base CX0 1 fP fdP ["number"] (spNum fun n => n / 256 % 256) := ok_plc DP.F
  have GB : FnOk P w K mg base CX0 1 fB fdB ["number"] (spNum fun n => n % 256) := ok_byt DB.F
  have GO : FnOk P w K mg base CX0 1 fO fdO ["kind", "length"] spPfo := ok_pfo DO.F T
  refine F.ok scCan (fun vs H Q E h => ?_) (fun cdv A outer s0 H vs Q E hr h => ?_)
  · obtain ⟨way, n, len, rfl, _⟩ := h
    rfl
  · obtain ⟨way, n, len, rfl, hw, k⟩ := h
    obtain ⟨a, xs, gA, hA, hat⟩ := kinds_at T
    obtain ⟨b, hb, hB⟩ := hat way hw
    obtain ⟨_, g2⟩ := T.p2
    obtain ⟨_, g4⟩ := T.p4
    have nd := scCan.nd
    refine ⟨_, pss_cons (ps_set (i := 3) nd rfl (Or.inl rfl) (pe_call GK hr rfl DK.mgf DK.F.kp DK.b .nil pass0 (pa_cons (pv 1) pa_nil)))
      (pss_cons (ps_if (pt_cmpR op_notIn_seq (pv 3) (pe_ix ix_tup (pe_glob (v := .ref a) (by rfl) gA rfl) (pv 0) (fun _ _ => rfl)) (by with_unfolding_all rfl)) (pss_one (ps_ret pe_bl)) pss_nil)
      (pss_cons (ps_if (PW.pt (pw_and (pt_cmpR op_in_seq (pv 3) (pe_tup (pa_cons (pe_glob (v := .int 2) (by rfl) g2 ⟨_, rfl⟩) (pa_cons (pe_glob (v := .int 4) (by rfl) g4 ⟨_, rfl⟩) pa_nil))) (by with_unfolding_all rfl))
          (pw_and1 (pt_cmpR op_ne (pe_call GB hr (by rfl) DB.mgf DB.F.kp DB.b .nil pass0 (pa_cons (pv 1) pa_nil)) pe_int (nomark _)))))
        (pss_one (ps_ret pe_bl)) pss_nil)
      (pss_one (ps_ret (pe_cmpR op_lt (pe_call GP hr (by rfl) DP.mgf DP.F.kp DP.b .nil pass0 (pa_cons (pv 1) pa_nil)) (pe_call GO hr (by rfl) DO.mgf DO.F.kp DO.b .nil pass0 (pa_cons (pv 3) (pa_cons (pv 2) pa_nil))) (nomark _)))))), ?_⟩
    unfold canB at k
    refine ⟨_, rfl, n, rfl, _, rfl, _, rfl, a, xs, _, _, rfl, rfl, hA _, hb, b, _, rfl, .inr (hB _), rfl, flat_nats _, _, rfl, ?_⟩
    rw [if_pos rfl, inV_nats]
    cases e1 : (kinds way).contains (n / 65536) with
    | false =>
      refine iteP rfl ?_
      have := k H (Same.refl H)
      rw [e1] at this
      exact this
    | true =>
      refine iteN rfl ⟨_, rfl, (by show 2 ≤ sizeLine; decide), fun p hp => ?_⟩
      have s1 := (Same.refl H).upd (o := .tup [V.int 2, V.int 4]) hp
      refine ⟨p, _, rfl, .inr (SqT.of upd_same), rfl, rfl, _, rfl, ?_⟩
      rw [if_neg Bool.false_ne_true]
      have e2 : inV (V.int ((n / 65536 : Nat) : Int)) [V.int 2, V.int 4] = (n / 65536 == 2 || n / 65536 == 4) := by
        have := inV_nats (n / 65536) [2, 4]
        rw [List.contains_cons, List.contains_cons] at this
        simpa using this
      dsimp only
      rw [e2]
      have last : ∀ c : Bool, c = ((n / 65536 == 2 || n / 65536 == 4) && n % 256 != 0) → (c = true → Q (V.bl false) (upd H p (.tup [V.int 2, V.int 4]))) ∧ (c = false → Q (V.bl (decide (((n / 256 % 256 : Nat) : Int) < room (n / 65536) len))) (upd H p (.tup [V.int 2, V.int 4]))) := fun c ec => by
        have := k _ s1
        rw [e1, ← ec] at this
        constructor
        · intro z
          rw [z] at this
          exact this
        · intro z
          rw [z] at this
          exact this
      cases e3 : (n / 65536 == 2 || n / 65536 == 4) with
      | false =>
        obtain ⟨_, l2⟩ := last false (by rw [e3]; rfl)
        exact iteF (iteF ⟨_, rfl, n, rfl, _, rfl, _, rfl, _, _, rfl, _, _, rfl, rfl, l2 rfl⟩)
      | true =>
        refine iteT ⟨_, rfl, n, rfl, rfl, _, rfl, ?_⟩
        rw [eqV]
        by_cases h0 : n % 256 = 0
        · obtain ⟨_, l2⟩ := last false (by rw [e3, h0]; rfl)
          exact iteN (by rw [decide_eq_true (show ((n % 256 : Nat) : Int) = 0 by omega)]; rfl) ⟨_, rfl, n, rfl, _, rfl, _, rfl, _, _, rfl, _, _, rfl, rfl, l2 rfl⟩
        · obtain ⟨l1, _⟩ := last true (by rw [e3]; simp [h0])
          exact iteP (by rw [decide_eq_false (show ¬ ((n % 256 : Nat) : Int) = 0 by omega)]; rfl) (l1 rfl)
end
end Nw

end
section
set_option Elab.async false
set_option linter.all false
set_option maxRecDepth 100000
set_option maxHeartbeats 2000000
namespace Nw
open PySem PySem.Spec PyProof.Rows L2
open Sf65 (Bytes)
theorem wv_nil : wv [] = [] := rfl
theorem wv_cons (b : UInt8) (s : Bytes) : wv (b :: s) = V.int (bi b) :: wv s := rfl
theorem wv_app (s t : Bytes) : wv (s ++ t) = wv s ++ wv t := by
  unfold wv wints
  rw [List.map_append, List.map_append]
theorem wv_take (s : Bytes) (n : Nat) : (wv s).take n = wv (s.take n) := by
  unfold wv wints
  rw [List.map_take, List.map_take]
theorem wv_drop (s : Bytes) (n : Nat) : (wv s).drop n = wv (s.drop n) := by
  unfold wv wints
  rw [List.map_drop, List.map_drop]
theorem bi_low (n : Nat) : bi (UInt8.ofNat (n % 256)) = ((n % 256 : Nat) : Int) := by
  have := bi_ofNat (z := ((n % 256 : Nat) : Int)) (by omega) (by omega)
  rwa [Int.toNat_natCast] at this
section
variable {P : Program} {w : World} {K : PySem.W.Frag} {mg : Str → Option Value} {base : Heap}
inductive SpEdiI (K : PySem.W.Frag) (vs : List V) (H : Hp) (Q : VK) : Prop
  | mk (c : Bytes) (n : Nat) (a : Addr) (e0 : vs = [.ref a, .int n]) (e1 : c.length ≤ 1000) (e2 : SqL K H a (wv c)) (e3 : (n / 65536 ≠ 1 → n / 65536 ≠ 2 → n / 65536 ≠ 3 → n / 256 % 256 + 1 < c.length)) (e4 : ∀ (H' : Hp) (r : Addr), Same H H' → H' r = some (.lst (wv (edB n c))) → Q (.ref r) H') : SpEdiI K vs H Q
def spEdi (K : PySem.W.Frag) : Sp := fun vs H Q _ => SpEdiI K vs H Q
theorem scEdi : FnScope ["word", "number", "kind", "place", "before"] ["word", "number"] (defScope sEdi) := ⟨rfl, rfl, rfl, by decide +kernel, rfl, by decide +kernel, by decide +kernel⟩
theorem edB_len (n : Nat) (c : Bytes) : (edB n c).length ≤ c.length + 2 := by
  unfold edB
  simp only
  split
  · simp only [List.length_append, List.length_cons, List.length_take, List.length_drop]; omega
  · split
    · simp only [List.length_append, List.length_cons, List.length_take, List.length_drop]; omega
    · split
      · simp only [List.length_append, List.length_cons, List.length_take, List.length_drop]; omega
      · simp only [List.length_append, List.length_cons, List.length_take, List.length_drop]; omega
theorem ok_edi {f fK fP fB : Addr} {fd fdK fdP fdB : FuncData} (F : Fun K "edited" "edited" sEdi f fd) (T : TxtE K mg) (DK : Dfn K mg "kind_of" sKin fK fdK ["number"]) (DP : Dfn K mg "place_of" sPlc fP fdP ["number"])
    (DB : Dfn K mg "byte_of" sByt fB fdB ["number"]) : FnOk P w K mg base CX0 2 f fd ["word", "number"] (spEdi K) := by
  have GK : FnOk P w K mg base CX0 1 fK fdK ["number"] (spNum fun n => n / 65536) := ok_kin DK.F
  have GP : FnOk P w K mg base CX0 1 fP fdP ["number"] (spNum fun n => n / 256 % 256) := ok_plc DP.F
  have GB : FnOk P w K mg base CX0 1 fB fdB ["number"] (spNum fun n => n % 256) := ok_byt DB.F
  refine F.ok scEdi (fun vs H Q E h => ?_) (fun cdv A outer s0 H vs Q E hr h => ?_)
  · obtain ⟨c, n, a, rfl, _⟩ := h
    rfl
  · obtain ⟨c, n, a, rfl, hcl, ha, hsw, k⟩ := h
    obtain ⟨_, g1⟩ := T.p1
    obtain ⟨_, g2⟩ := T.p2
    obtain ⟨_, g3⟩ := T.p3
    have nd := scEdi.nd
    refine ⟨_, pss_cons (ps_set (i := 2) nd rfl (Or.inl rfl) (pe_call GK hr rfl DK.mgf DK.F.kp DK.b .nil pass0 (pa_cons (pv 1) pa_nil)))
      (pss_cons (ps_set (i := 3) nd rfl (Or.inl rfl) (pe_call GP hr rfl DP.mgf DP.F.kp DP.b .nil pass0 (pa_cons (pv 1) pa_nil)))
      (pss_cons (ps_set (i := 4) nd rfl (Or.inl rfl) (pe_slice sl_list (pv 0) po_none (po_some (pv 3))))
      (pss_cons (ps_if (pt_cmpR op_eq (pv 2) (pe_glob (v := .int 1) (by rfl) g1 ⟨_, rfl⟩) (nomark _))
        (pss_one (ps_ret (pe_op op_cat (pe_op op_cat (pv 4) (pe_lst (pa_cons (pe_call GB hr (by rfl) DB.mgf DB.F.kp DB.b .nil pass0 (pa_cons (pv 1) pa_nil)) pa_nil))) (pe_slice sl_list (pv 0) (po_some (pv 3)) po_none)))) pss_nil)
      (pss_cons (ps_if (pt_cmpR op_eq (pv 2) (pe_glob (v := .int 2) (by rfl) g2 ⟨_, rfl⟩) (nomark _))
        (pss_one (ps_ret (pe_op op_cat (pv 4) (pe_slice sl_list (pv 0) (po_some (pe_op op_add (pv 3) pe_int)) po_none)))) pss_nil)
      (pss_cons (ps_if (pt_cmpR op_eq (pv 2) (pe_glob (v := .int 3) (by rfl) g3 ⟨_, rfl⟩) (nomark _))
        (pss_one (ps_ret (pe_op op_cat (pe_op op_cat (pv 4) (pe_lst (pa_cons (pe_call GB hr (by rfl) DB.mgf DB.F.kp DB.b .nil pass0 (pa_cons (pv 1) pa_nil)) pa_nil))) (pe_slice sl_list (pv 0) (po_some (pe_op op_add (pv 3) pe_int)) po_none)))) pss_nil)
      (pss_one (ps_ret (pe_op op_cat (pe_op op_cat (pv 4) (pe_lst (pa_cons (pe_ix ix_list (pv 0) (pe_op op_add (pv 3) pe_int) (fun _ _ => rfl)) (pa_cons (pe_ix ix_list (pv 0) (pv 3) (fun _ _ => rfl)) pa_nil)))) (pe_slice sl_list (pv 0) (po_some (pe_op op_add (pv 3) pe_int)) po_none))))))))), ?_⟩
    refine ⟨_, rfl, n, rfl, _, rfl, n, rfl, _, rfl, _, rfl, _, rfl, a, _, rfl, ha, fun p hp => ?_⟩
    rw [show ((n / 256 % 256 : Nat) : Int) = (((fun n => n / 256 % 256) n : Nat) : Int) from rfl]
    rw [cut_to, wv_take]
    have s1 := (Same.refl H).upd (o := .lst (wv (c.take (n / 256 % 256)))) hp
    have hP : (upd H p (.lst (wv (c.take (n / 256 % 256))))) p = some (.lst (wv (c.take (n / 256 % 256)))) := upd_same
    generalize upd H p (.lst (wv (c.take (n / 256 % 256)))) = H1 at s1 hP
    have lenT : (wv (c.take (n / 256 % 256))).length ≤ 1000 := by rw [wv_len, List.length_take]; omega
    have lenD : ∀ j, (wv (c.drop j)).length ≤ 1000 := fun j => by rw [wv_len, List.length_drop]; omega
    -- before + [..] + word[..:]
    have cat3 : ∀ (xs : List V) (j : Nat) (l : Addr) (H2 : Hp) (Q' : VK), xs.length ≤ 2 → Same H1 H2 → H2 l = some (.lst xs) → (∀ (H' : Hp) (r : Addr), Same H H' → H' r = some (.lst (wv (c.take (n / 256 % 256)) ++ xs ++ wv (c.drop j))) → Q' (.ref r) H') →
        rCat (V.ref p) (V.ref l) H2 (fun v H3 => rSlL K (V.ref a) (some (j : Int)) none H3 fun y H4 => rCat v y H4 Q') := by
      intro xs j l H2 Q' hx e2 hl kk
      refine ⟨p, l, _, _, rfl, rfl, e2 _ _ hP, hl, by rw [sizeLine_eq]; omega, fun m hm => ⟨a, _, rfl, (s1.trans e2 |>.upd hm).seq ha, fun q hq => ?_⟩⟩
      have nm : m ≠ q := fun z => by rw [← z, upd_same] at hq; cases hq
      rw [cut_from, wv_drop]
      refine ⟨m, q, _, _, rfl, rfl, by rw [upd_ne nm, upd_same], upd_same, ?_, fun r hr' => ?_⟩
      · have := lenD j
        rw [List.length_append, sizeLine_eq]
        omega
      · exact kk _ r ((((s1.trans e2).upd hm).upd hq).upd hr') upd_same
    refine ⟨_, rfl, rfl, _, rfl, ?_⟩
    rw [eqV]
    by_cases k1 : n / 65536 = 1
    · refine iteP (decide_eq_true (show ((n / 65536 : Nat) : Int) = 1 by omega)) ?_
      refine ⟨_, rfl, _, rfl, n, rfl, (by show 1 ≤ sizeLine; decide), fun l hl => ?_⟩
      obtain ⟨x, y, xs', zs, q1, q2, q3, q4, q5, q6⟩ := cat3 [V.int ((n % 256 : Nat) : Int)] (n / 256 % 256) l _ _ (by simp) ((Same.refl H1).upd hl) upd_same (fun H' r e hr' => k H' r e (by
        rw [hr']
        unfold edB
        simp only
        rw [if_pos k1, wv_app, wv_cons, bi_low, List.append_assoc]
        rfl))
      exact ⟨x, y, xs', zs, q1, q2, q3, q4, q5, fun m hm => ⟨_, rfl, _, rfl, _, rfl, q6 m hm⟩⟩
    · refine iteN (decide_eq_false (show ¬ ((n / 65536 : Nat) : Int) = 1 by omega)) ⟨_, rfl, rfl, _, rfl, ?_⟩
      rw [eqV]
      have ep : ((n / 256 % 256 : Nat) : Int) + 1 = ((n / 256 % 256 + 1 : Nat) : Int) := by omega
      have ep2 : ((n / 256 % 256 : Nat) : Int) + 2 = ((n / 256 % 256 + 2 : Nat) : Int) := by omega
      by_cases k2 : n / 65536 = 2
      · refine iteP (decide_eq_true (show ((n / 65536 : Nat) : Int) = 2 by omega)) ?_
        refine ⟨_, rfl, _, rfl, _, rfl, _, _, rfl, rfl, _, rfl, a, _, rfl, s1.seq ha, fun q hq => ?_⟩
        rw [show (((fun n => n / 256 % 256) n : Nat) : Int) + 1 = ((n / 256 % 256 + 1 : Nat) : Int) from ep, cut_from, wv_drop]
        refine ⟨p, q, _, _, rfl, rfl, by rw [upd_ne (ne_of_none hP hq)]; exact hP, upd_same, ?_, fun r hr' => k _ r ((s1.upd hq).upd hr') ?_⟩
        · have := lenD (n / 256 % 256 + 1)
          rw [sizeLine_eq]
          omega
        · rw [upd_same]
          unfold edB
          simp only
          rw [if_neg k1, if_pos k2, wv_app]
      · refine iteN (decide_eq_false (show ¬ ((n / 65536 : Nat) : Int) = 2 by omega)) ⟨_, rfl, rfl, _, rfl, ?_⟩
        rw [eqV]
        by_cases k3 : n / 65536 = 3
        · refine iteP (decide_eq_true (show ((n / 65536 : Nat) : Int) = 3 by omega)) ?_
          refine ⟨_, rfl, _, rfl, n, rfl, (by show 1 ≤ sizeLine; decide), fun l hl => ?_⟩
          obtain ⟨x, y, xs', zs, q1, q2, q3, q4, q5, q6⟩ := cat3 [V.int ((n % 256 : Nat) : Int)] (n / 256 % 256 + 1) l _ _ (by simp) ((Same.refl H1).upd hl) upd_same (fun H' r e hr' => k H' r e (by
            rw [hr']
            unfold edB
            simp only
            rw [if_neg k1, if_neg k2, if_pos k3, wv_app, wv_cons, bi_low, List.append_assoc]
            rfl))
          rw [← ep] at q6
          exact ⟨x, y, xs', zs, q1, q2, q3, q4, q5, fun m hm => ⟨_, rfl, _, rfl, _, _, rfl, rfl, _, rfl, q6 m hm⟩⟩
        · refine iteN (decide_eq_false (show ¬ ((n / 65536 : Nat) : Int) = 3 by omega)) ?_
          have hs := hsw k1 k2 k3
          refine ⟨_, rfl, _, rfl, _, rfl, _, _, rfl, rfl, a, _, _, _, rfl, rfl, s1.seq ha, at_of (j := n / 256 % 256 + 1) ep (wv_get hs), _, rfl, _, rfl, a, _, _, _, rfl, rfl, s1.seq ha, at_of (j := n / 256 % 256) rfl (wv_get (by omega)), (by show 2 ≤ sizeLine; decide), fun l hl => ?_⟩
          obtain ⟨x, y, xs', zs, q1, q2, q3, q4, q5, q6⟩ := cat3 [V.int (bi (c.getD (n / 256 % 256 + 1) 0)), V.int (bi (c.getD (n / 256 % 256) 0))] (n / 256 % 256 + 2) l _ _ (by simp) ((Same.refl H1).upd hl) upd_same (fun H' r e hr' => k H' r e (by
            rw [hr']
            unfold edB
            simp only
            rw [if_neg k1, if_neg k2, if_neg k3, wv_app, wv_cons, wv_cons, List.append_assoc]
            rfl))
          rw [← ep2] at q6
          exact ⟨x, y, xs', zs, q1, q2, q3, q4, q5, fun m hm => ⟨_, rfl, _, rfl, _, _, rfl, rfl, _, rfl, q6 m hm⟩⟩
end
end Nw

end
section
set_option Elab.async false
set_option linter.all false
set_option maxRecDepth 100000
set_option maxHeartbeats 2000000
namespace Nw
open PySem PySem.Spec PyProof.Rows L2
open Sf65 (Bytes)
theorem can_swap {way n len : Nat} (h : canB way n len = true) (h1 : n / 65536 ≠ 1) (h2 : n / 65536 ≠ 2) (h3 : n / 65536 ≠ 3) : n / 256 % 256 + 1 < len := by
  unfold canB at h
  rw [Bool.and_eq_true, Bool.and_eq_true] at h
  obtain ⟨a, _, c⟩ := h
  have h4 : n / 65536 = 4 := by
    have m : n / 65536 ∈ kinds way := by simpa using a
    unfold kinds at m
    repeat' split at m
    all_goals simp at m
    all_goals omega
  have c := of_decide_eq_true c
  unfold room at c
  rw [if_neg h1, if_pos h4] at c
  omega
theorem farI_some {way : Nat} {s t : Bytes} {n : Nat} : (farI way s t = (n : Int)) ↔ Sf93.far way s t = some n := by
  unfold farI
  cases Sf93.far way s t with
  | none => simp <;> omega
  | some m => simp <;> omega
def nv (l : List Nat) : List V := l.map fun n => V.int (n : Nat)
theorem nv_len (l : List Nat) : (nv l).length = l.length := List.length_map _
theorem makes_far {way : Nat} {s t : Bytes} {l : List Nat} (h : farI way s t ≠ (l.length : Int)) : Sf93.makes way s t l = false := by
  rw [makes_runs]
  have : (Sf93.far way s t == some l.length) = false := beq_eq_false_iff_ne.mpr fun e => h (farI_some.mpr e)
  rw [this, Bool.and_false]
theorem makes_none {way : Nat} {s t : Bytes} {l : List Nat} (h : runs way l s = none) : Sf93.makes way s t l = false := by
  rw [makes_runs, h]
  rfl
theorem makes_some {way : Nat} {s t c : Bytes} {l : List Nat} (h : runs way l s = some c) (hf : farI way s t = (l.length : Int)) : Sf93.makes way s t l = decide (c = t) := by
  rw [makes_runs, h, farI_some.mp hf]
  rw [beq_self_eq_true, Bool.and_true]
  by_cases e : c = t
  · subst e
    simp
  · rw [decide_eq_false e]
    simp [e]
theorem wints_eq (s t : Bytes) : decide (wints s = wints t) = decide (s = t) := decide_eq_decide.mpr ⟨ints_inj, fun e => by rw [e]⟩
section
variable {P : Program} {w : World} {K : PySem.W.Frag} {mg : Str → Option Value} {base : Heap}
inductive SpMakI (K : PySem.W.Frag) (vs : List V) (H : Hp) (Q : VK) : Prop
  | mk (way : Nat) (s t : Bytes) (es : List Nat) (a b e : Addr) (e0 : vs = [.int way, .ref a, .ref b, .ref e]) (e1 : way ≤ 3) (e2 : s.length ≤ 100) (e3 : t.length ≤ 100) (e4 : es.length ≤ 100) (e5 : SqL K H a (wv s)) (e6 : SqL K H b (wv t)) (e7 : SqL K H e (nv es)) (e8 : ∀ H' : Hp, Same H H' → Q (.int (if Sf93.makes way s t es = true then 1 else 0)) H') : SpMakI K vs H Q
def spMak (K : PySem.W.Frag) : Sp := fun vs H Q _ => SpMakI K vs H Q
theorem scMak : FnScope ["way", "s", "t", "edits", "word", "number"] ["way", "s", "t", "edits"] (defScope sMak) := ⟨rfl, rfl, rfl, by decide +kernel, rfl, by decide +kernel, by decide +kernel⟩
theorem ok_mak {f fK fP fB fO fC fE : Addr} {fd fdK fdP fdB fdO fdC fdE : FuncData} (F : Fun K "makes" "makes" sMak f fd) (T : TxtD K mg) (TE : TxtE K mg) (W : How P w K mg base)
    (DK : Dfn K mg "kind_of" sKin fK fdK ["number"]) (DP : Dfn K mg "place_of" sPlc fP fdP ["number"]) (DB : Dfn K mg "byte_of" sByt fB fdB ["number"]) (DO : Dfn K mg "places_for" sPfo fO fdO ["kind", "length"])
    (DC : Dfn K mg "can_be_done" sCan fC fdC ["way", "number", "length"]) (DE : Dfn K mg "edited" sEdi fE fdE ["word", "number"]) : FnOk P w K mg base CX0 5 f fd ["way", "s", "t", "edits"] (spMak K) := by
  obtain ⟨fW, fdW, mgW, kW, bW, GW⟩ := W.ex
  have GC : FnOk P w K mg base CX0 4 fC fdC ["way", "number", "length"] spCan := (ok_can DC.F TE DK DP DB DO).mono (by decide)
  have GE : FnOk P w K mg base CX0 4 fE fdE ["word", "number"] (spEdi K) := (ok_edi DE.F TE DK DP DB).mono (by decide)
  refine F.ok scMak (fun vs H Q E h => ?_) (fun cdv A outer s0 H vs Q E hr h => ?_)
  · obtain ⟨way, s, t, es, a, b, e, rfl, _⟩ := h
    rfl
  · obtain ⟨way, s, t, es, a, b, e, rfl, hw, hsl, htl, hel, ha, hb, he, k⟩ := h
    have nd := scMak.nd
    refine ⟨_, pss_cons (ps_if (pt_cmpR op_ne (pe_callB call_lenS (by rfl) T.len PySem.boot_len (pa_cons (pv 3) pa_nil)) (pe_call GW hr (by rfl) mgW kW bW .nil pass0 (pa_cons (pv 0) (pa_cons (pv 1) (pa_cons (pv 2) pa_nil)))) (nomark _)) (pss_one (ps_ret pe_int)) pss_nil)
      (pss_cons (ps_set (i := 4) nd rfl (Or.inl rfl) (pe_callTy call_list_of (by rfl) T.list boot_list (pa_cons (pv 1) pa_nil)))
      (pss_cons (ps_for PassesOwn.never rfl (pi_list (pv 3)) (pg_name (i := 5) nd rfl (Or.inl rfl))
        (pss_cons (ps_if (pt_not (pt_val (pe_call GC hr (by rfl) DC.mgf DC.F.kp DC.b .nil pass0 (pa_cons (pv 0) (pa_cons (pv 5) (pa_cons (pe_callB call_lenS (by rfl) T.len PySem.boot_len (pa_cons (pv 4) pa_nil)) pa_nil)))))) (pss_one (ps_ret pe_int)) pss_nil)
        (pss_one (ps_set (i := 4) nd rfl (Or.inl rfl) (pe_call GE hr (by rfl) DE.mgf DE.F.kp DE.b .nil pass0 (pa_cons (pv 4) (pa_cons (pv 5) pa_nil)))))))
      (pss_one (ps_ret (pe_ifExp (pt_cmpR (op_eqL (L2.hu64 hr)) (pv 4) (pv 2) (nomark _)) pe_int pe_int))))), ?_⟩
    refine ⟨_, rfl, e, _, rfl, .inl he, _, rfl, _, rfl, _, rfl, way, s, t, a, b, rfl, hw, by omega, by omega, ha, .inl hb, fun H0 s0 => ⟨rfl, _, rfl, ?_⟩⟩
    rw [eqV, nv_len]
    by_cases hf : farI way s t = (es.length : Int)
    · refine iteN (by rw [decide_eq_true hf.symm]; rfl) ⟨_, rfl, a, _, rfl, .inl (s0.seq ha), fun l hl => ?_⟩
      have s1 := s0.upd (o := .lst (wv s)) hl
      refine ⟨_, rfl, e, rfl, ⟨_, s1.seq he⟩, for_list (K := K) (a := e) (xs := nv es) (fun i σ H' => ∃ (c : Bytes) (q : Addr) (v5 : Option V), σ = [some (.int way), some (.ref a), some (.ref b), some (.ref e), some (.ref q), v5] ∧ Same H H' ∧ SqL K H' q (wv c) ∧ runs way (es.take i) s = some c ∧ c.length ≤ 100 + 2 * i)
        ⟨s, l, none, rfl, s1, SqL.of upd_same, rfl, by omega⟩ (fun i σ H' _ ⟨_, _, _, _, s2, _⟩ => s2.seq he) ?_ ?_⟩
      · rintro i y σ H1 hi ⟨c, q, v5, rfl, s2, hq, hrun, hcl⟩
        obtain ⟨n, hn, rfl⟩ : ∃ n, es[i]? = some n ∧ y = V.int (n : Nat) := by
          unfold nv at hi
          rw [List.getElem?_map] at hi
          cases e : es[i]? with
          | none =>
            rw [e] at hi
            cases hi
          | some n =>
            rw [e] at hi
            exact ⟨n, rfl, (Option.some.inj hi).symm⟩
        have hil : i < es.length := (List.getElem?_eq_some_iff.mp hn).1
        have et : es.take (i + 1) = es.take i ++ [n] := by
          rw [List.take_succ, hn]
          rfl
        have er : runs way (es.take (i + 1)) s = oneEdit way n c := by rw [et, runs_snoc, hrun]; rfl
        rw [oneEdit_can hw] at er
        refine ⟨_, rfl, _, rfl, _, rfl, q, _, rfl, .inl hq, way, n, c.length, (by rw [wv_len]; rfl), hw, fun H2 e2 => ⟨_, rfl, ?_⟩⟩
        cases hc : canB way n c.length with
        | false =>
          refine iteT ?_
          rw [hc, if_neg Bool.false_ne_true] at er
          have hn : runs way es s = none := by
            have := runs_none_app way _ (es.drop (i + 1)) s er
            rwa [List.take_append_drop] at this
          have := k H2 (s2.trans e2)
          rw [makes_none hn, if_neg Bool.false_ne_true] at this
          exact this
        | true =>
          refine iteF ?_
          rw [hc, if_pos rfl] at er
          refine ⟨_, rfl, _, rfl, c, n, q, rfl, by omega, e2.seq hq, can_swap hc, fun H3 r e3 hr3 => ⟨edB n c, r, _, rfl, (s2.trans e2).trans e3, SqL.of hr3, er, ?_⟩⟩
          have := edB_len n c
          omega
      · rintro σ H1 ⟨c, q, v5, rfl, s2, hq, hrun, hcl⟩
        rw [nv_len, List.take_of_length_le (Nat.le_refl _)] at hrun
        refine ⟨_, rfl, _, rfl, q, b, _, _, rfl, rfl, hq, s2.seq hb, _, rfl, ?_⟩
        rw [wints_eq]
        have := k H1 s2
        rw [makes_some hrun hf] at this
        cases hd : decide (c = t) with
        | true =>
          rw [hd] at this
          exact iteT this
        | false =>
          rw [hd] at this
          exact iteF this
    · refine iteP (by rw [decide_eq_false (fun z => hf z.symm)]; rfl) ?_
      have := k H0 s0
      rw [makes_far hf, if_neg Bool.false_ne_true] at this
      exact this
end
end Nw

end
section
set_option Elab.async false
set_option linter.all false
set_option maxRecDepth 100000
set_option maxHeartbeats 2000000
namespace Nw
open PySem PySem.Spec PyProof.Rows L2
open Sf65 (Bytes)
abbrev sRin : Stmt := inClass (top 40) 0
abbrev sRat : Stmt := inClass (top 40) 1
abbrev sRnu : Stmt := inClass (top 40) 2
abbrev sRro : Stmt := inClass (top 40) 3
theorem cp : ¬ (("calls" : Str) = "place") := by decide +kernel
theorem pc : ¬ (("place" : Str) = "calls") := by decide +kernel
/-- the reader's attributes -/
def rf (a : Addr) (n : Int) : List (Str × V) := putF "place" (.int n) (putF "calls" (.ref a) [])
theorem rf_eq (a : Addr) (n : Int) : rf a n = ([("calls", V.ref a), ("place", V.int n)] : List (Str × V)) := by
  show (if ("calls" : Str) = "place" then [(("calls" : Str), V.int n)] else (("calls" : Str), V.ref a) :: putF "place" (V.int n) []) = ([("calls", V.ref a), ("place", V.int n)] : List (Str × V))
  rw [if_neg cp]
  all_goals rfl
theorem rf_calls (a : Addr) (n : Int) : (rf a n).lookup ("calls" : Str) = some (.ref a) := by
  unfold rf
  rw [lookup_putF, if_neg cp, lookup_putF, if_pos rfl]
theorem rf_place (a : Addr) (n : Int) : (rf a n).lookup ("place" : Str) = some (.int n) := by
  unfold rf
  rw [lookup_putF, if_pos rfl]
theorem rf_no (a : Addr) (n : Int) {m : Str} (h1 : ¬ m = "place") (h2 : ¬ m = "calls") : (rf a n).lookup m = none := by
  unfold rf
  rw [lookup_putF, if_neg h1, lookup_putF, if_neg h2]
  all_goals rfl
theorem rf_put (a : Addr) (n m : Int) : putF "place" (.int m) (rf a n) = rf a m := by
  rw [rf_eq, rf_eq]
  show (if ("calls" : Str) = "place" then _ else (("calls" : Str), V.ref a) :: (if ("place" : Str) = "place" then [(("place" : Str), V.int m)] else _)) = ([("calls", V.ref a), ("place", V.int m)] : List (Str × V))
  rw [if_neg cp, if_pos rfl]
/-- a Reader stands at p, at the place n of the list at a -/
def RdAt (C : Addr) (H : Hp) (p a : Addr) (n : Nat) : Prop := ∃ dx, H p = some (.ins C dx (rf a (n : Int)))
/-- all but p is as it was -/
def Keep (p : Addr) (H H' : Hp) : Prop := ∀ b o, H b = some o → b ≠ p → H' b = some o
theorem Keep.refl (p : Addr) (H : Hp) : Keep p H H := fun _ _ h _ => h
theorem Keep.trans {p : Addr} {H H1 H2 : Hp} (x : Keep p H H1) (y : Keep p H1 H2) : Keep p H H2 := fun b o h n => y b o (x b o h n) n
theorem Keep.of {p : Addr} {H H' : Hp} (x : Same H H') : Keep p H H' := fun b o h _ => x b o h
theorem Keep.put {p : Addr} {H : Hp} {o : HO} : Keep p H (upd H p o) := fun b u h n => by rw [upd_ne n]; exact h
theorem Keep.lst {p C dx : Addr} {fs : List (Str × V)} {H H' : Hp} {a : Addr} {xs : List V} (x : Keep p H H') (hp : H p = some (.ins C dx fs)) (h : H a = some (.lst xs)) : H' a = some (.lst xs) := x _ _ h (ne_of h hp (by intro z; cases z))
theorem Keep.seq {K : PySem.W.Frag} {p C dx : Addr} {fs : List (Str × V)} {H H' : Hp} {a : Addr} {xs : List V} (x : Keep p H H') (hp : H p = some (.ins C dx fs)) (h : SqL K H a xs) : SqL K H' a xs := by
  rcases h with (h | ⟨o, h⟩) | h
  · exact .inl (.inl (x _ _ h (ne_of h hp (by intro z; cases z))))
  · exact .inl (.inr ⟨o, x _ _ h (ne_of h hp (by intro z; cases z))⟩)
  · exact .inr h
structure TxtR (K : PySem.W.Frag) (mg : Str → Option Value) (C : Addr) : Prop where
  cl : Cls K C
  nC : NoAttr K C "calls"
  nP : NoAttr K C "place"
  mgC : mg "Reader" = some (.ref C)
section
variable {P : Program} {w : World} {K : PySem.W.Frag} {mg : Str → Option Value} {base : Heap}
inductive SpRinI (C : Addr) (vs : List V) (H : Hp) (Q : VK) : Prop
  | mk (p a dx : Addr) (e0 : vs = [.ref p, .ref a]) (e1 : H p = some (.ins C dx [])) (e2 : ∀ H' : Hp, RdAt C H' p a 0 → Keep p H H' → Q .non H') : SpRinI C vs H Q
def spRin (C : Addr) : Sp := fun vs H Q _ => SpRinI C vs H Q
theorem scRin : FnScope ["self", "calls"] ["self", "calls"] (defScope sRin) := ⟨rfl, rfl, rfl, by decide +kernel, rfl, by decide +kernel, by decide +kernel⟩
theorem ok_rin {f C : Addr} {fd : FuncData} (F : Fun K "__init__" "Reader.__init__" sRin f fd) (T : TxtR K mg C) : FnOk P w K mg base CX0 1 f fd ["self", "calls"] (spRin C) := by
  refine F.ok scRin (fun vs H Q E h => ?_) (fun cdv A outer s H vs Q E hr h => ?_)
  · obtain ⟨p, a, dx, rfl, _⟩ := h
    rfl
  · obtain ⟨p, a, dx, rfl, hp, k⟩ := h
    refine ⟨_, pss_cons (ps_fld (pv 0) (pv 1) rfl) (pss_one (ps_fld (pv 0) pe_int rfl)), ?_⟩
    refine ⟨_, rfl, _, rfl, p, C, dx, [], rfl, hp, T.cl, T.nC, (by show 0 < 1000; decide), _, rfl, p, C, dx, _, rfl, upd_same, T.cl, T.nP, (by show 1 < 1000; decide), ?_⟩
    exact k _ ⟨dx, upd_same⟩ (Keep.put.trans Keep.put)
inductive SpRatI (K : PySem.W.Frag) (C : Addr) (vs : List V) (H : Hp) (Q : VK) : Prop
  | mk (p a : Addr) (n : Nat) (l : List Int) (e0 : vs = [.ref p]) (e1 : RdAt C H p a n) (e2 : SqL K H a (l.map V.int)) (e3 : Q (.bl (decide (l.length ≤ n))) H) : SpRatI K C vs H Q
def spRat (K : PySem.W.Frag) (C : Addr) : Sp := fun vs H Q _ => SpRatI K C vs H Q
theorem scRat : FnScope ["self"] ["self"] (defScope sRat) := ⟨rfl, rfl, rfl, by decide +kernel, rfl, by decide +kernel, by decide +kernel⟩
theorem ok_rat {f C : Addr} {fd : FuncData} (F : Fun K "at_end" "Reader.at_end" sRat f fd) (T : TxtR K mg C) (hlen : mg "len" = none) : FnOk P w K mg base CX0 1 f fd ["self"] (spRat K C) := by
  refine F.ok scRat (fun vs H Q E h => ?_) (fun cdv A outer s H vs Q E hr h => ?_)
  · obtain ⟨p, a, n, l, rfl, _⟩ := h
    rfl
  · obtain ⟨p, a, n, l, rfl, ⟨dx, hp⟩, ha, k⟩ := h
    refine ⟨_, pss_one (ps_ret (pe_cmpR op_ge (pe_fld (pv 0) rfl) (pe_callB call_lenS (by rfl) hlen PySem.boot_len (pa_cons (pe_fld (pv 0) rfl) pa_nil)) (nomark _))), ?_⟩
    refine ⟨_, rfl, p, C, dx, _, _, rfl, hp, T.cl, T.nP, rf_place _ _, _, rfl, p, C, dx, _, _, rfl, hp, T.cl, T.nC, rf_calls _ _, a, _, rfl, .inl ha, _, _, rfl, rfl, ?_⟩
    show Q (V.bl (decide (((l.map V.int).length : Int) ≤ (n : Int)))) H
    have e : decide (((l.map V.int).length : Int) ≤ (n : Int)) = decide (l.length ≤ n) := decide_eq_decide.mpr (by rw [List.length_map]; omega)
    rw [e]
    exact k
inductive SpRnuI (K : PySem.W.Frag) (C : Addr) (vs : List V) (H : Hp) (Q : VK) : Prop
  | mk (p a : Addr) (n : Nat) (l : List Int) (z : Int) (e0 : vs = [.ref p]) (e1 : RdAt C H p a n) (e2 : SqL K H a (l.map V.int)) (e3 : l[n]? = some z) (e4 : ∀ H' : Hp, RdAt C H' p a (n + 1) → Keep p H H' → (∀ b, H b = none → H' b = none) → Q (.int z) H') : SpRnuI K C vs H Q
def spRnu (K : PySem.W.Frag) (C : Addr) : Sp := fun vs H Q _ => SpRnuI K C vs H Q
theorem scRnu : FnScope ["self", "number"] ["self"] (defScope sRnu) := ⟨rfl, rfl, rfl, by decide +kernel, rfl, by decide +kernel, by decide +kernel⟩
theorem upd_none {H : Hp} {p b : Addr} {o u : HO} (hp : H p = some u) (h : H b = none) : (upd H p o) b = none := by rw [upd_ne (fun e => by rw [e, hp] at h; cases h)]; exact h
theorem ok_rnu {f C : Addr} {fd : FuncData} (F : Fun K "take_number" "Reader.take_number" sRnu f fd) (T : TxtR K mg C) : FnOk P w K mg base CX0 1 f fd ["self"] (spRnu K C) := by
  refine F.ok scRnu (fun vs H Q E h => ?_) (fun cdv A outer s H vs Q E hr h => ?_)
  · obtain ⟨p, a, n, l, z, rfl, _⟩ := h
    rfl
  · obtain ⟨p, a, n, l, z, rfl, ⟨dx, hp⟩, ha, hz, k⟩ := h
    have nd := scRnu.nd
    refine ⟨_, pss_cons (ps_set (i := 1) nd rfl (Or.inl rfl) (pe_ix ix_list (pe_fld (pv 0) rfl) (pe_fld (pv 0) rfl) (fun _ _ => rfl)))
      (pss_cons (ps_fldaug (pv 0) pe_int in_add) (pss_one (ps_ret (pv 1)))), ?_⟩
    refine ⟨_, rfl, p, C, dx, _, _, rfl, hp, T.cl, T.nC, rf_calls _ _, _, rfl, p, C, dx, _, _, rfl, hp, T.cl, T.nP, rf_place _ _, a, _, _, _, rfl, rfl, ha, at_of (j := n) (v := V.int z) rfl (by rw [List.getElem?_map, hz]; rfl), ?_⟩
    refine ⟨_, rfl, p, C, dx, _, _, rfl, hp, T.cl, T.nP, rf_place _ _, _, _, rfl, rfl, dx, _, hp, (by rw [rf_eq]; show 2 < 1000; decide), _, rfl, ?_⟩
    have e : putF "place" (V.int ((n : Int) + 1)) (rf a (n : Int)) = rf a ((n + 1 : Nat) : Int) := by
      rw [rf_put]
      congr 1
    refine k _ ⟨dx, ?_⟩ Keep.put (fun b h => upd_none hp h)
    exact upd_same.trans (congrArg (fun q => some (HO.ins C dx q)) e)
inductive SpRroI (K : PySem.W.Frag) (C : Addr) (vs : List V) (H : Hp) (Q : VK) : Prop
  | mk (p a : Addr) (n m : Nat) (l : List Int) (e0 : vs = [.ref p]) (e1 : RdAt C H p a n) (e2 : SqL K H a (l.map V.int)) (e3 : l[n]? = some (m : Int)) (e4 : n + 1 + m ≤ l.length) (e5 : ∀ (H' : Hp) (r : Addr), RdAt C H' p a (n + 1 + m) → Keep p H H' → H r = none → H' r = some (.lst (((l.drop (n + 1)).take m).map V.int)) → Q (.ref r) H') : SpRroI K C vs H Q
def spRro (K : PySem.W.Frag) (C : Addr) : Sp := fun vs H Q _ => SpRroI K C vs H Q
theorem scRro : FnScope ["self", "size", "start"] ["self"] (defScope sRro) := ⟨rfl, rfl, rfl, by decide +kernel, rfl, by decide +kernel, by decide +kernel⟩
theorem ok_rro {f fN C : Addr} {fd fdN : FuncData} (F : Fun K "take_row" "Reader.take_row" sRro f fd) (T : TxtR K mg C) (FN : Fun K "take_number" "Reader.take_number" sRnu fN fdN) (bN : Binds K fdN ["self"] []) (mN : Meth K C "take_number" fN) :
    FnOk P w K mg base CX0 2 f fd ["self"] (spRro K C) := by
  have GN : FnOk P w K mg base CX0 1 fN fdN ["self"] (spRnu K C) := ok_rnu FN T
  refine F.ok scRro (fun vs H Q E h => ?_) (fun cdv A outer s H vs Q E hr h => ?_)
  · obtain ⟨p, a, n, m, l, rfl, _⟩ := h
    rfl
  · obtain ⟨p, a, n, m, l, rfl, ⟨dx0, hp0⟩, ha, hz, hl, k⟩ := h
    have nd := scRro.nd
    refine ⟨_, pss_cons (ps_set (i := 1) nd rfl (Or.inl rfl) (pe_meth0 (pv 0) T.cl mN GN hr bN .nil pass0))
      (pss_cons (ps_set (i := 2) nd rfl (Or.inl rfl) (pe_fld (pv 0) rfl))
      (pss_cons (ps_fldaug (pv 0) (pv 1) in_add)
      (pss_one (ps_ret (pe_slice sl_list (pe_fld (pv 0) rfl) (po_some (pv 2)) (po_some (pe_op op_add (pv 2) (pv 1)))))))), ?_⟩
    refine ⟨_, rfl, p, dx0, _, rfl, hp0, rf_no _ _ (by decide +kernel) (by decide +kernel), p, a, n, l, _, rfl, ⟨dx0, hp0⟩, ha, hz, fun H1 hR kp fr => ?_⟩
    obtain ⟨dx, hp⟩ := hR
    refine ⟨_, rfl, p, C, dx, _, _, rfl, hp, T.cl, T.nP, rf_place _ _, ?_⟩
    refine ⟨_, rfl, p, C, dx, _, _, rfl, hp, T.cl, T.nP, rf_place _ _, _, rfl, _, _, rfl, rfl, dx, _, hp, (by rw [rf_eq]; show 2 < 1000; decide), ?_⟩
    have e : putF "place" (V.int (((n + 1 : Nat) : Int) + (m : Int))) (rf a ((n + 1 : Nat) : Int)) = rf a ((n + 1 + m : Nat) : Int) := by
      rw [rf_put]
      congr 1
    rw [e]
    have ka : Keep p H (upd H1 p (.ins C dx (rf a ((n + 1 + m : Nat) : Int)))) := kp.trans Keep.put
    refine ⟨_, rfl, p, C, dx, _, _, rfl, upd_same, T.cl, T.nC, rf_calls _ _, _, rfl, _, rfl, _, rfl, _, rfl, _, _, rfl, rfl, _, rfl, a, _, rfl, ka.seq hp0 ha, fun r hr' => ?_⟩
    have e2 : ((n + 1 : Nat) : Int) + (m : Int) = ((n + 1 + m : Nat) : Int) := by omega
    rw [e2, cut_mid _ (by rw [List.length_map]; omega), ← List.map_drop, ← List.map_take]
    have np : r ≠ p := fun z => by rw [z, upd_same] at hr'; cases hr'
    have h1 : H1 r = none := by rw [upd_ne np] at hr'; exact hr'
    have h0 : H r = none := by
      cases q : H r with
      | none => rfl
      | some o =>
        have := kp r o q np
        rw [h1] at this
        cases this
    refine k _ r ⟨dx, ?_⟩ (fun b o hb hn => ?_) h0 upd_same
    · rw [upd_ne (fun z => np z.symm), upd_same]
    · have := ka b o hb hn
      rw [upd_ne (ne_of_none this hr')]
      exact this
end
end Nw

end
section
set_option Elab.async false
set_option linter.all false
set_option maxRecDepth 100000
set_option maxHeartbeats 2000000
namespace Nw
open PySem PySem.Spec PyProof.Rows L2
open Sf65 (Bytes)
abbrev sWay : Stmt := top 45
abbrev sLon : Stmt := top 46
structure TxtW (mg : Str → Option Value) : Prop where
  lw : ∃ t, mg "LAST_WAY" = some (.int 3 t)
  lo : ∃ t, mg "LONGEST" = some (.int 32 t)
  re : ∃ t, mg "REFUSED" = some (.int (-1) t)
section
variable {P : Program} {w : World} {K : PySem.W.Frag} {mg : Str → Option Value} {base : Heap}
inductive SpWayI (vs : List V) (H : Hp) (Q : VK) : Prop
  | mk (y : Int) (e0 : vs = [.int y]) (e1 : Q (.bl (!Sf65.within y 0 3)) H) : SpWayI  vs H Q
def spWay : Sp := fun vs H Q _ => SpWayI  vs H Q
theorem scWay : FnScope ["way"] ["way"] (defScope sWay) := ⟨rfl, rfl, rfl, by decide +kernel, rfl, by decide +kernel, by decide +kernel⟩
theorem ok_way {f : Addr} {fd : FuncData} (F : Fun K "no_such_way" "no_such_way" sWay f fd) (T : TxtW mg) : FnOk P w K mg base CX0 1 f fd ["way"] spWay := by
  refine F.ok scWay (fun vs H Q E h => ?_) (fun cdv A outer s H vs Q E hr h => ?_)
  · obtain ⟨y, rfl, _⟩ := h
    rfl
  · obtain ⟨y, rfl, k⟩ := h
    obtain ⟨_, g⟩ := T.lw
    refine ⟨_, pss_one (ps_ret (pe_or (pe_cmpR op_lt (pv 0) pe_int (nomark _)) (pe_one (pe_cmpR op_gt (pv 0) (pe_glob (v := .int 3) (by rfl) g ⟨_, rfl⟩) (nomark _))))), ?_⟩
    refine ⟨_, rfl, _, _, rfl, rfl, _, rfl, ?_⟩
    unfold Sf65.within at k
    by_cases h0 : y < 0
    · refine iteP (decide_eq_true h0) ?_
      rw [decide_eq_false (show ¬ (((0 : Nat) : Int) ≤ y) by omega)] at k
      exact k
    · refine iteN (decide_eq_false h0) ⟨_, rfl, _, _, rfl, rfl, ?_⟩
      show Q (V.bl (decide (3 < y))) H
      rw [decide_eq_true (show ((0 : Nat) : Int) ≤ y by omega), Bool.true_and] at k
      by_cases h3 : 3 < y
      · rw [decide_eq_true h3]
        rw [decide_eq_false (show ¬ y ≤ ((3 : Nat) : Int) by omega)] at k
        exact k
      · rw [decide_eq_false h3]
        rw [decide_eq_true (show y ≤ ((3 : Nat) : Int) by omega)] at k
        exact k
inductive SpLonI (K : PySem.W.Frag) (vs : List V) (H : Hp) (Q : VK) : Prop
  | mk (a : Addr) (xs : List V) (e0 : vs = [.ref a]) (e1 : SqL K H a xs) (e2 : Q (.bl (!decide (xs.length ≤ 32))) H) : SpLonI K vs H Q
def spLon (K : PySem.W.Frag) : Sp := fun vs H Q _ => SpLonI K vs H Q
theorem scLon : FnScope ["word"] ["word"] (defScope sLon) := ⟨rfl, rfl, rfl, by decide +kernel, rfl, by decide +kernel, by decide +kernel⟩
theorem ok_lon {f : Addr} {fd : FuncData} (F : Fun K "too_long" "too_long" sLon f fd) (T : TxtW mg) (hlen : mg "len" = none) : FnOk P w K mg base CX0 1 f fd ["word"] (spLon K) := by
  refine F.ok scLon (fun vs H Q E h => ?_) (fun cdv A outer s H vs Q E hr h => ?_)
  · obtain ⟨a, xs, rfl, _⟩ := h
    rfl
  · obtain ⟨a, xs, rfl, ha, k⟩ := h
    obtain ⟨_, g⟩ := T.lo
    refine ⟨_, pss_one (ps_ret (pe_cmpR op_gt (pe_callB call_lenS (by rfl) hlen PySem.boot_len (pa_cons (pv 0) pa_nil)) (pe_glob (v := .int 32) (by rfl) g ⟨_, rfl⟩) (nomark _))), ?_⟩
    refine ⟨_, rfl, a, xs, rfl, .inl ha, _, _, rfl, rfl, ?_⟩
    show Q (V.bl (decide ((32 : Int) < (xs.length : Int)))) H
    have e : decide ((32 : Int) < (xs.length : Int)) = !decide (xs.length ≤ 32) := by
      by_cases h : xs.length ≤ 32
      · rw [decide_eq_true h, decide_eq_false (by omega)]
        rfl
      · rw [decide_eq_false h, decide_eq_true (by omega)]
        rfl
    rw [e]
    exact k
end
end Nw

end
section
set_option Elab.async false
set_option linter.all false
set_option maxRecDepth 100000
set_option maxHeartbeats 2000000
namespace Nw
open PySem PySem.Spec PyProof.Rows L2
open Sf65 (Bytes)
/-! ### what two lists have in common -/
def meetR : List Bytes → List Bytes → Nat
  | [], _ => 0
  | g :: a, b => if b.contains g = true then meetR a (b.erase g) + 1 else meetR a b
theorem meet_acc : ∀ (a : List Bytes) (n : Nat) (b : List Bytes), (a.foldl (fun (x : Nat × List Bytes) (g : Bytes) => if x.2.contains g = true then (x.1 + 1, x.2.erase g) else x) (n, b)).1 = n + meetR a b
  | [], n, b => rfl
  | g :: a, n, b => by
    have e : meetR (g :: a) b = if b.contains g = true then meetR a (b.erase g) + 1 else meetR a b := rfl
    rw [List.foldl_cons, e]
    by_cases h : b.contains g = true
    · rw [if_pos h, if_pos h, meet_acc a]
      show n + 1 + meetR a (b.erase g) = _
      omega
    · rw [if_neg h, if_neg h, meet_acc a]
theorem meet_R (a b : List Bytes) : Sf65.meet a b = meetR a b := by
  unfold Sf65.meet
  rw [meet_acc]
  omega
theorem meetR_nil : ∀ a : List Bytes, meetR a [] = 0
  | [] => rfl
  | g :: a => by
    unfold meetR
    rw [if_neg (by simp)]
    exact meetR_nil a
theorem meetR_cons : ∀ (b : List Bytes) (g : Bytes) (a : List Bytes), meetR b (g :: a) = if b.contains g = true then meetR (b.erase g) a + 1 else meetR b a
  | [], g, a => by
    rw [if_neg (by simp)]
    rfl
  | h :: b, g, a => by
    have e1 : meetR (h :: b) (g :: a) = if (g :: a).contains h = true then meetR b ((g :: a).erase h) + 1 else meetR b (g :: a) := rfl
    have e2 : ∀ c, meetR (h :: c) a = if a.contains h = true then meetR c (a.erase h) + 1 else meetR c a := fun c => rfl
    rw [e1]
    by_cases hg : h = g
    · subst hg
      rw [if_pos (by simp), if_pos (by simp), List.erase_cons_head, List.erase_cons_head]
    · have c1 : (g :: a).contains h = a.contains h := by
        rw [List.contains_cons]
        have : (h == g) = false := beq_eq_false_iff_ne.mpr hg
        rw [this, Bool.false_or]
      have c2 : (h :: b).contains g = b.contains g := by
        rw [List.contains_cons]
        have : (g == h) = false := beq_eq_false_iff_ne.mpr (fun z => hg z.symm)
        rw [this, Bool.false_or]
      have d1 : (g :: a).erase h = g :: a.erase h := List.erase_cons_tail (by simpa using fun z => hg z.symm)
      have d2 : (h :: b).erase g = h :: b.erase g := List.erase_cons_tail (by simpa using hg)
      rw [c1, c2, d1, d2, meetR_cons b, meetR_cons b, e2, e2]
      by_cases p : a.contains h = true
      · rw [if_pos p, if_pos p, if_pos p]
        split <;> rfl
      · rw [if_neg p, if_neg p, if_neg p]
theorem meetR_symm : ∀ a b : List Bytes, meetR a b = meetR b a
  | [], b => (meetR_nil b).symm
  | g :: a, b => by
    have e : meetR (g :: a) b = if b.contains g = true then meetR a (b.erase g) + 1 else meetR a b := rfl
    rw [meetR_cons b g a, e]
    by_cases h : b.contains g = true
    · rw [if_pos h, if_pos h, meetR_symm a]
    · rw [if_neg h, if_neg h, meetR_symm a]
/-- a word as a key -/
def gk (g : Bytes) : List Key := (wints g).map Sum.inl
theorem gk_v (g : Bytes) : (gk g).map kV = wv g := by
  unfold gk wv
  rw [List.map_map]
  rfl
theorem gk_inj {a b : Bytes} (h : gk a = gk b) : a = b := by
  have := congrArg (List.map kV) h
  rw [gk_v, gk_v] at this
  exact wints_inj (vint_inj this)
/-- how often each stands in the dict -/
def Cnt (kvs : List (List Key × V)) (l : List Bytes) : Prop := ∀ g : Bytes, (valV kvs (gk g)).getD (V.int 0) = V.int (l.count g : Nat)
theorem Cnt.nil : Cnt [] [] := fun g => rfl
theorem Cnt.put {kvs : List (List Key × V)} {l : List Bytes} (h : Cnt kvs l) (g : Bytes) {v : Int} (e : v = (l.count g : Nat) + 1) : Cnt (putK kvs (gk g) (V.int v)) (g :: l) := fun g' => by
  rw [valV_put]
  by_cases q : g = g'
  · subst q
    rw [if_pos rfl, List.count_cons_self, e]
    rfl
  · have : ¬ gk g = gk g' := fun z => q (gk_inj z)
    rw [List.count_cons_of_ne (by simpa using q)]
    first | rw [if_neg this] | rw [if_neg (fun z => this z.symm)]
    exact h g'
theorem Cnt.take {kvs : List (List Key × V)} {l : List Bytes} (h : Cnt kvs l) (g : Bytes) {v : Int} (e : v = (l.count g : Nat) - 1) (hm : 0 < l.count g) : Cnt (putK kvs (gk g) (V.int v)) (l.erase g) := fun g' => by
  rw [valV_put]
  by_cases q : g = g'
  · subst q
    rw [if_pos rfl, List.count_erase_self, e]
    show V.int _ = V.int _
    congr 1
    omega
  · have : ¬ gk g = gk g' := fun z => q (gk_inj z)
    rw [List.count_erase_of_ne (by simpa using fun z => q z.symm)]
    first | rw [if_neg this] | rw [if_neg (fun z => this z.symm)]
    exact h g'
theorem Cnt.perm {kvs : List (List Key × V)} {l m : List Bytes} (h : Cnt kvs l) (p : l.Perm m) : Cnt kvs m := fun g => by
  rw [h g, p.count_eq]
abbrev sCru : Stmt := top 36
abbrev sRct : Stmt := top 37
abbrev sRuns : Stmt := top 38
theorem gram_len (q : Nat) (s : Bytes) : (Sf65.grams q s).length = s.length + 1 - q := by
  unfold Sf65.grams
  rw [List.length_map, List.length_range]
theorem gram_at {q i : Nat} {s : Bytes} (h : i < s.length + 1 - q) : (Sf65.grams q s)[i]? = some ((s.drop i).take q) := by
  unfold Sf65.grams
  rw [List.getElem?_map, List.getElem?_range h]
  rfl
/-- the runs' tuples, as the heap has them -/
def RunsAt (H : Hp) (ts : List Addr) (gs : List Bytes) : Prop := ts.length = gs.length ∧ ∀ (i : Nat) (t : Addr) (g : Bytes), ts[i]? = some t → gs[i]? = some g → H t = some (.tup (wv g))
theorem RunsAt.same {H H' : Hp} {ts : List Addr} {gs : List Bytes} (h : RunsAt H ts gs) (e : Same H H') : RunsAt H' ts gs := ⟨h.1, fun i t g a b => e _ _ (h.2 i t g a b)⟩
section
variable {P : Program} {w : World} {K : PySem.W.Frag} {mg : Str → Option Value} {base : Heap}
inductive SpRunsI (K : PySem.W.Frag) (vs : List V) (H : Hp) (Q : VK) : Prop
  | mk (q : Nat) (s : Bytes) (a : Addr) (e0 : vs = [.int q, .ref a]) (e1 : 1 ≤ q) (e2 : q ≤ 1000) (e3 : s.length ≤ 1000) (e4 : SqL K H a (wv s)) (e5 : ∀ (H' : Hp) (r : Addr) (ts : List Addr), Same H H' → H r = none → H' r = some (.lst (ts.map V.ref)) → RunsAt H' ts (Sf65.grams q s) → Q (.ref r) H') : SpRunsI K vs H Q
def spRuns (K : PySem.W.Frag) : Sp := fun vs H Q _ => SpRunsI K vs H Q
theorem scRuns : FnScope ["q", "word", "place"] ["q", "word"] (defScope sRuns) := ⟨rfl, rfl, rfl, by decide +kernel, rfl, by decide +kernel, by decide +kernel⟩
def rTup (K : PySem.W.Frag) : List V → Hp → VK → Prop := fun xs H Q => ∃ p ys, xs = [V.ref p] ∧ ((SqL K H p ys ∧ ∀ l, H l = none → Q (.ref l) (upd H l (.tup ys))) ∨ (SqT K H p ys ∧ Q (.ref p) H))
theorem call_tup {X : Cx} : CallR X (.type "tuple") (rTup X.K) := call_tuple_of
theorem blkRuns : BlkOk ["q", "word", "place"] (defScope sRuns) { kind := .function, names := [(Str.ofString ".0", NameKind.local), (Str.ofString "place", NameKind.local), (Str.ofString "tuple", NameKind.globalImplicit), (Str.ofString "q", NameKind.free), (Str.ofString "word", NameKind.free)], isGenerator := false, isCoroutine := false } [("place", 2)] :=
  ⟨rfl, by decide +kernel, by decide +kernel, by decide +kernel, by decide +kernel⟩
theorem wv_cut {s : Bytes} {i q : Nat} (h : i + q ≤ s.length) : cutV (wv s) (some (i : Int)) (some ((i : Int) + (q : Int))) = wv ((s.drop i).take q) := by
  rw [show (i : Int) + (q : Int) = ((i + q : Nat) : Int) by omega, cut_mid _ (by rw [wv_len]; exact h)]
  unfold wv wints
  rw [List.map_take, List.map_take, List.map_drop, List.map_drop]
theorem ok_runs {f : Addr} {fd : FuncData} (F : Fun K "runs" "runs" sRuns f fd) (T : TxtD K mg) (hT : mg "tuple" = none) : FnOk P w K mg base CX0 1 f fd ["q", "word"] (spRuns K) := by
  refine F.ok scRuns (fun vs H Q E h => ?_) (fun cdv A outer s0 H vs Q E hr h => ?_)
  · obtain ⟨q, s, a, rfl, _⟩ := h
    rfl
  · obtain ⟨q, s, a, rfl, hq1, hq2, hsl, ha, k⟩ := h
    have nd := scRuns.nd
    refine ⟨_, pss_one (ps_ret (pe_lc (own := [("place", 2)]) rfl nd (pi_range1 rfl T.range (pa_cons (pe_op op_add (pe_op op_sub (pe_callB call_lenS (by rfl) T.len PySem.boot_len (pa_cons (pv 1) pa_nil)) (pv 0)) pe_int) pa_nil)) blkRuns
      (fun _ _ _ _ _ => pg_name (i := 2) nd rfl (Or.inl rfl)) (fun _ _ _ _ _ => pts_nil) (fun _ _ _ _ _ => pe_callTy (r := rTup K) call_tup (by rfl) hT boot_tuple (pa_cons (pe_slice (r := rSlL K) sl_list (pv 1) (po_some (pv 2)) (po_some (pe_op op_add (pv 2) (pv 0)))) pa_nil)))), ?_⟩
    refine ⟨_, rfl, a, _, rfl, .inl ha, _, rfl, _, _, rfl, rfl, _, _, rfl, rfl, _, rfl, (by rw [wv_len]; omega), (by rw [wv_len]; omega), fun D0 hD => ?_⟩
    have eN : (((wv s).length : Int) - (q : Int) + 1).toNat = s.length + 1 - q := by rw [wv_len]; omega
    rw [eN]
    refine lc_range (lo := 0) (n := s.length + 1 - q) (fun i H' => Same H H' ∧ ∃ ts : List Addr, H' D0 = some (.lst (ts.map V.ref)) ∧ RunsAt H' ts ((Sf65.grams q s).take i)) ⟨(Same.refl H).upd hD, [], upd_same, rfl, fun i t g e => by simp at e⟩ ?_ ?_
    · rintro i H1 hi ⟨s1, ts, hl, hts⟩
      refine ⟨rfl, ?_⟩
      refine (iteP (B := Same H H1 ∧ ∃ ts : List Addr, H1 D0 = some (.lst (ts.map V.ref)) ∧ RunsAt H1 ts ((Sf65.grams q s).take (i + 1))) rfl ?_ :)
      refine ⟨_, rfl, _, rfl, _, rfl, _, rfl, _, rfl, _, _, rfl, rfl, _, rfl, a, _, rfl, s1.seq ha, fun p hp => ?_⟩
      refine ⟨p, _, rfl, .inl ⟨SqL.of upd_same, fun t ht => ?_⟩⟩
      have e1 : (0 : Int) + (i : Int) = (i : Int) := by omega
      rw [e1, wv_cut (by omega)]
      have s2 : Same H1 (upd (upd H1 p (.lst (wv ((s.drop i).take q)))) t (.tup (wv ((s.drop i).take q)))) := ((Same.refl H1).upd hp).upd (by rw [e1, wv_cut (by omega)] at ht; exact ht)
      refine ⟨_, s2 _ _ hl, ?_, same_write (s1.trans s2) hD, ts ++ [t], ?_, ?_⟩
      · rw [List.length_map, hts.1, List.length_take, gram_len, sizeLine_eq]
        omega
      · rw [upd_same, List.map_append]
        rfl
      · have nt : t ≠ D0 := fun z => by
          rw [z, upd_ne (fun y => by rw [y, hp] at hl; cases hl), hl] at ht
          cases ht
        have hlen : ts.length = i := by
          rw [hts.1, List.length_take, gram_len]
          omega
        refine ⟨?_, fun j t' g h1 h2 => ?_⟩
        · rw [List.length_append, hlen, List.length_take, gram_len]
          show i + 1 = _
          omega
        · by_cases hj : j < i
          · rw [List.getElem?_append_left (by omega)] at h1
            rw [List.getElem?_take_of_lt (by omega)] at h2
            have h3 := hts.2 j t' g h1 (by rw [List.getElem?_take_of_lt hj]; exact h2)
            have n3 : t' ≠ D0 := ne_of h3 hl (by intro z; cases z)
            rw [upd_ne n3]
            exact s2 _ _ h3
          · have ej : j = i := by
              have := (List.getElem?_eq_some_iff.mp h1).1
              rw [List.length_append, hlen] at this
              simp at this
              omega
            subst ej
            rw [List.getElem?_append_right (by omega), hlen, Nat.sub_self] at h1
            have et : t = t' := by simpa using h1
            rw [List.getElem?_take_of_lt (by omega), gram_at hi] at h2
            have eg := Option.some.inj h2
            subst et eg
            rw [upd_ne nt, upd_same]
    · rintro H1 ⟨s1, ts, hl, hts⟩
      rw [List.take_of_length_le (Nat.le_of_eq (gram_len q s))] at hts
      exact k H1 D0 ts s1 hD hl hts
/-! ### run_counts -/
inductive SpRctI (K : PySem.W.Frag) (vs : List V) (H : Hp) (Q : VK) : Prop
  | mk (q : Nat) (s : Bytes) (a : Addr) (e0 : vs = [.int q, .ref a]) (e1 : 1 ≤ q) (e2 : q ≤ 1000) (e3 : s.length ≤ 1000) (e4 : SqL K H a (wv s)) (e5 : ∀ (H' : Hp) (d : Addr) (kvs : List (List Key × V)), Same H H' → H d = none → H' d = some (.dT kvs) → kvs.length ≤ 1001 → Cnt kvs (Sf65.grams q s) → Q (.ref d) H') : SpRctI K vs H Q
def spRct (K : PySem.W.Frag) : Sp := fun vs H Q _ => SpRctI K vs H Q
theorem scRct : FnScope ["q", "word", "counts", "run"] ["q", "word"] (defScope sRct) := ⟨rfl, rfl, rfl, by decide +kernel, rfl, by decide +kernel, by decide +kernel⟩
theorem dget_g {H : Hp} {d t : Addr} {kvs : List (List Key × V)} {g : Bytes} (hd : H d = some (.dT kvs)) (ht : H t = some (.tup (wv g))) : DGet H d (.ref t) (valV kvs (gk g)) := DGet.t hd (by rw [gk_v]; exact ht)
theorem dput_g {H : Hp} {d t : Addr} {kvs : List (List Key × V)} {g : Bytes} {v : V} (hd : H d = some (.dT kvs)) (ht : H t = some (.tup (wv g))) (hl : kvs.length < sizeLine) : DPut H d (.ref t) v (upd H d (.dT (putK kvs (gk g) v))) := DPut.t hd (by rw [gk_v]; exact ht) hl
theorem gram_some {q : Nat} {s : Bytes} {i : Nat} (h : i < (Sf65.grams q s).length) : ∃ g, (Sf65.grams q s)[i]? = some g := ⟨_, List.getElem?_eq_getElem h⟩
inductive RctI (a d : Addr) (q : Nat) (s : Bytes) (H1 : Hp) (i : Nat) (σ : L2.St) (H' : Hp) : Prop
  | mk (kvs : List (List Key × V)) (v3 : Option V) (e1 : σ = [some (.int q), some (.ref a), some (.ref d), v3]) (e2 : ∀ b o, H1 b = some o → b ≠ d → H' b = some o) (e3 : H' d = some (.dT kvs)) (e4 : kvs.length ≤ i) (e5 : Cnt kvs (((Sf65.grams q s).take i).reverse)) : RctI a d q s H1 i σ H'
theorem ok_rct {f fR : Addr} {fd fdR : FuncData} (F : Fun K "run_counts" "run_counts" sRct f fd) (T : TxtD K mg) (hT : mg "tuple" = none) (DR : Dfn K mg "runs" sRuns fR fdR ["q", "word"]) : FnOk P w K mg base CX0 2 f fd ["q", "word"] (spRct K) := by
  have GR : FnOk P w K mg base CX0 1 fR fdR ["q", "word"] (spRuns K) := ok_runs DR.F T hT
  refine F.ok scRct (fun vs H Q E h => ?_) (fun cdv A outer s0 H vs Q E hr h => ?_)
  · obtain ⟨q, s, a, rfl, _⟩ := h
    rfl
  · obtain ⟨q, s, a, rfl, hq1, hq2, hsl, ha, k⟩ := h
    have hu := hu_of hr
    have nd := scRct.nd
    refine ⟨_, pss_cons (ps_set (i := 2) nd rfl (Or.inl rfl) pe_dnewT)
      (pss_cons (ps_for PassesOwn.never rfl (pi_list (pe_call GR hr rfl DR.mgf DR.F.kp DR.b .nil pass0 (pa_cons (pv 0) (pa_cons (pv 1) pa_nil)))) (pg_name (i := 3) nd rfl (Or.inl rfl))
        (pss_one (ps_dput hu (pv 2) (pv 3) (pe_op op_add (pe_dget2 hu (pv 2) (pv 3) pe_int ⟨rfl, rfl, rfl, rfl⟩) pe_int) rfl)))
      (pss_one (ps_ret (pv 2)))), ?_⟩
    intro d hd
    have s1 : Same H (upd H d (.dT [])) := (Same.refl H).upd hd
    refine ⟨_, rfl, _, rfl, q, s, a, rfl, hq1, hq2, hsl, s1.seq ha, fun H1 r ts e1 fr hR hts => ?_⟩
    have hdr : r ≠ d := fun z => by rw [z, upd_same] at fr; cases fr
    refine ⟨r, rfl, ⟨_, SqL.of hR⟩, for_list (K := K) (a := r) (xs := ts.map V.ref) (RctI a d q s H1) ⟨[], none, rfl, fun _ _ h _ => h, e1 _ _ upd_same, Nat.le_refl _, Cnt.nil⟩ (fun i σ H' _ ⟨_, _, _, kp, _, _, _⟩ => SqL.of (kp _ _ hR hdr)) ?_ ?_⟩
    · rintro i y σ H2 hi ⟨kvs, v3, rfl, kp, hd2, hl2, hc⟩
      have hil : i < (Sf65.grams q s).length := by
        have := (List.getElem?_eq_some_iff.mp hi).1
        rwa [List.length_map, hts.1] at this
      obtain ⟨g, hg⟩ := gram_some hil
      obtain ⟨t, ht⟩ : ∃ t, ts[i]? = some t := ⟨_, List.getElem?_eq_getElem (by rw [hts.1]; exact hil)⟩
      rw [List.getElem?_map, ht] at hi
      obtain rfl := Option.some.inj hi
      have h1 := hts.2 i t g ht hg
      have h2 := kp _ _ h1 (ne_of h1 (e1 _ _ upd_same) (by intro z; cases z))
      have gl := gram_len q s
      refine ⟨_, rfl, d, rfl, .inr ⟨kvs, .inl hd2⟩, _, rfl, _, dget_g hd2 h2, ?_⟩
      rw [hc g]
      refine ⟨_, _, rfl, rfl, _, rfl, _, rfl, d, _, rfl, dput_g hd2 h2 (by rw [sizeLine_eq]; omega), ?_⟩
      refine ⟨_, _, rfl, fun b o hb hn => ?_, upd_same, ?_, ?_⟩
      · rw [upd_ne hn]
        exact kp b o hb hn
      · exact Nat.le_trans (length_putK _ _ _) (by omega)
      · have := hc.put g (v := ((((Sf65.grams q s).take i).reverse.count g : Nat) : Int) + 1) rfl
        rw [List.take_add_one, hg, Option.toList_some, List.reverse_append]
        exact this
    · rintro σ H2 ⟨kvs, v3, rfl, kp, hd2, hl2, hc⟩
      rw [List.length_map, hts.1, List.take_length] at hc
      rw [List.length_map, hts.1, gram_len] at hl2
      exact ⟨_, rfl, k H2 d kvs (fun b o hb => kp b o (e1 b o (s1 b o hb)) (ne_of_none hb hd)) hd hd2 (by omega) (hc.perm (List.reverse_perm _))⟩
/-! ### common_runs -/
inductive SpCruI (K : PySem.W.Frag) (vs : List V) (H : Hp) (Q : VK) : Prop
  | mk (q : Nat) (s t : Bytes) (a b : Addr) (e0 : vs = [.int q, .ref a, .ref b]) (e1 : 1 ≤ q) (e2 : q ≤ 1000) (e3 : s.length ≤ 1000) (e4 : t.length ≤ 1000) (e5 : SqL K H a (wv s)) (e6 : SqL K H b (wv t)) (e7 : ∀ H' : Hp, Same H H' → Q (.int (Sf65.meet (Sf65.grams q s) (Sf65.grams q t) : Nat)) H') : SpCruI K vs H Q
def spCru (K : PySem.W.Frag) : Sp := fun vs H Q _ => SpCruI K vs H Q
theorem scCru : FnScope ["q", "s", "t", "left", "found", "run"] ["q", "s", "t"] (defScope sCru) := ⟨rfl, rfl, rfl, by decide +kernel, rfl, by decide +kernel, by decide +kernel⟩
inductive CruI (a b d : Addr) (q : Nat) (s t : Bytes) (H2 : Hp) (i : Nat) (σ : L2.St) (H' : Hp) : Prop
  | mk (kvs : List (List Key × V)) (n : Nat) (l : List Bytes) (v5 : Option V) (e1 : σ = [some (.int q), some (.ref a), some (.ref b), some (.ref d), some (.int n), v5]) (e2 : ∀ b o, H2 b = some o → b ≠ d → H' b = some o) (e3 : H' d = some (.dT kvs)) (e4 : kvs.length ≤ 1001 + i) (e5 : Cnt kvs l)
      (e6 : n + meetR ((Sf65.grams q t).drop i) l = meetR (Sf65.grams q t) (Sf65.grams q s)) : CruI a b d q s t H2 i σ H'
theorem ok_cru {f fR fC : Addr} {fd fdR fdC : FuncData} (F : Fun K "common_runs" "common_runs" sCru f fd) (T : TxtD K mg) (hT : mg "tuple" = none) (DR : Dfn K mg "runs" sRuns fR fdR ["q", "word"]) (DC : Dfn K mg "run_counts" sRct fC fdC ["q", "word"]) :
    FnOk P w K mg base CX0 3 f fd ["q", "s", "t"] (spCru K) := by
  have GR : FnOk P w K mg base CX0 2 fR fdR ["q", "word"] (spRuns K) := (ok_runs DR.F T hT).mono (by decide)
  have GC : FnOk P w K mg base CX0 2 fC fdC ["q", "word"] (spRct K) := ok_rct DC.F T hT DR
  refine F.ok scCru (fun vs H Q E h => ?_) (fun cdv A outer s0 H vs Q E hr h => ?_)
  · obtain ⟨q, s, t, a, b, rfl, _⟩ := h
    rfl
  · obtain ⟨q, s, t, a, b, rfl, hq1, hq2, hsl, htl, ha, hb, k⟩ := h
    have hu := hu_of hr
    have nd := scCru.nd
    refine ⟨_, pss_cons (ps_set (i := 3) nd rfl (Or.inl rfl) (pe_call GC hr rfl DC.mgf DC.F.kp DC.b .nil pass0 (pa_cons (pv 0) (pa_cons (pv 1) pa_nil))))
      (pss_cons (ps_set (i := 4) nd rfl (Or.inl rfl) pe_int)
      (pss_cons (ps_for PassesOwn.never rfl (pi_list (pe_call GR hr rfl DR.mgf DR.F.kp DR.b .nil pass0 (pa_cons (pv 0) (pa_cons (pv 2) pa_nil)))) (pg_name (i := 5) nd rfl (Or.inl rfl))
        (pss_one (ps_if (pt_cmpR op_gt (pe_dget2 hu (pv 3) (pv 5) pe_int ⟨rfl, rfl, rfl, rfl⟩) pe_int (nomark _))
          (pss_cons (ps_daug hu (pv 3) (pv 5) pe_int in_sub (fun _ _ _ => rfl)) (pss_one (ps_aug (i := 4) nd rfl (Or.inl rfl) pe_int ip_add))) pss_nil)))
      (pss_one (ps_ret (pv 4))))), ?_⟩
    refine ⟨_, rfl, _, rfl, q, s, a, rfl, hq1, hq2, hsl, ha, fun H1 d kvs0 e1 hd hd1 hl1 hc0 => ?_⟩
    refine ⟨_, rfl, _, rfl, q, t, b, rfl, hq1, hq2, htl, e1.seq hb, fun H2 r ts e2 fr hR hts => ?_⟩
    have hdr : r ≠ d := fun z => by rw [z, hd1] at fr; cases fr
    refine ⟨r, rfl, ⟨_, SqL.of hR⟩, for_list (K := K) (a := r) (xs := ts.map V.ref) (CruI a b d q s t H2) ⟨kvs0, 0, _, none, rfl, fun _ _ h _ => h, e2 _ _ hd1, hl1, hc0, by rw [List.drop_zero]; omega⟩ (fun i σ H' _ ⟨_, _, _, _, _, kp, _, _, _, _⟩ => SqL.of (kp _ _ hR hdr)) ?_ ?_⟩
    · rintro i y σ H3 hi ⟨kvs, n, l, v5, rfl, kp, hd2, hl2, hc, inv⟩
      have hil : i < (Sf65.grams q t).length := by
        have := (List.getElem?_eq_some_iff.mp hi).1
        rwa [List.length_map, hts.1] at this
      obtain ⟨g, hg⟩ := gram_some hil
      obtain ⟨u, ht⟩ : ∃ u, ts[i]? = some u := ⟨_, List.getElem?_eq_getElem (by rw [hts.1]; exact hil)⟩
      rw [List.getElem?_map, ht] at hi
      obtain rfl := Option.some.inj hi
      have h1 := hts.2 i u g ht hg
      have h2 := kp _ _ h1 (ne_of h1 (e2 _ _ hd1) (by intro z; cases z))
      have gl := gram_len q t
      have hdrop : (Sf65.grams q t).drop i = g :: (Sf65.grams q t).drop (i + 1) := by
        rw [List.drop_eq_getElem_cons hil]
        have := List.getElem?_eq_getElem hil
        rw [hg] at this
        rw [← Option.some.inj this]
      rw [hdrop] at inv
      have im : meetR (g :: (Sf65.grams q t).drop (i + 1)) l = if l.contains g = true then meetR ((Sf65.grams q t).drop (i + 1)) (l.erase g) + 1 else meetR ((Sf65.grams q t).drop (i + 1)) l := rfl
      rw [im] at inv
      refine ⟨_, rfl, d, rfl, .inr ⟨kvs, .inl hd2⟩, _, rfl, _, dget_g hd2 h2, ?_⟩
      rw [hc g]
      refine ⟨_, _, rfl, rfl, _, rfl, ?_⟩
      by_cases hp : 0 < l.count g
      · have hm : l.contains g = true := by
          rw [List.contains_iff_mem]
          exact List.count_pos_iff.mp hp
        rw [if_pos hm] at inv
        have hv : valV kvs (gk g) = some (V.int (l.count g : Nat)) := by
          have := hc g
          cases e : valV kvs (gk g) with
          | none =>
            rw [e] at this
            have z : (V.int 0) = V.int (l.count g : Nat) := this
            injection z with z
            omega
          | some v =>
            rw [e] at this
            exact congrArg some this
        refine iteP (decide_eq_true (by omega)) ⟨_, rfl, _, rfl, d, _, rfl, (by have g0 := dget_g hd2 h2; rw [hv] at g0; exact g0), _, _, rfl, rfl, _, dput_g hd2 h2 (by rw [sizeLine_eq]; omega), _, rfl, _, _, rfl, rfl, ?_⟩
        refine ⟨_, n + 1, _, _, rfl, fun b o hb hn => ?_, upd_same, ?_, hc.take g rfl hp, by omega⟩
        · rw [upd_ne hn]
          exact kp b o hb hn
        · exact Nat.le_trans (length_putK _ _ _) (by omega)
      · have hm : ¬ l.contains g = true := fun z => by
          rw [List.contains_iff_mem] at z
          exact hp (List.count_pos_iff.mpr z)
        rw [if_neg hm] at inv
        exact iteN (decide_eq_false (by omega)) ⟨kvs, n, l, _, rfl, kp, hd2, by omega, hc, inv⟩
    · rintro σ H3 ⟨kvs, n, l, v5, rfl, kp, hd2, hl2, hc, inv⟩
      rw [List.length_map, hts.1, List.drop_length] at inv
      have e : n = Sf65.meet (Sf65.grams q s) (Sf65.grams q t) := by
        rw [meet_R, meetR_symm]
        have : meetR [] l = 0 := rfl
        omega
      rw [e]
      exact ⟨_, rfl, k H3 fun b o hb => kp b o (e2 b o (e1 b o hb)) (ne_of_none hb hd)⟩
end
end Nw

end
section
set_option Elab.async false
set_option linter.all false
set_option maxRecDepth 100000
set_option maxHeartbeats 2000000
namespace L2
open PySem PySem.Spec PyProof.Rows
/-! ### len of a dict whose keys are tuples -/
theorem meets_lenT {prog : Program} {w : World} (d : Addr) (hd : (d == sysModules) = false) (n : Nat) :
    MeetsIn prog w (Builtin.«dict.__len__» ⟨[.ref d], []⟩) (fun _ R s => ∃ o es ep, s.heap.get? d = some o ∧ o.data = .dict es ep ∧ es.size = n ∧ R (.ok (.ret (.int n s.toks))) { s with toks := s.toks + 1 }) :=
  .of_wp fun A R s h => by
    obtain ⟨o, es, ep, ho, hdat, hn, h⟩ := h
    show wpAny _ _ (dictSize d >>= fun k => Builtin.Dict.pendingCount d >>= _) _ _ s
    refine wpAny_bind (m := dictSize d) ?_
    unfold dictSize
    refine wpAny_bind (wpAny_dictEntries ho hdat (wpAny_pure (wpAny_bind (wpAny_pendingCount_other hd (wpAny_ret_mkInt ?_)))))
    rw [Nat.add_zero, hn]
    exact h
theorem len_dT {prog : Program} {w : World} {A : Around} {E : Value → Shared → Prop} {s : Shared} {d : Addr} {o : Obj} {es : Array DictEntry} {ep n : Nat} {Q : Value → Shared → Prop} (hd : (d == sysModules) = false) (ho : s.heap.get? d = some o) (hx : o.ExactDict) (hdat : o.data = .dict es ep) (hn : es.size = n) (hfit : (n : Int) < 2 ^ 63)
    (h : Q (.int n (s.toks + 1)) { s with toks := s.toks + 1 + 1 }) : wpAny (model prog w) A (call (.builtin "len") [.ref d]) Q E s := by
  have hT : s.TypeIs (.ref d) "dict" := ⟨o, ho, hx.1⟩
  refine Calls.call_function_entry kind_len plain_len entry_len (args_len1 _) ?_
  unfold Builtin.«len»
  refine wpAny_bind (m := oneArg "len" _) (wpAny_pure (wpAny_bind (m := callSpecial? (.ref d) (Str.ofString "__len__")) (wpAny_callSpecial?_slot (name := Str.ofString "__len__") hT F.slot_dict_len
    (call_meetsIn F.slot_dict_len hT F.entry_dict_len (F.args_dict_len_1 _) (meets_lenT d hd n) ⟨o, es, ep, ho, hdat, hn, ?_⟩))))
  show wpAny _ _ _ _ _ { s with toks := s.toks + 1 }
  refine wpAny_bind (wpAny_holding (wpAny_pure (wpAny_bind (wpAny_letGo ?_))))
  show wpAny _ _ (if ((n : Nat) : Int) < 0 then _ else (if ((n : Nat) : Int) ≥ 2 ^ 63 then _ else _)) _ _ _
  rw [if_neg (by omega), if_neg (by omega)]
  exact wpAny_bind (wpAny_mkInt (wpAny_pure ⟨_, rfl, h⟩))
theorem call_lenT {X : Cx} : CallR X (.builtin "len") (fun xs H Q => ∃ a kvs, xs = [V.ref a] ∧ H a = some (.dT kvs) ∧ Q (.int kvs.length) H) := by
  intro pins s σ H xs us Q I r h
  obtain ⟨a, kvs, rfl, ha, q⟩ := h
  obtain ⟨u, rfl, ru⟩ := vals1 r
  cases ru
  obtain ⟨z, hd, ys, rel, o, es, ep, h1, h2, h3, h4, _⟩ := dt_of I.hok ha
  have hn : es.size = kvs.length := (size_of_entries h4).trans (Paired.length rel).symm
  exact len_dT hd h1 h2 h3 hn (by rw [sizeLine_eq] at z; omega) ⟨.int kvs.length, H, I.tok _, ⟨_, rfl⟩, q⟩
/-- over the keys of a locked dict, tuples -/
theorem for_keysT {d : Addr} {o : Obj} {kvs : List (List Key × V)} {g : TG} {tb : TS} {D : Ends} {σ : St} {H : Hp} (Pv : Nat → St → Hp → Prop) (h0 : Pv 0 σ H) (hl : ∀ i σ H, Pv i σ H → H d = some (.frz o (.dT kvs)))
    (hs : ∀ i k v q σ H, kvs[i]? = some (k, v) → H q = some (.tup (k.map kV)) → Pv i σ H → g (.ref q) σ H fun σ2 H2 => tb { D with nx := Pv (i + 1), ct := Pv (i + 1), bk := D.nx } σ2 H2) (hd : ∀ σ H, Pv kvs.length σ H → D.nx σ H) :
    ∃ W : Nat → Nat → St → Hp → Prop, (∃ m, W 0 m σ H) ∧ ∀ i m σ H, W i m σ H →
      ((Itkt d o kvs).stop i H ∧ D.nx σ H) ∨ ((Itkt d o kvs).go i H ∧ ∃ N : St → Hp → Prop, (∀ σ' H', N σ' H' → ∃ m', m' < m ∧ W (i + 1) m' σ' H') ∧ ∀ x H', (Itkt d o kvs).yld i H x H' → g x σ H' fun σ2 H2 => tb { D with nx := N, ct := N, bk := D.nx } σ2 H2) := by
  refine ⟨fun i m σ H => m = kvs.length - i ∧ i ≤ kvs.length ∧ Pv i σ H, ⟨kvs.length, rfl, Nat.zero_le _, h0⟩, fun i m σ H w => ?_⟩
  obtain ⟨em, hi, p⟩ := w
  subst em
  by_cases hlt : i < kvs.length
  · refine .inr ⟨⟨hl i σ H p, hlt⟩, Pv (i + 1), fun σ' H' p' => ⟨kvs.length - (i + 1), by omega, rfl, hlt, p'⟩, fun x H' y => ?_⟩
    obtain ⟨eH, k, v, q, e1, e2, e3⟩ := y
    subst eH e2
    exact hs i k v q σ _ e1 e3 p
  · obtain rfl : i = kvs.length := by omega
    exact .inl ⟨⟨hl _ σ H p, Nat.le_refl _⟩, hd σ H p⟩
end L2
namespace Nw
open PySem PySem.Spec PyProof.Rows L2
open Sf65 (Bytes)
abbrev sNor : Stmt := top 47
abbrev sDin : Stmt := inClass (top 21) 0
abbrev sDad : Stmt := inClass (top 21) 1
abbrev sDwi : Stmt := inClass (top 21) 2
abbrev sDne : Stmt := inClass (top 21) 3
/-- the dictionary's attributes -/
def df (D : Addr) : List (Str × V) := putF "words" (.ref D) []
theorem df_words (D : Addr) : (df D).lookup ("words" : Str) = some (.ref D) := by
  unfold df
  rw [lookup_putF, if_pos rfl]
theorem df_no (D : Addr) {m : Str} (h : ¬ m = "words") : (df D).lookup m = none := by
  unfold df
  rw [lookup_putF, if_neg h]
  all_goals rfl
/-- a Dictionary stands at p, its dict at D, with the words d -/
structure DiAt (C : Addr) (H : Hp) (p D : Addr) (d : List Bytes) : Prop where
  ins : ∃ dx, H p = some (.ins C dx (df D))
  dic : ∃ kvs : List (List Key × V), H D = some (.dT kvs) ∧ kvs.map (·.1) = d.map gk
theorem DiAt.same {C : Addr} {H H' : Hp} {p D : Addr} {d : List Bytes} (x : DiAt C H p D d) (e : Same H H') : DiAt C H' p D d := by
  obtain ⟨dx, h1⟩ := x.ins
  obtain ⟨kvs, h2, h3⟩ := x.dic
  exact ⟨⟨dx, e _ _ h1⟩, kvs, e _ _ h2, h3⟩
structure TxtC (K : PySem.W.Frag) (mg : Str → Option Value) (C : Addr) : Prop where
  cl : Cls K C
  nW : NoAttr K C "words"
  mgC : mg "Dictionary" = some (.ref C)
  mw : ∃ t, mg "MOST_WORDS" = some (.int 256 t)
  ad : ∃ t, mg "ADDED" = some (.int 0 t)
  ia : ∃ t, mg "IN_ALREADY" = some (.int 1 t)
  fu : ∃ t, mg "FULL" = some (.int (-2) t)
  ns : ∃ t, mg "NONE_SO_NEAR" = some (.int (-2) t)
  tup : mg "tuple" = none
  abs : mg "abs" = none
  srt : mg "sorted" = none
section
variable {P : Program} {w : World} {K : PySem.W.Frag} {mg : Str → Option Value} {base : Heap}
inductive SpNorI (vs : List V) (H : Hp) (Q : VK) : Prop
  | mk (y : Int) (e0 : vs = [.int y]) (e1 : Q (.bl (!Sf65.within y 1 32)) H) : SpNorI  vs H Q
def spNor : Sp := fun vs H Q _ => SpNorI  vs H Q
theorem scNor : FnScope ["q"] ["q"] (defScope sNor) := ⟨rfl, rfl, rfl, by decide +kernel, rfl, by decide +kernel, by decide +kernel⟩
theorem ok_nor {f : Addr} {fd : FuncData} (F : Fun K "no_such_run" "no_such_run" sNor f fd) (T : TxtW mg) : FnOk P w K mg base CX0 1 f fd ["q"] spNor := by
  refine F.ok scNor (fun vs H Q E h => ?_) (fun cdv A outer s H vs Q E hr h => ?_)
  · obtain ⟨y, rfl, _⟩ := h
    rfl
  · obtain ⟨y, rfl, k⟩ := h
    obtain ⟨_, g⟩ := T.lo
    refine ⟨_, pss_one (ps_ret (pe_or (pe_cmpR op_lt (pv 0) pe_int (nomark _)) (pe_one (pe_cmpR op_gt (pv 0) (pe_glob (v := .int 32) (by rfl) g ⟨_, rfl⟩) (nomark _))))), ?_⟩
    refine ⟨_, rfl, _, _, rfl, rfl, _, rfl, ?_⟩
    unfold Sf65.within at k
    by_cases h0 : y < 1
    · refine iteP (decide_eq_true h0) ?_
      rw [decide_eq_false (show ¬ (((1 : Nat) : Int) ≤ y) by omega)] at k
      exact k
    · refine iteN (decide_eq_false h0) ⟨_, rfl, _, _, rfl, rfl, ?_⟩
      show Q (V.bl (decide (32 < y))) H
      rw [decide_eq_true (show ((1 : Nat) : Int) ≤ y by omega), Bool.true_and] at k
      by_cases h3 : 32 < y
      · rw [decide_eq_true h3]
        rw [decide_eq_false (show ¬ y ≤ ((32 : Nat) : Int) by omega)] at k
        exact k
      · rw [decide_eq_false h3]
        rw [decide_eq_true (show y ≤ ((32 : Nat) : Int) by omega)] at k
        exact k
/-! ### Dictionary -/
inductive SpDinI (C : Addr) (vs : List V) (H : Hp) (Q : VK) : Prop
  | mk (p dx : Addr) (e0 : vs = [.ref p]) (e1 : H p = some (.ins C dx [])) (e2 : ∀ (H' : Hp) (D : Addr), DiAt C H' p D [] → Keep p H H' → H D = none → Q .non H') : SpDinI C vs H Q
def spDin (C : Addr) : Sp := fun vs H Q _ => SpDinI C vs H Q
theorem scDin : FnScope ["self"] ["self"] (defScope sDin) := ⟨rfl, rfl, rfl, by decide +kernel, rfl, by decide +kernel, by decide +kernel⟩
theorem ok_din {f C : Addr} {fd : FuncData} (F : Fun K "__init__" "Dictionary.__init__" sDin f fd) (T : TxtC K mg C) : FnOk P w K mg base CX0 1 f fd ["self"] (spDin C) := by
  refine F.ok scDin (fun vs H Q E h => ?_) (fun cdv A outer s H vs Q E hr h => ?_)
  · obtain ⟨p, dx, rfl, _⟩ := h
    rfl
  · obtain ⟨p, dx, rfl, hp, k⟩ := h
    refine ⟨_, pss_one (ps_fld (pv 0) pe_dnewT rfl), ?_⟩
    intro D hD
    have np : p ≠ D := fun z => by rw [← z, hp] at hD; cases hD
    refine ⟨_, rfl, p, C, dx, [], rfl, (by rw [upd_ne np]; exact hp), T.cl, T.nW, (by show 0 < 1000; decide), ?_⟩
    refine k _ D ⟨⟨dx, upd_same⟩, [], by rw [upd_ne (fun z => np z.symm), upd_same], rfl⟩ (Keep.trans (Keep.of ((Same.refl H).upd hD)) Keep.put) hD
/-- add's answer, and the words then -/
def addI (d : List Bytes) (s : Bytes) : Int := if d.contains s = true then 1 else if 256 ≤ d.length then -2 else 0
def addD (d : List Bytes) (s : Bytes) : List Bytes := if d.contains s = true then d else if 256 ≤ d.length then d else d ++ [s]
inductive SpDadI (K : PySem.W.Frag) (C : Addr) (vs : List V) (H : Hp) (Q : VK) : Prop
  | mk (p a D : Addr) (d : List Bytes) (s : Bytes) (e0 : vs = [.ref p, .ref a]) (e1 : DiAt C H p D d) (e2 : SqL K H a (wv s)) (e3 : d.length ≤ 1000) (e4 : ∀ H' : Hp, DiAt C H' p D (addD d s) → Keep D H H' → Q (.int (addI d s)) H') : SpDadI K C vs H Q
def spDad (K : PySem.W.Frag) (C : Addr) : Sp := fun vs H Q _ => SpDadI K C vs H Q
theorem scDad : FnScope ["self", "word", "kept"] ["self", "word"] (defScope sDad) := ⟨rfl, rfl, rfl, by decide +kernel, rfl, by decide +kernel, by decide +kernel⟩
theorem in_words {kvs : List (List Key × V)} {d : List Bytes} (h : kvs.map (·.1) = d.map gk) (s : Bytes) : (valV kvs (gk s)).isSome = d.contains s := by
  cases e : valV kvs (gk s) with
  | none =>
    have n := valV_not e
    rw [h] at n
    cases c : d.contains s with
    | false => rfl
    | true =>
      rw [List.contains_iff_mem] at c
      exact (n (List.mem_map.mpr ⟨s, c, rfl⟩)).elim
  | some v =>
    have m := valV_in e
    rw [h] at m
    obtain ⟨z, hz, ez⟩ := List.mem_map.mp m
    rw [← gk_inj ez]
    exact (List.contains_iff_mem.mpr hz).symm
theorem ok_dad {f C : Addr} {fd : FuncData} (F : Fun K "add" "Dictionary.add" sDad f fd) (T : TxtC K mg C) (hlen : mg "len" = none) : FnOk P w K mg base CX0 1 f fd ["self", "word"] (spDad K C) := by
  refine F.ok scDad (fun vs H Q E h => ?_) (fun cdv A outer s H vs Q E hr h => ?_)
  · obtain ⟨p, a, D, d, s, rfl, _⟩ := h
    rfl
  · obtain ⟨p, a, D, d, s, rfl, hd, ha, hdl, k⟩ := h
    have hu := hu_of hr
    have nd := scDad.nd
    obtain ⟨_, g1⟩ := T.mw
    obtain ⟨_, g2⟩ := T.ad
    obtain ⟨_, g3⟩ := T.ia
    obtain ⟨_, g4⟩ := T.fu
    refine ⟨_, pss_cons (ps_set (i := 2) nd rfl (Or.inl rfl) (pe_callTy (r := rTup K) call_tup (by rfl) T.tup boot_tuple (pa_cons (pv 1) pa_nil)))
      (pss_cons (ps_if (pt_cmp (pc_din hu (pv 2) (pe_fld (pv 0) rfl)) rfl) (pss_one (ps_ret (pe_glob (v := .int 1) (by rfl) g3 ⟨_, rfl⟩))) pss_nil)
      (pss_cons (ps_if (pt_cmpR op_ge (pe_callB call_lenT (by rfl) hlen PySem.boot_len (pa_cons (pe_fld (pv 0) rfl) pa_nil)) (pe_glob (v := .int 256) (by rfl) g1 ⟨_, rfl⟩) (nomark _)) (pss_one (ps_ret (pe_glob (v := .int (-2)) (by rfl) g4 ⟨_, rfl⟩))) pss_nil)
      (pss_cons (ps_dput hu (pe_fld (pv 0) rfl) (pv 2) pe_bl rfl)
      (pss_one (ps_ret (pe_glob (v := .int 0) (by rfl) g2 ⟨_, rfl⟩)))))), ?_⟩
    refine ⟨_, rfl, a, _, rfl, .inl ⟨ha, fun t ht => ?_⟩⟩
    have s1 : Same H (upd H t (.tup (wv s))) := (Same.refl H).upd ht
    have hd1 := hd.same s1
    obtain ⟨dx, hp⟩ := hd1.ins
    obtain ⟨kvs, hD, hk⟩ := hd1.dic
    have hkl : kvs.length = d.length := by
      have := congrArg List.length hk
      rwa [List.length_map, List.length_map] at this
    refine ⟨_, rfl, _, rfl, p, C, dx, _, _, rfl, hp, T.cl, T.nW, df_words _, D, _, rfl, dget_g hD upd_same, _, rfl, ?_⟩
    rw [in_words hk]
    unfold addI addD at k
    by_cases hc : d.contains s = true
    · rw [if_pos hc, if_pos hc] at k
      exact iteP hc (k _ hd1 (Keep.of s1))
    · rw [if_neg hc, if_neg hc] at k
      refine iteN (by simpa using hc) ⟨_, rfl, p, C, dx, _, _, rfl, hp, T.cl, T.nW, df_words _, D, _, rfl, hD, _, _, rfl, rfl, _, rfl, ?_⟩
      rw [hkl]
      by_cases hm : 256 ≤ d.length
      · rw [if_pos hm, if_pos hm] at k
        exact iteP (decide_eq_true (by omega)) (k _ hd1 (Keep.of s1))
      · rw [if_neg hm, if_neg hm] at k
        refine iteN (decide_eq_false (by omega)) ⟨_, rfl, p, C, dx, _, _, rfl, hp, T.cl, T.nW, df_words _, _, rfl, D, _, rfl, dput_g hD upd_same (by rw [sizeLine_eq]; omega), ?_⟩
        have nv : valV kvs (gk s) = none := by
          have := in_words hk s
          cases e : valV kvs (gk s) with
          | none => rfl
          | some v =>
            rw [e] at this
            exact (hc this.symm).elim
        have np : p ≠ D := ne_of hp hD (by intro z; cases z)
        refine k _ ⟨⟨dx, by rw [upd_ne np]; exact hp⟩, _, upd_same, ?_⟩ (Keep.trans (Keep.of s1) Keep.put)
        rw [putK_new _ nv, List.map_append, List.map_append, hk]
        rfl
end
end Nw

end
section
set_option Elab.async false
set_option linter.all false
set_option maxRecDepth 100000
set_option maxHeartbeats 2000000
namespace Nw
open PySem PySem.Spec PyProof.Rows L2
open Sf65 (Bytes)
/-! ### no word is nearer than its length -/
theorem D_geS (way : Nat) (s t : Bytes) {i : Nat} (hi : i ≤ s.length) : ∀ j, j ≤ t.length → i ≤ D way s t i j + j
  | 0, _ => by rw [D_left way s t hi]; omega
  | j + 1, hj => by
    have := D_geS way s t hi j (by omega)
    have := D_backR way s t hj i hi
    omega
theorem D_geT (way : Nat) (s t : Bytes) {j : Nat} (hj : j ≤ t.length) : ∀ i, i ≤ s.length → j ≤ D way s t i j + i
  | 0, _ => by rw [D_zero way s t hj]; omega
  | i + 1, hi => by
    have := D_geT way s t hj i (by omega)
    have := D_backD way s t hi j hj
    omega
theorem far_ge {way : Nat} {s t : Bytes} {n : Nat} (h : Sf93.far way s t = some n) : s.length ≤ n + t.length ∧ t.length ≤ n + s.length := by
  by_cases h3 : way = 3
  · unfold Sf93.far at h
    rw [if_pos h3] at h
    by_cases e : s.length = t.length
    · omega
    · rw [if_neg e] at h
      cases h
  · rw [far_D way s t h3] at h
    have := Option.some.inj h
    have := D_geS way s t (Nat.le_refl s.length) t.length (Nat.le_refl _)
    have := D_geT way s t (Nat.le_refl t.length) s.length (Nat.le_refl _)
    omega
/-- the word, if it is within reach -/
def pick (way : Nat) (s : Bytes) (k : Int) (w : Bytes) : Option (Nat × Bytes) := if k < 0 then none else match Sf93.far way s w with
  | some n => if n ≤ k.toNat then some (n, w) else none
  | none => none
def reachI (way : Nat) (d : List Bytes) (s : Bytes) (k : Int) : List (Nat × Bytes) := d.filterMap (pick way s k)
theorem reachI_neg {way : Nat} {d : List Bytes} {s : Bytes} {k : Int} (h : k < 0) : reachI way d s k = [] := by
  unfold reachI
  rw [List.filterMap_eq_nil_iff]
  intro a _
  unfold pick
  rw [if_pos h]
theorem reachI_pos {way : Nat} {d : List Bytes} {s : Bytes} {k : Int} (h : ¬ k < 0) : reachI way d s k = reach way d s k.toNat := by
  unfold reachI reach
  congr 1
  funext a
  unfold pick
  rw [if_neg h]
  all_goals (cases Sf93.far way s a <;> rfl)
theorem pick_far {way : Nat} {s w : Bytes} {k : Int} : pick way s k w = if (if ((w.length : Int) - (s.length : Int)) < 0 then -((w.length : Int) - (s.length : Int)) else ((w.length : Int) - (s.length : Int))) ≤ k ∧ ¬ farI way s w = -2 ∧ farI way s w ≤ k then some ((farI way s w).toNat, w) else none := by
  cases e : Sf93.far way s w with
  | none =>
    have ef : farI way s w = -2 := by
      unfold farI
      rw [e]
    rw [ef, if_neg (fun z => z.2.1 rfl)]
    unfold pick
    rw [e]
    split <;> rfl
  | some n =>
    have := far_ge e
    have ef : farI way s w = (n : Int) := by
      unfold farI
      rw [e]
    rw [ef]
    unfold pick
    rw [e]
    simp only
    by_cases hk : k < 0
    · rw [if_pos hk, if_neg]
      rintro ⟨h, _⟩
      split at h <;> omega
    · rw [if_neg hk]
      by_cases hn : n ≤ k.toNat
      · rw [if_pos hn, if_pos]
        · rfl
        · refine ⟨?_, by omega, by omega⟩
          split <;> omega
      · rw [if_neg hn, if_neg]
        rintro ⟨_, _, h⟩
        omega
section
variable {P : Program} {w : World} {K : PySem.W.Frag} {mg : Str → Option Value} {base : Heap}
inductive SpDwiI (K : PySem.W.Frag) (C : Addr) (vs : List V) (H : Hp) (Q : VK) : Prop
  | mk (p a D : Addr) (d : List Bytes) (way : Nat) (k : Int) (s : Bytes) (e0 : vs = [.ref p, .int way, .int k, .ref a]) (e1 : DiAt C H p D d) (e2 : SqL K H a (wv s)) (e3 : way ≤ 3) (e4 : s.length ≤ 1000) (e5 : d.length ≤ 1000) (e6 : (∀ w ∈ d, w.length ≤ 1000)) (e7 : ∀ (H' : Hp) (r : Addr) (fs : List Fnd), Same H H' → H r = none → H' r = some (.lst (fs.map fun x => V.ref x.t)) → (∀ x ∈ fs, FndAt H' x) → fs.map Fnd.k = reachI way d s k → Q (.ref r) H') : SpDwiI K C vs H Q
def spDwi (K : PySem.W.Frag) (C : Addr) : Sp := fun vs H Q _ => SpDwiI K C vs H Q
theorem scDwi : FnScope ["self", "way", "k", "s", "found", "word", "far"] ["self", "way", "k", "s"] (defScope sDwi) := ⟨rfl, rfl, rfl, by decide +kernel, rfl, by decide +kernel, by decide +kernel⟩
theorem FndAt.keep {H H' : Hp} {x : Fnd} (h : FndAt H x) (k : ∀ b ys, H b = some (.tup ys) → H' b = some (.tup ys)) : FndAt H' x := ⟨k _ _ h.1, k _ _ h.2⟩
inductive DwiI (p a F0 D : Addr) (way : Nat) (k : Int) (s : Bytes) (d : List Bytes) (od : Obj) (kvs : List (List Key × V)) (H : Hp) (i : Nat) (σ : L2.St) (H' : Hp) : Prop
  | mk (fs : List Fnd) (v5 v6 : Option V) (e1 : σ = [some (.ref p), some (.int way), some (.int k), some (.ref a), some (.ref F0), v5, v6]) (e2 : ∀ b o, H b = some o → b ≠ D → H' b = some o) (e3 : H' D = some (.frz od (.dT kvs))) (e4 : H' F0 = some (.lst (fs.map fun x => V.ref x.t)))
      (e5 : ∀ x ∈ fs, FndAt H' x) (e6 : fs.map Fnd.k = reachI way (d.take i) s k) : DwiI p a F0 D way k s d od kvs H i σ H'
theorem ok_dwi {f C : Addr} {fd : FuncData} (F : Fun K "within" "Dictionary.within" sDwi f fd) (T : TxtC K mg C) (TD : TxtD K mg) (W : How P w K mg base) : FnOk P w K mg base CX0 5 f fd ["self", "way", "k", "s"] (spDwi K C) := by
  obtain ⟨fW, fdW, mgW, kW, bW, GW⟩ := W.ex
  refine F.ok scDwi (fun vs H Q E h => ?_) (fun cdv A outer s0 H vs Q E hr h => ?_)
  · obtain ⟨p, a, D, d, way, k, s, rfl, _⟩ := h
    rfl
  · obtain ⟨p, a, D, d, way, k, s, rfl, hd, ha, hw, hsl, hdl, hwl, kk⟩ := h
    have hu := hu_of hr
    have nd := scDwi.nd
    obtain ⟨_, gN⟩ := TD.nD
    refine ⟨_, pss_cons (ps_set (i := 4) nd rfl (Or.inl rfl) (pe_lst pa_nil))
      (pss_cons (ps_lock (ps_for PassesOwn.never rfl (pi_keys (pe_fld (pv 0) rfl)) (pg_name (i := 5) nd rfl (Or.inl rfl))
        (pss_one (ps_if (pt_cmpR op_le (pe_callB call_abs (by rfl) T.abs boot_abs (pa_cons (pe_op op_sub (pe_callB call_lenS (by rfl) TD.len PySem.boot_len (pa_cons (pv 5) pa_nil)) (pe_callB call_lenS (by rfl) TD.len PySem.boot_len (pa_cons (pv 3) pa_nil))) pa_nil)) (pv 2) (nomark _))
          (pss_cons (ps_set (i := 6) nd rfl (Or.inl rfl) (pe_call GW hr rfl mgW kW bW .nil pass0 (pa_cons (pv 1) (pa_cons (pv 3) (pa_cons (pv 5) pa_nil)))))
          (pss_one (ps_if (PW.pt (pw_and (pt_cmpR op_ne (pv 6) (pe_glob (v := .int (-2)) (by rfl) gN ⟨_, rfl⟩) (nomark _)) (pw_and1 (pt_cmpR op_le (pv 6) (pv 2) (nomark _)))))
            (pss_one (ps_expr (pe_bm PySem.F.plainAttrs_list PySem.F.slot_list_append PySem.F.type_list_append mt_append (pv 4) (pa_cons (pe_tup (pa_cons (pv 6) (pa_cons (pv 5) pa_nil))) pa_nil)))) pss_nil)))
          pss_nil))))
      (pss_one (ps_ret (pv 4)))), ?_⟩
    refine ⟨(by show 0 ≤ sizeLine; decide), fun F0 hF => ?_⟩
    have s1 : Same H (upd H F0 (.lst [])) := (Same.refl H).upd hF
    have hd1 := hd.same s1
    obtain ⟨dx, hp⟩ := hd1.ins
    obtain ⟨kvs, hD, hk⟩ := hd1.dic
    have hD0 : H D = some (.dT kvs) := by
      cases e : H D with
      | none =>
        rw [upd_ne (fun z => by rw [z, upd_same] at hD; cases hD), e] at hD
        cases hD
      | some o =>
        have := s1 _ _ e
        rw [hD] at this
        exact this.symm
    have np : p ≠ D := ne_of hp hD (by intro z; cases z)
    have nF : F0 ≠ D := fun z => by rw [← z, upd_same] at hD; cases hD
    have hkl : kvs.length = d.length := by
      have := congrArg List.length hk
      rwa [List.length_map, List.length_map] at this
    refine ⟨D, .dT kvs, hD, trivial, fun od => ?_⟩
    refine ⟨_, rfl, p, C, dx, _, _, rfl, (by rw [upd_ne np]; exact hp), T.cl, T.nW, df_words _, D, od, rfl, .inr ⟨kvs, upd_same, ?_⟩⟩
    refine for_keysT (d := D) (o := od) (kvs := kvs) (DwiI p a F0 D way k s d od kvs H) ⟨[], none, none, rfl, fun b o hb hn => by rw [upd_ne hn]; exact s1 b o hb, upd_same, by rw [upd_ne nF, upd_same]; rfl, (fun x hx => nomatch hx), rfl⟩
      (fun i σ H' ⟨_, _, _, _, _, h, _, _, _⟩ => h) ?_ ?_
    · rintro i kq v q σ H1 hi hq ⟨fs, v5, v6, rfl, kp, hD1, hF1, hfs, inv⟩
      have hil : i < d.length := by
        have := (List.getElem?_eq_some_iff.mp hi).1
        omega
      obtain ⟨wd, hwd⟩ : ∃ wd, d[i]? = some wd := ⟨_, List.getElem?_eq_getElem hil⟩
      have ek : kq = gk wd := by
        have := congrArg (fun l => l[i]?) hk
        simp only [List.getElem?_map, hi, hwd] at this
        exact Option.some.inj this
      subst ek
      rw [gk_v] at hq
      have mem : wd ∈ d := List.mem_of_getElem? hwd
      have hwdl := hwl wd mem
      have inv2 : reachI way (d.take (i + 1)) s k = reachI way (d.take i) s k ++ (pick way s k wd).toList := by
        unfold reachI
        rw [List.take_add_one, hwd, List.filterMap_append]
        congr 1
      have ha1 : SqL K H1 a (wv s) := by
        rcases ha with (ha | ⟨o, ha⟩) | ha
        · exact .inl (.inl (kp _ _ ha (ne_of ha hD0 (by intro z; cases z))))
        · exact .inl (.inr ⟨o, kp _ _ ha (ne_of ha hD0 (by intro z; cases z))⟩)
        · exact .inr ha
      have skip : ∀ (v6' : Option V) (H2 : Hp), pick way s k wd = none → Same H1 H2 → DwiI p a F0 D way k s d od kvs H (i + 1) [some (V.ref p), some (.int way), some (.int k), some (.ref a), some (.ref F0), some (.ref q), v6'] H2 := fun v6' H2 pn e => by
        refine ⟨fs, _, _, rfl, fun b o hb hn => e _ _ (kp b o hb hn), e _ _ hD1, e _ _ hF1, fun x hx => (hfs x hx).keep fun b ys h => e _ _ h, ?_⟩
        rw [inv2, pn, inv]
        exact (List.append_nil _).symm
      refine ⟨_, rfl, q, _, rfl, .inr (SqT.of hq), _, rfl, a, _, rfl, .inl ha1, _, _, rfl, rfl, _, rfl, _, rfl, _, _, rfl, rfl, _, rfl, ?_⟩
      rw [wv_len, wv_len]
      have pf := pick_far (way := way) (s := s) (w := wd) (k := k)
      by_cases c1 : (if ((wd.length : Int) - (s.length : Int)) < 0 then -((wd.length : Int) - (s.length : Int)) else ((wd.length : Int) - (s.length : Int))) ≤ k
      · refine iteP (decide_eq_true c1) ⟨_, rfl, _, rfl, _, rfl, way, s, wd, a, q, rfl, hw, hsl, hwdl, ha1, .inr (SqT.of hq), fun H2 e2 => ?_⟩
        refine ⟨_, rfl, rfl, _, rfl, ?_⟩
        rw [eqV]
        by_cases c2 : farI way s wd = -2
        · rw [if_neg (fun z => z.2.1 c2)] at pf
          exact iteN (by rw [decide_eq_true c2]; rfl) (iteF (skip _ H2 pf e2))
        · refine iteP (by rw [decide_eq_false c2]; rfl) ⟨_, rfl, _, rfl, _, _, rfl, rfl, _, rfl, ?_⟩
          by_cases c3 : farI way s wd ≤ k
          · rw [if_pos ⟨c1, c2, c3⟩] at pf
            have hq2 := e2 _ _ hq
            refine iteP (decide_eq_true c3) ⟨_, rfl, .inl ⟨rfl, _, SqL.of (e2 _ _ hF1)⟩, _, rfl, _, rfl, (by show 2 ≤ sizeLine; decide), fun t ht => ?_⟩
            have s3 : Same H2 (upd H2 t (.tup [.int (farI way s wd), .ref q])) := (Same.refl H2).upd ht
            have hF3 := s3 _ _ (e2 _ _ hF1)
            have nt : t ≠ F0 := fun z => by rw [z, e2 _ _ hF1] at ht; cases ht
            have nq : q ≠ F0 := ne_of hq hF1 (by intro z; cases z)
            refine ⟨F0, _, _, rfl, rfl, hF3, ?_, ?_⟩
            · have : fs.length ≤ d.length := by
                have e := congrArg List.length inv
                rw [List.length_map] at e
                rw [e]
                unfold reachI
                refine Nat.le_trans (List.length_filterMap_le _ _) ?_
                rw [List.length_take]
                omega
              rw [List.length_map, sizeLine_eq]
              omega
            · have hnn : farI way s wd = ((farI way s wd).toNat : Int) := by
                have : 0 ≤ farI way s wd := by
                  unfold farI at c2 ⊢
                  cases e : Sf93.far way s wd with
                  | none => rw [e] at c2; exact (c2 rfl).elim
                  | some n => simp
                omega
              refine ⟨fs ++ [⟨t, (farI way s wd).toNat, q, wd⟩], _, _, rfl, fun b o hb hn => ?_, ?_, ?_, fun x hx => ?_, ?_⟩
              · rw [upd_ne (ne_of_none hb hF)]
                exact s3 _ _ (e2 _ _ (kp b o hb hn))
              · rw [upd_ne (fun z => nF z.symm)]
                exact s3 _ _ (e2 _ _ hD1)
              · rw [upd_same, List.map_append]
                rfl
              · have lift : ∀ b ys, upd H2 t (.tup [.int (farI way s wd), .ref q]) b = some (.tup ys) → upd (upd H2 t (.tup [.int (farI way s wd), .ref q])) F0 (.lst ((fs.map fun x => V.ref x.t) ++ [V.ref t])) b = some (.tup ys) := fun b ys h => by
                  rw [upd_ne (ne_of h hF3 (by intro z; cases z))]
                  exact h
                rcases List.mem_append.mp hx with hx | hx
                · exact ((hfs x hx).keep fun b ys h => s3 _ _ (e2 _ _ h)).keep lift
                · obtain rfl := List.mem_singleton.mp hx
                  refine FndAt.keep ⟨?_, s3 _ _ hq2⟩ lift
                  rw [upd_same]
                  show some (HO.tup [V.int (farI way s wd), V.ref q]) = some (HO.tup [V.int ((farI way s wd).toNat : Nat), V.ref q])
                  rw [← hnn]
              · rw [List.map_append, inv2, pf, inv]
                rfl
          · rw [if_neg (fun z => c3 z.2.2)] at pf
            exact iteN (decide_eq_false c3) (skip _ H2 pf e2)
      · rw [if_neg (fun z => c1 z.1)] at pf
        exact iteN (decide_eq_false c1) (skip _ H1 pf (Same.refl H1))
    · rintro σ H1 ⟨fs, v5, v6, rfl, kp, hD1, hF1, hfs, inv⟩
      rw [hkl, List.take_length] at inv
      refine ⟨hD1, _, rfl, ?_⟩
      have lift : ∀ b ys, H1 b = some (.tup ys) → upd H1 D (.dT kvs) b = some (.tup ys) := fun b ys h => by
        rw [upd_ne (ne_of h hD1 (by intro z; cases z))]
        exact h
      refine kk _ F0 fs (fun b o hb => ?_) hF (by rw [upd_ne nF]; exact hF1) (fun x hx => (hfs x hx).keep lift) inv
      by_cases e : b = D
      · subst e
        rw [upd_same, ← hD0]
        exact hb
      · rw [upd_ne e]
        exact kp b o hb e
end
end Nw

end
section
set_option Elab.async false
set_option linter.all false
set_option maxRecDepth 100000
set_option maxHeartbeats 2000000
namespace Nw
open PySem PySem.Spec PyProof.Rows L2
open Sf65 (Bytes)
/-- near's answer -/
def nearA (way : Nat) (d : List Bytes) (s : Bytes) (k i : Int) : List Int := if k < 0 then [-2] else match (Sf93.near way d s k.toNat)[i.toNat]? with
  | some x => ((x.1 : Nat) : Int) :: x.2.map bi
  | none => [-2]
theorem near_out {way : Nat} {d : List Bytes} {s : Bytes} {k : Int} {fs out : List Fnd} (hf : fs.map Fnd.k = reachI way d s k) (pm : out.Perm fs) (hs : out.Pairwise fun x y => Sf93.ahead x.k y.k = true) {i : Int} :
    nearA way d s k i = match out[i.toNat]? with
      | some x => ((x.d : Nat) : Int) :: wints x.w
      | none => [-2] := by
  unfold nearA
  by_cases hk : k < 0
  · rw [if_pos hk]
    rw [reachI_neg hk] at hf
    have : fs = [] := by simpa using hf
    subst this
    rw [pm.eq_nil]
    rfl
  · rw [if_neg hk]
    rw [reachI_pos hk] at hf
    have e : Sf93.near way d s k.toNat = out.map Fnd.k := near_is (by rw [← hf]; exact pm.map _) (by rw [List.pairwise_map]; exact hs)
    rw [e, List.getElem?_map]
    cases out[i.toNat]? with
    | none => rfl
    | some x => rfl
theorem reach_mem {way : Nat} {d : List Bytes} {s : Bytes} {k : Int} {y : Nat × Bytes} (h : y ∈ reachI way d s k) : y.2 ∈ d := by
  unfold reachI at h
  obtain ⟨a, ha, e⟩ := List.mem_filterMap.mp h
  unfold pick at e
  by_cases hk : k < 0
  · rw [if_pos hk] at e
    cases e
  · rw [if_neg hk] at e
    cases f : Sf93.far way s a with
    | none =>
      rw [f] at e
      cases e
    | some n =>
      rw [f] at e
      simp only at e
      by_cases hn : n ≤ k.toNat
      · rw [if_pos hn] at e
        rw [← Option.some.inj e]
        exact ha
      · rw [if_neg hn] at e
        cases e
section
variable {P : Program} {w : World} {K : PySem.W.Frag} {mg : Str → Option Value} {base : Heap}
inductive SpDneI (K : PySem.W.Frag) (C : Addr) (vs : List V) (H : Hp) (Q : VK) : Prop
  | mk (p a D : Addr) (d : List Bytes) (way : Nat) (k i : Int) (s : Bytes) (e0 : vs = [.ref p, .int way, .int k, .int i, .ref a]) (e1 : DiAt C H p D d) (e2 : SqL K H a (wv s)) (e3 : way ≤ 3) (e4 : 0 ≤ i) (e5 : s.length ≤ 1000) (e6 : d.length ≤ 1000) (e7 : (∀ w ∈ d, w.length ≤ 1000)) (e8 : ∀ (H' : Hp) (r : Addr), Same H H' → H r = none → H' r = some (.lst ((nearA way d s k i).map V.int)) → Q (.ref r) H') : SpDneI K C vs H Q
def spDne (K : PySem.W.Frag) (C : Addr) : Sp := fun vs H Q _ => SpDneI K C vs H Q
theorem scDne : FnScope ["self", "way", "k", "i", "s", "found", "far", "word"] ["self", "way", "k", "i", "s"] (defScope sDne) := ⟨rfl, rfl, rfl, by decide +kernel, rfl, by decide +kernel, by decide +kernel⟩
theorem ok_dne {f fW C : Addr} {fd fdW : FuncData} (F : Fun K "near" "Dictionary.near" sDne f fd) (T : TxtC K mg C) (TD : TxtD K mg) (W : How P w K mg base)
    (FW : Fun K "within" "Dictionary.within" sDwi fW fdW) (bW : Binds K fdW ["self", "way", "k", "s"] []) (mW : Meth K C "within" fW) : FnOk P w K mg base CX0 6 f fd ["self", "way", "k", "i", "s"] (spDne K C) := by
  have GW : FnOk P w K mg base CX0 5 fW fdW ["self", "way", "k", "s"] (spDwi K C) := ok_dwi FW T TD W
  refine F.ok scDne (fun vs H Q E h => ?_) (fun cdv A outer s0 H vs Q E hr h => ?_)
  · obtain ⟨p, a, D, d, way, k, i, s, rfl, _⟩ := h
    rfl
  · obtain ⟨p, a, D, d, way, k, i, s, rfl, hd, ha, hw, hi, hsl, hdl, hwl, kk⟩ := h
    have nd := scDne.nd
    obtain ⟨_, gN⟩ := T.ns
    refine ⟨_, pss_cons (ps_set (i := 5) nd rfl (Or.inl rfl) (pe_callB (cr_sortF hr.units) (by rfl) T.srt boot_sorted (pa_cons (pe_meth (pv 0) T.cl mW GW hr bW .nil pass0 (pa_cons (pv 1) (pa_cons (pv 2) (pa_cons (pv 4) pa_nil)))) pa_nil)))
      (pss_cons (ps_if (pt_cmpR op_ge (pv 3) (pe_callB call_lenS (by rfl) TD.len PySem.boot_len (pa_cons (pv 5) pa_nil)) (nomark _)) (pss_one (ps_ret (pe_lst (pa_cons (pe_glob (v := .int (-2)) (by rfl) gN ⟨_, rfl⟩) pa_nil)))) pss_nil)
      (pss_cons (ps_set (i := 6) nd rfl (Or.inl rfl) (pe_ix ix_tup (pe_ix ix_list (pv 5) (pv 3) (fun _ _ => rfl)) pe_int (fun _ _ => rfl)))
      (pss_cons (ps_set (i := 7) nd rfl (Or.inl rfl) (pe_ix ix_tup (pe_ix ix_list (pv 5) (pv 3) (fun _ _ => rfl)) pe_int (fun _ _ => rfl)))
      (pss_one (ps_ret (pe_op op_cat (pe_lst (pa_cons (pv 6) pa_nil)) (pe_callTy call_list_of (by rfl) TD.list boot_list (pa_cons (pv 7) pa_nil)))))))), ?_⟩
    obtain ⟨dx, hp⟩ := hd.ins
    refine ⟨_, rfl, p, dx, _, rfl, hp, df_no _ (by decide +kernel), _, rfl, _, rfl, _, rfl, p, a, D, d, way, k, s, rfl, hd, ha, hw, hsl, hdl, hwl, fun H1 r fs e1 fr hR hfs ef => ?_⟩
    have hfl : fs.length ≤ 1000 := by
      have e := congrArg List.length ef
      rw [List.length_map] at e
      rw [e]
      unfold reachI
      exact Nat.le_trans (List.length_filterMap_le _ _) hdl
    refine ⟨r, fs, rfl, SqL.of hR, hfl, hfs, fun out q pm hso fq => ?_⟩
    have s2 : Same H1 (upd H1 q (.lst (out.map fun x => V.ref x.t))) := (Same.refl H1).upd fq
    have hA := near_out (i := i) ef pm hso
    have fq0 : H q = none := e1.free fq
    refine ⟨_, rfl, _, rfl, q, _, rfl, .inl (SqL.of upd_same), _, _, rfl, rfl, _, rfl, ?_⟩
    rw [List.length_map]
    by_cases hlt : i < (out.length : Int)
    · have hil : i.toNat < out.length := by omega
      refine iteN (decide_eq_false (by omega)) ?_
      obtain ⟨x, hx⟩ : ∃ x, out[i.toNat]? = some x := ⟨_, List.getElem?_eq_getElem hil⟩
      rw [hx] at hA
      have fx := (hfs x (pm.mem_iff.mp (List.mem_of_getElem? hx))).keep fun b ys h => s2 _ _ h
      have ei : i = ((i.toNat : Nat) : Int) := by omega
      have hat : atI (out.map fun x => V.ref x.t) i = some (V.ref x.t) := at_of (j := i.toNat) ei (by rw [List.getElem?_map, hx]; rfl)
      refine ⟨_, rfl, _, rfl, q, _, _, _, rfl, rfl, SqL.of upd_same, hat, x.t, _, _, _, rfl, rfl, SqT.of fx.1, at_of (j := 0) rfl rfl, ?_⟩
      refine ⟨_, rfl, _, rfl, q, _, _, _, rfl, rfl, SqL.of upd_same, hat, x.t, _, _, _, rfl, rfl, SqT.of fx.1, at_of (j := 1) rfl rfl, ?_⟩
      refine ⟨_, rfl, (by show 1 ≤ sizeLine; decide), fun l hl => ?_⟩
      have s3 := s2.upd (o := .lst [V.int (x.d : Nat)]) hl
      refine ⟨_, rfl, x.q, _, rfl, .inr (SqT.of (s3 _ _ (hfs x (pm.mem_iff.mp (List.mem_of_getElem? hx))).2)), fun m hm => ?_⟩
      have s4 := s3.upd (o := .lst ((wints x.w).map V.int)) hm
      have nl : l ≠ m := fun z => by rw [← z, upd_same] at hm; cases hm
      refine ⟨l, m, _, _, rfl, rfl, (by rw [upd_ne nl, upd_same]), upd_same, ?_, fun z hz => ?_⟩
      · have mk : x.k ∈ fs.map Fnd.k := List.mem_map.mpr ⟨x, pm.mem_iff.mp (List.mem_of_getElem? hx), rfl⟩
        rw [ef] at mk
        have : x.w.length ≤ 1000 := hwl _ (reach_mem mk)
        have e2 : ((wints x.w).map V.int).length = x.w.length := by rw [List.length_map, ints_length]
        rw [e2, sizeLine_eq]
        show 1 + x.w.length ≤ _
        omega
      · refine kk _ z ((e1.trans s4).upd hz) ((e1.trans s4).free hz) ?_
        rw [upd_same, hA]
        rfl
    · refine iteP (decide_eq_true (by omega)) ⟨(by show 1 ≤ sizeLine; decide), fun l hl => ?_⟩
      rw [List.getElem?_eq_none (by omega)] at hA
      refine kk _ l ((e1.trans s2).upd hl) ((e1.trans s2).free hl) ?_
      rw [upd_same, hA]
      rfl
end
end Nw

end
section
set_option Elab.async false
set_option linter.all false
set_option maxRecDepth 100000
set_option maxHeartbeats 2000000
namespace Nw
open PySem PySem.Spec PyProof.Rows L2
open Sf65 (Bytes)
abbrev sAns : Stmt := top 58
abbrev sNxt : Stmt := top 59
abbrev sAfa : Stmt := top 60
abbrev sAma : Stmt := top 61
abbrev sAco : Stmt := top 62
abbrev sAsh : Stmt := top 63
abbrev sAgr : Stmt := top 64
abbrev sAad : Stmt := top 65
abbrev sAne : Stmt := top 66
abbrev sAcn : Stmt := top 67
inductive CalE (P : Program) (w : World) (K : PySem.W.Frag) (mg : Str → Option Value) (base : Heap) (x : Str) (ps : List Str) (sp : Sp) (n : Nat) : Prop
  | mk (f : Addr) (fd : FuncData) (m : mg x = some (.ref f)) (k : PySem.W.keepIn K (.ref f) = true) (b : Binds K fd ps []) (G : FnOk P w K mg base CX0 n f fd ps sp) : CalE P w K mg base x ps sp n
inductive CalME (P : Program) (w : World) (K : PySem.W.Frag) (mg : Str → Option Value) (base : Heap) (C : Addr) (x : Str) (ps : List Str) (sp : Sp) (n : Nat) : Prop
  | mk (f : Addr) (fd : FuncData) (m : Meth K C x f) (b : Binds K fd ps []) (G : FnOk P w K mg base CX0 n f fd ps sp) : CalME P w K mg base C x ps sp n
/-- a def that keeps its promise -/
structure Cal (P : Program) (w : World) (K : PySem.W.Frag) (mg : Str → Option Value) (base : Heap) (x : Str) (ps : List Str) (sp : Sp) (n : Nat) : Prop where
  ex : CalE P w K mg base x ps sp n
/-- a method that keeps its promise -/
structure CalM (P : Program) (w : World) (K : PySem.W.Frag) (mg : Str → Option Value) (base : Heap) (C : Addr) (x : Str) (ps : List Str) (sp : Sp) (n : Nat) : Prop where
  ex : CalME P w K mg base C x ps sp n
section
variable {K : PySem.W.Frag} {C : Addr} {E : XK} {i : Nat} {σ : L2.St} {H : Hp} {Q : VK} {p a : Addr} {l : List Int} {n m : Nat}
theorem tk_num {z : Int} (hσ : σ[i]? = some (some (.ref p))) (hR : RdAt C H p a n) (ha : SqL K H a (l.map V.int)) (hz : l[n]? = some z) (em : m = n + 1)
    (k : ∀ H1 : Hp, RdAt C H1 p a m → Keep p H H1 → SqL K H1 a (l.map V.int) → Q (.int z) H1) : tMeth C "take_number" (spRnu K C) [] E (tVar i) tNil σ H Q := by
  obtain ⟨dx, hp⟩ := hR
  subst em
  exact ⟨_, hσ, p, dx, _, rfl, hp, rf_no _ _ (by decide +kernel) (by decide +kernel), p, a, n, l, z, rfl, ⟨dx, hp⟩, ha, hz, fun H1 h1 h2 _ => k H1 h1 h2 (h2.seq hp ha)⟩
theorem tk_row {s : Bytes} (hσ : σ[i]? = some (some (.ref p))) (hR : RdAt C H p a n) (ha : SqL K H a (l.map V.int)) (hz : Row l n s) (em : m = n + 1 + s.length)
    (k : ∀ (H1 : Hp) (r : Addr), RdAt C H1 p a m → Keep p H H1 → SqL K H1 a (l.map V.int) → H r = none → H1 r = some (.lst (wv s)) → Q (.ref r) H1) : tMeth C "take_row" (spRro K C) [] E (tVar i) tNil σ H Q := by
  obtain ⟨dx, hp⟩ := hR
  subst em
  obtain ⟨h1, h2, h3, h4⟩ := hz
  refine ⟨_, hσ, p, dx, _, rfl, hp, rf_no _ _ (by decide +kernel) (by decide +kernel), p, a, n, s.length, l, rfl, ⟨dx, hp⟩, ha, h1, h2, fun H1 r g1 g2 g3 g4 => k H1 r g1 g2 (g2.seq hp ha) g3 ?_⟩
  rw [g4, h3]
  rfl
theorem tk_erow {es : List Nat} (hσ : σ[i]? = some (some (.ref p))) (hR : RdAt C H p a n) (ha : SqL K H a (l.map V.int)) (hz : ERow l n es) (em : m = n + 1 + es.length)
    (k : ∀ (H1 : Hp) (r : Addr), RdAt C H1 p a m → Keep p H H1 → SqL K H1 a (l.map V.int) → H r = none → H1 r = some (.lst (nv es)) → Q (.ref r) H1) : tMeth C "take_row" (spRro K C) [] E (tVar i) tNil σ H Q := by
  obtain ⟨dx, hp⟩ := hR
  subst em
  obtain ⟨h1, h2, h3, h4⟩ := hz
  refine ⟨_, hσ, p, dx, _, rfl, hp, rf_no _ _ (by decide +kernel) (by decide +kernel), p, a, n, es.length, l, rfl, ⟨dx, hp⟩, ha, h1, h2, fun H1 r g1 g2 g3 g4 => k H1 r g1 g2 (g2.seq hp ha) g3 ?_⟩
  rw [g4, h3]
  first | rfl | (unfold nv; rw [List.map_map]; rfl)
theorem Keep.at {p r : Addr} {H H1 : Hp} {xs : List V} {C a : Addr} {n : Nat} (k : Keep p H H1) (hR : RdAt C H p a n) (h : H r = some (.lst xs)) : H1 r = some (.lst xs) := by
  obtain ⟨dx, hp⟩ := hR
  exact k.lst hp h
theorem Keep.free {p r : Addr} {H H1 : Hp} {C a : Addr} {n : Nat} (k : Keep p H H1) (hR : RdAt C H p a n) (h : H1 r = none) (hR1 : ∃ m, RdAt C H1 p a m) : H r = none := by
  cases e : H r with
  | none => rfl
  | some o =>
    have := k r o e (fun z => by
      obtain ⟨m, dx, q⟩ := hR1
      rw [z, q] at h
      cases h)
    rw [h] at this
    cases this
end
theorem fin_lst {C p a r : Addr} {H H3 H4 : Hp} {m n' : Nat} {o : HO} (hR : RdAt C H p a m) (kk : Keep p H H3) (r3 : RdAt C H3 p a n') (e : Same H3 H4) (fr : H4 r = none) : RdAt C (upd H4 r o) p a n' ∧ Keep p H (upd H4 r o) ∧ H r = none := by
  obtain ⟨dx, h3⟩ := r3
  have s1 := e.upd (o := o) fr
  exact ⟨⟨dx, s1 _ _ h3⟩, kk.trans (Keep.of s1), kk.free hR (e.free fr) ⟨_, dx, h3⟩⟩
theorem isWord_eq (s : Bytes) : (!decide ((wv s).length ≤ 32)) = !Sf93.isWord s := by
  rw [wv_len]
  rfl
theorem within3 {y : Int} (h : Sf65.within y 0 3 = true) : 0 ≤ y ∧ y ≤ 3 := by
  unfold Sf65.within at h
  rw [Bool.and_eq_true] at h
  have := of_decide_eq_true h.1
  have := of_decide_eq_true h.2
  omega
theorem word_len {s : Bytes} (h : Sf93.isWord s = true) : s.length ≤ 32 := of_decide_eq_true h
/-- what an answer_ def is handed, and what it gives back -/
inductive SpAI (K : PySem.W.Frag) (C : Addr) (ok : Sf93.Call → Prop) (vs : List V) (H : Hp) (Q : VK) : Prop
  | mk (p a : Addr) (n n' : Nat) (l : List Int) (c : Sf93.Call) (d : List Bytes) (e0 : vs = [.ref p]) (e1 : ok c) (e2 : RdAt C H p a (n + 1)) (e3 : SqL K H a (l.map V.int)) (e4 : Nx l n c n') (e5 : ∀ (H' : Hp) (r : Addr), RdAt C H' p a n' → Keep p H H' → H r = none → H' r = some (.lst ((ansI (Sf93.step d c).2).map V.int)) → Q (.ref r) H') : SpAI K C ok vs H Q
def spA (K : PySem.W.Frag) (C : Addr) (ok : Sf93.Call → Prop) : Sp := fun vs H Q _ => SpAI K C ok vs H Q
section
variable {P : Program} {w : World} {K : PySem.W.Frag} {mg : Str → Option Value} {base : Heap}
/-- what all of them call -/
structure Dk (P : Program) (w : World) (K : PySem.W.Frag) (mg : Str → Option Value) (base : Heap) (C : Addr) : Prop where
  cl : Cls K C
  num : CalM P w K mg base C "take_number" ["self"] (spRnu K C) 7
  row : CalM P w K mg base C "take_row" ["self"] (spRro K C) 7
  way : Cal P w K mg base "no_such_way" ["way"] spWay 7
  lon : Cal P w K mg base "too_long" ["word"] (spLon K) 7
  W : TxtW mg
def isFar (c : Sf93.Call) : Prop := ∃ y s t, c = .far y s t
theorem scAfa : FnScope ["reader", "way", "s", "t"] ["reader"] (defScope sAfa) := ⟨rfl, rfl, rfl, by decide +kernel, rfl, by decide +kernel, by decide +kernel⟩
theorem ok_afa {f C : Addr} {fd : FuncData} (F : Fun K "answer_far" "answer_far" sAfa f fd) (T : Dk P w K mg base C) (W : Cal P w K mg base "how_far" ["way", "s", "t"] (spHow K) 7) : FnOk P w K mg base CX0 8 f fd ["reader"] (spA K C isFar) := by
  obtain ⟨fN, dN, mN, bN, GN⟩ := T.num.ex
  obtain ⟨fR, dR, mR, bR, GR⟩ := T.row.ex
  obtain ⟨fY, dY, mgY, kY, bY, GY⟩ := T.way.ex
  obtain ⟨fL, dL, mgL, kL, bL, GL⟩ := T.lon.ex
  obtain ⟨fH, dH, mgH, kH, bH, GH⟩ := W.ex
  obtain ⟨_, gR⟩ := T.W.re
  refine F.ok scAfa (fun vs H Q E h => ?_) (fun cdv A outer s0 H vs Q E hr h => ?_)
  · obtain ⟨p, a, n, n', l, c, d, rfl, _⟩ := h
    rfl
  · obtain ⟨p, a, n, n', l, c, d, rfl, ⟨y, s, t, rfl⟩, hR, ha, hx, k⟩ := h
    have nd := scAfa.nd
    cases hx with
    | far _ _ _ h0 h1 h2 h3 =>
    refine ⟨_, pss_cons (ps_set (i := 1) nd rfl (Or.inl rfl) (pe_meth0 (pv 0) T.cl mN GN hr bN .nil pass0))
      (pss_cons (ps_set (i := 2) nd rfl (Or.inl rfl) (pe_meth0 (pv 0) T.cl mR GR hr bR .nil pass0))
      (pss_cons (ps_set (i := 3) nd rfl (Or.inl rfl) (pe_meth0 (pv 0) T.cl mR GR hr bR .nil pass0))
      (pss_cons (ps_if (PW.pt (pw_or (pt_val (pe_call GY hr rfl mgY kY bY .nil pass0 (pa_cons (pv 1) pa_nil))) (pw_or (pt_val (pe_call GL hr rfl mgL kL bL .nil pass0 (pa_cons (pv 2) pa_nil))) (pw_or1 (pt_val (pe_call GL hr rfl mgL kL bL .nil pass0 (pa_cons (pv 3) pa_nil)))))))
        (pss_one (ps_ret (pe_lst (pa_cons (pe_glob (v := .int (-1)) (by rfl) gR ⟨_, rfl⟩) pa_nil)))) pss_nil)
      (pss_one (ps_ret (pe_lst (pa_cons (pe_call GH hr rfl mgH kH bH .nil pass0 (pa_cons (pv 1) (pa_cons (pv 2) (pa_cons (pv 3) pa_nil)))) pa_nil))))))), ?_⟩
    refine tk_num rfl hR ha h1 rfl fun H1 r1 k1 a1 => ?_
    refine tk_row rfl r1 a1 h2 (m := n + 3 + s.length) rfl fun H2 x r2 k2 a2 fx hx => ?_
    refine tk_row rfl r2 a2 h3 (m := n + 3 + s.length + 1 + t.length) rfl fun H3 z r3 k3 a3 fz hz => ?_
    have hx3 := k3.at r2 hx
    have kk : Keep p H H3 := (k1.trans k2).trans k3
    have go : ∀ (v : Int) (H4 : Hp) (r : Addr), Same H3 H4 → H4 r = none → ansI (Sf93.step d (.far y s t)).2 = [v] → Q (.ref r) (upd H4 r (.lst [.int v])) := fun v H4 r e fr ea => by
      obtain ⟨q1, q2, q3⟩ := fin_lst (o := .lst [.int v]) hR kk r3 e fr
      exact k _ r q1 q2 q3 (by rw [upd_same, ea]; rfl)
    have no : (Sf65.within y 0 3 && (Sf93.isWord s && Sf93.isWord t)) = false → ∀ r, H3 r = none → Q (.ref r) (upd H3 r (.lst [.int (-1)])) := fun hb r fr => go _ H3 r (Same.refl _) fr (by
      unfold Sf93.step
      simp only
      rw [if_pos hb]
      rfl)
    refine ⟨_, rfl, y, rfl, _, rfl, ?_⟩
    cases e1 : Sf65.within y 0 3 with
    | false => exact iteT (iteT ⟨(by show 1 ≤ sizeLine; decide), no (by rw [e1]; rfl)⟩)
    | true =>
      refine iteF ⟨_, rfl, x, _, rfl, SqL.of hx3, _, rfl, ?_⟩
      rw [isWord_eq]
      cases e2 : Sf93.isWord s with
      | false => exact iteT (iteT ⟨(by show 1 ≤ sizeLine; decide), no (by rw [e1, e2]; rfl)⟩)
      | true =>
        refine iteF ⟨_, rfl, z, _, rfl, SqL.of hz, _, rfl, ?_⟩
        rw [isWord_eq]
        cases e3 : Sf93.isWord t with
        | false => exact iteT ⟨(by show 1 ≤ sizeLine; decide), no (by rw [e1, e2, e3]; rfl)⟩
        | true =>
          have hy := within3 e1
          have l1 := word_len e2
          have l2 := word_len e3
          refine iteF ⟨_, rfl, _, rfl, _, rfl, y.toNat, s, t, x, z, (by rw [Int.toNat_of_nonneg hy.1]; rfl), by omega, by omega, by omega, SqL.of hx3, .inl (SqL.of hz), fun H4 e4 => ⟨(by show 1 ≤ sizeLine; decide), fun r fr => go _ H4 r e4 fr ?_⟩⟩
          unfold Sf93.step farI
          simp only
          rw [e1, e2, e3, if_neg (by decide)]
          cases Sf93.far y.toNat s t <;> rfl
end
end Nw

end
section
set_option Elab.async false
set_option linter.all false
set_option maxRecDepth 100000
set_option maxHeartbeats 2000000
namespace Nw
open PySem PySem.Spec PyProof.Rows L2
open Sf65 (Bytes)
section
variable {P : Program} {w : World} {K : PySem.W.Frag} {mg : Str → Option Value} {base : Heap}
theorem within32 {y : Int} (h : Sf65.within y 1 32 = true) : 1 ≤ y ∧ y ≤ 32 := by
  unfold Sf65.within at h
  rw [Bool.and_eq_true] at h
  have := of_decide_eq_true h.1
  have := of_decide_eq_true h.2
  omega
def isMak (c : Sf93.Call) : Prop := ∃ y s t es, c = .makes y s t es
theorem scAma : FnScope ["reader", "way", "s", "t", "edits"] ["reader"] (defScope sAma) := ⟨rfl, rfl, rfl, by decide +kernel, rfl, by decide +kernel, by decide +kernel⟩
theorem ok_ama {f C : Addr} {fd : FuncData} (F : Fun K "answer_makes" "answer_makes" sAma f fd) (T : Dk P w K mg base C) (W : Cal P w K mg base "makes" ["way", "s", "t", "edits"] (spMak K) 7) : FnOk P w K mg base CX0 8 f fd ["reader"] (spA K C isMak) := by
  obtain ⟨fN, dN, mN, bN, GN⟩ := T.num.ex
  obtain ⟨fR, dR, mR, bR, GR⟩ := T.row.ex
  obtain ⟨fY, dY, mgY, kY, bY, GY⟩ := T.way.ex
  obtain ⟨fL, dL, mgL, kL, bL, GL⟩ := T.lon.ex
  obtain ⟨fH, dH, mgH, kH, bH, GH⟩ := W.ex
  obtain ⟨_, gR⟩ := T.W.re
  refine F.ok scAma (fun vs H Q E h => ?_) (fun cdv A outer s0 H vs Q E hr h => ?_)
  · obtain ⟨p, a, n, n', l, c, d, rfl, _⟩ := h
    rfl
  · obtain ⟨p, a, n, n', l, c, d, rfl, ⟨y, s, t, es, rfl⟩, hR, ha, hx, k⟩ := h
    have nd := scAma.nd
    cases hx with
    | makes _ _ _ _ h0 h1 h2 h3 h4 =>
    refine ⟨_, (pss_cons (ps_set (i := 1) nd rfl (Or.inl rfl) (pe_meth0 (pv 0) T.cl mN GN hr bN .nil pass0))
      (pss_cons (ps_set (i := 2) nd rfl (Or.inl rfl) (pe_meth0 (pv 0) T.cl mR GR hr bR .nil pass0))
      (pss_cons (ps_set (i := 3) nd rfl (Or.inl rfl) (pe_meth0 (pv 0) T.cl mR GR hr bR .nil pass0))
      (pss_cons (ps_set (i := 4) nd rfl (Or.inl rfl) (pe_meth0 (pv 0) T.cl mR GR hr bR .nil pass0))
      (pss_cons (ps_if (PW.pt (pw_or (pt_val (pe_call GY hr rfl mgY kY bY .nil pass0 (pa_cons (pv 1) pa_nil))) (pw_or (pt_val (pe_call GL hr rfl mgL kL bL .nil pass0 (pa_cons (pv 2) pa_nil))) (pw_or1 (pt_val (pe_call GL hr rfl mgL kL bL .nil pass0 (pa_cons (pv 3) pa_nil)))))))
        (pss_one (ps_ret (pe_lst (pa_cons (pe_glob (v := .int (-1)) (by rfl) gR ⟨_, rfl⟩) pa_nil)))) pss_nil)
      (pss_one (ps_ret (pe_lst (pa_cons (pe_call GH hr rfl mgH kH bH .nil pass0 (pa_cons (pv 1) (pa_cons (pv 2) (pa_cons (pv 3) (pa_cons (pv 4) pa_nil))))) pa_nil))))))))), ?_⟩
    refine tk_num rfl hR ha h1 (m := n + 2) rfl fun H1 r1 k1 a1 => ?_
    refine tk_row rfl r1 a1 h2 (m := n + 3 + s.length) rfl fun H2 xs r2 k2 a2 fs hs => ?_
    refine tk_row rfl r2 a2 h3 (m := n + 3 + s.length + 1 + t.length) rfl fun H3 xt r3 k3 a3 ft ht => ?_
    have hs := k3.at r2 hs
    refine tk_erow rfl r3 a3 h4 (m := n + 3 + s.length + 1 + t.length + 1 + es.length) rfl fun H4 xes r4 k4 a4 fes hes => ?_
    have hs := k4.at r3 hs
    have ht := k4.at r3 ht
    have kk : Keep p H H4 := (((k1.trans k2).trans k3).trans k4)
    have go : ∀ (v : Int) (H9 : Hp) (r : Addr), Same H4 H9 → H9 r = none → ansI (Sf93.step d (.makes y s t es)).2 = [v] → Q (.ref r) (upd H9 r (.lst [.int v])) := fun v H9 r e fr ea => by
      obtain ⟨q1, q2, q3⟩ := fin_lst (o := .lst [.int v]) hR kk r4 e fr
      exact k _ r q1 q2 q3 (by rw [upd_same, ea]; rfl)
    have no : (Sf65.within y 0 3 && (Sf93.isWord s && Sf93.isWord t)) = false → ∀ r, H4 r = none → Q (.ref r) (upd H4 r (.lst [.int (-1)])) := fun hb r fr => go _ H4 r (Same.refl _) fr (by
      unfold Sf93.step
      simp only
      rw [if_pos hb]
      rfl)
    refine ⟨_, rfl, y, rfl, _, rfl, ?_⟩
    cases e1 : Sf65.within y 0 3 with
    | false => exact iteT (iteT ⟨(by show 1 ≤ sizeLine; decide), no (show (Sf65.within y 0 3 && (Sf93.isWord s && Sf93.isWord t)) = false by rw [e1]; rfl)⟩)
    | true =>
      refine iteF ⟨_, rfl, xs, _, rfl, SqL.of hs, _, rfl, ?_⟩
      rw [isWord_eq]
      cases e2 : Sf93.isWord s with
      | false => exact iteT (iteT ⟨(by show 1 ≤ sizeLine; decide), no (show (Sf65.within y 0 3 && (Sf93.isWord s && Sf93.isWord t)) = false by rw [e1, e2]; rfl)⟩)
      | true =>
        refine iteF ⟨_, rfl, xt, _, rfl, SqL.of ht, _, rfl, ?_⟩
        rw [isWord_eq]
        cases e3 : Sf93.isWord t with
        | false => exact iteT ⟨(by show 1 ≤ sizeLine; decide), no (show (Sf65.within y 0 3 && (Sf93.isWord s && Sf93.isWord t)) = false by rw [e1, e2, e3]; rfl)⟩
        | true =>
          have l1 := within3 e1
          have l2 := word_len e2
          have l3 := word_len e3
          refine iteF ⟨_, rfl, _, rfl, _, rfl, _, rfl, y.toNat, s, t, es, xs, xt, xes, (by rw [Int.toNat_of_nonneg l1.1]; rfl), by omega, by omega, by omega, (by have := h4.2.2.2; omega), SqL.of hs, SqL.of ht, SqL.of hes, fun H9 e9 => ⟨(by show 1 ≤ sizeLine; decide), fun r fr => go _ H9 r e9 fr ?_⟩⟩
          unfold Sf93.step
          simp only
          rw [e1, e2, e3, if_neg (by decide)]
          rfl
def isCom (c : Sf93.Call) : Prop := ∃ s t, c = .common s t
theorem scAco : FnScope ["reader", "s", "t"] ["reader"] (defScope sAco) := ⟨rfl, rfl, rfl, by decide +kernel, rfl, by decide +kernel, by decide +kernel⟩
theorem ok_aco {f C : Addr} {fd : FuncData} (F : Fun K "answer_common" "answer_common" sAco f fd) (T : Dk P w K mg base C) (W : Cal P w K mg base "common_length" ["s", "t"] (spCom K) 7) : FnOk P w K mg base CX0 8 f fd ["reader"] (spA K C isCom) := by
  obtain ⟨fN, dN, mN, bN, GN⟩ := T.num.ex
  obtain ⟨fR, dR, mR, bR, GR⟩ := T.row.ex
  obtain ⟨fY, dY, mgY, kY, bY, GY⟩ := T.way.ex
  obtain ⟨fL, dL, mgL, kL, bL, GL⟩ := T.lon.ex
  obtain ⟨fH, dH, mgH, kH, bH, GH⟩ := W.ex
  obtain ⟨_, gR⟩ := T.W.re
  refine F.ok scAco (fun vs H Q E h => ?_) (fun cdv A outer s0 H vs Q E hr h => ?_)
  · obtain ⟨p, a, n, n', l, c, d, rfl, _⟩ := h
    rfl
  · obtain ⟨p, a, n, n', l, c, d, rfl, ⟨s, t, rfl⟩, hR, ha, hx, k⟩ := h
    have nd := scAco.nd
    cases hx with
    | common _ _ h0 h1 h2 =>
    refine ⟨_, (pss_cons (ps_set (i := 1) nd rfl (Or.inl rfl) (pe_meth0 (pv 0) T.cl mR GR hr bR .nil pass0))
      (pss_cons (ps_set (i := 2) nd rfl (Or.inl rfl) (pe_meth0 (pv 0) T.cl mR GR hr bR .nil pass0))
      (pss_cons (ps_if (PW.pt (pw_or (pt_val (pe_call GL hr rfl mgL kL bL .nil pass0 (pa_cons (pv 1) pa_nil))) (pw_or1 (pt_val (pe_call GL hr rfl mgL kL bL .nil pass0 (pa_cons (pv 2) pa_nil))))))
        (pss_one (ps_ret (pe_lst (pa_cons (pe_glob (v := .int (-1)) (by rfl) gR ⟨_, rfl⟩) pa_nil)))) pss_nil)
      (pss_one (ps_ret (pe_lst (pa_cons (pe_call GH hr rfl mgH kH bH .nil pass0 (pa_cons (pv 1) (pa_cons (pv 2) pa_nil))) pa_nil))))))), ?_⟩
    refine tk_row rfl hR ha h1 (m := n + 2 + s.length) rfl fun H1 xs r1 k1 a1 fs hs => ?_
    refine tk_row rfl r1 a1 h2 (m := n + 2 + s.length + 1 + t.length) rfl fun H2 xt r2 k2 a2 ft ht => ?_
    have hs := k2.at r1 hs
    have kk : Keep p H H2 := (k1.trans k2)
    have go : ∀ (v : Int) (H9 : Hp) (r : Addr), Same H2 H9 → H9 r = none → ansI (Sf93.step d (.common s t)).2 = [v] → Q (.ref r) (upd H9 r (.lst [.int v])) := fun v H9 r e fr ea => by
      obtain ⟨q1, q2, q3⟩ := fin_lst (o := .lst [.int v]) hR kk r2 e fr
      exact k _ r q1 q2 q3 (by rw [upd_same, ea]; rfl)
    have no : (Sf93.isWord s && Sf93.isWord t) = false → ∀ r, H2 r = none → Q (.ref r) (upd H2 r (.lst [.int (-1)])) := fun hb r fr => go _ H2 r (Same.refl _) fr (by
      unfold Sf93.step
      simp only
      rw [if_pos hb]
      rfl)
    refine ⟨_, rfl, xs, _, rfl, SqL.of hs, _, rfl, ?_⟩
    rw [isWord_eq]
    cases e1 : Sf93.isWord s with
    | false => exact iteT (iteT ⟨(by show 1 ≤ sizeLine; decide), no (show (Sf93.isWord s && Sf93.isWord t) = false by rw [e1]; rfl)⟩)
    | true =>
      refine iteF ⟨_, rfl, xt, _, rfl, SqL.of ht, _, rfl, ?_⟩
      rw [isWord_eq]
      cases e2 : Sf93.isWord t with
      | false => exact iteT ⟨(by show 1 ≤ sizeLine; decide), no (show (Sf93.isWord s && Sf93.isWord t) = false by rw [e1, e2]; rfl)⟩
      | true =>
        have l1 := word_len e1
        have l2 := word_len e2
        refine iteF ⟨_, rfl, _, rfl, s, t, xs, xt, rfl, by omega, by omega, SqL.of hs, SqL.of ht, fun H9 e9 => ⟨(by show 1 ≤ sizeLine; decide), fun r fr => go _ H9 r e9 fr ?_⟩⟩
        unfold Sf93.step
        simp only
        rw [e1, e2, if_neg (by decide)]
        rfl
def isSha (c : Sf93.Call) : Prop := ∃ s t u, c = .shares s t u
theorem scAsh : FnScope ["reader", "s", "t", "c"] ["reader"] (defScope sAsh) := ⟨rfl, rfl, rfl, by decide +kernel, rfl, by decide +kernel, by decide +kernel⟩
theorem ok_ash {f C : Addr} {fd : FuncData} (F : Fun K "answer_shares" "answer_shares" sAsh f fd) (T : Dk P w K mg base C) (W : Cal P w K mg base "shares" ["s", "t", "c"] (spSha K) 7) : FnOk P w K mg base CX0 8 f fd ["reader"] (spA K C isSha) := by
  obtain ⟨fN, dN, mN, bN, GN⟩ := T.num.ex
  obtain ⟨fR, dR, mR, bR, GR⟩ := T.row.ex
  obtain ⟨fY, dY, mgY, kY, bY, GY⟩ := T.way.ex
  obtain ⟨fL, dL, mgL, kL, bL, GL⟩ := T.lon.ex
  obtain ⟨fH, dH, mgH, kH, bH, GH⟩ := W.ex
  obtain ⟨_, gR⟩ := T.W.re
  refine F.ok scAsh (fun vs H Q E h => ?_) (fun cdv A outer s0 H vs Q E hr h => ?_)
  · obtain ⟨p, a, n, n', l, c, d, rfl, _⟩ := h
    rfl
  · obtain ⟨p, a, n, n', l, c, d, rfl, ⟨s, t, u, rfl⟩, hR, ha, hx, k⟩ := h
    have nd := scAsh.nd
    cases hx with
    | shares _ _ _ h0 h1 h2 h3 =>
    refine ⟨_, (pss_cons (ps_set (i := 1) nd rfl (Or.inl rfl) (pe_meth0 (pv 0) T.cl mR GR hr bR .nil pass0))
      (pss_cons (ps_set (i := 2) nd rfl (Or.inl rfl) (pe_meth0 (pv 0) T.cl mR GR hr bR .nil pass0))
      (pss_cons (ps_set (i := 3) nd rfl (Or.inl rfl) (pe_meth0 (pv 0) T.cl mR GR hr bR .nil pass0))
      (pss_cons (ps_if (PW.pt (pw_or (pt_val (pe_call GL hr rfl mgL kL bL .nil pass0 (pa_cons (pv 1) pa_nil))) (pw_or (pt_val (pe_call GL hr rfl mgL kL bL .nil pass0 (pa_cons (pv 2) pa_nil))) (pw_or1 (pt_val (pe_call GL hr rfl mgL kL bL .nil pass0 (pa_cons (pv 3) pa_nil)))))))
        (pss_one (ps_ret (pe_lst (pa_cons (pe_glob (v := .int (-1)) (by rfl) gR ⟨_, rfl⟩) pa_nil)))) pss_nil)
      (pss_one (ps_ret (pe_lst (pa_cons (pe_call GH hr rfl mgH kH bH .nil pass0 (pa_cons (pv 1) (pa_cons (pv 2) (pa_cons (pv 3) pa_nil)))) pa_nil)))))))), ?_⟩
    refine tk_row rfl hR ha h1 (m := n + 2 + s.length) rfl fun H1 xs r1 k1 a1 fs hs => ?_
    refine tk_row rfl r1 a1 h2 (m := n + 2 + s.length + 1 + t.length) rfl fun H2 xt r2 k2 a2 ft ht => ?_
    have hs := k2.at r1 hs
    refine tk_row rfl r2 a2 h3 (m := n + 2 + s.length + 1 + t.length + 1 + u.length) rfl fun H3 xu r3 k3 a3 fu hu => ?_
    have hs := k3.at r2 hs
    have ht := k3.at r2 ht
    have kk : Keep p H H3 := ((k1.trans k2).trans k3)
    have go : ∀ (v : Int) (H9 : Hp) (r : Addr), Same H3 H9 → H9 r = none → ansI (Sf93.step d (.shares s t u)).2 = [v] → Q (.ref r) (upd H9 r (.lst [.int v])) := fun v H9 r e fr ea => by
      obtain ⟨q1, q2, q3⟩ := fin_lst (o := .lst [.int v]) hR kk r3 e fr
      exact k _ r q1 q2 q3 (by rw [upd_same, ea]; rfl)
    have no : (Sf93.isWord s && (Sf93.isWord t && Sf93.isWord u)) = false → ∀ r, H3 r = none → Q (.ref r) (upd H3 r (.lst [.int (-1)])) := fun hb r fr => go _ H3 r (Same.refl _) fr (by
      unfold Sf93.step
      simp only
      rw [if_pos hb]
      rfl)
    refine ⟨_, rfl, xs, _, rfl, SqL.of hs, _, rfl, ?_⟩
    rw [isWord_eq]
    cases e1 : Sf93.isWord s with
    | false => exact iteT (iteT ⟨(by show 1 ≤ sizeLine; decide), no (show (Sf93.isWord s && (Sf93.isWord t && Sf93.isWord u)) = false by rw [e1]; rfl)⟩)
    | true =>
      refine iteF ⟨_, rfl, xt, _, rfl, SqL.of ht, _, rfl, ?_⟩
      rw [isWord_eq]
      cases e2 : Sf93.isWord t with
      | false => exact iteT (iteT ⟨(by show 1 ≤ sizeLine; decide), no (show (Sf93.isWord s && (Sf93.isWord t && Sf93.isWord u)) = false by rw [e1, e2]; rfl)⟩)
      | true =>
        refine iteF ⟨_, rfl, xu, _, rfl, SqL.of hu, _, rfl, ?_⟩
        rw [isWord_eq]
        cases e3 : Sf93.isWord u with
        | false => exact iteT ⟨(by show 1 ≤ sizeLine; decide), no (show (Sf93.isWord s && (Sf93.isWord t && Sf93.isWord u)) = false by rw [e1, e2, e3]; rfl)⟩
        | true =>
          have l1 := word_len e1
          have l2 := word_len e2
          have l3 := word_len e3
          refine iteF ⟨_, rfl, _, rfl, _, rfl, s, t, u, xs, xt, xu, rfl, by omega, by omega, by omega, SqL.of hs, SqL.of ht, SqL.of hu, fun H9 e9 => ⟨(by show 1 ≤ sizeLine; decide), fun r fr => go _ H9 r e9 fr ?_⟩⟩
          unfold Sf93.step
          simp only
          rw [e1, e2, e3, if_neg (by decide)]
          rfl
def isGra (c : Sf93.Call) : Prop := ∃ q s t, c = .grams q s t
theorem scAgr : FnScope ["reader", "q", "s", "t"] ["reader"] (defScope sAgr) := ⟨rfl, rfl, rfl, by decide +kernel, rfl, by decide +kernel, by decide +kernel⟩
theorem ok_agr {f C : Addr} {fd : FuncData} (F : Fun K "answer_grams" "answer_grams" sAgr f fd) (T : Dk P w K mg base C) (N : Cal P w K mg base "no_such_run" ["q"] spNor 7) (W : Cal P w K mg base "common_runs" ["q", "s", "t"] (spCru K) 7) : FnOk P w K mg base CX0 8 f fd ["reader"] (spA K C isGra) := by
  obtain ⟨fN, dN, mN, bN, GN⟩ := T.num.ex
  obtain ⟨fR, dR, mR, bR, GR⟩ := T.row.ex
  obtain ⟨fY, dY, mgY, kY, bY, GY⟩ := N.ex
  obtain ⟨fL, dL, mgL, kL, bL, GL⟩ := T.lon.ex
  obtain ⟨fH, dH, mgH, kH, bH, GH⟩ := W.ex
  obtain ⟨_, gR⟩ := T.W.re
  refine F.ok scAgr (fun vs H Q E h => ?_) (fun cdv A outer s0 H vs Q E hr h => ?_)
  · obtain ⟨p, a, n, n', l, c, d, rfl, _⟩ := h
    rfl
  · obtain ⟨p, a, n, n', l, c, d, rfl, ⟨q, s, t, rfl⟩, hR, ha, hx, k⟩ := h
    have nd := scAgr.nd
    cases hx with
    | grams _ _ _ h0 h1 h2 h3 =>
    refine ⟨_, (pss_cons (ps_set (i := 1) nd rfl (Or.inl rfl) (pe_meth0 (pv 0) T.cl mN GN hr bN .nil pass0))
      (pss_cons (ps_set (i := 2) nd rfl (Or.inl rfl) (pe_meth0 (pv 0) T.cl mR GR hr bR .nil pass0))
      (pss_cons (ps_set (i := 3) nd rfl (Or.inl rfl) (pe_meth0 (pv 0) T.cl mR GR hr bR .nil pass0))
      (pss_cons (ps_if (PW.pt (pw_or (pt_val (pe_call GY hr rfl mgY kY bY .nil pass0 (pa_cons (pv 1) pa_nil))) (pw_or (pt_val (pe_call GL hr rfl mgL kL bL .nil pass0 (pa_cons (pv 2) pa_nil))) (pw_or1 (pt_val (pe_call GL hr rfl mgL kL bL .nil pass0 (pa_cons (pv 3) pa_nil)))))))
        (pss_one (ps_ret (pe_lst (pa_cons (pe_glob (v := .int (-1)) (by rfl) gR ⟨_, rfl⟩) pa_nil)))) pss_nil)
      (pss_one (ps_ret (pe_lst (pa_cons (pe_call GH hr rfl mgH kH bH .nil pass0 (pa_cons (pv 1) (pa_cons (pv 2) (pa_cons (pv 3) pa_nil)))) pa_nil)))))))), ?_⟩
    refine tk_num rfl hR ha h1 (m := n + 2) rfl fun H1 r1 k1 a1 => ?_
    refine tk_row rfl r1 a1 h2 (m := n + 3 + s.length) rfl fun H2 xs r2 k2 a2 fs hs => ?_
    refine tk_row rfl r2 a2 h3 (m := n + 3 + s.length + 1 + t.length) rfl fun H3 xt r3 k3 a3 ft ht => ?_
    have hs := k3.at r2 hs
    have kk : Keep p H H3 := ((k1.trans k2).trans k3)
    have go : ∀ (v : Int) (H9 : Hp) (r : Addr), Same H3 H9 → H9 r = none → ansI (Sf93.step d (.grams q s t)).2 = [v] → Q (.ref r) (upd H9 r (.lst [.int v])) := fun v H9 r e fr ea => by
      obtain ⟨q1, q2, q3⟩ := fin_lst (o := .lst [.int v]) hR kk r3 e fr
      exact k _ r q1 q2 q3 (by rw [upd_same, ea]; rfl)
    have no : (Sf65.within q 1 Sf65.LONG && (Sf93.isWord s && Sf93.isWord t)) = false → ∀ r, H3 r = none → Q (.ref r) (upd H3 r (.lst [.int (-1)])) := fun hb r fr => go _ H3 r (Same.refl _) fr (by
      unfold Sf93.step
      simp only
      rw [if_pos hb]
      rfl)
    refine ⟨_, rfl, q, rfl, _, rfl, ?_⟩
    cases e1 : Sf65.within q 1 32 with
    | false => exact iteT (iteT ⟨(by show 1 ≤ sizeLine; decide), no (show (Sf65.within q 1 32 && (Sf93.isWord s && Sf93.isWord t)) = false by rw [e1]; rfl)⟩)
    | true =>
      refine iteF ⟨_, rfl, xs, _, rfl, SqL.of hs, _, rfl, ?_⟩
      rw [isWord_eq]
      cases e2 : Sf93.isWord s with
      | false => exact iteT (iteT ⟨(by show 1 ≤ sizeLine; decide), no (show (Sf65.within q 1 32 && (Sf93.isWord s && Sf93.isWord t)) = false by rw [e1, e2]; rfl)⟩)
      | true =>
        refine iteF ⟨_, rfl, xt, _, rfl, SqL.of ht, _, rfl, ?_⟩
        rw [isWord_eq]
        cases e3 : Sf93.isWord t with
        | false => exact iteT ⟨(by show 1 ≤ sizeLine; decide), no (show (Sf65.within q 1 32 && (Sf93.isWord s && Sf93.isWord t)) = false by rw [e1, e2, e3]; rfl)⟩
        | true =>
          have l1 := within32 e1
          have l2 := word_len e2
          have l3 := word_len e3
          refine iteF ⟨_, rfl, _, rfl, _, rfl, q.toNat, s, t, xs, xt, (by rw [Int.toNat_of_nonneg (by omega)]; rfl), by omega, by omega, by omega, by omega, SqL.of hs, SqL.of ht, fun H9 e9 => ⟨(by show 1 ≤ sizeLine; decide), fun r fr => go _ H9 r e9 fr ?_⟩⟩
          have eL : Sf65.LONG = 32 := rfl
          unfold Sf93.step
          simp only
          rw [eL, e1, e2, e3, if_neg (by decide)]
          rfl
end
end Nw

end
section
set_option Elab.async false
set_option linter.all false
set_option maxRecDepth 100000
set_option maxHeartbeats 2000000
namespace Nw
open PySem PySem.Spec PyProof.Rows L2
open Sf65 (Bytes)
/-- all but p and D is as it was -/
def Keep2 (p D : Addr) (H H' : Hp) : Prop := ∀ b o, H b = some o → b ≠ p → b ≠ D → H' b = some o
theorem Keep2.of {p D : Addr} {H H' : Hp} (k : Keep p H H') : Keep2 p D H H' := fun b o h n _ => k b o h n
theorem Keep2.trans {p D : Addr} {H H1 H2 : Hp} (x : Keep2 p D H H1) (y : Keep2 p D H1 H2) : Keep2 p D H H2 := fun b o h n m => y b o (x b o h n m) n m
theorem Keep2.ofD {p D : Addr} {H H' : Hp} (k : Keep D H H') : Keep2 p D H H' := fun b o h _ n => k b o h n
theorem Keep2.same {p D : Addr} {H H' : Hp} (k : Same H H') : Keep2 p D H H' := fun b o h _ _ => k b o h
theorem di_ne {CR CD : Addr} {H : Hp} {p a pd D : Addr} {n : Nat} {d : List Bytes} (hR : RdAt CR H p a n) (hd : DiAt CD H pd D d) : pd ≠ p ∧ D ≠ p ∧ D ≠ pd := by
  obtain ⟨dx, h1⟩ := hR
  obtain ⟨dy, h2⟩ := hd.ins
  obtain ⟨kvs, h3, _⟩ := hd.dic
  refine ⟨ne_of h2 h1 fun z => ?_, ne_of h3 h1 (by intro z; cases z), ne_of h3 h2 (by intro z; cases z)⟩
  injection z with _ _ z
  have e : (df D).lookup ("calls" : Str) = (rf a (n : Int)).lookup ("calls" : Str) := congrArg (fun f : List (Str × V) => f.lookup ("calls" : Str)) z
  have e1 : (df D).lookup ("calls" : Str) = none := df_no D (by decide +kernel)
  have e2 := rf_calls a (n : Int)
  rw [e1, e2] at e
  cases e
theorem di_keep {CR CD : Addr} {H H1 : Hp} {p a pd D : Addr} {n : Nat} {d : List Bytes} (hR : RdAt CR H p a n) (hd : DiAt CD H pd D d) (k : Keep p H H1) : DiAt CD H1 pd D d := by
  obtain ⟨n1, n2, _⟩ := di_ne hR hd
  obtain ⟨dy, h2⟩ := hd.ins
  obtain ⟨kvs, h3, h4⟩ := hd.dic
  exact ⟨⟨dy, k _ _ h2 n1⟩, kvs, k _ _ h3 n2, h4⟩
inductive SpBI (K : PySem.W.Frag) (CR CD : Addr) (ok : Sf93.Call → Prop) (vs : List V) (H : Hp) (Q : VK) : Prop
  | mk (p pd a D : Addr) (n n' : Nat) (l : List Int) (c : Sf93.Call) (d : List Bytes) (e0 : vs = [.ref p, .ref pd]) (e1 : ok c) (e2 : RdAt CR H p a (n + 1)) (e3 : SqL K H a (l.map V.int)) (e4 : Nx l n c n') (e5 : DiAt CD H pd D d) (e6 : d.length ≤ 256) (e7 : (∀ w ∈ d, w.length ≤ 32)) (e8 : ∀ (H' : Hp) (r : Addr), RdAt CR H' p a n' → DiAt CD H' pd D (Sf93.step d c).1 → Keep2 p D H H' → H r = none → H' r = some (.lst ((ansI (Sf93.step d c).2).map V.int)) → Q (.ref r) H') : SpBI K CR CD ok vs H Q
def spB (K : PySem.W.Frag) (CR CD : Addr) (ok : Sf93.Call → Prop) : Sp := fun vs H Q _ => SpBI K CR CD ok vs H Q
section
variable {P : Program} {w : World} {K : PySem.W.Frag} {mg : Str → Option Value} {base : Heap}
def isAdd (c : Sf93.Call) : Prop := ∃ s, c = .add s
theorem scAad : FnScope ["reader", "dictionary", "s"] ["reader", "dictionary"] (defScope sAad) := ⟨rfl, rfl, rfl, by decide +kernel, rfl, by decide +kernel, by decide +kernel⟩
theorem step_add {d : List Bytes} {s : Bytes} (h : Sf93.isWord s = true) : Sf93.step d (.add s) = (addD d s, Sf93.only (addI d s)) := by
  unfold Sf93.step addD addI
  simp only
  rw [h, if_neg (by decide)]
  show (if d.contains s = true then (d, Sf93.only 1) else if 256 ≤ d.length then (d, Sf93.only (-2)) else (d ++ [s], Sf93.only 0)) = _
  by_cases c : d.contains s = true
  · rw [if_pos c, if_pos c, if_pos c]
  · rw [if_neg c, if_neg c, if_neg c]
    by_cases m : 256 ≤ d.length
    · rw [if_pos m, if_pos m, if_pos m]
    · rw [if_neg m, if_neg m, if_neg m]
theorem ok_aad {f C CD : Addr} {fd : FuncData} (F : Fun K "answer_add" "answer_add" sAad f fd) (T : Dk P w K mg base C) (cl : Cls K CD) (W : CalM P w K mg base CD "add" ["self", "word"] (spDad K CD) 7) : FnOk P w K mg base CX0 8 f fd ["reader", "dictionary"] (spB K C CD isAdd) := by
  obtain ⟨fR, dR, mR, bR, GR⟩ := T.row.ex
  obtain ⟨fL, dL, mgL, kL, bL, GL⟩ := T.lon.ex
  obtain ⟨fH, dH, mH, bH, GH⟩ := W.ex
  obtain ⟨_, gR⟩ := T.W.re
  refine F.ok scAad (fun vs H Q E h => ?_) (fun cdv A outer s0 H vs Q E hr h => ?_)
  · obtain ⟨p, pd, a, D, n, n', l, c, d, rfl, _⟩ := h
    rfl
  · obtain ⟨p, pd, a, D, n, n', l, c, d, rfl, ⟨s, rfl⟩, hR, ha, hx, hd, hdl, hwl, k⟩ := h
    have nd := scAad.nd
    cases hx with
    | add _ h0 h1 =>
    refine ⟨_, pss_cons (ps_set (i := 2) nd rfl (Or.inl rfl) (pe_meth0 (pv 0) T.cl mR GR hr bR .nil pass0))
      (pss_cons (ps_if (pt_val (pe_call GL hr rfl mgL kL bL .nil pass0 (pa_cons (pv 2) pa_nil)))
        (pss_one (ps_ret (pe_lst (pa_cons (pe_glob (v := .int (-1)) (by rfl) gR ⟨_, rfl⟩) pa_nil)))) pss_nil)
      (pss_one (ps_ret (pe_lst (pa_cons (pe_meth (pv 1) cl mH GH hr bH .nil pass0 (pa_cons (pv 2) pa_nil)) pa_nil))))), ?_⟩
    refine tk_row rfl hR ha h1 (m := n + 2 + s.length) rfl fun H1 x r1 k1 a1 fx hx => ?_
    have hd1 := di_keep hR hd k1
    refine ⟨_, rfl, x, _, rfl, SqL.of hx, _, rfl, ?_⟩
    rw [isWord_eq]
    cases e1 : Sf93.isWord s with
    | false =>
      refine iteT ⟨(by show 1 ≤ sizeLine; decide), fun r fr => ?_⟩
      obtain ⟨q1, q2, q3⟩ := fin_lst (o := .lst [.int (-1)]) hR k1 r1 (Same.refl H1) fr
      have es : Sf93.step d (.add s) = (d, Sf93.only (-1)) := by
        unfold Sf93.step
        simp only
        rw [e1, if_pos rfl]
      refine k _ r q1 (by rw [es]; exact hd1.same ((Same.refl H1).upd fr)) (Keep2.of q2) q3 (by rw [upd_same, es]; rfl)
    | true =>
      obtain ⟨dy, hi⟩ := hd1.ins
      have es := step_add (d := d) e1
      refine iteF ⟨_, rfl, pd, dy, _, rfl, hi, df_no _ (by decide +kernel), _, rfl, pd, x, D, d, s, rfl, hd1, SqL.of hx, by omega, fun H2 hd2 k2 => ⟨(by show 1 ≤ sizeLine; decide), fun r fr => ?_⟩⟩
      have s3 : Same H2 (upd H2 r (.lst [.int (addI d s)])) := (Same.refl H2).upd fr
      obtain ⟨dz, hp1⟩ := r1
      have np := (di_ne ⟨dz, hp1⟩ hd1).2.1
      have hp2 := k2 _ _ hp1 (fun z => np z.symm)
      refine k _ r ⟨dz, s3 _ _ hp2⟩ (by rw [es]; exact hd2.same s3) ((Keep2.of k1).trans ((Keep2.ofD k2).trans (Keep2.same s3))) ?_ (by rw [upd_same, es]; rfl)
      cases e : H r with
      | none => rfl
      | some o =>
        have nr : r ≠ p := fun z => by rw [z, hp2] at fr; cases fr
        have nD : r ≠ D := fun z => by
          obtain ⟨kvs, q, _⟩ := hd2.dic
          rw [z, q] at fr
          cases fr
        have := k2 _ _ (k1 _ _ e nr) nD
        rw [fr] at this
        cases this
def isNea (c : Sf93.Call) : Prop := ∃ y k i s, c = .near y k i s
theorem scAne : FnScope ["reader", "dictionary", "way", "k", "i", "s"] ["reader", "dictionary"] (defScope sAne) := ⟨rfl, rfl, rfl, by decide +kernel, rfl, by decide +kernel, by decide +kernel⟩
theorem step_near {d : List Bytes} {y k i : Int} {s : Bytes} (h : (Sf65.within y 0 3 && (Sf93.isWord s && decide (0 ≤ i))) = true) : ansI (Sf93.step d (.near y k i s)).2 = nearA y.toNat d s k i := by
  unfold Sf93.step nearA
  simp only
  rw [h, if_neg (by decide)]
  by_cases hk : k < 0
  · rw [if_pos hk, if_pos hk]
    rfl
  · rw [if_neg hk, if_neg hk]
    cases (Sf93.near y.toNat d s k.toNat)[i.toNat]? <;> rfl
theorem ok_ane {f C CD : Addr} {fd : FuncData} (F : Fun K "answer_near" "answer_near" sAne f fd) (T : Dk P w K mg base C) (cl : Cls K CD) (W : CalM P w K mg base CD "near" ["self", "way", "k", "i", "s"] (spDne K CD) 7) : FnOk P w K mg base CX0 8 f fd ["reader", "dictionary"] (spB K C CD isNea) := by
  obtain ⟨fN, dN, mN, bN, GN⟩ := T.num.ex
  obtain ⟨fR, dR, mR, bR, GR⟩ := T.row.ex
  obtain ⟨fY, dY, mgY, kY, bY, GY⟩ := T.way.ex
  obtain ⟨fL, dL, mgL, kL, bL, GL⟩ := T.lon.ex
  obtain ⟨fH, dH, mH, bH, GH⟩ := W.ex
  obtain ⟨_, gR⟩ := T.W.re
  refine F.ok scAne (fun vs H Q E h => ?_) (fun cdv A outer s0 H vs Q E hr h => ?_)
  · obtain ⟨p, pd, a, D, n, n', l, c, d, rfl, _⟩ := h
    rfl
  · obtain ⟨p, pd, a, D, n, n', l, c, d, rfl, ⟨y, kk, i, s, rfl⟩, hR, ha, hx, hd, hdl, hwl, k⟩ := h
    have nd := scAne.nd
    cases hx with
    | near _ _ _ _ h0 h1 h2 h3 h4 =>
    refine ⟨_, pss_cons (ps_set (i := 2) nd rfl (Or.inl rfl) (pe_meth0 (pv 0) T.cl mN GN hr bN .nil pass0))
      (pss_cons (ps_set (i := 3) nd rfl (Or.inl rfl) (pe_meth0 (pv 0) T.cl mN GN hr bN .nil pass0))
      (pss_cons (ps_set (i := 4) nd rfl (Or.inl rfl) (pe_meth0 (pv 0) T.cl mN GN hr bN .nil pass0))
      (pss_cons (ps_set (i := 5) nd rfl (Or.inl rfl) (pe_meth0 (pv 0) T.cl mR GR hr bR .nil pass0))
      (pss_cons (ps_if (PW.pt (pw_or (pt_val (pe_call GY hr rfl mgY kY bY .nil pass0 (pa_cons (pv 2) pa_nil))) (pw_or (pt_cmpR op_lt (pv 4) pe_int (nomark _)) (pw_or1 (pt_val (pe_call GL hr rfl mgL kL bL .nil pass0 (pa_cons (pv 5) pa_nil)))))))
        (pss_one (ps_ret (pe_lst (pa_cons (pe_glob (v := .int (-1)) (by rfl) gR ⟨_, rfl⟩) pa_nil)))) pss_nil)
      (pss_one (ps_ret (pe_meth (pv 1) cl mH GH hr bH .nil pass0 (pa_cons (pv 2) (pa_cons (pv 3) (pa_cons (pv 4) (pa_cons (pv 5) pa_nil))))))))))), ?_⟩
    refine tk_num rfl hR ha h1 (m := n + 2) rfl fun H1 r1 k1 a1 => ?_
    refine tk_num rfl r1 a1 h2 (m := n + 3) rfl fun H2 r2 k2 a2 => ?_
    refine tk_num rfl r2 a2 h3 (m := n + 4) rfl fun H3 r3 k3 a3 => ?_
    refine tk_row rfl r3 a3 h4 (m := n + 5 + s.length) rfl fun H4 x r4 k4 a4 fx hx => ?_
    have K4 : Keep p H H4 := ((k1.trans k2).trans k3).trans k4
    have hd4 := di_keep hR hd K4
    have e0 : (Sf93.step d (.near y kk i s)).1 = d := rfl
    have no : (Sf65.within y 0 3 && (Sf93.isWord s && decide (0 ≤ i))) = false → ∀ r, H4 r = none → Q (.ref r) (upd H4 r (.lst [.int (-1)])) := fun hb r fr => by
      obtain ⟨q1, q2, q3⟩ := fin_lst (o := .lst [.int (-1)]) hR K4 r4 (Same.refl H4) fr
      refine k _ r q1 (by rw [e0]; exact hd4.same ((Same.refl H4).upd fr)) (Keep2.of q2) q3 ?_
      rw [upd_same]
      unfold Sf93.step
      simp only
      rw [if_pos hb]
      rfl
    refine ⟨_, rfl, y, rfl, _, rfl, ?_⟩
    cases e1 : Sf65.within y 0 3 with
    | false => exact iteT (iteT ⟨(by show 1 ≤ sizeLine; decide), no (by rw [e1]; rfl)⟩)
    | true =>
      refine iteF ⟨_, rfl, _, _, rfl, rfl, _, rfl, ?_⟩
      by_cases hi : i < 0
      · exact iteP (decide_eq_true hi) (iteT ⟨(by show 1 ≤ sizeLine; decide), no (by rw [decide_eq_false (show ¬ 0 ≤ i by omega), Bool.and_false, Bool.and_false])⟩)
      · refine iteN (decide_eq_false hi) ⟨_, rfl, x, _, rfl, SqL.of hx, _, rfl, ?_⟩
        rw [isWord_eq]
        cases e2 : Sf93.isWord s with
        | false => exact iteT ⟨(by show 1 ≤ sizeLine; decide), no (by rw [e1, e2]; rfl)⟩
        | true =>
          have l1 := within3 e1
          have l2 := word_len e2
          obtain ⟨dy, hin⟩ := hd4.ins
          have hb : (Sf65.within y 0 3 && (Sf93.isWord s && decide (0 ≤ i))) = true := by rw [e1, e2, decide_eq_true (show 0 ≤ i by omega)]; rfl
          refine iteF ⟨_, rfl, pd, dy, _, rfl, hin, df_no _ (by decide +kernel), _, rfl, _, rfl, _, rfl, _, rfl, pd, x, D, d, y.toNat, kk, i, s, (by rw [Int.toNat_of_nonneg l1.1]; rfl), hd4, SqL.of hx, by omega, by omega, by omega, by omega, (fun w hw => by have := hwl w hw; omega), fun H5 r s5 fr hr5 => ?_⟩
          obtain ⟨dz, hp4⟩ := r4
          refine k _ r ⟨dz, s5 _ _ hp4⟩ (by rw [e0]; exact hd4.same s5) ((Keep2.of K4).trans (Keep2.same s5)) (K4.free hR fr ⟨_, dz, hp4⟩) (by rw [step_near hb]; exact hr5)
def isCnt (c : Sf93.Call) : Prop := ∃ y k s, c = .count y k s
theorem scAcn : FnScope ["reader", "dictionary", "way", "k", "s"] ["reader", "dictionary"] (defScope sAcn) := ⟨rfl, rfl, rfl, by decide +kernel, rfl, by decide +kernel, by decide +kernel⟩
theorem step_count {d : List Bytes} {y k : Int} {s : Bytes} (h : (Sf65.within y 0 3 && Sf93.isWord s) = true) : ansI (Sf93.step d (.count y k s)).2 = [((reachI y.toNat d s k).length : Int)] := by
  unfold Sf93.step
  simp only
  rw [h, if_neg (by decide)]
  by_cases hk : k < 0
  · rw [if_pos hk, reachI_neg hk]
    rfl
  · rw [if_neg hk, reachI_pos hk, near_length]
    rfl
theorem ok_acn {f C CD : Addr} {fd : FuncData} (F : Fun K "answer_count" "answer_count" sAcn f fd) (T : Dk P w K mg base C) (hlen : mg "len" = none) (cl : Cls K CD) (W : CalM P w K mg base CD "within" ["self", "way", "k", "s"] (spDwi K CD) 7) : FnOk P w K mg base CX0 8 f fd ["reader", "dictionary"] (spB K C CD isCnt) := by
  obtain ⟨fN, dN, mN, bN, GN⟩ := T.num.ex
  obtain ⟨fR, dR, mR, bR, GR⟩ := T.row.ex
  obtain ⟨fY, dY, mgY, kY, bY, GY⟩ := T.way.ex
  obtain ⟨fL, dL, mgL, kL, bL, GL⟩ := T.lon.ex
  obtain ⟨fH, dH, mH, bH, GH⟩ := W.ex
  obtain ⟨_, gR⟩ := T.W.re
  refine F.ok scAcn (fun vs H Q E h => ?_) (fun cdv A outer s0 H vs Q E hr h => ?_)
  · obtain ⟨p, pd, a, D, n, n', l, c, d, rfl, _⟩ := h
    rfl
  · obtain ⟨p, pd, a, D, n, n', l, c, d, rfl, ⟨y, kk, s, rfl⟩, hR, ha, hx, hd, hdl, hwl, k⟩ := h
    have nd := scAcn.nd
    cases hx with
    | count _ _ _ h0 h1 h2 h3 =>
    refine ⟨_, pss_cons (ps_set (i := 2) nd rfl (Or.inl rfl) (pe_meth0 (pv 0) T.cl mN GN hr bN .nil pass0))
      (pss_cons (ps_set (i := 3) nd rfl (Or.inl rfl) (pe_meth0 (pv 0) T.cl mN GN hr bN .nil pass0))
      (pss_cons (ps_set (i := 4) nd rfl (Or.inl rfl) (pe_meth0 (pv 0) T.cl mR GR hr bR .nil pass0))
      (pss_cons (ps_if (PW.pt (pw_or (pt_val (pe_call GY hr rfl mgY kY bY .nil pass0 (pa_cons (pv 2) pa_nil))) (pw_or1 (pt_val (pe_call GL hr rfl mgL kL bL .nil pass0 (pa_cons (pv 4) pa_nil))))))
        (pss_one (ps_ret (pe_lst (pa_cons (pe_glob (v := .int (-1)) (by rfl) gR ⟨_, rfl⟩) pa_nil)))) pss_nil)
      (pss_one (ps_ret (pe_lst (pa_cons (pe_callB call_lenS (by rfl) hlen PySem.boot_len (pa_cons (pe_meth (pv 1) cl mH GH hr bH .nil pass0 (pa_cons (pv 2) (pa_cons (pv 3) (pa_cons (pv 4) pa_nil)))) pa_nil)) pa_nil))))))), ?_⟩
    refine tk_num rfl hR ha h1 (m := n + 2) rfl fun H1 r1 k1 a1 => ?_
    refine tk_num rfl r1 a1 h2 (m := n + 3) rfl fun H2 r2 k2 a2 => ?_
    refine tk_row rfl r2 a2 h3 (m := n + 4 + s.length) rfl fun H4 x r4 k4 a4 fx hx => ?_
    have K4 : Keep p H H4 := (k1.trans k2).trans k4
    have hd4 := di_keep hR hd K4
    have e0 : (Sf93.step d (.count y kk s)).1 = d := rfl
    have no : (Sf65.within y 0 3 && Sf93.isWord s) = false → ∀ r, H4 r = none → Q (.ref r) (upd H4 r (.lst [.int (-1)])) := fun hb r fr => by
      obtain ⟨q1, q2, q3⟩ := fin_lst (o := .lst [.int (-1)]) hR K4 r4 (Same.refl H4) fr
      refine k _ r q1 (by rw [e0]; exact hd4.same ((Same.refl H4).upd fr)) (Keep2.of q2) q3 ?_
      rw [upd_same]
      unfold Sf93.step
      simp only
      rw [if_pos hb]
      rfl
    refine ⟨_, rfl, y, rfl, _, rfl, ?_⟩
    cases e1 : Sf65.within y 0 3 with
    | false => exact iteT (iteT ⟨(by show 1 ≤ sizeLine; decide), no (by rw [e1]; rfl)⟩)
    | true =>
      refine iteF ⟨_, rfl, x, _, rfl, SqL.of hx, _, rfl, ?_⟩
      rw [isWord_eq]
      cases e2 : Sf93.isWord s with
      | false => exact iteT ⟨(by show 1 ≤ sizeLine; decide), no (by rw [e1, e2]; rfl)⟩
      | true =>
        have l1 := within3 e1
        have l2 := word_len e2
        obtain ⟨dy, hin⟩ := hd4.ins
        refine iteF ⟨_, rfl, pd, dy, _, rfl, hin, df_no _ (by decide +kernel), _, rfl, _, rfl, _, rfl, pd, x, D, d, y.toNat, kk, s, (by rw [Int.toNat_of_nonneg l1.1]; rfl), hd4, SqL.of hx, by omega, by omega, by omega, (fun w hw => by have := hwl w hw; omega), fun H5 r fs s5 fr hr5 hfs ef => ?_⟩
        refine ⟨r, _, rfl, .inl (SqL.of hr5), (by show 1 ≤ sizeLine; decide), fun v fv => ?_⟩
        have ec : (fs.map fun x => V.ref x.t).length = (reachI y.toNat d s kk).length := by
          rw [← ef, List.length_map, List.length_map]
        rw [ec]
        obtain ⟨q1, q2, q3⟩ := fin_lst (o := .lst [.int ((reachI y.toNat d s kk).length : Nat)]) hR K4 r4 s5 fv
        exact k _ v q1 (by rw [e0]; exact hd4.same (s5.upd fv)) (Keep2.of q2) q3 (by rw [upd_same, step_count (by rw [e1, e2]; rfl)]; rfl)
end
end Nw

end
section
set_option Elab.async false
set_option linter.all false
set_option maxRecDepth 100000
set_option maxHeartbeats 2000000
namespace Nw
open PySem PySem.Spec PyProof.Rows L2
open Sf65 (Bytes)
/-- the dictionary stays within its bounds -/
def DOk (d : List Bytes) : Prop := d.length ≤ 256 ∧ ∀ w ∈ d, w.length ≤ 32
theorem dok_step {d : List Bytes} (h : DOk d) (c : Sf93.Call) : DOk (Sf93.step d c).1 := by
  cases c with
  | add s =>
    cases e : Sf93.isWord s with
    | false =>
      have es : Sf93.step d (.add s) = (d, Sf93.only (-1)) := by
        unfold Sf93.step
        simp only
        rw [e, if_pos rfl]
      rw [es]
      exact h
    | true =>
      rw [step_add e]
      show DOk (addD d s)
      unfold addD
      by_cases c1 : d.contains s = true
      · rw [if_pos c1]; exact h
      · rw [if_neg c1]
        by_cases c2 : 256 ≤ d.length
        · rw [if_pos c2]; exact h
        · rw [if_neg c2]
          refine ⟨?_, fun w hw => ?_⟩
          · rw [List.length_append]
            show d.length + 1 ≤ 256
            omega
          · rcases List.mem_append.mp hw with hw | hw
            · exact h.2 w hw
            · rw [List.mem_singleton.mp hw]
              exact word_len e
  | _ => exact h
theorem ans_len {d : List Bytes} (h : DOk d) (c : Sf93.Call) : (ansI (Sf93.step d c).2).length ≤ 33 := by
  have one : ∀ z : Int, (ansI (Sf93.only z)).length ≤ 33 := fun z => by show 1 ≤ 33; decide
  have tr : ∀ b : Bool, (ansI (Sf93.truth b)).length ≤ 33 := fun b => one _
  cases c with
  | far y s t =>
    unfold Sf93.step
    simp only
    split
    · exact one _
    · cases Sf93.far y.toNat s t <;> exact one _
  | makes y s t l =>
    unfold Sf93.step
    simp only
    split
    · exact one _
    · exact tr _
  | common s t =>
    unfold Sf93.step
    simp only
    split <;> exact one _
  | shares s t u =>
    unfold Sf93.step
    simp only
    split
    · exact one _
    · exact tr _
  | grams q s t =>
    unfold Sf93.step
    simp only
    split <;> exact one _
  | add s =>
    unfold Sf93.step
    simp only
    split
    · exact one _
    · split
      · exact one _
      · split <;> exact one _
  | near y k i s =>
    unfold Sf93.step
    simp only
    split
    · exact one _
    · split
      · exact one _
      · cases e : (Sf93.near y.toNat d s k.toNat)[i.toNat]? with
        | none => exact one _
        | some x =>
          have m := (near_perm y.toNat d s k.toNat).mem_iff.mp (List.mem_of_getElem? e)
          by_cases hk : k < 0
          · contradiction
          · rw [← reachI_pos hk] at m
            have := h.2 _ (reach_mem m)
            show (x.2.map bi).length + 1 ≤ 33
            rw [List.length_map]
            omega
  | count y k s =>
    unfold Sf93.step
    simp only
    split
    · exact one _
    · split <;> exact one _
inductive SpNI (K : PySem.W.Frag) (CR CD : Addr) (vs : List V) (H : Hp) (Q : VK) : Prop
  | mk (p pd a D : Addr) (n n' : Nat) (l : List Int) (c : Sf93.Call) (d : List Bytes) (e0 : vs = [.ref p, .ref pd]) (e1 : RdAt CR H p a n) (e2 : SqL K H a (l.map V.int)) (e3 : Nx l n c n') (e4 : DiAt CD H pd D d) (e5 : DOk d) (e6 : ∀ (H' : Hp) (r : Addr), RdAt CR H' p a n' → DiAt CD H' pd D (Sf93.step d c).1 → Keep2 p D H H' → H r = none → H' r = some (.lst ((ansI (Sf93.step d c).2).map V.int)) → Q (.ref r) H') : SpNI K CR CD vs H Q
def spN (K : PySem.W.Frag) (CR CD : Addr) : Sp := fun vs H Q _ => SpNI K CR CD vs H Q
structure TxtN (mg : Str → Option Value) : Prop where
  c0 : ∃ t, mg "FAR" = some (.int 0 t)
  c1 : ∃ t, mg "MAKES" = some (.int 1 t)
  c2 : ∃ t, mg "COMMON" = some (.int 2 t)
  c3 : ∃ t, mg "SHARES" = some (.int 3 t)
  c4 : ∃ t, mg "GRAMS" = some (.int 4 t)
  c5 : ∃ t, mg "ADD" = some (.int 5 t)
  c6 : ∃ t, mg "NEAR" = some (.int 6 t)
  c7 : ∃ t, mg "COUNT" = some (.int 7 t)
section
variable {P : Program} {w : World} {K : PySem.W.Frag} {mg : Str → Option Value} {base : Heap}
structure Desk (P : Program) (w : World) (K : PySem.W.Frag) (mg : Str → Option Value) (base : Heap) (CR CD : Addr) : Prop where
  far : Cal P w K mg base "answer_far" ["reader"] (spA K CR isFar) 8
  mak : Cal P w K mg base "answer_makes" ["reader"] (spA K CR isMak) 8
  com : Cal P w K mg base "answer_common" ["reader"] (spA K CR isCom) 8
  sha : Cal P w K mg base "answer_shares" ["reader"] (spA K CR isSha) 8
  gra : Cal P w K mg base "answer_grams" ["reader"] (spA K CR isGra) 8
  add : Cal P w K mg base "answer_add" ["reader", "dictionary"] (spB K CR CD isAdd) 8
  nea : Cal P w K mg base "answer_near" ["reader", "dictionary"] (spB K CR CD isNea) 8
  cnt : Cal P w K mg base "answer_count" ["reader", "dictionary"] (spB K CR CD isCnt) 8
theorem scNxt : FnScope ["reader", "dictionary", "call"] ["reader", "dictionary"] (defScope sNxt) := ⟨rfl, rfl, rfl, by decide +kernel, rfl, by decide +kernel, by decide +kernel⟩
theorem ok_nxt {f CR CD : Addr} {fd : FuncData} (F : Fun K "answer_next" "answer_next" sNxt f fd) (T : Dk P w K mg base CR) (N : TxtN mg) (S : Desk P w K mg base CR CD) : FnOk P w K mg base CX0 9 f fd ["reader", "dictionary"] (spN K CR CD) := by
  obtain ⟨fN, dN, mN, bN, GN0⟩ := T.num.ex
  have GN : FnOk P w K mg base CX0 8 fN dN ["self"] (spRnu K CR) := GN0.mono (by decide)
  obtain ⟨f0, d0, m0, k0, b0, G0⟩ := S.far.ex
  obtain ⟨f1, d1, m1, k1, b1, G1⟩ := S.mak.ex
  obtain ⟨f2, d2, m2, k2, b2, G2⟩ := S.com.ex
  obtain ⟨f3, d3, m3, k3, b3, G3⟩ := S.sha.ex
  obtain ⟨f4, d4, m4, k4, b4, G4⟩ := S.gra.ex
  obtain ⟨f5, d5, m5, k5, b5, G5⟩ := S.add.ex
  obtain ⟨f6, d6, m6, k6, b6, G6⟩ := S.nea.ex
  obtain ⟨f7, d7, m7, k7, b7, G7⟩ := S.cnt.ex
  obtain ⟨_, g0⟩ := N.c0
  obtain ⟨_, g1⟩ := N.c1
  obtain ⟨_, g2⟩ := N.c2
  obtain ⟨_, g3⟩ := N.c3
  obtain ⟨_, g4⟩ := N.c4
  obtain ⟨_, g5⟩ := N.c5
  obtain ⟨_, g6⟩ := N.c6
  obtain ⟨_, g7⟩ := N.c7
  refine F.ok scNxt (fun vs H Q E h => ?_) (fun cdv A outer s0 H vs Q E hr h => ?_)
  · obtain ⟨p, pd, a, D, n, n', l, c, d, rfl, _⟩ := h
    rfl
  · obtain ⟨p, pd, a, D, n, n', l, c, d, rfl, hR, ha, hx, hd, hok, k⟩ := h
    have nd := scNxt.nd
    refine ⟨_, pss_cons (ps_set (i := 2) nd rfl (Or.inl rfl) (pe_meth0 (pv 0) T.cl mN GN hr bN .nil pass0))
      (pss_cons (ps_if (pt_cmpR op_eq (pv 2) (pe_glob (v := .int 0) (by rfl) g0 ⟨_, rfl⟩) (nomark _)) (pss_one (ps_ret (pe_call G0 hr rfl m0 k0 b0 .nil pass0 (pa_cons (pv 0) pa_nil)))) pss_nil)
      (pss_cons (ps_if (pt_cmpR op_eq (pv 2) (pe_glob (v := .int 1) (by rfl) g1 ⟨_, rfl⟩) (nomark _)) (pss_one (ps_ret (pe_call G1 hr rfl m1 k1 b1 .nil pass0 (pa_cons (pv 0) pa_nil)))) pss_nil)
      (pss_cons (ps_if (pt_cmpR op_eq (pv 2) (pe_glob (v := .int 2) (by rfl) g2 ⟨_, rfl⟩) (nomark _)) (pss_one (ps_ret (pe_call G2 hr rfl m2 k2 b2 .nil pass0 (pa_cons (pv 0) pa_nil)))) pss_nil)
      (pss_cons (ps_if (pt_cmpR op_eq (pv 2) (pe_glob (v := .int 3) (by rfl) g3 ⟨_, rfl⟩) (nomark _)) (pss_one (ps_ret (pe_call G3 hr rfl m3 k3 b3 .nil pass0 (pa_cons (pv 0) pa_nil)))) pss_nil)
      (pss_cons (ps_if (pt_cmpR op_eq (pv 2) (pe_glob (v := .int 4) (by rfl) g4 ⟨_, rfl⟩) (nomark _)) (pss_one (ps_ret (pe_call G4 hr rfl m4 k4 b4 .nil pass0 (pa_cons (pv 0) pa_nil)))) pss_nil)
      (pss_cons (ps_if (pt_cmpR op_eq (pv 2) (pe_glob (v := .int 5) (by rfl) g5 ⟨_, rfl⟩) (nomark _)) (pss_one (ps_ret (pe_call G5 hr rfl m5 k5 b5 .nil pass0 (pa_cons (pv 0) (pa_cons (pv 1) pa_nil))))) pss_nil)
      (pss_cons (ps_if (pt_cmpR op_eq (pv 2) (pe_glob (v := .int 6) (by rfl) g6 ⟨_, rfl⟩) (nomark _)) (pss_one (ps_ret (pe_call G6 hr rfl m6 k6 b6 .nil pass0 (pa_cons (pv 0) (pa_cons (pv 1) pa_nil))))) pss_nil)
      (pss_cons (ps_if (pt_cmpR op_eq (pv 2) (pe_glob (v := .int 7) (by rfl) g7 ⟨_, rfl⟩) (nomark _)) (pss_one (ps_ret (pe_call G7 hr rfl m7 k7 b7 .nil pass0 (pa_cons (pv 0) (pa_cons (pv 1) pa_nil))))) pss_nil)
      (pss_one ps_never))))))))), ?_⟩
    have gA : ∀ (H1 : Hp), RdAt CR H1 p a (n + 1) → Keep p H H1 → (Sf93.step d c).1 = d → ∀ (H' : Hp) (r : Addr), RdAt CR H' p a n' → Keep p H1 H' → H1 r = none → H' r = some (.lst ((ansI (Sf93.step d c).2).map V.int)) → Q (.ref r) H' := fun H1 r1 k1 e H' r r2 k2 fr h => by
      have kk := k1.trans k2
      exact k H' r r2 (by rw [e]; exact di_keep hR hd kk) (Keep2.of kk) (k1.free hR fr ⟨_, r1⟩) h
    have gB : ∀ (H1 : Hp), RdAt CR H1 p a (n + 1) → Keep p H H1 → ∀ (H' : Hp) (r : Addr), RdAt CR H' p a n' → DiAt CD H' pd D (Sf93.step d c).1 → Keep2 p D H1 H' → H1 r = none → H' r = some (.lst ((ansI (Sf93.step d c).2).map V.int)) → Q (.ref r) H' := fun H1 r1 k1 H' r r2 dd k2 fr h =>
      k H' r r2 dd ((Keep2.of k1).trans k2) (k1.free hR fr ⟨_, r1⟩) h
    have yes : ∀ (i : Int) {A B : Prop}, A → (if decide (V.int i = V.int i) = true then A else B) := fun i {A B} h => iteP (decide_eq_true rfl) h
    have nay : ∀ {i j : Int} {A B : Prop}, i ≠ j → B → (if decide (V.int i = V.int j) = true then A else B) := fun {i j A B} hn h => iteN (decide_eq_false fun z => hn (by injection z)) h
    cases hx with
    | far y s t h0 h1 h2 h3 =>
      refine tk_num rfl hR ha h0 (m := n + 1) rfl fun H1 r1 q1 a1 => ?_
      refine ⟨_, rfl, rfl, _, rfl, yes _ ⟨_, rfl, p, a, n, _, l, _, d, rfl, ⟨y, s, t, rfl⟩, r1, a1, .far y s t h0 h1 h2 h3, gA H1 r1 q1 rfl⟩⟩
    | makes y s t es h0 h1 h2 h3 h4 =>
      refine tk_num rfl hR ha h0 (m := n + 1) rfl fun H1 r1 q1 a1 => ?_
      refine ⟨_, rfl, rfl, _, rfl, nay (by decide) ⟨_, rfl, rfl, _, rfl, yes _ ⟨_, rfl, p, a, n, _, l, _, d, rfl, ⟨y, s, t, es, rfl⟩, r1, a1, .makes y s t es h0 h1 h2 h3 h4, gA H1 r1 q1 rfl⟩⟩⟩
    | common s t h0 h1 h2 =>
      refine tk_num rfl hR ha h0 (m := n + 1) rfl fun H1 r1 q1 a1 => ?_
      refine ⟨_, rfl, rfl, _, rfl, nay (by decide) ⟨_, rfl, rfl, _, rfl, nay (by decide) ⟨_, rfl, rfl, _, rfl, yes _ ⟨_, rfl, p, a, n, _, l, _, d, rfl, ⟨s, t, rfl⟩, r1, a1, .common s t h0 h1 h2, gA H1 r1 q1 rfl⟩⟩⟩⟩
    | shares s t u h0 h1 h2 h3 =>
      refine tk_num rfl hR ha h0 (m := n + 1) rfl fun H1 r1 q1 a1 => ?_
      refine ⟨_, rfl, rfl, _, rfl, nay (by decide) ⟨_, rfl, rfl, _, rfl, nay (by decide) ⟨_, rfl, rfl, _, rfl, nay (by decide) ⟨_, rfl, rfl, _, rfl, yes _ ⟨_, rfl, p, a, n, _, l, _, d, rfl, ⟨s, t, u, rfl⟩, r1, a1, .shares s t u h0 h1 h2 h3, gA H1 r1 q1 rfl⟩⟩⟩⟩⟩
    | grams q s t h0 h1 h2 h3 =>
      refine tk_num rfl hR ha h0 (m := n + 1) rfl fun H1 r1 q1 a1 => ?_
      refine ⟨_, rfl, rfl, _, rfl, nay (by decide) ⟨_, rfl, rfl, _, rfl, nay (by decide) ⟨_, rfl, rfl, _, rfl, nay (by decide) ⟨_, rfl, rfl, _, rfl, nay (by decide) ⟨_, rfl, rfl, _, rfl, yes _ ⟨_, rfl, p, a, n, _, l, _, d, rfl, ⟨q, s, t, rfl⟩, r1, a1, .grams q s t h0 h1 h2 h3, gA H1 r1 q1 rfl⟩⟩⟩⟩⟩⟩
    | add s h0 h1 =>
      refine tk_num rfl hR ha h0 (m := n + 1) rfl fun H1 r1 q1 a1 => ?_
      refine ⟨_, rfl, rfl, _, rfl, nay (by decide) ⟨_, rfl, rfl, _, rfl, nay (by decide) ⟨_, rfl, rfl, _, rfl, nay (by decide) ⟨_, rfl, rfl, _, rfl, nay (by decide) ⟨_, rfl, rfl, _, rfl, nay (by decide) ⟨_, rfl, rfl, _, rfl, yes _ ⟨_, rfl, _, rfl, p, pd, a, D, n, _, l, _, d, rfl, ⟨s, rfl⟩, r1, a1, .add s h0 h1, di_keep hR hd q1, hok.1, hok.2, gB H1 r1 q1⟩⟩⟩⟩⟩⟩⟩
    | near y kk i s h0 h1 h2 h3 h4 =>
      refine tk_num rfl hR ha h0 (m := n + 1) rfl fun H1 r1 q1 a1 => ?_
      refine ⟨_, rfl, rfl, _, rfl, nay (by decide) ⟨_, rfl, rfl, _, rfl, nay (by decide) ⟨_, rfl, rfl, _, rfl, nay (by decide) ⟨_, rfl, rfl, _, rfl, nay (by decide) ⟨_, rfl, rfl, _, rfl, nay (by decide) ⟨_, rfl, rfl, _, rfl, nay (by decide) ⟨_, rfl, rfl, _, rfl, yes _ ⟨_, rfl, _, rfl, p, pd, a, D, n, _, l, _, d, rfl, ⟨y, kk, i, s, rfl⟩, r1, a1, .near y kk i s h0 h1 h2 h3 h4, di_keep hR hd q1, hok.1, hok.2, gB H1 r1 q1⟩⟩⟩⟩⟩⟩⟩⟩
    | count y kk s h0 h1 h2 h3 =>
      refine tk_num rfl hR ha h0 (m := n + 1) rfl fun H1 r1 q1 a1 => ?_
      refine ⟨_, rfl, rfl, _, rfl, nay (by decide) ⟨_, rfl, rfl, _, rfl, nay (by decide) ⟨_, rfl, rfl, _, rfl, nay (by decide) ⟨_, rfl, rfl, _, rfl, nay (by decide) ⟨_, rfl, rfl, _, rfl, nay (by decide) ⟨_, rfl, rfl, _, rfl, nay (by decide) ⟨_, rfl, rfl, _, rfl, nay (by decide) ⟨_, rfl, rfl, _, rfl, yes _ ⟨_, rfl, _, rfl, p, pd, a, D, n, _, l, _, d, rfl, ⟨y, kk, s, rfl⟩, r1, a1, .count y kk s h0 h1 h2 h3, di_keep hR hd q1, hok.1, hok.2, gB H1 r1 q1⟩⟩⟩⟩⟩⟩⟩⟩⟩
end
end Nw

end
section
set_option Elab.async false
set_option linter.all false
set_option maxRecDepth 100000
set_option maxHeartbeats 2000000
namespace Nw
open PySem PySem.Spec PyProof.Rows L2
open Sf65 (Bytes)
/-- the place at which the reader stands -/
def placeAt (H : Hp) (p : Addr) : Nat := match H p with
  | some (.ins _ _ fs) => (match fs.lookup ("place" : Str) with | some (.int z) => z.toNat | _ => 0)
  | _ => 0
theorem placeAt_of {C : Addr} {H : Hp} {p a : Addr} {n : Nat} (h : RdAt C H p a n) : placeAt H p = n := by
  obtain ⟨dx, h⟩ := h
  unfold placeAt
  rw [h]
  simp only
  rw [rf_place]
  simp
inductive SpAnsI (K : PySem.W.Frag) (vs : List V) (H : Hp) (Q : VK) : Prop
  | mk (a : Addr) (l : List Int) (e0 : vs = [.ref a]) (e1 : SqL K H a (l.map V.int)) (e2 : PySf93.answers_asked l = true) (e3 : l.length ≤ 30000) (e4 : ∀ (H' : Hp) (r : Addr), H' r = some (.lst ((PySf93.answers l).map V.int)) → Q (.ref r) H') : SpAnsI K vs H Q
def spAns (K : PySem.W.Frag) : Sp := fun vs H Q _ => SpAnsI K vs H Q
section
variable {P : Program} {w : World} {K : PySem.W.Frag} {mg : Str → Option Value} {base : Heap}
theorem scAns : FnScope ["calls", "reader", "dictionary", "given", "answer"] ["calls"] (defScope sAns) := ⟨rfl, rfl, rfl, by decide +kernel, rfl, by decide +kernel, by decide +kernel⟩
theorem same_make {H H1 : Hp} {x dx C : Addr} (fx : H x = none) (fd : H dx = none) (k : Keep x (upd (upd H dx (.own x)) x (.ins C dx [])) H1) : Same H H1 := fun b o h => by
  have n1 := ne_of_none h fx
  have n2 := ne_of_none h fd
  exact k b o (by rw [upd_ne n1, upd_ne n2]; exact h) n1
theorem same_keep2 {H H1 H2 : Hp} {p D : Addr} (s : Same H H1) (fp : H p = none) (fD : H D = none) (k : Keep2 p D H1 H2) : Same H H2 := fun b o h => k b o (s b o h) (ne_of_none h fp) (ne_of_none h fD)
inductive AnsI (CR CD a p pd D g : Addr) (l : List Int) (H : Hp) (σ : L2.St) (H' : Hp) : Prop
  | mk (n : Nat) (d : List Bytes) (out : List Int) (v4 : Option V) (e1 : σ = [some (.ref a), some (.ref p), some (.ref pd), some (.ref g), v4]) (e2 : Same H H') (e3 : RdAt CR H' p a n) (e4 : DiAt CD H' pd D d) (e5 : DOk d) (e6 : Todo l n d out) (e7 : H' g = some (.lst (out.map V.int)))
      (e8 : out.length ≤ 34 * n) : AnsI CR CD a p pd D g l H σ H'
theorem ok_ans {f CR CD fI fJ : Addr} {fd dI dJ : FuncData} (F : Fun K "answers" "answers" sAns f fd) (hlen : mg "len" = none) (T : Dk P w K mg base CR) (TC : TxtC K mg CD) (mgR : mg "Reader" = some (.ref CR)) (MR : Mk K CR fI) (bI : Binds K dI ["self", "calls"] []) (GI0 : FnOk P w K mg base CX0 1 fI dI ["self", "calls"] (spRin CR))
    (MD : Mk K CD fJ) (bJ : Binds K dJ ["self"] []) (GJ0 : FnOk P w K mg base CX0 1 fJ dJ ["self"] (spDin CD)) (AE : CalM P w K mg base CR "at_end" ["self"] (spRat K CR) 9) (N : Cal P w K mg base "answer_next" ["reader", "dictionary"] (spN K CR CD) 9) : FnOk P w K mg base CX0 10 f fd ["calls"] (spAns K) := by
  have GI : FnOk P w K mg base CX0 8 fI dI ["self", "calls"] (spRin CR) := GI0.mono (by decide)
  have GJ : FnOk P w K mg base CX0 8 fJ dJ ["self"] (spDin CD) := GJ0.mono (by decide)
  obtain ⟨fE, dE, mE, bE, GE⟩ := AE.ex
  obtain ⟨fN, dN, mgN, kN, bN, GN⟩ := N.ex
  refine F.ok scAns (fun vs H Q E h => ?_) (fun cdv A outer s0 H vs Q E hr h => ?_)
  · obtain ⟨a, l, rfl, _⟩ := h
    rfl
  · obtain ⟨a, l, rfl, ha, hask, hl3, k⟩ := h
    have nd := scAns.nd
    refine ⟨_, pss_cons (ps_set (i := 1) nd rfl (Or.inl rfl) (pe_make MR GI hr rfl mgR bI .nil pass0 (pa_cons (pv 0) pa_nil)))
      (pss_cons (ps_set (i := 2) nd rfl (Or.inl rfl) (pe_make0 MD GJ hr rfl TC.mgC bJ .nil pass0))
      (pss_cons (ps_set (i := 3) nd rfl (Or.inl rfl) (pe_lst pa_nil))
      (pss_cons (ps_while PassesOwn.never (pt_not (pt_val (pe_meth0 (pv 1) T.cl mE GE hr bE .nil pass0)))
        (pss_cons (ps_set (i := 4) nd rfl (Or.inl rfl) (pe_call GN hr rfl mgN kN bN .nil pass0 (pa_cons (pv 1) (pa_cons (pv 2) pa_nil))))
        (pss_cons (ps_expr (pe_bm PySem.F.plainAttrs_list PySem.F.slot_list_append PySem.F.type_list_append mt_append (pv 3) (pa_cons (pe_callB call_lenS (by rfl) hlen PySem.boot_len (pa_cons (pv 4) pa_nil)) pa_nil)))
        (pss_one (ps_expr (pe_bm PySem.F.plainAttrs_list PySem.F.slot_list_extend PySem.F.type_list_extend mt_extend (pv 3) (pa_cons (pv 4) pa_nil)))))))
      (pss_one (ps_ret (pv 3)))))), ?_⟩
    refine ⟨_, rfl, fun p dx fp fdx hne => ⟨p, a, dx, rfl, upd_same, fun H1 r1 k1 => ⟨rfl, ?_⟩⟩⟩
    have s1 := same_make fp fdx k1
    refine fun pd dy fpd fdy hne2 => ⟨pd, dy, rfl, upd_same, fun H2 D d2 k2 fD => ⟨rfl, ?_⟩⟩
    have s2 := same_make fpd fdy k2
    have fD1 : H1 D = none := by
      have e1 : D ≠ pd := fun z => by rw [z, upd_same] at fD; cases fD
      rw [upd_ne e1] at fD
      have e2 : D ≠ dy := fun z => by rw [z, upd_same] at fD; cases fD
      rw [upd_ne e2] at fD
      exact fD
    have r2 : RdAt CR H2 p a 0 := by
      obtain ⟨dz, h⟩ := r1
      exact ⟨dz, s2 _ _ h⟩
    have s12 := s1.trans s2
    refine ⟨(by show 0 ≤ sizeLine; decide), fun g fg => ?_⟩
    have s3 : Same H2 (upd H2 g (.lst [])) := (Same.refl H2).upd fg
    have fDH : H D = none := s1.free fD1
    have fgH : H g = none := s12.free fg
    refine while_by (AnsI CR CD a p pd D g l H)
      (fun _ H' => l.length - placeAt H' p) ⟨0, [], [], none, rfl, s12.trans s3, ?_, d2.same s3, ⟨Nat.zero_le _, fun w hw => nomatch hw⟩, todo_start hask, upd_same, Nat.le_refl _⟩ ?_ ?_
    · obtain ⟨dz, h⟩ := r2
      exact ⟨dz, s3 _ _ h⟩
    · rintro σ H4 ⟨n, d, out, v4, rfl, s4, hR, hd, hok, todo, hg, hlo⟩
      obtain ⟨dz, hp⟩ := hR
      have ha4 := s4.seq ha
      refine ⟨_, rfl, p, dz, _, rfl, hp, rf_no _ _ (by decide +kernel) (by decide +kernel), p, a, n, l, rfl, ⟨dz, hp⟩, ha4, _, rfl, ?_⟩
      by_cases hn : l.length ≤ n
      · refine iteN (by rw [decide_eq_true hn]; rfl) ⟨_, rfl, k H4 g ?_⟩
        rw [hg, todo_end todo hn]
      · refine iteP (by rw [decide_eq_false hn]; rfl) ?_
        obtain ⟨c, n', hx, hlt, todo'⟩ := todo_next todo (by omega)
        have hal := ans_len hok c
        have hn' := todo'.le
        refine ⟨_, rfl, _, rfl, p, pd, a, D, n, n', l, c, d, rfl, ⟨dz, hp⟩, ha4, hx, hd, hok, fun H5 r r5 d5 k5 fr hr5 => ?_⟩
        have ngp : g ≠ p := ne_of hg hp (by intro z; cases z)
        have ngD : g ≠ D := by
          obtain ⟨kvs, q, _⟩ := hd.dic
          exact ne_of hg q (by intro z; cases z)
        have hg5 := k5 _ _ hg ngp ngD
        have s5 := same_keep2 s4 fp fDH k5
        have nrg : r ≠ g := fun z => by rw [z, hg] at fr; cases fr
        have e1 : ((ansI (Sf93.step d c).2).map V.int).length = (ansI (Sf93.step d c).2).length := List.length_map _
        have e2 : (out.map V.int).length = out.length := List.length_map _
        refine ⟨_, rfl, .inl ⟨rfl, _, SqL.of hg5⟩, _, rfl, r, _, rfl, .inl (SqL.of hr5), g, _, _, rfl, rfl, hg5, (by rw [e2, sizeLine_eq]; omega), ?_⟩
        refine ⟨_, rfl, .inl ⟨rfl, _, SqL.of upd_same⟩, _, rfl, g, r, _, _, rfl, rfl, upd_same, (by rw [upd_ne nrg]; exact hr5), (by rw [List.length_append, e1, e2, sizeLine_eq]; show out.length + 1 + _ ≤ _; omega), ?_⟩
        rw [upd_upd]
        have s6 : Same H5 (upd H5 g (.lst (out.map V.int ++ [V.int (((ansI (Sf93.step d c).2).map V.int).length : Nat)] ++ (ansI (Sf93.step d c).2).map V.int))) → True := fun _ => trivial
        obtain ⟨dw, hp5⟩ := r5
        obtain ⟨dv, hi5⟩ := d5.ins
        obtain ⟨kvs, hD5, hk5⟩ := d5.dic
        have npg : p ≠ g := fun z => ngp z.symm
        have nig : pd ≠ g := ne_of hi5 hg5 (by intro z; cases z)
        have hpl : ∀ o, placeAt (upd H5 g o) p = n' := fun o => placeAt_of (C := CR) (a := a) ⟨dw, by rw [upd_ne npg]; exact hp5⟩
        refine ⟨⟨n', (Sf93.step d c).1, out ++ outI (Sf93.step d c).2, _, rfl, same_write s5 fgH, ⟨dw, by rw [upd_ne npg]; exact hp5⟩, ⟨⟨dv, by rw [upd_ne nig]; exact hi5⟩, kvs, by rw [upd_ne (fun z => ngD z.symm)]; exact hD5, hk5⟩, dok_step hok c, todo', ?_, ?_⟩, ?_⟩
        · rw [upd_same, e1]
          unfold outI
          rw [List.map_append, List.map_cons, List.append_assoc]
          rfl
        · unfold outI
          rw [List.length_append, List.length_cons]
          omega
        · show l.length - placeAt _ p < l.length - placeAt H4 p
          rw [hpl, placeAt_of ⟨dz, hp⟩]
          omega
    · intro σ H4 Q1 Q2 hq h
      obtain ⟨v, h1, a1, dz, fs, h2, h3, h4, p1, a2, n, l1, h5, h6, h7, c, h8, h9⟩ := h
      exact ⟨v, h1, a1, dz, fs, h2, h3, h4, p1, a2, n, l1, h5, h6, h7, c, h8, hq _ _ h9⟩
end
end Nw

end
section
set_option Elab.async false
set_option linter.all false
set_option maxRecDepth 100000
set_option maxHeartbeats 2000000
namespace Nw
open PySem PySem.Spec PyProof.Rows L2
section
variable {K : PySem.W.Frag} {mg : Str → Option Value} {h : Heap}
inductive DfnE (K : PySem.W.Frag) (mg : Str → Option Value) (x : Str) (st : Stmt) (ps : List Str) : Prop
  | mk (f : Addr) (fd : FuncData) (d : Dfn K mg x st f fd ps) : DfnE K mg x st ps
theorem dfn_mk {x : Str} {st : Stmt} {ps : List Str} {f : Addr} {oc : Value} {od an : Option Addr} {sl : Array (Option Value)} {kV dc pm cd ct : Value} (X : K.In h) (G : h.Ns mainGlobals mg)
    (b : ∀ (kV doc pm : Value) (an : Option Addr) (cdv ct : Value) (us : List Value), us.length = ps.length → bindArgs (PySem.W.fnOf x x (defArgs st) (defBody st) (defScope st) .none kV doc pm an cdv ct) ⟨us, []⟩ = pure (ps.zip us))
    (a : PySem.W.nsIn K mainGlobals x = some (some (.ref f))) (l : K.lookup f = some ⟨oc, od, .func (PySem.W.fnOf x x (defArgs st) (defBody st) (defScope st) .none kV dc pm an cd ct), sl⟩)
    (c : PySem.W.codeIn K cd x = true) (k : PySem.W.keepIn K (.ref f) = true) : DfnE K mg x st ps :=
  ⟨f, _, ⟨fun_mk l c k, PySem.W.mg_of X G a, (fun_mk l c k).binds b⟩⟩
theorem int_mk {x : Str} {i : Int} {t : Tok} (X : K.In h) (G : h.Ns mainGlobals mg) (a : PySem.W.nsIn K mainGlobals x = some (some (.int i t))) : ∃ t, mg x = some (.int i t) := ⟨t, PySem.W.mg_of X G a⟩
theorem none_mk {x : Str} (X : K.In h) (G : h.Ns mainGlobals mg) (a : PySem.W.nsIn K mainGlobals x = some none) : mg x = none := PySem.W.mg_none_of X G a
theorem tup_mk {a : Addr} {xs : List V} {od : Option Addr} {its : Array Value} {n : Nat} {sl : Array (Option Value)} (l : K.lookup a = some ⟨.type "tuple", od, .seq its n, sl⟩) (hz : its.size ≤ sizeLine) (v : Vals xs its.toList) : ∀ H, SqT K H a xs :=
  fun H => .inr ⟨_, its, n, l, rfl, rfl, hz, v⟩
theorem mgr_mk {x : Str} {a : Addr} (X : K.In h) (G : h.Ns mainGlobals mg) (e : PySem.W.nsIn K mainGlobals x = some (some (.ref a))) : mg x = some (.ref a) := PySem.W.mg_of X G e
theorem eR_mk {a : Addr} {od : Option Addr} {t1 t2 t3 : Tok} {n : Nat} {sl : Array (Option Value)} (X : K.In h) (G : h.Ns mainGlobals mg) (e : PySem.W.nsIn K mainGlobals "EDITS_TO_REPLACE" = some (some (.ref a)))
    (l : K.lookup a = some ⟨.type "tuple", od, .seq #[.int 2 t1, .int 1 t2, .int 1 t3] n, sl⟩) : ∃ a, mg "EDITS_TO_REPLACE" = some (.ref a) ∧ ∀ H, SqT K H a [.int 2, .int 1, .int 1] :=
  ⟨a, mgr_mk X G e, tup_mk l (by show 3 ≤ sizeLine; decide) (.cons ⟨_, rfl⟩ (.cons ⟨_, rfl⟩ (.cons ⟨_, rfl⟩ .nil)))⟩
theorem ew_mk {a a0 a1 a2 a3 : Addr} {od od0 od1 od2 od3 : Option Addr} {t1 t2 t3 t4 t5 t6 t7 t8 t9 t10 : Tok} {n n0 n1 n2 n3 : Nat} {sl sl0 sl1 sl2 sl3 : Array (Option Value)} (X : K.In h) (G : h.Ns mainGlobals mg)
    (e : PySem.W.nsIn K mainGlobals "EDITS_OF_WAY" = some (some (.ref a)))
    (l : K.lookup a = some ⟨.type "tuple", od, .seq #[.ref a0, .ref a1, .ref a2, .ref a3] n, sl⟩) (l0 : K.lookup a0 = some ⟨.type "tuple", od0, .seq #[.int 1 t1, .int 2 t2] n0, sl0⟩) (l1 : K.lookup a1 = some ⟨.type "tuple", od1, .seq #[.int 1 t3, .int 2 t4, .int 3 t5] n1, sl1⟩)
    (l2 : K.lookup a2 = some ⟨.type "tuple", od2, .seq #[.int 1 t6, .int 2 t7, .int 3 t8, .int 4 t9] n2, sl2⟩) (l3 : K.lookup a3 = some ⟨.type "tuple", od3, .seq #[.int 3 t10] n3, sl3⟩) :
    ∃ a a0 a1 a2 a3, mg "EDITS_OF_WAY" = some (.ref a) ∧ (∀ H, SqT K H a [.ref a0, .ref a1, .ref a2, .ref a3]) ∧ (∀ H, SqT K H a0 [.int 1, .int 2]) ∧ (∀ H, SqT K H a1 [.int 1, .int 2, .int 3]) ∧
    (∀ H, SqT K H a2 [.int 1, .int 2, .int 3, .int 4]) ∧ (∀ H, SqT K H a3 [.int 3]) :=
  ⟨a, a0, a1, a2, a3, mgr_mk X G e, tup_mk l (by show 4 ≤ sizeLine; decide) (.cons rfl (.cons rfl (.cons rfl (.cons rfl .nil)))), tup_mk l0 (by show 2 ≤ sizeLine; decide) (.cons ⟨_, rfl⟩ (.cons ⟨_, rfl⟩ .nil)),
    tup_mk l1 (by show 3 ≤ sizeLine; decide) (.cons ⟨_, rfl⟩ (.cons ⟨_, rfl⟩ (.cons ⟨_, rfl⟩ .nil))), tup_mk l2 (by show 4 ≤ sizeLine; decide) (.cons ⟨_, rfl⟩ (.cons ⟨_, rfl⟩ (.cons ⟨_, rfl⟩ (.cons ⟨_, rfl⟩ .nil)))),
    tup_mk l3 (by show 1 ≤ sizeLine; decide) (.cons ⟨_, rfl⟩ .nil)⟩
theorem meth_mk {C : Addr} {x qual : Str} {st : Stmt} {ps : List Str} {f : Addr} {oc : Value} {od an : Option Addr} {sl : Array (Option Value)} {kV dc pm cd ct : Value}
    (b : ∀ (kV doc pm : Value) (an : Option Addr) (cdv ct : Value) (us : List Value), us.length = ps.length → bindArgs (PySem.W.fnOf x qual (defArgs st) (defBody st) (defScope st) .none kV doc pm an cdv ct) ⟨us, []⟩ = pure (ps.zip us))
    (a : PySem.W.findIn K (.ref C) x = some (some (.ref f))) (i : PySem.W.isFn K (.ref f) = true) (l : K.lookup f = some ⟨oc, od, .func (PySem.W.fnOf x qual (defArgs st) (defBody st) (defScope st) .none kV dc pm an cd ct), sl⟩)
    (c : PySem.W.codeIn K cd qual = true) (k : PySem.W.keepIn K (.ref f) = true) : ∃ f fd, Fun K x qual st f fd ∧ Binds K fd ps [] ∧ Meth K C x f ∧ PySem.W.findIn K (.ref C) x = some (some (.ref f)) ∧ PySem.W.isFn K (.ref f) = true :=
  ⟨f, _, fun_mk l c k, (fun_mk l c k).binds b, ⟨a, i, k⟩, a, i⟩
end
end Nw

end
section
set_option Elab.async false
set_option linter.all false
set_option maxRecDepth 100000
set_option maxHeartbeats 2000000
namespace Nw
open PySem PySem.Spec PyProof.Rows L2
/-- the class Reader, as the top leaves it -/
def RdrIn (K : PySem.W.Frag) (mg : Str → Option Value) : Prop := ∃ C, mg "Reader" = some (.ref C) ∧ Cls K C ∧ NoAttr K C "calls" ∧ NoAttr K C "place" ∧ PySem.W.makesIn K C = true ∧ PySem.W.keepIn K (.ref C) = true ∧ (∃ f fd, Fun K "__init__" "Reader.__init__" sRin f fd ∧ Binds K fd ["self", "calls"] [] ∧ Meth K C "__init__" f ∧ PySem.W.findIn K (.ref C) "__init__" = some (some (.ref f)) ∧ PySem.W.isFn K (.ref f) = true) ∧ (∃ f fd, Fun K "at_end" "Reader.at_end" sRat f fd ∧ Binds K fd ["self"] [] ∧ Meth K C "at_end" f ∧ PySem.W.findIn K (.ref C) "at_end" = some (some (.ref f)) ∧ PySem.W.isFn K (.ref f) = true) ∧ (∃ f fd, Fun K "take_number" "Reader.take_number" sRnu f fd ∧ Binds K fd ["self"] [] ∧ Meth K C "take_number" f ∧ PySem.W.findIn K (.ref C) "take_number" = some (some (.ref f)) ∧ PySem.W.isFn K (.ref f) = true) ∧ (∃ f fd, Fun K "take_row" "Reader.take_row" sRro f fd ∧ Binds K fd ["self"] [] ∧ Meth K C "take_row" f ∧ PySem.W.findIn K (.ref C) "take_row" = some (some (.ref f)) ∧ PySem.W.isFn K (.ref f) = true)
/-- the class Dictionary -/
def DicIn (K : PySem.W.Frag) (mg : Str → Option Value) : Prop := ∃ C, mg "Dictionary" = some (.ref C) ∧ Cls K C ∧ NoAttr K C "words" ∧ PySem.W.makesIn K C = true ∧ PySem.W.keepIn K (.ref C) = true ∧ (∃ f fd, Fun K "__init__" "Dictionary.__init__" sDin f fd ∧ Binds K fd ["self"] [] ∧ Meth K C "__init__" f ∧ PySem.W.findIn K (.ref C) "__init__" = some (some (.ref f)) ∧ PySem.W.isFn K (.ref f) = true) ∧ (∃ f fd, Fun K "add" "Dictionary.add" sDad f fd ∧ Binds K fd ["self", "word"] [] ∧ Meth K C "add" f ∧ PySem.W.findIn K (.ref C) "add" = some (some (.ref f)) ∧ PySem.W.isFn K (.ref f) = true) ∧ (∃ f fd, Fun K "within" "Dictionary.within" sDwi f fd ∧ Binds K fd ["self", "way", "k", "s"] [] ∧ Meth K C "within" f ∧ PySem.W.findIn K (.ref C) "within" = some (some (.ref f)) ∧ PySem.W.isFn K (.ref f) = true) ∧ (∃ f fd, Fun K "near" "Dictionary.near" sDne f fd ∧ Binds K fd ["self", "way", "k", "i", "s"] [] ∧ Meth K C "near" f ∧ PySem.W.findIn K (.ref C) "near" = some (some (.ref f)) ∧ PySem.W.isFn K (.ref f) = true)
/-- answers itself -/
def AnsIn (K : PySem.W.Frag) (mg : Str → Option Value) : Prop := ∃ f fd, mg "answers" = some (.ref f) ∧ Fun K "answers" "answers" sAns f fd ∧ ∀ (s : Shared) (us : List Value), us.length = (["calls"] : List Str).length → BindsTo s fd ⟨us, []⟩ ((["calls"] : List Str).zip us)
theorem ans_mk {K : PySem.W.Frag} {mg : Str → Option Value} {h : Heap} {f : Addr} {oc : Value} {od an : Option Addr} {sl : Array (Option Value)} {kV dc pm cd ct : Value} (X : K.In h) (G : h.Ns mainGlobals mg)
    (a : PySem.W.nsIn K mainGlobals "answers" = some (some (.ref f))) (l : K.lookup f = some ⟨oc, od, .func (PySem.W.fnOf "answers" "answers" (defArgs sAns) (defBody sAns) (defScope sAns) .none kV dc pm an cd ct), sl⟩)
    (c : PySem.W.codeIn K cd "answers" = true) (k : PySem.W.keepIn K (.ref f) = true) : AnsIn K mg :=
  ⟨f, _, PySem.W.mg_of X G a, fun_mk l c k, fun s us hu => match us, hu with | [_], _ => .of_eq rfl⟩
theorem all_ok {P : Program} {w : World} {K : PySem.W.Frag} {mg : Str → Option Value} {fa : Addr} (hfa : mg "answers" = some (.ref fa))
    (iALL_FOUR : ∃ t, mg "ALL_FOUR" = some (.int 2 t))
    (iSET_ALONE : ∃ t, mg "SET_ALONE" = some (.int 3 t))
    (iNO_DISTANCE : ∃ t, mg "NO_DISTANCE" = some (.int (-2) t))
    (iPUT_IN_AND_CUT_OUT : ∃ t, mg "PUT_IN_AND_CUT_OUT" = some (.int 0 t))
    (iMOST_WORDS : ∃ t, mg "MOST_WORDS" = some (.int 256 t))
    (iADDED : ∃ t, mg "ADDED" = some (.int 0 t))
    (iIN_ALREADY : ∃ t, mg "IN_ALREADY" = some (.int 1 t))
    (iFULL : ∃ t, mg "FULL" = some (.int (-2) t))
    (iNONE_SO_NEAR : ∃ t, mg "NONE_SO_NEAR" = some (.int (-2) t))
    (iPUT_IN : ∃ t, mg "PUT_IN" = some (.int 1 t))
    (iCUT_OUT : ∃ t, mg "CUT_OUT" = some (.int 2 t))
    (iSET : ∃ t, mg "SET" = some (.int 3 t))
    (iCHANGE_ABOUT : ∃ t, mg "CHANGE_ABOUT" = some (.int 4 t))
    (iLAST_WAY : ∃ t, mg "LAST_WAY" = some (.int 3 t))
    (iLONGEST : ∃ t, mg "LONGEST" = some (.int 32 t))
    (iREFUSED : ∃ t, mg "REFUSED" = some (.int (-1) t))
    (iFAR : ∃ t, mg "FAR" = some (.int 0 t))
    (iMAKES : ∃ t, mg "MAKES" = some (.int 1 t))
    (iCOMMON : ∃ t, mg "COMMON" = some (.int 2 t))
    (iSHARES : ∃ t, mg "SHARES" = some (.int 3 t))
    (iGRAMS : ∃ t, mg "GRAMS" = some (.int 4 t))
    (iADD : ∃ t, mg "ADD" = some (.int 5 t))
    (iNEAR : ∃ t, mg "NEAR" = some (.int 6 t))
    (iCOUNT : ∃ t, mg "COUNT" = some (.int 7 t))
    (nlen : mg "len" = none)
    (nrange : mg "range" = none)
    (nsum : mg "sum" = none)
    (nlist : mg "list" = none)
    (nmin : mg "min" = none)
    (ntuple : mg "tuple" = none)
    (nabs : mg "abs" = none)
    (nsorted : mg "sorted" = none)
    (eR : ∃ a, mg "EDITS_TO_REPLACE" = some (.ref a) ∧ ∀ H, SqT K H a [.int 2, .int 1, .int 1])
    (eW : ∃ a a0 a1 a2 a3, mg "EDITS_OF_WAY" = some (.ref a) ∧ (∀ H, SqT K H a [.ref a0, .ref a1, .ref a2, .ref a3]) ∧ (∀ H, SqT K H a0 [.int 1, .int 2]) ∧ (∀ H, SqT K H a1 [.int 1, .int 2, .int 3]) ∧ (∀ H, SqT K H a2 [.int 1, .int 2, .int 3, .int 4]) ∧ (∀ H, SqT K H a3 [.int 3]))
    (dHow : DfnE K mg "how_far" sHow ["way", "s", "t"])
    (dPla : DfnE K mg "places_that_differ" sPla ["s", "t"])
    (dFew : DfnE K mg "fewest_edits" sFew ["way", "s", "t"])
    (dNex : DfnE K mg "next_row" sNext ["way", "table", "last_row_of", "byte", "t"])
    (dAbo : DfnE K mg "changed_about" sAbo ["table", "first_row", "first_column", "i", "j"])
    (dCom : DfnE K mg "common_length" sCom ["s", "t"])
    (dSha : DfnE K mg "shares" sSha ["s", "t", "c"])
    (dWit : DfnE K mg "is_within" sWit ["c", "word"])
    (dMak : DfnE K mg "makes" sMak ["way", "s", "t", "edits"])
    (dKin : DfnE K mg "kind_of" sKin ["number"])
    (dPlc : DfnE K mg "place_of" sPlc ["number"])
    (dByt : DfnE K mg "byte_of" sByt ["number"])
    (dCan : DfnE K mg "can_be_done" sCan ["way", "number", "length"])
    (dPfo : DfnE K mg "places_for" sPfo ["kind", "length"])
    (dEdi : DfnE K mg "edited" sEdi ["word", "number"])
    (dCru : DfnE K mg "common_runs" sCru ["q", "s", "t"])
    (dRct : DfnE K mg "run_counts" sRct ["q", "word"])
    (dRun : DfnE K mg "runs" sRuns ["q", "word"])
    (dWay : DfnE K mg "no_such_way" sWay ["way"])
    (dLon : DfnE K mg "too_long" sLon ["word"])
    (dNor : DfnE K mg "no_such_run" sNor ["q"])
    (dNxt : DfnE K mg "answer_next" sNxt ["reader", "dictionary"])
    (dAfa : DfnE K mg "answer_far" sAfa ["reader"])
    (dAma : DfnE K mg "answer_makes" sAma ["reader"])
    (dAco : DfnE K mg "answer_common" sAco ["reader"])
    (dAsh : DfnE K mg "answer_shares" sAsh ["reader"])
    (dAgr : DfnE K mg "answer_grams" sAgr ["reader"])
    (dAad : DfnE K mg "answer_add" sAad ["reader", "dictionary"])
    (dAne : DfnE K mg "answer_near" sAne ["reader", "dictionary"])
    (dAcn : DfnE K mg "answer_count" sAcn ["reader", "dictionary"])
    (cR : RdrIn K mg) (cD : DicIn K mg) (aN : AnsIn K mg) :
    ∃ fd : FuncData, (∀ (s : Shared) (us : List Value), us.length = (["calls"] : List Str).length → BindsTo s fd ⟨us, []⟩ ((["calls"] : List Str).zip us)) ∧ ∀ base : Heap, K.In base → base.Ns mainGlobals mg → FnOk P w K mg base CX0 12 fa fd ["calls"] (spAns K) := by
  obtain ⟨fHow, pHow, dHow⟩ := dHow
  obtain ⟨fPla, pPla, dPla⟩ := dPla
  obtain ⟨fFew, pFew, dFew⟩ := dFew
  obtain ⟨fNex, pNex, dNex⟩ := dNex
  obtain ⟨fAbo, pAbo, dAbo⟩ := dAbo
  obtain ⟨fCom, pCom, dCom⟩ := dCom
  obtain ⟨fSha, pSha, dSha⟩ := dSha
  obtain ⟨fWit, pWit, dWit⟩ := dWit
  obtain ⟨fMak, pMak, dMak⟩ := dMak
  obtain ⟨fKin, pKin, dKin⟩ := dKin
  obtain ⟨fPlc, pPlc, dPlc⟩ := dPlc
  obtain ⟨fByt, pByt, dByt⟩ := dByt
  obtain ⟨fCan, pCan, dCan⟩ := dCan
  obtain ⟨fPfo, pPfo, dPfo⟩ := dPfo
  obtain ⟨fEdi, pEdi, dEdi⟩ := dEdi
  obtain ⟨fCru, pCru, dCru⟩ := dCru
  obtain ⟨fRct, pRct, dRct⟩ := dRct
  obtain ⟨fRun, pRun, dRun⟩ := dRun
  obtain ⟨fWay, pWay, dWay⟩ := dWay
  obtain ⟨fLon, pLon, dLon⟩ := dLon
  obtain ⟨fNor, pNor, dNor⟩ := dNor
  obtain ⟨fNxt, pNxt, dNxt⟩ := dNxt
  obtain ⟨fAfa, pAfa, dAfa⟩ := dAfa
  obtain ⟨fAma, pAma, dAma⟩ := dAma
  obtain ⟨fAco, pAco, dAco⟩ := dAco
  obtain ⟨fAsh, pAsh, dAsh⟩ := dAsh
  obtain ⟨fAgr, pAgr, dAgr⟩ := dAgr
  obtain ⟨fAad, pAad, dAad⟩ := dAad
  obtain ⟨fAne, pAne, dAne⟩ := dAne
  obtain ⟨fAcn, pAcn, dAcn⟩ := dAcn
  obtain ⟨CR, mgR, clR, nC, nP, mkR, kpR, ⟨fRI, pRI, FRI, bRI, mRI, aRI, iRI⟩, ⟨fRE, pRE, FRE, bRE, mRE, _⟩, ⟨fRN, pRN, FRN, bRN, mRN, _⟩, ⟨fRR, pRR, FRR, bRR, mRR, _⟩⟩ := cR
  obtain ⟨CD, mgD, clD, nW, mkD, kpD, ⟨fDI, pDI, FDI, bDI, mDI, aDI, iDI⟩, ⟨fDA, pDA, FDA, bDA, mDA, _⟩, ⟨fDW, pDW, FDW, bDW, mDW, _⟩, ⟨fDN, pDN, FDN, bDN, mDN, _⟩⟩ := cD
  obtain ⟨fA, pA, mgA, FA, bA⟩ := aN
  obtain rfl : fA = fa := by
    have e := mgA.symm.trans hfa
    injection e with e
    injection e
  have TD : TxtD K mg := ⟨iALL_FOUR, iSET_ALONE, iNO_DISTANCE, eR, nlen, nrange, nsum, nlist, nmin⟩
  have TE : TxtE K mg := ⟨iPUT_IN, iCUT_OUT, iSET, iCHANGE_ABOUT, eW⟩
  have TW : TxtW mg := ⟨iLAST_WAY, iLONGEST, iREFUSED⟩
  have TR : TxtR K mg CR := ⟨clR, nC, nP, mgR⟩
  have TC : TxtC K mg CD := ⟨clD, nW, mgD, iMOST_WORDS, iADDED, iIN_ALREADY, iFULL, iNONE_SO_NEAR, ntuple, nabs, nsorted⟩
  have TN : TxtN mg := ⟨iFAR, iMAKES, iCOMMON, iSHARES, iGRAMS, iADD, iNEAR, iCOUNT⟩
  refine ⟨pA, bA, fun base _ _ => ?_⟩
  have oHow : FnOk P w K mg base CX0 4 fHow pHow ["way", "s", "t"] (spHow K) := ok_how dHow.F TD dAbo dNex dPla dFew
  have W : How P w K mg base := ⟨fHow, pHow, dHow.mgf, dHow.F.kp, dHow.b, oHow⟩
  have kHow : Cal P w K mg base "how_far" ["way", "s", "t"] (spHow K) 7 := ⟨fHow, pHow, dHow.mgf, dHow.F.kp, dHow.b, oHow.mono (by decide)⟩
  have kMak : Cal P w K mg base "makes" ["way", "s", "t", "edits"] (spMak K) 7 := ⟨fMak, pMak, dMak.mgf, dMak.F.kp, dMak.b, (ok_mak dMak.F TD TE W dKin dPlc dByt dPfo dCan dEdi).mono (by decide)⟩
  have kCom : Cal P w K mg base "common_length" ["s", "t"] (spCom K) 7 := ⟨fCom, pCom, dCom.mgf, dCom.F.kp, dCom.b, (ok_com dCom.F TD iPUT_IN_AND_CUT_OUT W).mono (by decide)⟩
  have kSha : Cal P w K mg base "shares" ["s", "t", "c"] (spSha K) 7 := ⟨fSha, pSha, dSha.mgf, dSha.F.kp, dSha.b, (ok_sha dSha.F TD iPUT_IN_AND_CUT_OUT W dCom dWit).mono (by decide)⟩
  have kCru : Cal P w K mg base "common_runs" ["q", "s", "t"] (spCru K) 7 := ⟨fCru, pCru, dCru.mgf, dCru.F.kp, dCru.b, (ok_cru dCru.F TD ntuple dRun dRct).mono (by decide)⟩
  have kNor : Cal P w K mg base "no_such_run" ["q"] spNor 7 := ⟨fNor, pNor, dNor.mgf, dNor.F.kp, dNor.b, (ok_nor dNor.F TW).mono (by decide)⟩
  have T : Dk P w K mg base CR := ⟨clR, ⟨fRN, pRN, mRN, bRN, (ok_rnu FRN TR).mono (by decide)⟩, ⟨fRR, pRR, mRR, bRR, (ok_rro FRR TR FRN bRN mRN).mono (by decide)⟩,
    ⟨fWay, pWay, dWay.mgf, dWay.F.kp, dWay.b, (ok_way dWay.F TW).mono (by decide)⟩, ⟨fLon, pLon, dLon.mgf, dLon.F.kp, dLon.b, (ok_lon dLon.F TW nlen).mono (by decide)⟩, TW⟩
  have mAdd : CalM P w K mg base CD "add" ["self", "word"] (spDad K CD) 7 := ⟨fDA, pDA, mDA, bDA, (ok_dad FDA TC nlen).mono (by decide)⟩
  have mWit : CalM P w K mg base CD "within" ["self", "way", "k", "s"] (spDwi K CD) 7 := ⟨fDW, pDW, mDW, bDW, (ok_dwi FDW TC TD W).mono (by decide)⟩
  have mNea : CalM P w K mg base CD "near" ["self", "way", "k", "i", "s"] (spDne K CD) 7 := ⟨fDN, pDN, mDN, bDN, (ok_dne FDN TC TD W FDW bDW mDW).mono (by decide)⟩
  have S : Desk P w K mg base CR CD := ⟨⟨fAfa, pAfa, dAfa.mgf, dAfa.F.kp, dAfa.b, ok_afa dAfa.F T kHow⟩, ⟨fAma, pAma, dAma.mgf, dAma.F.kp, dAma.b, ok_ama dAma.F T kMak⟩, ⟨fAco, pAco, dAco.mgf, dAco.F.kp, dAco.b, ok_aco dAco.F T kCom⟩,
    ⟨fAsh, pAsh, dAsh.mgf, dAsh.F.kp, dAsh.b, ok_ash dAsh.F T kSha⟩, ⟨fAgr, pAgr, dAgr.mgf, dAgr.F.kp, dAgr.b, ok_agr dAgr.F T kNor kCru⟩, ⟨fAad, pAad, dAad.mgf, dAad.F.kp, dAad.b, ok_aad dAad.F T clD mAdd⟩,
    ⟨fAne, pAne, dAne.mgf, dAne.F.kp, dAne.b, ok_ane dAne.F T clD mNea⟩, ⟨fAcn, pAcn, dAcn.mgf, dAcn.F.kp, dAcn.b, ok_acn dAcn.F T nlen clD mWit⟩⟩
  have N : Cal P w K mg base "answer_next" ["reader", "dictionary"] (spN K CR CD) 9 := ⟨fNxt, pNxt, dNxt.mgf, dNxt.F.kp, dNxt.b, ok_nxt dNxt.F T TN S⟩
  have AE : CalM P w K mg base CR "at_end" ["self"] (spRat K CR) 9 := ⟨fRE, pRE, mRE, bRE, (ok_rat FRE TR nlen).mono (by decide)⟩
  exact (ok_ans FA nlen T TC mgR ⟨mkR, aRI, iRI, kpR⟩ bRI (ok_rin FRI TR) ⟨mkD, aDI, iDI, kpD⟩ bDI (ok_din FDI TC) AE N).mono (by decide)
end Nw

end
section
set_option Elab.async false
set_option linter.all false
set_option maxRecDepth 100000
open PySem PySem.W PyProof.Rows
set_option maxRecDepth 100000 in
set_option maxHeartbeats 0 in
theorem PySem.Challenge.cw_nearwords_s01_answers_holds : PySem.Challenge.rw_nearwords_s01_answers.Holds := by
  w_on; k_headS; (case hw => exact ⟨[.list [.int 2, .int 0, .int 0]], by decide +kernel, by decide +kernel⟩)
  k_fillS
  refine L2.walk_specK (r := PySem.Challenge.rw_nearwords_s01_answers) (k := 12) (CX := L2.CX0) (ps := ["calls"]) (sp := Nw.spAns) (by decide +kernel) rfl rfl ⟨rfl, by decide, by decide⟩ (fun w h Y => PySem.W.kIn_of Y) ?F ?S (fun _ _ _ _ z => z)
  case F =>
    intro w mg fa h Y KX G hmg
    have iALL_FOUR : ∃ t, mg "ALL_FOUR" = some (.int 2 t) := by
      refine' Nw.int_mk KX G ?a
      (case a => k_is)
    have iSET_ALONE : ∃ t, mg "SET_ALONE" = some (.int 3 t) := by
      refine' Nw.int_mk KX G ?a
      (case a => k_is)
    have iNO_DISTANCE : ∃ t, mg "NO_DISTANCE" = some (.int (-2) t) := by
      refine' Nw.int_mk KX G ?a
      (case a => k_is)
    have iPUT_IN_AND_CUT_OUT : ∃ t, mg "PUT_IN_AND_CUT_OUT" = some (.int 0 t) := by
      refine' Nw.int_mk KX G ?a
      (case a => k_is)
    have iMOST_WORDS : ∃ t, mg "MOST_WORDS" = some (.int 256 t) := by
      refine' Nw.int_mk KX G ?a
      (case a => k_is)
    have iADDED : ∃ t, mg "ADDED" = some (.int 0 t) := by
      refine' Nw.int_mk KX G ?a
      (case a => k_is)
    have iIN_ALREADY : ∃ t, mg "IN_ALREADY" = some (.int 1 t) := by
      refine' Nw.int_mk KX G ?a
      (case a => k_is)
    have iFULL : ∃ t, mg "FULL" = some (.int (-2) t) := by
      refine' Nw.int_mk KX G ?a
      (case a => k_is)
    have iNONE_SO_NEAR : ∃ t, mg "NONE_SO_NEAR" = some (.int (-2) t) := by
      refine' Nw.int_mk KX G ?a
      (case a => k_is)
    have iPUT_IN : ∃ t, mg "PUT_IN" = some (.int 1 t) := by
      refine' Nw.int_mk KX G ?a
      (case a => k_is)
    have iCUT_OUT : ∃ t, mg "CUT_OUT" = some (.int 2 t) := by
      refine' Nw.int_mk KX G ?a
      (case a => k_is)
    have iSET : ∃ t, mg "SET" = some (.int 3 t) := by
      refine' Nw.int_mk KX G ?a
      (case a => k_is)
    have iCHANGE_ABOUT : ∃ t, mg "CHANGE_ABOUT" = some (.int 4 t) := by
      refine' Nw.int_mk KX G ?a
      (case a => k_is)
    have iLAST_WAY : ∃ t, mg "LAST_WAY" = some (.int 3 t) := by
      refine' Nw.int_mk KX G ?a
      (case a => k_is)
    have iLONGEST : ∃ t, mg "LONGEST" = some (.int 32 t) := by
      refine' Nw.int_mk KX G ?a
      (case a => k_is)
    have iREFUSED : ∃ t, mg "REFUSED" = some (.int (-1) t) := by
      refine' Nw.int_mk KX G ?a
      (case a => k_is)
    have iFAR : ∃ t, mg "FAR" = some (.int 0 t) := by
      refine' Nw.int_mk KX G ?a
      (case a => k_is)
    have iMAKES : ∃ t, mg "MAKES" = some (.int 1 t) := by
      refine' Nw.int_mk KX G ?a
      (case a => k_is)
    have iCOMMON : ∃ t, mg "COMMON" = some (.int 2 t) := by
      refine' Nw.int_mk KX G ?a
      (case a => k_is)
    have iSHARES : ∃ t, mg "SHARES" = some (.int 3 t) := by
      refine' Nw.int_mk KX G ?a
      (case a => k_is)
    have iGRAMS : ∃ t, mg "GRAMS" = some (.int 4 t) := by
      refine' Nw.int_mk KX G ?a
      (case a => k_is)
    have iADD : ∃ t, mg "ADD" = some (.int 5 t) := by
      refine' Nw.int_mk KX G ?a
      (case a => k_is)
    have iNEAR : ∃ t, mg "NEAR" = some (.int 6 t) := by
      refine' Nw.int_mk KX G ?a
      (case a => k_is)
    have iCOUNT : ∃ t, mg "COUNT" = some (.int 7 t) := by
      refine' Nw.int_mk KX G ?a
      (case a => k_is)
    have nlen : mg "len" = none := by
      refine' Nw.none_mk KX G ?a
      (case a => k_is)
    have nrange : mg "range" = none := by
      refine' Nw.none_mk KX G ?a
      (case a => k_is)
    have nsum : mg "sum" = none := by
      refine' Nw.none_mk KX G ?a
      (case a => k_is)
    have nlist : mg "list" = none := by
      refine' Nw.none_mk KX G ?a
      (case a => k_is)
    have nmin : mg "min" = none := by
      refine' Nw.none_mk KX G ?a
      (case a => k_is)
    have ntuple : mg "tuple" = none := by
      refine' Nw.none_mk KX G ?a
      (case a => k_is)
    have nabs : mg "abs" = none := by
      refine' Nw.none_mk KX G ?a
      (case a => k_is)
    have nsorted : mg "sorted" = none := by
      refine' Nw.none_mk KX G ?a
      (case a => k_is)
    have eR : ∃ a, mg "EDITS_TO_REPLACE" = some (.ref a) ∧ ∀ H, L2.SqT (L2.KOf KX) H a [.int 2, .int 1, .int 1] := by
      dsimp only [L2.KOf]
      refine' Nw.eR_mk KX G ?e ?l
      (case e => k_is)
      (case l => k_is)
    have eW := by
      refine' Nw.ew_mk KX G ?e ?l ?l0 ?l1 ?l2 ?l3
      (case e => k_is)
      (case l => k_is)
      (case l0 => k_is)
      (case l1 => k_is)
      (case l2 => k_is)
      (case l3 => k_is)
    have dHow : Nw.DfnE (L2.KOf KX) mg "how_far" Nw.sHow ["way", "s", "t"] := by
      dsimp only [L2.KOf]
      refine' Nw.dfn_mk KX G (fun _ _ _ _ _ _ us hl => match us, hl with | [_, _, _], _ => rfl) ?a ?l ?c ?k
      (case a => k_is); (case l => k_is); (case c => k_is); (case k => k_is)
    have dPla : Nw.DfnE (L2.KOf KX) mg "places_that_differ" Nw.sPla ["s", "t"] := by
      dsimp only [L2.KOf]
      refine' Nw.dfn_mk KX G (fun _ _ _ _ _ _ us hl => match us, hl with | [_, _], _ => rfl) ?a ?l ?c ?k
      (case a => k_is); (case l => k_is); (case c => k_is); (case k => k_is)
    have dFew : Nw.DfnE (L2.KOf KX) mg "fewest_edits" Nw.sFew ["way", "s", "t"] := by
      dsimp only [L2.KOf]
      refine' Nw.dfn_mk KX G (fun _ _ _ _ _ _ us hl => match us, hl with | [_, _, _], _ => rfl) ?a ?l ?c ?k
      (case a => k_is); (case l => k_is); (case c => k_is); (case k => k_is)
    have dNex : Nw.DfnE (L2.KOf KX) mg "next_row" Nw.sNext ["way", "table", "last_row_of", "byte", "t"] := by
      dsimp only [L2.KOf]
      refine' Nw.dfn_mk KX G (fun _ _ _ _ _ _ us hl => match us, hl with | [_, _, _, _, _], _ => rfl) ?a ?l ?c ?k
      (case a => k_is); (case l => k_is); (case c => k_is); (case k => k_is)
    have dAbo : Nw.DfnE (L2.KOf KX) mg "changed_about" Nw.sAbo ["table", "first_row", "first_column", "i", "j"] := by
      dsimp only [L2.KOf]
      refine' Nw.dfn_mk KX G (fun _ _ _ _ _ _ us hl => match us, hl with | [_, _, _, _, _], _ => rfl) ?a ?l ?c ?k
      (case a => k_is); (case l => k_is); (case c => k_is); (case k => k_is)
    have dCom : Nw.DfnE (L2.KOf KX) mg "common_length" Nw.sCom ["s", "t"] := by
      dsimp only [L2.KOf]
      refine' Nw.dfn_mk KX G (fun _ _ _ _ _ _ us hl => match us, hl with | [_, _], _ => rfl) ?a ?l ?c ?k
      (case a => k_is); (case l => k_is); (case c => k_is); (case k => k_is)
    have dSha : Nw.DfnE (L2.KOf KX) mg "shares" Nw.sSha ["s", "t", "c"] := by
      dsimp only [L2.KOf]
      refine' Nw.dfn_mk KX G (fun _ _ _ _ _ _ us hl => match us, hl with | [_, _, _], _ => rfl) ?a ?l ?c ?k
      (case a => k_is); (case l => k_is); (case c => k_is); (case k => k_is)
    have dWit : Nw.DfnE (L2.KOf KX) mg "is_within" Nw.sWit ["c", "word"] := by
      dsimp only [L2.KOf]
      refine' Nw.dfn_mk KX G (fun _ _ _ _ _ _ us hl => match us, hl with | [_, _], _ => rfl) ?a ?l ?c ?k
      (case a => k_is); (case l => k_is); (case c => k_is); (case k => k_is)
    have dMak : Nw.DfnE (L2.KOf KX) mg "makes" Nw.sMak ["way", "s", "t", "edits"] := by
      dsimp only [L2.KOf]
      refine' Nw.dfn_mk KX G (fun _ _ _ _ _ _ us hl => match us, hl with | [_, _, _, _], _ => rfl) ?a ?l ?c ?k
      (case a => k_is); (case l => k_is); (case c => k_is); (case k => k_is)
    have dKin : Nw.DfnE (L2.KOf KX) mg "kind_of" Nw.sKin ["number"] := by
      dsimp only [L2.KOf]
      refine' Nw.dfn_mk KX G (fun _ _ _ _ _ _ us hl => match us, hl with | [_], _ => rfl) ?a ?l ?c ?k
      (case a => k_is); (case l => k_is); (case c => k_is); (case k => k_is)
    have dPlc : Nw.DfnE (L2.KOf KX) mg "place_of" Nw.sPlc ["number"] := by
      dsimp only [L2.KOf]
      refine' Nw.dfn_mk KX G (fun _ _ _ _ _ _ us hl => match us, hl with | [_], _ => rfl) ?a ?l ?c ?k
      (case a => k_is); (case l => k_is); (case c => k_is); (case k => k_is)
    have dByt : Nw.DfnE (L2.KOf KX) mg "byte_of" Nw.sByt ["number"] := by
      dsimp only [L2.KOf]
      refine' Nw.dfn_mk KX G (fun _ _ _ _ _ _ us hl => match us, hl with | [_], _ => rfl) ?a ?l ?c ?k
      (case a => k_is); (case l => k_is); (case c => k_is); (case k => k_is)
    have dCan : Nw.DfnE (L2.KOf KX) mg "can_be_done" Nw.sCan ["way", "number", "length"] := by
      dsimp only [L2.KOf]
      refine' Nw.dfn_mk KX G (fun _ _ _ _ _ _ us hl => match us, hl with | [_, _, _], _ => rfl) ?a ?l ?c ?k
      (case a => k_is); (case l => k_is); (case c => k_is); (case k => k_is)
    have dPfo : Nw.DfnE (L2.KOf KX) mg "places_for" Nw.sPfo ["kind", "length"] := by
      dsimp only [L2.KOf]
      refine' Nw.dfn_mk KX G (fun _ _ _ _ _ _ us hl => match us, hl with | [_, _], _ => rfl) ?a ?l ?c ?k
      (case a => k_is); (case l => k_is); (case c => k_is); (case k => k_is)
    have dEdi : Nw.DfnE (L2.KOf KX) mg "edited" Nw.sEdi ["word", "number"] := by
      dsimp only [L2.KOf]
      refine' Nw.dfn_mk KX G (fun _ _ _ _ _ _ us hl => match us, hl with | [_, _], _ => rfl) ?a ?l ?c ?k
      (case a => k_is); (case l => k_is); (case c => k_is); (case k => k_is)
    have dCru : Nw.DfnE (L2.KOf KX) mg "common_runs" Nw.sCru ["q", "s", "t"] := by
      dsimp only [L2.KOf]
      refine' Nw.dfn_mk KX G (fun _ _ _ _ _ _ us hl => match us, hl with | [_, _, _], _ => rfl) ?a ?l ?c ?k
      (case a => k_is); (case l => k_is); (case c => k_is); (case k => k_is)
    have dRct : Nw.DfnE (L2.KOf KX) mg "run_counts" Nw.sRct ["q", "word"] := by
      dsimp only [L2.KOf]
      refine' Nw.dfn_mk KX G (fun _ _ _ _ _ _ us hl => match us, hl with | [_, _], _ => rfl) ?a ?l ?c ?k
      (case a => k_is); (case l => k_is); (case c => k_is); (case k => k_is)
    have dRun : Nw.DfnE (L2.KOf KX) mg "runs" Nw.sRuns ["q", "word"] := by
      dsimp only [L2.KOf]
      refine' Nw.dfn_mk KX G (fun _ _ _ _ _ _ us hl => match us, hl with | [_, _], _ => rfl) ?a ?l ?c ?k
      (case a => k_is); (case l => k_is); (case c => k_is); (case k => k_is)
    have dWay : Nw.DfnE (L2.KOf KX) mg "no_such_way" Nw.sWay ["way"] := by
      dsimp only [L2.KOf]
      refine' Nw.dfn_mk KX G (fun _ _ _ _ _ _ us hl => match us, hl with | [_], _ => rfl) ?a ?l ?c ?k
      (case a => k_is); (case l => k_is); (case c => k_is); (case k => k_is)
    have dLon : Nw.DfnE (L2.KOf KX) mg "too_long" Nw.sLon ["word"] := by
      dsimp only [L2.KOf]
      refine' Nw.dfn_mk KX G (fun _ _ _ _ _ _ us hl => match us, hl with | [_], _ => rfl) ?a ?l ?c ?k
      (case a => k_is); (case l => k_is); (case c => k_is); (case k => k_is)
    have dNor : Nw.DfnE (L2.KOf KX) mg "no_such_run" Nw.sNor ["q"] := by
      dsimp only [L2.KOf]
      refine' Nw.dfn_mk KX G (fun _ _ _ _ _ _ us hl => match us, hl with | [_], _ => rfl) ?a ?l ?c ?k
      (case a => k_is); (case l => k_is); (case c => k_is); (case k => k_is)
    have dNxt : Nw.DfnE (L2.KOf KX) mg "answer_next" Nw.sNxt ["reader", "dictionary"] := by
      dsimp only [L2.KOf]
      refine' Nw.dfn_mk KX G (fun _ _ _ _ _ _ us hl => match us, hl with | [_, _], _ => rfl) ?a ?l ?c ?k
      (case a => k_is); (case l => k_is); (case c => k_is); (case k => k_is)
    have dAfa : Nw.DfnE (L2.KOf KX) mg "answer_far" Nw.sAfa ["reader"] := by
      dsimp only [L2.KOf]
      refine' Nw.dfn_mk KX G (fun _ _ _ _ _ _ us hl => match us, hl with | [_], _ => rfl) ?a ?l ?c ?k
      (case a => k_is); (case l => k_is); (case c => k_is); (case k => k_is)
    have dAma : Nw.DfnE (L2.KOf KX) mg "answer_makes" Nw.sAma ["reader"] := by
      dsimp only [L2.KOf]
      refine' Nw.dfn_mk KX G (fun _ _ _ _ _ _ us hl => match us, hl with | [_], _ => rfl) ?a ?l ?c ?k
      (case a => k_is); (case l => k_is); (case c => k_is); (case k => k_is)
    have dAco : Nw.DfnE (L2.KOf KX) mg "answer_common" Nw.sAco ["reader"] := by
      dsimp only [L2.KOf]
      refine' Nw.dfn_mk KX G (fun _ _ _ _ _ _ us hl => match us, hl with | [_], _ => rfl) ?a ?l ?c ?k
      (case a => k_is); (case l => k_is); (case c => k_is); (case k => k_is)
    have dAsh : Nw.DfnE (L2.KOf KX) mg "answer_shares" Nw.sAsh ["reader"] := by
      dsimp only [L2.KOf]
      refine' Nw.dfn_mk KX G (fun _ _ _ _ _ _ us hl => match us, hl with | [_], _ => rfl) ?a ?l ?c ?k
      (case a => k_is); (case l => k_is); (case c => k_is); (case k => k_is)
    have dAgr : Nw.DfnE (L2.KOf KX) mg "answer_grams" Nw.sAgr ["reader"] := by
      dsimp only [L2.KOf]
      refine' Nw.dfn_mk KX G (fun _ _ _ _ _ _ us hl => match us, hl with | [_], _ => rfl) ?a ?l ?c ?k
      (case a => k_is); (case l => k_is); (case c => k_is); (case k => k_is)
    have dAad : Nw.DfnE (L2.KOf KX) mg "answer_add" Nw.sAad ["reader", "dictionary"] := by
      dsimp only [L2.KOf]
      refine' Nw.dfn_mk KX G (fun _ _ _ _ _ _ us hl => match us, hl with | [_, _], _ => rfl) ?a ?l ?c ?k
      (case a => k_is); (case l => k_is); (case c => k_is); (case k => k_is)
    have dAne : Nw.DfnE (L2.KOf KX) mg "answer_near" Nw.sAne ["reader", "dictionary"] := by
      dsimp only [L2.KOf]
      refine' Nw.dfn_mk KX G (fun _ _ _ _ _ _ us hl => match us, hl with | [_, _], _ => rfl) ?a ?l ?c ?k
      (case a => k_is); (case l => k_is); (case c => k_is); (case k => k_is)
    have dAcn : Nw.DfnE (L2.KOf KX) mg "answer_count" Nw.sAcn ["reader", "dictionary"] := by
      dsimp only [L2.KOf]
      refine' Nw.dfn_mk KX G (fun _ _ _ _ _ _ us hl => match us, hl with | [_, _], _ => rfl) ?a ?l ?c ?k
      (case a => k_is); (case l => k_is); (case c => k_is); (case k => k_is)
    have cR : Nw.RdrIn (L2.KOf KX) mg := by
      dsimp only [L2.KOf, Nw.RdrIn, L2.NoAttr]
      refine' ⟨_, Nw.mgr_mk KX G ?aC, ⟨?pg, ?hd, ?po, ?sa⟩, ?n0, ?n1, ?mk, ?kc, Nw.meth_mk (st := Nw.sRin) (fun _ _ _ _ _ _ us hl => match us, hl with | [_, _], _ => rfl) ?aI ?iI ?lI ?cI ?kI, Nw.meth_mk (st := Nw.sRat) (fun _ _ _ _ _ _ us hl => match us, hl with | [_], _ => rfl) ?aE ?iE ?lE ?cE ?kE, Nw.meth_mk (st := Nw.sRnu) (fun _ _ _ _ _ _ us hl => match us, hl with | [_], _ => rfl) ?aN ?iN ?lN ?cN ?kN, Nw.meth_mk (st := Nw.sRro) (fun _ _ _ _ _ _ us hl => match us, hl with | [_], _ => rfl) ?aR ?iR ?lR ?cR ?kR⟩
      (case aC => k_is); (case pg => k_is); (case hd => k_is); (case po => k_is); (case sa => k_is); (case n0 => k_is)
      (case n1 => k_is); (case mk => k_is); (case kc => k_is); (case aI => k_is); (case iI => k_is); (case lI => k_is)
      (case cI => k_is); (case kI => k_is); (case aE => k_is); (case iE => k_is); (case lE => k_is); (case cE => k_is)
      (case kE => k_is); (case aN => k_is); (case iN => k_is); (case lN => k_is); (case cN => k_is); (case kN => k_is)
      (case aR => k_is); (case iR => k_is); (case lR => k_is); (case cR => k_is); (case kR => k_is)
    have cD : Nw.DicIn (L2.KOf KX) mg := by
      dsimp only [L2.KOf, Nw.DicIn, L2.NoAttr]
      refine' ⟨_, Nw.mgr_mk KX G ?aC, ⟨?pg, ?hd, ?po, ?sa⟩, ?n0, ?mk, ?kc, Nw.meth_mk (st := Nw.sDin) (fun _ _ _ _ _ _ us hl => match us, hl with | [_], _ => rfl) ?aI ?iI ?lI ?cI ?kI, Nw.meth_mk (st := Nw.sDad) (fun _ _ _ _ _ _ us hl => match us, hl with | [_, _], _ => rfl) ?aA ?iA ?lA ?cA ?kA, Nw.meth_mk (st := Nw.sDwi) (fun _ _ _ _ _ _ us hl => match us, hl with | [_, _, _, _], _ => rfl) ?aW ?iW ?lW ?cW ?kW, Nw.meth_mk (st := Nw.sDne) (fun _ _ _ _ _ _ us hl => match us, hl with | [_, _, _, _, _], _ => rfl) ?aN ?iN ?lN ?cN ?kN⟩
      (case aC => k_is); (case pg => k_is); (case hd => k_is); (case po => k_is); (case sa => k_is); (case n0 => k_is)
      (case mk => k_is); (case kc => k_is); (case aI => k_is); (case iI => k_is); (case lI => k_is); (case cI => k_is)
      (case kI => k_is); (case aA => k_is); (case iA => k_is); (case lA => k_is); (case cA => k_is); (case kA => k_is)
      (case aW => k_is); (case iW => k_is); (case lW => k_is); (case cW => k_is); (case kW => k_is); (case aN => k_is)
      (case iN => k_is); (case lN => k_is); (case cN => k_is); (case kN => k_is)
    have aN : Nw.AnsIn (L2.KOf KX) mg := by
      dsimp only [L2.KOf]
      refine' Nw.ans_mk KX G ?a ?l ?c ?k
      (case a => k_is); (case l => k_is); (case c => k_is); (case k => k_is)
    exact Nw.all_ok hmg iALL_FOUR iSET_ALONE iNO_DISTANCE iPUT_IN_AND_CUT_OUT iMOST_WORDS iADDED iIN_ALREADY iFULL iNONE_SO_NEAR iPUT_IN iCUT_OUT iSET iCHANGE_ABOUT iLAST_WAY iLONGEST iREFUSED iFAR iMAKES iCOMMON iSHARES iGRAMS iADD iNEAR iCOUNT nlen nrange nsum nlist nmin ntuple nabs nsorted eR eW dHow dPla dFew dNex dAbo dCom dSha dWit dMak dKin dPlc dByt dCan dPfo dEdi dCru dRct dRun dWay dLon dNor dNxt dAfa dAma dAco dAsh dAgr dAad dAne dAcn cR cD aN
  case S =>
    intro K H xs a hO hwi hask hx
    cases hx with
    | cons h1 h2 =>
      cases h2
      cases h1 with
      | lst hs ha =>
        have e := L2.ints_dw a.1 _ ha
        subst e
        have q : ((Codec.inLen 0 30000 a.1 && a.1.all (Codec.inInt (-2147483648) 2147483647)) && true) = true := hwi
        rw [Bool.and_eq_true, Bool.and_eq_true] at q
        exact ⟨_, a.1, rfl, hs, hask, (Codec.inNat_iff.mp q.1.1).2, fun H' p hp => .lst (L2.SqL.of hp) (L2.dw_ints _)⟩

end
