import PyProof.Rows.All
import Wide.All
import OpenK.AllK
import Wide.FinOn
import PyProof.EqAt
import PyProof.EqKinds
import PyProof.TupleCall
import KE.BitLaws
import Open.SpecLaws
import KE.OsHead
import KE.OsGo
import KE.KSortKeySt
import KE.KLam
import PyProof.ListRange
import PySem.Challenge.RW_barsandpages_s01_answers
set_option compiler.extract_closed false
set_option bootstrap.genMatcherCode false
theorem Bp.hide {G0 : Prop} (k : ∀ G : Prop, (G0 → G) → G) : G0 := k G0 id
section
set_option Elab.async false
set_option linter.all false
set_option maxRecDepth 100000
/-! THE HAND LAYER, for ints, bools, texts, own classes, lists, tuples, dicts, comprehensions, walks over dicts, enumerate, zip, reversed, texts, calls, loops. Paste it whole ahead of your own text; what your proof does not reach may be deleted. -/
namespace L2
open PySem PySem.Spec PyProof.Rows

/-- a key: an int or a str -/
abbrev Key := Sum Int Str
def keyIs : Key → Value → Bool
  | .inl k, v => Value.isInt k v
  | .inr x, v => Value.isStrOf x v
def keyH (w : World) : Key → Int
  | .inl k => hashInt k
  | .inr x => hashStr w x
theorem keyIs_shape : ∀ {k : Key} {v : Value}, keyIs k v = true → (∃ i t, k = Sum.inl i ∧ v = Value.int i t) ∨ (∃ x t, k = Sum.inr x ∧ v = Value.str x t)
  | .inl i, v, h => by
    obtain ⟨t, e⟩ := Value.isInt_shape (k := i) (v := v) h
    exact .inl ⟨i, t, rfl, e⟩
  | .inr x, v, h => by
    obtain ⟨t, e⟩ := Value.isStrOf_shape (x := x) (v := v) h
    exact .inr ⟨x, t, rfl, e⟩
theorem keyIs_int (i : Int) (t : Tok) : keyIs (.inl i) (.int i t) = true := by simp [keyIs, Value.isInt]
theorem keyIs_str (x : Str) (t : Tok) : keyIs (.inr x) (.str x t) = true := by simp [keyIs, Value.isStrOf]
theorem key_ll (a b : Int) : decide ((Sum.inl a : Key) = Sum.inl b) = (a == b) := by
  by_cases e : a = b
  · subst e; simp
  · have h : ¬ (Sum.inl a : Key) = Sum.inl b := fun q => e (Sum.inl.inj q)
    rw [decide_eq_false h]
    exact (beq_eq_false_iff_ne.mpr e).symm
theorem key_rr (a b : Str) : decide ((Sum.inr a : Key) = Sum.inr b) = decide (a = b) := by
  by_cases e : a = b
  · subst e; simp
  · have h : ¬ (Sum.inr a : Key) = Sum.inr b := fun q => e (Sum.inr.inj q)
    rw [decide_eq_false h, decide_eq_false e]
theorem key_lr (a : Int) (b : Str) : decide ((Sum.inl a : Key) = Sum.inr b) = false := decide_eq_false (fun q => nomatch q)
theorem key_rl (a : Str) (b : Int) : decide ((Sum.inr a : Key) = Sum.inl b) = false := decide_eq_false (fun q => nomatch q)

def mixKind (prog : Program) (w : World) : PySem.KeyKind prog w Key where
  is := keyIs
  hash := keyH w
  inj := fun v a b ha hb => by
    rcases keyIs_shape ha with ⟨i, t, rfl, rfl⟩ | ⟨x, t, rfl, rfl⟩
    · rcases keyIs_shape hb with ⟨j, u, rfl, e⟩ | ⟨y, u, rfl, e⟩
      · injection e with e1 _; rw [e1]
      · exact nomatch e
    · rcases keyIs_shape hb with ⟨j, u, rfl, e⟩ | ⟨y, u, rfl, e⟩
      · exact nomatch e
      · injection e with e1 _; rw [e1]
  byValue := fun k v h => by
    rcases keyIs_shape h with ⟨i, t, rfl, rfl⟩ | ⟨x, t, rfl, rfl⟩ <;> rfl
  pyHash := fun hv h => by
    rcases keyIs_shape hv with ⟨i, t, rfl, rfl⟩ | ⟨x, t, rfl, rfl⟩
    · exact wpAny_pyHash_int h
    · exact wpAny_pyHash_str h
  eqBool := fun hu hv h => by
    rcases keyIs_shape hu with ⟨i, t, rfl, rfl⟩ | ⟨x, t, rfl, rfl⟩
    · rcases keyIs_shape hv with ⟨j, u, rfl, rfl⟩ | ⟨y, u, rfl, rfl⟩
      · rw [key_ll] at h; exact wpAny_eqBool_int h
      · rw [key_lr] at h; exact SeqAt.EqAt.int_str i t y u _ _ _ _ h
    · rcases keyIs_shape hv with ⟨j, u, rfl, rfl⟩ | ⟨y, u, rfl, rfl⟩
      · rw [key_rl] at h; exact SeqAt.EqAt.str_int x t j u _ _ _ _ h
      · rw [key_rr] at h; exact wpAny_eqBool_str h
  «strs» := fun k x t v h => by
    rcases keyIs_shape h with ⟨i, u, rfl, e⟩ | ⟨y, u, rfl, e⟩
    · exact nomatch e
    · injection e with e1 _
      subst e1
      cases v <;> rfl

theorem mixKind_int (prog : Program) (w : World) (i : Int) (t : Tok) : (mixKind prog w).is (.inl i) (.int i t) = true := keyIs_int i t
theorem mixKind_str (prog : Program) (w : World) (x : Str) (t : Tok) : (mixKind prog w).is (.inr x) (.str x t) = true := keyIs_str x t
end L2

namespace L2
open PySem PySem.Spec PyProof.Rows

/-- a value, without the heap -/
inductive V where
  | non | bl (b : Bool) | int (i : Int) | str (x : Str) | byt (b : Array UInt8) | flt (b : UInt64) | ref (a : Addr) | ty (n : String)
  deriving DecidableEq

def RelV : V → Value → Prop
  | .non, u => u = Value.none
  | .bl b, u => u = Value.bool b
  | .int i, u => ∃ t, u = Value.int i t
  | .str x, u => ∃ t, u = Value.str x t
  | .byt b, u => ∃ t, u = Value.bytes b t
  | .flt b, u => ∃ t, u = Value.float b t
  | .ref a, u => u = Value.ref a
  | .ty n, u => u = Value.type n

abbrev Vals : List V → List Value → Prop := Paired RelV
theorem Vals.length {xs : List V} {us : List Value} (r : Vals xs us) : xs.length = us.length := Paired.length r
theorem Vals.get : ∀ {xs : List V} {us : List Value} {i : Nat} {x : V}, Vals xs us → xs[i]? = some x → ∃ u, us[i]? = some u ∧ RelV x u
  | _, _, _, _, .nil, e => by simp at e
  | _, _, 0, _, .cons r _, e => by simp at e; subst e; exact ⟨_, rfl, r⟩
  | _, _, i + 1, x, .cons _ t, e => by
    obtain ⟨u, h1, h2⟩ := Vals.get (i := i) (x := x) t (by simpa using e)
    exact ⟨u, by simpa using h1, h2⟩
theorem Vals.set {x : V} {u : Value} (r : RelV x u) : ∀ {xs : List V} {us : List Value} (i : Nat), Vals xs us → Vals (xs.set i x) (us.set i u)
  | _, _, _, .nil => .nil
  | _, _, 0, .cons _ t => .cons r t
  | _, _, i + 1, .cons q t => .cons q (Vals.set r i t)
theorem Vals.append : ∀ {xs ys : List V} {us ws : List Value}, Vals xs us → Vals ys ws → Vals (xs ++ ys) (us ++ ws)
  | _, _, _, _, .nil, s => s
  | _, _, _, _, .cons r t, s => .cons r (Vals.append t s)
theorem Vals.take : ∀ {xs : List V} {us : List Value} (n : Nat), Vals xs us → Vals (xs.take n) (us.take n)
  | _, _, 0, _ => .nil
  | _, _, _ + 1, .nil => .nil
  | _, _, n + 1, .cons r t => .cons r (Vals.take n t)
theorem Vals.drop : ∀ {xs : List V} {us : List Value} (n : Nat), Vals xs us → Vals (xs.drop n) (us.drop n)
  | _, _, 0, r => r
  | _, _, _ + 1, .nil => .nil
  | _, _, n + 1, .cons _ t => Vals.drop n t

def RelO : Option V → Option Value → Prop
  | some v, some u => RelV v u
  | none, none => True
  | _, _ => False
def KV {κ : Type} : List (κ × V) → List (κ × Value) → Prop := Paired fun (p : κ × V) (q : κ × Value) => p.1 = q.1 ∧ RelV p.2 q.2

/-- a key of a dict (00_mix): an int or a text -/
def kV : Key → V
  | .inl i => .int i
  | .inr x => .str x

/-- what stands at a tracked address -/
inductive HO where
  /-- a list -/
  | lst (xs : List V)
  /-- a tuple (never changes) -/
  | tup (xs : List V)
  /-- a dict whose keys are ints and texts; one whose keys are tuples of ints and texts (the empty one is both) -/
  | dK (kvs : List (Key × V)) | dT (kvs : List (List Key × V))
  /-- a set of ints: its members, its size -/
  | set (S : Int → Bool) (n : Nat)
  /-- an instance of the class at C, its dict at dx, its attributes -/
  | ins (C dx : Addr) (fs : List (Str × V))
  /-- the dict of the instance at x -/
  | own (x : Addr)
  /-- the dict of an exception -/
  | xd (fs : List (Str × V))
  /-- a bound method, f of x -/
  | met (f x : Addr)
  /-- a range object lo, lo + 1, .. below hi -/
  | rng (lo hi : Int)
  /-- a thing that is known to the object (the script; a dict while a loop walks it): read, never written while it is so -/
  | frz (o : Obj) (u : HO)
  /-- a code object's table -/
  | tbl (ps : Array Value)
  /-- any other thing, by what is true of its one object (a def of one's own: SetO a S n := HO.ext fun h => ..) -/
  | ext (φ : Heap → Prop)

abbrev Hp := Addr → Option HO
def upd (H : Hp) (a : Addr) (o : HO) : Hp := fun b => if b = a then some o else H b
theorem upd_same {H : Hp} {a : Addr} {o : HO} : upd H a o a = some o := by unfold upd; rw [if_pos rfl]
theorem upd_ne {H : Hp} {a b : Addr} {o : HO} (h : b ≠ a) : upd H a o b = H b := by unfold upd; rw [if_neg h]
theorem upd_upd {H : Hp} {a : Addr} {o u : HO} : upd (upd H a o) a u = upd H a u := by
  funext b; unfold upd; split <;> rfl
/-- two objects of different content stand apart -/
theorem ne_of {H : Hp} {a b : Addr} {o u : HO} (h : H a = some o) (h' : H b = some u) (d : o ≠ u) : a ≠ b := by
  intro e; subst e; rw [h] at h'; exact d (Option.some.inj h')
theorem ne_of_none {H : Hp} {a b : Addr} {o : HO} (h : H a = some o) (h' : H b = none) : a ≠ b := by
  intro e; subst e; rw [h] at h'; cases h'

section
variable (P : Program) (w : World)
def ObjOk (H : Hp) (h : Heap) (a : Addr) : HO → Prop
  | .lst xs => xs.length ≤ sizeLine ∧ ∃ (its : List Value) (n : Nat), Vals xs its ∧ h.get? a = some { cls := .type "list", data := .seq its.toArray n }
  | .tup xs => xs.length ≤ sizeLine ∧ ∃ its : List Value, Vals xs its ∧ IsTup h a its.toArray
  | .dK kvs => kvs.length ≤ sizeLine ∧ (a == sysModules) = false ∧ ∃ vs, KV kvs vs ∧ h.DictOf (mixKind P w) a vs
  | .dT kvs => kvs.length ≤ sizeLine ∧ (a == sysModules) = false ∧ ∃ xs : List (List Key × Addr × Value),
      Paired (fun (p : List Key × V) (q : List Key × Addr × Value) => p.1 = q.1 ∧ H q.2.1 = some (.tup (p.1.map kV)) ∧ RelV p.2 q.2.2) kvs xs ∧
      ∃ o es ep, h.get? a = some o ∧ o.ExactDict ∧ o.data = .dict es ep ∧ es.toList = xs.map (entryOfKey (tupleKind (mixKind P w))) ∧ (xs.map (·.1)).Nodup
  | .set S n => h.SetOf (intKind P w) a S n
  | .ins C dx fs => H dx = some (.own a) ∧ fs.length ≤ 1000 ∧ dx ≠ a ∧ h.get? a = some (PySem.W.instObj C dx) ∧
      ∃ mA, h.Ns1 dx mA ∧ (∀ f, RelO (fs.lookup f) (mA f)) ∧ PySem.Within mA (fs.map (·.1))
  | .own _ => ∃ o, h.get? a = some o
  | .xd fs => ∃ mA, h.Ns1 a mA ∧ ∀ f, RelO (fs.lookup f) (mA f)
  | .rng lo hi => ∃ t u v, h.get? a = some { cls := .type "range", data := .fields #[.int lo t, .int hi u, .int 1 v] }
  | .frz o u => h.get? a = some o ∧ ObjOk H h a u
  | .tbl ps => h.get? a = some { cls := .none, data := .fields ps }
  | .met f x => h.get? a = some (PySem.W.methodObj (.ref f) (.ref x))
  | .ext φ => φ h ∧ (∃ o, h.get? a = some o) ∧ ∀ h1 h2 : Heap, φ h1 → (∀ o, h1.get? a = some o → h2.get? a = some o) → φ h2
/-- the abstract heap is held -/
def HOk (H : Hp) (h : Heap) : Prop := ∀ a o, H a = some o → ObjOk P w H h a o
end

section
variable {P : Program} {w : World} {H H' : Hp} {h h' : Heap} {a : Addr} {o : HO}
theorem ObjOk.lt (x : ObjOk P w H h a o) : a < h.objs.size := by
  cases o with
  | lst xs => obtain ⟨_, _, _, _, e⟩ := x; exact Heap.lt_size e
  | tup xs => obtain ⟨_, _, _, p⟩ := x; exact p.lt
  | dK kvs => obtain ⟨_, _, _, _, o, _, _, e, _⟩ := x; exact Heap.lt_size e
  | dT kvs => obtain ⟨_, _, _, _, o, _, _, e, _⟩ := x; exact Heap.lt_size e
  | set S n => obtain ⟨o, _, _, _, e, _⟩ := x; exact Heap.lt_size e
  | ins C dx fs => obtain ⟨_, _, _, e, _⟩ := x; exact Heap.lt_size e
  | own y => obtain ⟨_, e⟩ := x; exact Heap.lt_size e
  | xd fs => obtain ⟨_, ⟨_, _, _, e, _⟩, _⟩ := x; exact Heap.lt_size e
  | rng lo hi => obtain ⟨_, _, _, e⟩ := x; exact Heap.lt_size e
  | frz ob u => obtain ⟨e, _⟩ := x; exact Heap.lt_size e
  | tbl ps => exact Heap.lt_size (show h.get? a = some _ from x)
  | met f y => exact Heap.lt_size (show h.get? a = some _ from x)
  | ext φ => obtain ⟨_, ⟨_, e⟩, _⟩ := x; exact Heap.lt_size e
theorem Paired.mapP {α β : Type} {F G : α → β → Prop} : ∀ {l₁ : List α} {l₂ : List β}, Paired F l₁ l₂ → (∀ a b, F a b → G a b) → Paired G l₁ l₂
  | _, _, .nil, _ => .nil
  | _, _, .cons r t, f => .cons (f _ _ r) (Paired.mapP t f)
/-- what an object's description leans on: its own object, its own dict, the tuples -/
theorem ObjOk.stay (x : ObjOk P w H h a o) (k : ∀ b u, (b = a ∨ H b = some (.own a)) → h.get? b = some u → h'.get? b = some u)
    (ho : ∀ b, H b = some (.own a) → H' b = some (.own a)) (ht : ∀ b xs, H b = some (.tup xs) → H' b = some (.tup xs)) : ObjOk P w H' h' a o := by
  induction o with
  | lst xs => obtain ⟨z, its, n, r, e⟩ := x; exact ⟨z, its, n, r, k _ _ (.inl rfl) e⟩
  | tup xs => obtain ⟨z, its, r, ob, e, c⟩ := x; exact ⟨z, its, r, ob, k _ _ (.inl rfl) e, c⟩
  | dK kvs => obtain ⟨z, y, vs, r, ob, es, ep, e, c⟩ := x; exact ⟨z, y, vs, r, ob, es, ep, k _ _ (.inl rfl) e, c⟩
  | dT kvs =>
    obtain ⟨z, y, xs, r, ob, es, ep, e, c⟩ := x
    exact ⟨z, y, xs, Paired.mapP r fun p q z => ⟨z.1, ht _ _ z.2.1, z.2.2⟩, ob, es, ep, k _ _ (.inl rfl) e, c⟩
  | set S n => obtain ⟨ob, es, ep, t, e, c⟩ := x; exact ⟨ob, es, ep, t, k _ _ (.inl rfl) e, c⟩
  | ins C dx fs =>
    obtain ⟨d, z, ne, e, mA, ⟨od, es, ep, e2, c⟩, r⟩ := x
    exact ⟨ho _ d, z, ne, k _ _ (.inl rfl) e, mA, ⟨od, es, ep, k _ _ (.inr d) e2, c⟩, r⟩
  | own y => obtain ⟨ob, e⟩ := x; exact ⟨ob, k _ _ (.inl rfl) e⟩
  | xd fs => obtain ⟨mA, ⟨od, es, ep, e, c⟩, r⟩ := x; exact ⟨mA, ⟨od, es, ep, k _ _ (.inl rfl) e, c⟩, r⟩
  | rng lo hi => obtain ⟨t, u, v, e⟩ := x; exact ⟨t, u, v, k _ _ (.inl rfl) e⟩
  | frz ob u ih => obtain ⟨e, q⟩ := x; exact ⟨k _ _ (.inl rfl) e, ih q⟩
  | tbl ps =>
    have e : h.get? a = some { cls := .none, data := .fields ps } := x
    show h'.get? a = some { cls := .none, data := .fields ps }
    exact k a _ (.inl rfl) e
  | met f y =>
    have e : h.get? a = some (PySem.W.methodObj (.ref f) (.ref y)) := x
    show h'.get? a = some (PySem.W.methodObj (.ref f) (.ref y))
    exact k a _ (.inl rfl) e
  | ext φ => obtain ⟨p, ⟨o, e⟩, st⟩ := x; exact ⟨st _ _ p fun o q => k _ _ (.inl rfl) q, ⟨o, k _ _ (.inl rfl) e⟩, st⟩
theorem HOk.lt (x : HOk P w H h) (e : H a = some o) : a < h.objs.size := (x a o e).lt
theorem HOk.fresh (x : HOk P w H h) (e : h.objs.size ≤ a) : H a = none := by
  cases q : H a with
  | none => rfl
  | some u => exact absurd (Nat.lt_of_lt_of_le (x.lt q) e) (Nat.lt_irrefl _)
/-- every object of the heap is kept -/
theorem HOk.kept (x : HOk P w H h) (k : ∀ b u, h.get? b = some u → h'.get? b = some u) : HOk P w H h' := fun a o e =>
  (x a o e).stay (fun b u _ q => k b u q) (fun _ q => q) fun _ _ q => q
/-- a new object is laid and tracked -/
theorem HOk.laid (x : HOk P w H h) (k : ∀ b u, h.get? b = some u → h'.get? b = some u) (hp : h.objs.size ≤ a) (new : ObjOk P w (upd H a o) h' a o) : HOk P w (upd H a o) h' := fun b u e => by
  have hn := x.fresh hp
  by_cases hb : b = a
  · subst hb; rw [upd_same] at e; cases e; exact new
  · rw [upd_ne hb] at e
    exact (x b u e).stay (fun c v _ q => k c v q) (fun c q => by rw [upd_ne (ne_of_none q hn)]; exact q) fun c xs q => by rw [upd_ne (ne_of_none q hn)]; exact q
end

/-- what may be read as u: it is u, or a known u -/
def Rd (H : Hp) (a : Addr) (u : HO) : Prop := H a = some u ∨ ∃ o, H a = some (.frz o u)
theorem Rd.ok {P : Program} {w : World} {H : Hp} {h : Heap} {a : Addr} {u : HO} (r : Rd H a u) (x : HOk P w H h) : ObjOk P w H h a u := by
  rcases r with r | ⟨o, r⟩
  · exact x a u r
  · obtain ⟨_, q⟩ := x a _ r
    exact q
/-- what may be written -/
def Mut : Option HO → Prop
  | some (.lst _) => True
  | some (.dK _) => True
  | some (.dT _) => True
  | some (.set _ _) => True
  | some (.ins _ _ _) => True
  | some (.ext _) => True
  | _ => False
section
variable {P : Program} {w : World} {H : Hp} {h h' : Heap} {x e : Addr} {o' : HO}
/-- the object at e is changed: x itself, or the dict of the instance x -/
theorem HOk.write (ok : HOk P w H h) (mu : Mut (H x)) (he : e = x ∨ H e = some (.own x)) (k : ∀ b u, b ≠ e → h.get? b = some u → h'.get? b = some u) (heo : ∃ u, h'.get? e = some u)
    (new : ObjOk P w (upd H x o') h' x o') : HOk P w (upd H x o') h' := fun b u q => by
  have nown : ∀ c y, H c = some (.own y) → c ≠ x := fun c y r z => by subst z; rw [r] at mu; exact mu
  have ntup : ∀ c xs, H c = some (.tup xs) → c ≠ x := fun c xs r z => by subst z; rw [r] at mu; exact mu
  by_cases hb : b = x
  · subst hb; rw [upd_same] at q; cases q; exact new
  · rw [upd_ne hb] at q
    by_cases hbe : b = e
    · have q' : H b = some (.own x) := by
        rcases he with z | z
        · exact absurd (hbe.trans z) hb
        · rw [hbe]; exact z
      rw [q] at q'; cases q'
      obtain ⟨v, hv⟩ := heo
      exact ⟨v, by rw [hbe]; exact hv⟩
    · refine (ok b u q).stay (fun c v hc r => k c v ?_ r) (fun c r => by rw [upd_ne (nown c b r)]; exact r) fun c xs r => by rw [upd_ne (ntup c xs r)]; exact r
      rcases hc with rfl | hc
      · exact hbe
      · rintro rfl
        rcases he with z | z
        · exact nown c b hc z
        · rw [hc] at z; cases z; exact hb rfl
end

/-! ### kept unless tracked; of the frames at fs (the callers') the slots may change (an exception that passes writes there); of the records at ex (iterators) nothing is said -/
structure Un (fs ex : List Addr) (H H' : Hp) (h h' : Heap) : Prop where
  keep : ∀ b o, h.get? b = some o → H b = none → b ∉ fs → b ∉ ex → h'.get? b = some o
  slot : ∀ b o, h.get? b = some o → H b = none → b ∈ fs → b ∉ ex → ∃ sl, h'.get? b = some { o with slots := sl }
  free : ∀ b o, h.get? b = some o → H b = none → b ∉ ex → H' b = none
  there : ∀ b o, h.get? b = some o → b ∉ ex → ∃ o', h'.get? b = some o'
  tups : ∀ b xs, H b = some (.tup xs) → H' b = some (.tup xs)
  frzs : ∀ b o u, H b = some (.frz o u) → H' b = some (.frz o u)
  tbls : ∀ b ps, H b = some (.tbl ps) → ∃ more, H' b = some (.tbl (ps ++ more))
section
variable {fs fs' ex ex' : List Addr} {H H1 H2 : Hp} {h h1 h2 h' : Heap} {a x e : Addr} {o : HO}
theorem Un.any (u : Un fs ex H H1 h h1) {b : Addr} {ob : Obj} (q : h.get? b = some ob) (n : H b = none) (hx : b ∉ ex) : ∃ sl, h1.get? b = some { ob with slots := sl } := by
  by_cases hb : b ∈ fs
  · exact u.slot b ob q n hb hx
  · exact ⟨ob.slots, u.keep b ob q n hb hx⟩
theorem Un.kept (k : ∀ b u, h.get? b = some u → h'.get? b = some u) : Un fs ex H H h h' :=
  ⟨fun b ob q _ _ _ => k b ob q, fun b ob q _ _ _ => ⟨ob.slots, k b ob q⟩, fun _ _ _ n _ => n, fun b ob q _ => ⟨ob, k b ob q⟩, fun _ _ q => q, fun _ _ _ q => q, fun _ ps q => ⟨#[], by rw [q]; simp⟩⟩
theorem Un.refl : Un fs ex H H h h := Un.kept fun _ _ q => q
theorem Un.laid (k : ∀ b u, h.get? b = some u → h'.get? b = some u) (hp : h.objs.size ≤ a) (hn : H a = none) : Un fs ex H (upd H a o) h h' where
  keep := fun b u q _ _ _ => k b u q
  slot := fun b u q _ _ _ => ⟨u.slots, k b u q⟩
  free := fun b u q n _ => by rw [upd_ne (Nat.ne_of_lt (Nat.lt_of_lt_of_le (Heap.lt_size q) hp))]; exact n
  there := fun b u q _ => ⟨u, k b u q⟩
  tups := fun b xs q => by rw [upd_ne (ne_of_none q hn)]; exact q
  frzs := fun b u xs q => by rw [upd_ne (ne_of_none q hn)]; exact q
  tbls := fun b ps q => ⟨#[], by rw [upd_ne (ne_of_none q hn), q]; simp⟩
theorem Un.write (mu : Mut (H x)) (he : e = x ∨ H e = some (.own x)) (k : ∀ b u, b ≠ e → h.get? b = some u → h'.get? b = some u) (heo : ∃ u, h'.get? e = some u) : Un fs ex H (upd H x o) h h' := by
  have hx : ∀ b, H b = none → b ≠ x := fun b n z => by subst z; rw [n] at mu; exact mu
  have hb : ∀ b, H b = none → b ≠ e := fun b n z => by
    subst z
    rcases he with r | r
    · exact hx b n r
    · rw [n] at r; cases r
  have hm : ∀ b u, H b = some u → ¬ Mut (some u) → b ≠ x := fun b u q nm z => by subst z; rw [q] at mu; exact nm mu
  refine ⟨fun b u q n _ _ => k b u (hb b n) q, fun b u q n _ _ => ⟨u.slots, k b u (hb b n) q⟩, fun b u q n _ => by rw [upd_ne (hx b n)]; exact n, fun b u q _ => ?_,
    fun b xs q => by rw [upd_ne (hm b _ q fun z => z)]; exact q, fun b u xs q => by rw [upd_ne (hm b _ q fun z => z)]; exact q, fun b ps q => ⟨#[], by rw [upd_ne (hm b _ q fun z => z), q]; simp⟩⟩
  by_cases hbe : b = e
  · subst hbe; exact heo
  · exact ⟨u, k b u hbe q⟩
end

/-! ### the heap without what is tracked -/
def trk (h : Heap) (H : Hp) : List Addr := (List.range h.objs.size).filter fun a => (H a).isSome
def hidT (h : Heap) (H : Hp) : Heap := PySem.W.hideAll h (trk h H)
theorem hidT_size (h : Heap) (H : Hp) : (hidT h H).objs.size = h.objs.size := PySem.W.hideAll_size _ _
theorem hidT_get {h : Heap} {H : Hp} {b : Addr} {o : Obj} (e : h.get? b = some o) (n : H b = none) : (hidT h H).get? b = some o :=
  PySem.W.hideAll_get _ e fun hm => by
    have q : (H b).isSome = true := (List.mem_filter.mp hm).2
    rw [n] at q; simp at q
theorem of_hidT {h : Heap} {H : Hp} {b : Addr} {o : Obj} (e : (hidT h H).get? b = some o) : h.get? b = some o ∧ H b = none := by
  have e' : h.get? b = some o := PySem.W.of_hideAll (trk h H) e
  refine ⟨e', ?_⟩
  cases q : H b with
  | none => rfl
  | some x =>
    have hm : b ∈ trk h H := List.mem_filter.mpr ⟨List.mem_range.mpr (Heap.lt_size e'), by simp [q]⟩
    have z : (hidT h H).get? b = none := PySem.W.hideAll_none (trk h H) hm
    rw [z] at e; cases e

/-! ### OpenK's ledger, filled with every new object but one -/
def allNews (g h : Heap) (L : Addr) : List (Addr × Obj) := (List.range h.objs.size).filterMap fun a => if a = L ∨ (g.get? a).isSome = true then none else (h.get? a).map fun o => (a, o)
theorem mem_allNews {g h : Heap} {L a : Addr} {o : Obj} (h1 : a ≠ L) (h2 : g.get? a = none) (h3 : h.get? a = some o) : (a, o) ∈ allNews g h L :=
  List.mem_filterMap.mpr ⟨a, List.mem_range.mpr (Heap.lt_size h3), by simp [h1, h2, h3]⟩
theorem of_mem_allNews {g h : Heap} {L : Addr} {p : Addr × Obj} (hp : p ∈ allNews g h L) : p.1 ≠ L ∧ g.get? p.1 = none ∧ h.get? p.1 = some p.2 := by
  obtain ⟨b, _, e⟩ := List.mem_filterMap.mp hp
  split at e
  · cases e
  · rename_i hn
    cases q : h.get? b with
    | none => rw [q] at e; simp at e
    | some u =>
      rw [q] at e
      simp only [Option.map_some, Option.some.injEq] at e
      subst e
      refine ⟨fun z => hn (.inl z), ?_, q⟩
      show g.get? b = none
      cases r : g.get? b with
      | none => rfl
      | some v => exact (hn (.inr (by simp [r]))).elim
theorem news_all {g h : Heap} {L : Addr} : News g L h (allNews g h L) := fun p hp => let ⟨a, b, c⟩ := of_mem_allNews hp; ⟨c, a, b⟩
end L2

namespace L2
open PySem PySem.Spec PyProof.Rows

/-- the module's facts, over the base: the heap at the law's entry without what is tracked there -/
structure Mod (K : PySem.W.Frag) (mg : Str → Option Value) (base : Heap) : Prop where
  kin : K.In base
  glob : base.Ns mainGlobals mg
  blt : ∃ mb, base.Ns builtinsNs mb ∧ ∀ x : Str, x ≠ "__name__" → mb x = bootBuiltins x
  nolimit : base.NoLimit

/-- the context: a def's body (or a comprehension's block) running. base: fixed through the whole law; s₀, H₀: the entry; outer: the frames whose slots others may change (a def's callers); stack: all frames that run;
   ex: iterators that were made ahead of the entry and are walked here (a comprehension's); fn: the names whose cells were made at the entry (a def: all; a comprehension's block: its own); calm: not within an except suite; pn: pins that every state bears; xe: what is wanted of an exception that leaves the code -/
structure Cx where
  prog : Program
  w : World
  K : PySem.W.Frag
  mg : Str → Option Value
  base : Heap
  A : Around
  N : List Str
  s_0 : Shared
  H_0 : Hp
  env : Env
  outer : List Env
  stack : List Env
  ex : List Addr
  fn : Str → Bool
  calm : Bool
  pn : List (Addr × Obj)
  xe : Value → Shared → Prop
/-- the callers' frames -/
def frs (l : List Env) : List Addr := l.filterMap (·.frame)
abbrev Cx.fs (X : Cx) : List Addr := frs X.outer

def Vis (sc : Scope) (x : Str) : Prop := sc.names.lookup x = some .local ∨ sc.names.lookup x = some .cell ∨ sc.names.lookup x = some .free
def Loc (sc : Scope) (x : Str) : Prop := sc.names.lookup x = some .local ∨ sc.names.lookup x = some .cell
def Look (env : Env) (h : Heap) (m : Str → Option Value) (x : Str) (u : Value) : Prop :=
  (env.kindOf x = some .local ∧ m x = some u) ∨ ((env.kindOf x = some .cell ∨ env.kindOf x = some .free) ∧ ∃ c, env.cells.lookup x = some c ∧ h.IsCell c (some u))

structure Cx.Ok (X : Cx) : Prop where
  mod : Mod X.K X.mg X.base
  kind : X.env.scope.kind = .function
  glob : X.env.globals = mainGlobals
  blt : X.env.builtins = builtinsNs
  above : X.s_0.heap.objs.size ≤ X.env.locals
  inj : ∀ x y c, X.env.cells.lookup x = some c → X.env.cells.lookup y = some c → x = y
  has : ∀ x, (X.env.kindOf x = some .cell ∨ X.env.kindOf x = some .free) → ∃ c, X.env.cells.lookup x = some c
  cab : ∀ x c, X.fn x = true → X.env.cells.lookup x = some c → X.s_0.heap.objs.size ≤ c
  hd : X.calm = true → X.A.handled = none
  frames : X.A.frames = some X.stack
  stk : X.stack = X.outer ∨ (X.stack = X.env :: X.outer ∧ X.env.frame = some X.env.locals)
  exf : ∀ b ∈ X.ex, b ≠ X.env.locals ∧ ∀ x c, X.env.cells.lookup x = some c → c ≠ b
  bs : ∀ b o, X.base.get? b = some o → X.s_0.heap.get? b = some o ∧ X.H_0 b = none
  bsz : X.base.objs.size ≤ X.s_0.heap.objs.size
  noex : ∀ b o, X.base.get? b = some o → b ∉ X.ex
  exfs : ∀ b ∈ X.ex, b ∉ X.fs
  funs : X.s_0.heap.FunFrames X.base X.outer
  frf : ∀ b ∈ X.fs, X.H_0 b = none

structure Inv (X : Cx) (pins : List (Addr × Obj)) (σ : List (Option V)) (H : Hp) (s : Shared) : Prop where
  ok : X.Ok
  os : s.os = X.s_0.os
  bare : AllBare s.gens
  base : Un X.fs X.ex X.H_0 H X.s_0.heap s.heap
  loc : ∃ m, s.heap.Ns X.env.locals m ∧ ∀ (i : Nat) (x : Str) (v : V), X.N[i]? = some x → σ[i]? = some (some v) → Vis X.env.scope x → ∃ u, RelV v u ∧ Look X.env s.heap m x u
  cell : ∀ x c, X.env.cells.lookup x = some c → ∃ v, s.heap.IsCell c v
  free : H X.env.locals = none
  freeC : ∀ x c, X.env.cells.lookup x = some c → H c = none
  pin : ∀ p ∈ X.pn ++ pins, s.heap.get? p.1 = some p.2 ∧ H p.1 = none ∧ p.1 ≠ X.env.locals ∧ p.1 ∉ X.fs ∧ ∀ v, p.2.data ≠ .cell v
  hok : HOk X.prog X.w H s.heap
  len : σ.length = X.N.length

section
variable {X : Cx} {pins : List (Addr × Obj)} {σ : List (Option V)} {H H' : Hp} {s : Shared} {h' : Heap}

theorem Cx.Ok.nofr (ok : X.Ok) {b : Addr} {o : Obj} (e : X.base.get? b = some o) : b ∉ X.fs := fun hb => by
  have := (ok.funs.mem hb).1
  rw [e] at this; cases this
theorem Inv.bs (I : Inv X pins σ H s) : ∀ b o, X.base.get? b = some o → s.heap.get? b = some o ∧ H b = none := fun b o e =>
  ⟨I.base.keep b o (I.ok.bs b o e).1 (I.ok.bs b o e).2 (I.ok.nofr e) (I.ok.noex b o e), I.base.free b o (I.ok.bs b o e).1 (I.ok.bs b o e).2 (I.ok.noex b o e)⟩
theorem Inv.bk (I : Inv X pins σ H s) : ∀ b o, X.base.get? b = some o → s.heap.get? b = some o := fun b o e => (I.bs b o e).1
theorem Inv.mod (I : Inv X pins σ H s) : Mod X.K X.mg X.base := I.ok.mod
theorem Inv.kIn (I : Inv X pins σ H s) : X.K.In s.heap := I.ok.mod.kin.keeps I.bk
/-- the frame over the base: for OpenK's rules (K.In X.base is I.mod.kin) -/
theorem Inv.fr (I : Inv X pins σ H s) : ∃ m, Fr X.base X.env.locals s.heap m :=
  let ⟨m, hn, _⟩ := I.loc
  ⟨m, hn, I.bk, Nat.le_trans I.ok.bsz I.ok.above⟩
theorem Inv.lt (I : Inv X pins σ H s) : X.env.locals < s.heap.objs.size := let ⟨_, hn, _⟩ := I.loc; hn.lt
theorem Inv.sz (I : Inv X pins σ H s) : X.s_0.heap.objs.size ≤ s.heap.objs.size := Nat.le_trans I.ok.above (Nat.le_of_lt I.lt)
theorem Inv.nofs (I : Inv X pins σ H s) {a : Addr} (h : s.heap.objs.size ≤ a) : a ∉ X.fs := fun hb => by
  obtain ⟨_, o, ho, _⟩ := I.ok.funs.mem hb
  exact absurd (Nat.lt_of_lt_of_le (Heap.lt_size ho) (Nat.le_trans I.sz h)) (Nat.lt_irrefl _)
theorem Inv.cne (I : Inv X pins σ H s) : ∀ x c, X.env.cells.lookup x = some c → c ≠ X.env.locals := fun x c e z => by
  obtain ⟨v, o, ho, hd⟩ := I.cell x c e
  obtain ⟨m, ⟨o', es, ep, ho', hd', _⟩, _⟩ := I.loc
  rw [z, ho'] at ho; cases ho; rw [hd'] at hd; cases hd
theorem Inv.funs (I : Inv X pins σ H s) : s.heap.FunFrames X.base X.outer := by
  have all : ∀ (l : List Env), (∀ b ∈ frs l, b ∈ X.fs) → X.s_0.heap.FunFrames X.base l → s.heap.FunFrames X.base l := by
    intro l
    induction l with
    | nil => intro _ _; trivial
    | cons env r ih =>
      intro hs hl
      obtain ⟨hk, ⟨L, o, hf, hn, ho, hd⟩, hr⟩ := hl
      have hL : L ∈ X.fs := hs L (by unfold frs; rw [List.filterMap_cons, hf]; exact List.mem_cons_self)
      obtain ⟨sl, e⟩ := I.base.slot L o ho (I.ok.frf L hL) hL fun z => I.ok.exfs L z hL
      exact ⟨hk, ⟨L, _, hf, hn, e, hd⟩, ih (fun b hb => hs b (by unfold frs; rw [List.filterMap_cons, hf]; exact List.mem_cons_of_mem _ hb)) hr⟩
  exact all X.outer (fun _ hb => hb) I.ok.funs

/-- the frames that run, for a call -/
theorem Inv.stack (I : Inv X pins σ H s) : s.heap.FunFrames X.base X.stack := by
  rcases I.ok.stk with e | ⟨e, hf⟩
  · rw [e]; exact I.funs
  · rw [e]
    obtain ⟨m, hn, _⟩ := I.loc
    refine .cons (by rw [I.ok.kind]; decide) hf hn ?_ I.funs
    exact Heap.get?_none_of_le (Nat.le_trans I.ok.bsz I.ok.above)
theorem Inv.stkSub (I : Inv X pins σ H s) : ∀ b ∈ frs X.stack, b ∈ X.env.locals :: X.fs := fun b hb => by
  rcases I.ok.stk with e | ⟨e, hf⟩
  · rw [e] at hb; exact List.mem_cons_of_mem _ hb
  · rw [e] at hb
    unfold frs at hb
    rw [List.filterMap_cons, hf] at hb
    exact hb
theorem Inv.stkFree (I : Inv X pins σ H s) : ∀ b ∈ frs X.stack, H b = none := fun b hb => by
  rcases List.mem_cons.mp (I.stkSub b hb) with e | hb
  · rw [e]; exact I.free
  · obtain ⟨_, o, ho, _⟩ := I.ok.funs.mem hb
    exact I.base.free b o ho (I.ok.frf b hb) fun z => I.ok.exfs b z hb

/-- THE STEP: the untracked objects but the frame and the records at ch are kept (the callers' frames up to slots), the frame's map is kept, the new abstract heap is held -/
theorem Inv.step {g' : Array GenState} {t' : Nat} {d' : Drawn} {ch : List Addr} (I : Inv X pins σ H s)
    (hch : ∀ b ∈ ch, (b ∈ X.ex ∨ X.s_0.heap.objs.size ≤ b) ∧ b ≠ X.env.locals ∧ (∀ x c, X.env.cells.lookup x = some c → c ≠ b) ∧ ∀ p ∈ X.pn ++ pins, p.1 ≠ b)
    (keep : ∀ b o, b ≠ X.env.locals → b ∉ X.fs → b ∉ ch → s.heap.get? b = some o → H b = none → h'.get? b = some o)
    (slot : ∀ b o, b ≠ X.env.locals → b ∈ X.fs → b ∉ ch → s.heap.get? b = some o → H b = none → ∃ sl, h'.get? b = some { o with slots := sl }) (free : ∀ b o, b ∉ ch → s.heap.get? b = some o → H b = none → H' b = none)
    (there : ∀ b o, b ∉ ch → s.heap.get? b = some o → ∃ o', h'.get? b = some o')
    (tups : ∀ b xs, H b = some (.tup xs) → H' b = some (.tup xs)) (frzs : ∀ b o u, H b = some (.frz o u) → H' b = some (.frz o u)) (tbls : ∀ b ps, H b = some (.tbl ps) → ∃ more, H' b = some (.tbl (ps ++ more)))
    (ns : ∀ m, s.heap.Ns X.env.locals m → h'.Ns X.env.locals m) (hok : HOk X.prog X.w H' h') (hg : AllBare g') :
    Inv X pins σ H' { s with heap := h', gens := g', drawn := d', toks := t' } := by
  have neL : ∀ b o, X.s_0.heap.get? b = some o → b ≠ X.env.locals := fun b o e => Nat.ne_of_lt (Nat.lt_of_lt_of_le (Heap.lt_size e) I.ok.above)
  have neC : ∀ b o, X.s_0.heap.get? b = some o → b ∉ X.ex → b ∉ ch := fun b o e hx hb => by
    rcases (hch b hb).1 with z | z
    · exact hx z
    · exact absurd (Nat.lt_of_lt_of_le (Heap.lt_size e) z) (Nat.lt_irrefl _)
  have cellK : ∀ x c, X.env.cells.lookup x = some c → ∀ v, s.heap.IsCell c v → h'.IsCell c v := fun x c e v ⟨o, ho, hd⟩ => by
    have nch : c ∉ ch := fun z => (hch c z).2.2.1 x c e rfl
    by_cases hc : c ∈ X.fs
    · obtain ⟨sl, q⟩ := slot c o (I.cne x c e) hc nch ho (I.freeC x c e)
      exact ⟨_, q, hd⟩
    · exact ⟨o, keep c o (I.cne x c e) hc nch ho (I.freeC x c e), hd⟩
  refine ⟨I.ok, I.os, hg, ⟨fun b o e n hb hx => ?_, fun b o e n hb hx => ?_, fun b o e n hx => ?_, fun b o e hx => ?_, fun b xs e => tups b xs (I.base.tups b xs e), fun b o xs e => frzs b o xs (I.base.frzs b o xs e), fun b ps e => ?_⟩, ?_, fun x c e => ?_, ?_, fun x c e => ?_, fun p hp => ?_, hok, I.len⟩
  · exact keep b o (neL b o e) hb (neC b o e hx) (I.base.keep b o e n hb hx) (I.base.free b o e n hx)
  · obtain ⟨sl, e1⟩ := I.base.slot b o e n hb hx
    obtain ⟨sl', e2⟩ := slot b _ (neL b o e) hb (neC b o e hx) e1 (I.base.free b o e n hx)
    exact ⟨sl', e2⟩
  · obtain ⟨o', e1⟩ := I.base.there b o e hx
    exact free b o' (neC b o e hx) e1 (I.base.free b o e n hx)
  · obtain ⟨o', e1⟩ := I.base.there b o e hx
    exact there b o' (neC b o e hx) e1
  · obtain ⟨m1, e1⟩ := I.base.tbls b ps e
    obtain ⟨m2, e2⟩ := tbls b _ e1
    exact ⟨m1 ++ m2, by rw [e2, Array.append_assoc]⟩
  · obtain ⟨m, hn, hl⟩ := I.loc
    refine ⟨m, ns m hn, fun i x v e1 e2 e3 => ?_⟩
    obtain ⟨u, r, l⟩ := hl i x v e1 e2 e3
    refine ⟨u, r, ?_⟩
    rcases l with l | ⟨k, c, e, z⟩
    · exact .inl l
    · exact .inr ⟨k, c, e, cellK x c e _ z⟩
  · obtain ⟨v, z⟩ := I.cell x c e
    exact ⟨v, cellK x c e v z⟩
  · obtain ⟨m, ⟨o, _, _, ho, _⟩, _⟩ := I.loc
    exact free _ o (fun z => (hch _ z).2.1 rfl) ho I.free
  · obtain ⟨v, o, ho, hd⟩ := I.cell x c e
    exact free c o (fun z => (hch c z).2.2.1 x c e rfl) ho (I.freeC x c e)
  · obtain ⟨e, n, ne, nf, d⟩ := I.pin p hp
    have nch : p.1 ∉ ch := fun z => (hch p.1 z).2.2.2 p hp rfl
    exact ⟨keep p.1 p.2 ne nf nch e n, free p.1 p.2 nch e n, ne, nf, d⟩
/-- .. where the frame's own object is kept too -/
theorem Inv.un {t' : Nat} (I : Inv X pins σ H s) (u : Un X.fs [] H H' s.heap h') (hok : HOk X.prog X.w H' h') : Inv X pins σ H' { s with heap := h', toks := t' } := by
  obtain ⟨m, ⟨o, es, ep, ho, r⟩, _⟩ := id I.loc
  obtain ⟨sl, hL⟩ := u.any ho I.free (by simp)
  exact I.step (g' := s.gens) (d' := s.drawn) (ch := []) (fun _ z => nomatch z) (fun b o _ hb _ e n => u.keep b o e n hb (by simp)) (fun b o _ hb _ e n => u.slot b o e n hb (by simp)) (fun b o _ e n => u.free b o e n (by simp)) (fun b o _ e => u.there b o e (by simp)) u.tups u.frzs u.tbls (fun m' hm => by
    obtain ⟨o', es', ep', ho', r'⟩ := hm
    rw [ho] at ho'; cases ho'
    exact ⟨_, es', ep', hL, r'⟩) hok I.bare
/-- behind a call (or a comprehension's block): the slots of this frame may have changed too, the records at ch may have turned -/
theorem Inv.call {g' : Array GenState} {t' : Nat} {d' : Drawn} {ch : List Addr} (I : Inv X pins σ H s) (u : Un (frs X.stack) ch H H' s.heap h') (hok : HOk X.prog X.w H' h') (hg : AllBare g')
    (hch : ∀ b ∈ ch, (b ∈ X.ex ∨ X.s_0.heap.objs.size ≤ b) ∧ b ≠ X.env.locals ∧ (∀ x c, X.env.cells.lookup x = some c → c ≠ b) ∧ ∀ p ∈ X.pn ++ pins, p.1 ≠ b) :
    Inv X pins σ H' { s with heap := h', gens := g', drawn := d', toks := t' } := by
  obtain ⟨m, ⟨o, es, ep, ho, r⟩, _⟩ := id I.loc
  obtain ⟨sl, hL⟩ := u.any ho I.free fun z => (hch _ z).2.1 rfl
  exact I.step (ch := ch) hch (fun b o hL hb hc e n => u.keep b o e n (fun z => (List.mem_cons.mp (I.stkSub b z)).elim hL hb) hc) (fun b o _ _ hc e n => u.any e n hc) (fun b o hc e n => u.free b o e n hc) (fun b o hc e => u.there b o e hc) u.tups u.frzs u.tbls (fun m' hm => by
    obtain ⟨o', es', ep', ho', r'⟩ := hm
    rw [ho] at ho'; cases ho'
    exact ⟨_, es', ep', hL, r'⟩) hok hg
/-- an untracked record of ours (an iterator) has turned -/
theorem Inv.turned {t' : Nat} {it : Addr} (I : Inv X pins σ H s) (k : ∀ b o, b ≠ it → s.heap.get? b = some o → h'.get? b = some o) (hn : H it = none) (hL : it ≠ X.env.locals)
    (h1 : it ∈ X.ex ∨ X.s_0.heap.objs.size ≤ it) (h2 : ∀ x c, X.env.cells.lookup x = some c → c ≠ it) (h3 : ∀ p ∈ X.pn ++ pins, p.1 ≠ it) : Inv X pins σ H { s with heap := h', toks := t' } := by
  have nit : ∀ b u, H b = some u → b ≠ it := fun b u e z => by rw [z, hn] at e; cases e
  refine I.step (g' := s.gens) (d' := s.drawn) (ch := [it]) (fun b hb => ?_) (fun b o _ _ hc e _ => k b o (fun z => hc (by simp [z])) e) (fun b o _ _ hc e _ => ⟨o.slots, k b o (fun z => hc (by simp [z])) e⟩) (fun _ _ _ _ n => n)
    (fun b o hc e => ⟨o, k b o (fun z => hc (by simp [z])) e⟩) (fun _ _ e => e) (fun _ _ _ e => e) (fun b ps e => ⟨#[], by rw [e]; simp⟩) (fun m hm => ?_) (fun b u e => ?_) I.bare
  · have e : b = it := by simpa using hb
    subst e
    exact ⟨h1, hL, h2, h3⟩
  · obtain ⟨o, es, ep, ho, r⟩ := hm
    exact ⟨o, es, ep, k _ o (Ne.symm hL) ho, r⟩
  · refine (I.hok b u e).stay (fun c v hc q => k c v ?_ q) (fun _ q => q) fun _ _ q => q
    rcases hc with z | z
    · rw [z]; exact nit b u e
    · exact nit c _ z
theorem Inv.tok (I : Inv X pins σ H s) (t : Nat) : Inv X pins σ H { s with toks := t } := I.un (h' := s.heap) (t' := t) Un.refl I.hok
/-- all objects kept -/
theorem Inv.kept {t' : Nat} (I : Inv X pins σ H s) (k : ∀ b u, s.heap.get? b = some u → h'.get? b = some u) : Inv X pins σ H { s with heap := h', toks := t' } := I.un (Un.kept k) (I.hok.kept k)
/-- a new object laid and tracked -/
theorem Inv.laid {a : Addr} {o : HO} {t' : Nat} (I : Inv X pins σ H s) (k : ∀ b u, s.heap.get? b = some u → h'.get? b = some u) (hp : s.heap.objs.size ≤ a) (new : ObjOk X.prog X.w (upd H a o) h' a o) :
    Inv X pins σ (upd H a o) { s with heap := h', toks := t' } := I.un (Un.laid k hp (I.hok.fresh hp)) (I.hok.laid k hp new)
/-- an object written -/
theorem Inv.write {x e : Addr} {o : HO} {t' : Nat} (I : Inv X pins σ H s) (mu : Mut (H x)) (he : e = x ∨ H e = some (.own x)) (k : ∀ b u, b ≠ e → s.heap.get? b = some u → h'.get? b = some u) (heo : ∃ u, h'.get? e = some u)
    (new : ObjOk X.prog X.w (upd H x o) h' x o) : Inv X pins σ (upd H x o) { s with heap := h', toks := t' } := I.un (Un.write mu he k heo) (I.hok.write mu he k heo new)
/-- forgetting slots, pins -/
theorem Inv.weak {σ' : List (Option V)} (I : Inv X pins σ H s) (hl : σ'.length = σ.length) (w : ∀ (i : Nat) v, σ'[i]? = some (some v) → σ[i]? = some (some v)) : Inv X pins σ' H s :=
  ⟨I.ok, I.os, I.bare, I.base, let ⟨m, hn, hl'⟩ := I.loc; ⟨m, hn, fun i x v e1 e2 e3 => hl' i x v e1 (w i v e2) e3⟩, I.cell, I.free, I.freeC, I.pin, I.hok, hl.trans I.len⟩
theorem Inv.pins_of {pins' : List (Addr × Obj)} (I : Inv X pins σ H s) (h : ∀ p ∈ pins', s.heap.get? p.1 = some p.2 ∧ H p.1 = none ∧ p.1 ≠ X.env.locals ∧ p.1 ∉ X.fs ∧ ∀ v, p.2.data ≠ .cell v) : Inv X pins' σ H s :=
  ⟨I.ok, I.os, I.bare, I.base, I.loc, I.cell, I.free, I.freeC, fun p hp => (List.mem_append.mp hp).elim (fun z => I.pin p (List.mem_append_left _ z)) (h p), I.hok, I.len⟩

theorem nodup_ix {N : List Str} (hN : N.Nodup) {i j : Nat} {x : Str} (a : N[i]? = some x) (b : N[j]? = some x) : i = j := by
  obtain ⟨h1, e1⟩ := List.getElem?_eq_some_iff.mp a
  obtain ⟨h2, e2⟩ := List.getElem?_eq_some_iff.mp b
  exact (List.getElem_inj hN).mp (e1.trans e2.symm)

/-- a name is stored; what changed -/
theorem store_ok2 {M : Model} {A : Around} {E : Value → Shared → Prop} {i : Nat} {x : Str} {v : V} {u : Value} {Q : Unit → Shared → Prop} (I : Inv X pins σ H s) (hN : X.N.Nodup) (hi : X.N[i]? = some x) (hx : Loc X.env.scope x) (r : RelV v u)
    (h : ∀ s', Inv X pins (σ.set i (some v)) H s' → (∃ a, Heap.SameBut a s.heap s'.heap ∧ (a = X.env.locals ∨ X.env.cells.lookup x = some a)) → Q () s') (hf : X.fn x = true ∨ X.env.scope.names.lookup x = some .local := by first | exact .inl rfl | exact .inr rfl | assumption) : wpAny M A (storeName X.env x u) Q E s := by
  obtain ⟨m, hn, hl⟩ := id I.loc
  have hcls : (X.env.scope.kind == .class || (X.env.scope.kind == .module && X.env.locals != X.env.globals)) = false := by rw [I.ok.kind]; rfl
  have hiσ : i < σ.length := by rw [I.len]; exact (List.getElem?_eq_some_iff.mp hi).1
  have cne := I.cne
  have tracked : ∀ {a : Addr} {h' : Heap}, (∃ o, s.heap.get? a = some o ∧ H a = none) → Heap.SameBut a s.heap h' → HOk X.prog X.w H h' := fun {a h'} ha hs b ob e => by
    obtain ⟨_, _, hfree⟩ := ha
    refine (I.hok b ob e).stay (fun c w' hc q => (hs.2 c ?_).trans q) (fun _ q => q) fun _ _ q => q
    rintro rfl
    rcases hc with rfl | hc
    · rw [hfree] at e; cases e
    · rw [hfree] at hc; cases hc
  rcases hx with hk | hk
  · refine wpAny_storeName_local hk hn (fun h' hn' hs => ?_) hcls
    obtain ⟨oL, _, _, hoL, _⟩ := id hn
    refine h _ ⟨I.ok, I.os, I.bare, ⟨fun b o e n hb hx => ?_, fun b o e n hb hx => ?_, I.base.free, fun b o e hx => ?_, I.base.tups, I.base.frzs, I.base.tbls⟩, ⟨_, hn', fun j y v' e1 e2 e3 => ?_⟩, fun y c e => ?_, I.free, I.freeC, fun p hp => ?_, tracked ⟨oL, hoL, I.free⟩ hs, by simpa using I.len⟩ ⟨_, hs, .inl rfl⟩
    · exact (hs.2 b (Nat.ne_of_lt (Nat.lt_of_lt_of_le (Heap.lt_size e) I.ok.above))).trans (I.base.keep b o e n hb hx)
    · obtain ⟨sl, e1⟩ := I.base.slot b o e n hb hx
      exact ⟨sl, (hs.2 b (Nat.ne_of_lt (Nat.lt_of_lt_of_le (Heap.lt_size e) I.ok.above))).trans e1⟩
    · obtain ⟨o', e1⟩ := I.base.there b o e hx
      exact ⟨o', (hs.2 b (Nat.ne_of_lt (Nat.lt_of_lt_of_le (Heap.lt_size e) I.ok.above))).trans e1⟩
    · by_cases hj : j = i
      · subst hj
        rw [hi] at e1; cases e1
        rw [List.getElem?_set_self hiσ] at e2
        cases e2
        exact ⟨u, r, .inl ⟨hk, by simp⟩⟩
      · rw [List.getElem?_set_ne (Ne.symm hj)] at e2
        obtain ⟨u', r', q⟩ := hl j y v' e1 e2 e3
        refine ⟨u', r', ?_⟩
        rcases q with ⟨k, e⟩ | ⟨k, c, e, z⟩
        · refine .inl ⟨k, ?_⟩
          have : y ≠ x := fun e => hj (nodup_ix hN e1 (e ▸ hi))
          simp [this, e]
        · exact .inr ⟨k, c, e, z.sameBut hs (cne y c e)⟩
    · obtain ⟨w', z⟩ := I.cell y c e
      exact ⟨w', z.sameBut hs (cne y c e)⟩
    · obtain ⟨e, n, ne, nf, d⟩ := I.pin p hp
      exact ⟨(hs.2 p.1 ne).trans e, n, ne, nf, d⟩
  · have hfn : X.fn x = true := by
      rcases hf with z | z
      · exact z
      · rw [z] at hk; cases hk
    obtain ⟨c, hc⟩ := I.ok.has x (.inl hk)
    obtain ⟨w', z⟩ := I.cell x c hc
    refine wpAny_storeName_cell I.ok.kind hk hc z (fun h' hc' hs => ?_)
    obtain ⟨oc, hoc, hocd⟩ := id z
    refine h { s with heap := h' } ⟨I.ok, I.os, I.bare, ⟨fun b o e n hb hx => ?_, fun b o e n hb hx => ?_, I.base.free, fun b o e hx => ?_, I.base.tups, I.base.frzs, I.base.tbls⟩, ⟨m, hn.sameBut hs (Ne.symm (cne x c hc)), fun j y v' e1 e2 e3 => ?_⟩, fun y c' e => ?_, I.free, I.freeC, fun p hp => ?_, tracked ⟨oc, hoc, I.freeC x c hc⟩ hs, by simpa using I.len⟩ ⟨c, hs, .inr hc⟩
    · exact (hs.2 b (Nat.ne_of_lt (Nat.lt_of_lt_of_le (Heap.lt_size e) (I.ok.cab x c hfn hc)))).trans (I.base.keep b o e n hb hx)
    · obtain ⟨sl, e1⟩ := I.base.slot b o e n hb hx
      exact ⟨sl, (hs.2 b (Nat.ne_of_lt (Nat.lt_of_lt_of_le (Heap.lt_size e) (I.ok.cab x c hfn hc)))).trans e1⟩
    · obtain ⟨o', e1⟩ := I.base.there b o e hx
      exact ⟨o', (hs.2 b (Nat.ne_of_lt (Nat.lt_of_lt_of_le (Heap.lt_size e) (I.ok.cab x c hfn hc)))).trans e1⟩
    · by_cases hj : j = i
      · subst hj
        rw [hi] at e1; cases e1
        rw [List.getElem?_set_self hiσ] at e2
        cases e2
        exact ⟨u, r, .inr ⟨.inl hk, c, hc, hc'⟩⟩
      · rw [List.getElem?_set_ne (Ne.symm hj)] at e2
        obtain ⟨u', r', q⟩ := hl j y v' e1 e2 e3
        refine ⟨u', r', ?_⟩
        rcases q with q | ⟨k, c', e, z'⟩
        · exact .inl q
        · refine .inr ⟨k, c', e, z'.sameBut hs ?_⟩
          rintro rfl
          exact hj (nodup_ix hN e1 (I.ok.inj _ _ _ e hc ▸ hi))
    · by_cases hcc : c' = c
      · subst hcc; exact ⟨_, hc'⟩
      · obtain ⟨w2, z2⟩ := I.cell y c' e
        exact ⟨w2, z2.sameBut hs hcc⟩
    · obtain ⟨e, n, ne, nf, d⟩ := I.pin p hp
      refine ⟨(hs.2 p.1 ?_).trans e, n, ne, nf, d⟩
      intro q
      rw [q, hoc] at e
      have q' : oc = p.2 := Option.some.inj e
      exact d w' (by rw [← q']; exact hocd)
theorem store_ok {M : Model} {A : Around} {E : Value → Shared → Prop} {i : Nat} {x : Str} {v : V} {u : Value} {Q : Unit → Shared → Prop} (I : Inv X pins σ H s) (hN : X.N.Nodup) (hi : X.N[i]? = some x) (hx : Loc X.env.scope x) (r : RelV v u)
    (h : ∀ s', Inv X pins (σ.set i (some v)) H s' → Q () s') (hf : X.fn x = true ∨ X.env.scope.names.lookup x = some .local := by first | exact .inl rfl | exact .inr rfl | assumption) : wpAny M A (storeName X.env x u) Q E s :=
  store_ok2 I hN hi hx r (fun s' I' _ => h s' I') hf
/-- behind a call or a block, the state as it is -/
theorem Inv.call' {s' : Shared} {ch : List Addr} (I : Inv X pins σ H s) (ho : s'.os = s.os) (u : Un (frs X.stack) ch H H' s.heap s'.heap) (hok : HOk X.prog X.w H' s'.heap) (hg : AllBare s'.gens)
    (hch : ∀ b ∈ ch, (b ∈ X.ex ∨ X.s_0.heap.objs.size ≤ b) ∧ b ≠ X.env.locals ∧ (∀ x c, X.env.cells.lookup x = some c → c ≠ b) ∧ ∀ p ∈ X.pn ++ pins, p.1 ≠ b) : Inv X pins σ H' s' := by
  obtain ⟨h', g', d', t', o'⟩ := s'
  have e : o' = s.os := ho
  subst e
  exact I.call (g' := g') (t' := t') (d' := d') u hok hg hch
end

/-! ### the judgements -/
/-- an exception: its class, its own dict's address (where it has one), the abstract heap behind it -/
abbrev XK := Value → Option Addr → Hp → Prop
abbrev St := List (Option V)
abbrev VK := V → Hp → Prop
/-- an expression's reading; a test's; an argument list's -/
abbrev TE := St → Hp → VK → Prop
abbrev TT := St → Hp → (Bool → Hp → Prop) → Prop
abbrev TA := St → Hp → (List V → Hp → Prop) → Prop
/-- what is wanted behind a statement -/
structure Ends where
  nx : St → Hp → Prop
  rt : VK
  bk : St → Hp → Prop := fun _ _ => False
  ct : St → Hp → Prop := fun _ _ => False
abbrev TS := Ends → St → Hp → Prop

def EP (X : Cx) (pins : List (Addr × Obj)) (σ : St) (Q : VK) (u : Value) (s' : Shared) : Prop := ∃ v H', Inv X pins σ H' s' ∧ RelV v u ∧ Q v H'
def TP (X : Cx) (pins : List (Addr × Obj)) (σ : St) (Q : Bool → Hp → Prop) (b : Bool) (s' : Shared) : Prop := ∃ H', Inv X pins σ H' s' ∧ Q b H'
def AP (X : Cx) (pins : List (Addr × Obj)) (σ : St) (Q : List V → Hp → Prop) (us : List Value) (s' : Shared) : Prop := ∃ vs H', Inv X pins σ H' s' ∧ Vals vs us ∧ Q vs H'
def SP (X : Cx) (pins : List (Addr × Obj)) (D : Ends) (f : Flow) (s' : Shared) : Prop :=
  match f with
  | .next => ∃ σ' H', Inv X pins σ' H' s' ∧ D.nx σ' H'
  | .brk => ∃ σ' H', Inv X pins σ' H' s' ∧ D.bk σ' H'
  | .cont => ∃ σ' H', Inv X pins σ' H' s' ∧ D.ct σ' H'
  | .ret u => ∃ v σ' H', Inv X pins σ' H' s' ∧ RelV v u ∧ D.rt v H'

def PE (X : Cx) (e : Expr) (t : TE) : Prop :=
  ∀ (pins : List (Addr × Obj)) (s : Shared) (σ : St) (H : Hp) (Q : VK), Inv X pins σ H s → t σ H Q → wpAny (model X.prog X.w) X.A (eval e X.env) (EP X pins σ Q) X.xe s
def PT (X : Cx) (e : Expr) (t : TT) : Prop :=
  ∀ (pins : List (Addr × Obj)) (s : Shared) (σ : St) (H : Hp) (Q : Bool → Hp → Prop), Inv X pins σ H s → t σ H Q → wpAny (model X.prog X.w) X.A (isTrue e X.env (eval e X.env)) (TP X pins σ Q) X.xe s
/-- a test whatever its 'whole' is (and, or) -/
def PW (X : Cx) (e : Expr) (t : TT) : Prop :=
  ∀ (whole : Sem Value) (pins : List (Addr × Obj)) (s : Shared) (σ : St) (H : Hp) (Q : Bool → Hp → Prop), Inv X pins σ H s → t σ H Q → wpAny (model X.prog X.w) X.A (isTrue e X.env whole) (TP X pins σ Q) X.xe s
theorem PW.pt {X : Cx} {e : Expr} {t : TT} (h : PW X e t) : PT X e t := h _
/-- an argument list (no star), from the left -/
def PA (X : Cx) (es : List Expr) (t : TA) : Prop :=
  ∀ (pos : Pos) (pins : List (Addr × Obj)) (s : Shared) (σ : St) (H : Hp) (Q : List V → Hp → Prop), Inv X pins σ H s → t σ H Q → wpAny (model X.prog X.w) X.A (spliced (backTo pos (starEach es X.env))) (AP X pins σ Q) X.xe s
def PS (X : Cx) (st : Stmt) (t : TS) : Prop :=
  ∀ (pins : List (Addr × Obj)) (s : Shared) (σ : St) (H : Hp) (D : Ends), Inv X pins σ H s → t D σ H → wpAny (model X.prog X.w) X.A (exec st X.env) (SP X pins D) X.xe s
def PSs (X : Cx) (st : List Stmt) (t : TS) : Prop :=
  ∀ (pins : List (Addr × Obj)) (s : Shared) (σ : St) (H : Hp) (D : Ends), Inv X pins σ H s → t D σ H → wpAny (model X.prog X.w) X.A (execs st X.env) (SP X pins D) X.xe s
/-- weaken the end -/
theorem thn {α : Type} {t : Sem α} {Q Q' : α → Shared → Prop} {M : Model} {A : Around} {E : Value → Shared → Prop} {s : Shared} (h : wpAny M A t Q E s) (hQ : ∀ a s, Q a s → Q' a s) : wpAny M A t Q' E s := wpAny_mono h hQ fun _ _ x => x
end L2

namespace L2
open PySem PySem.Spec PyProof.Rows
section
variable {X : Cx}

/-- two expressions in a row -/
theorem bin {a b : Expr} {ta tb : TE} (ha : PE X a ta) (hb : PE X b tb) {pins : List (Addr × Obj)} {s : Shared} {σ : St} {H : Hp} {R : V → V → Hp → Prop} (I : Inv X pins σ H s) (h : ta σ H fun x H1 => tb σ H1 fun y H2 => R x y H2)
    {α : Type} {Q : α → Shared → Prop} {f : Value → Value → Sem α}
    (hf : ∀ v u s2 x y H2, Inv X pins σ H2 s2 → RelV x v → RelV y u → R x y H2 → wpAny (model X.prog X.w) X.A (f v u) Q X.xe s2) :
    wpAny (model X.prog X.w) X.A (eval a X.env) (fun v s₁ => wpAny (model X.prog X.w) X.A (eval b X.env) (fun u s₂ => wpAny (model X.prog X.w) X.A (f v u) Q X.xe s₂) X.xe s₁) X.xe s := by
  refine thn (ha pins s σ H _ I h) fun v s1 ⟨x, H1, I1, r1, q1⟩ => ?_
  refine thn (hb pins s1 σ H1 _ I1 q1) fun u s2 ⟨y, H2, I2, r2, q2⟩ => ?_
  exact hf v u s2 x y H2 I2 r1 r2 q2

/-! ### names and constants -/
def tVar (i : Nat) : TE := fun σ H Q => ∃ v, σ[i]? = some (some v) ∧ Q v H
def tC (v : V) : TE := fun _ H Q => Q v H
theorem pe_var {i : Nat} {x : Str} {pos : Pos} (hN : X.N[i]? = some x) (hv : Vis X.env.scope x) (hd : (x == ("__debug__" : Str)) = false := by decide) (hcd : (x == ("__classdict__" : Str)) = false := by decide) : PE X (.Name x pos) (tVar i) := by
  intro pins s σ H Q I h
  obtain ⟨v, e, h⟩ := h
  obtain ⟨m, hn, hl⟩ := I.loc
  obtain ⟨u, r, l⟩ := hl i x v hN e hv
  have fin : EP X pins σ Q u s := ⟨v, H, I, r, h⟩
  rcases l with ⟨hk, hm⟩ | ⟨hk, c, hc, hcell⟩
  · exact wpAny_Name (wpAny_loadName_local I.ok.kind hk hn hm fin) hd
  · rcases hk with hk | hk
    · exact wpAny_Name (wpAny_loadName_cell I.ok.kind hk hc hcell fin) hd
    · exact wpAny_Name (wpAny_loadName_free I.ok.kind hk hc hcell fin hcd) hd
theorem pe_int {i j pos} : PE X (.Constant (.int i) j pos) (tC (.int i)) := fun _ _ _ H _ I h => wpAny_Constant_int ⟨.int i, H, I.tok _, ⟨_, rfl⟩, h⟩
theorem pe_bl {b j pos} : PE X (.Constant (.bool b) j pos) (tC (.bl b)) := fun _ _ _ H _ I h => Constant_bool ⟨.bl b, H, I, rfl, h⟩

/-- a global name of the def -/
def Gl (X : Cx) (x : Str) : Prop := X.env.kindOf x = some .globalImplicit
theorem ld_glob {E : Value → Shared → Prop} {pins : List (Addr × Obj)} {s : Shared} {σ : St} {H : Hp} {x : Str} {u : Value} {pos : Pos} {Q : Value → Shared → Prop} (I : Inv X pins σ H s) (hg : Gl X x) (hm : X.mg x = some u) (h : Q u s)
    (hd : (x == ("__debug__" : Str)) = false := by decide) : wpAny (model X.prog X.w) X.A (eval (.Name x pos) X.env) Q E s :=
  Calls.Name_function_global I.ok.kind hg (Calls.loadGlobal_global (by rw [I.ok.glob]; exact I.mod.glob.keeps I.bk) hm h) hd
theorem ld_blt {E : Value → Shared → Prop} {pins : List (Addr × Obj)} {s : Shared} {σ : St} {H : Hp} {x : Str} {u : Value} {pos : Pos} {Q : Value → Shared → Prop} (I : Inv X pins σ H s) (hg : Gl X x) (hm : X.mg x = none) (hv : bootBuiltins x = some u) (h : Q u s)
    (hn : x ≠ "__name__" := by decide) (hd : (x == ("__debug__" : Str)) = false := by decide) : wpAny (model X.prog X.w) X.A (eval (.Name x pos) X.env) Q E s := by
  obtain ⟨mb, h1, h2⟩ := I.mod.blt
  exact Calls.Name_function_global I.ok.kind hg (Calls.loadGlobal_builtin (by rw [I.ok.glob]; exact I.mod.glob.keeps I.bk) hm (by rw [I.ok.blt]; exact h1.keeps I.bk) ((h2 x hn).trans hv) h) hd
/-- a module's constant, a class, a function, as a value -/
theorem pe_glob {x : Str} {v : V} {u : Value} {pos : Pos} (hg : Gl X x) (hm : X.mg x = some u) (r : RelV v u) (hd : (x == ("__debug__" : Str)) = false := by decide) : PE X (.Name x pos) (tC v) :=
  fun _ _ _ H _ I h => ld_glob I hg hm ⟨v, H, I, r, h⟩ hd

/-! ### arithmetic -/
variable {a b : Expr} {ta tb : TE} {pos : Pos}

/-! ### comparisons -/
def PC (X : Cx) (op : CmpOp) (a b : Expr) (t : TE) : Prop :=
  ∀ (pins : List (Addr × Obj)) (s : Shared) (σ : St) (H : Hp) (Q : VK), Inv X pins σ H s → t σ H Q →
    wpAny (model X.prog X.w) X.A (eval a X.env) (fun v s₁ => wpAny (model X.prog X.w) X.A (eval b X.env) (fun u s₂ => wpAny (model X.prog X.w) X.A (compareOp op v u) (EP X pins σ Q) X.xe s₂) X.xe s₁) X.xe s
/-- a comparison as a value, as a test -/
def tB (t : TE) : TT := fun σ H Q => t σ H fun x H1 => ∃ c, x = .bl c ∧ Q c H1
theorem pt_cmp {op : CmpOp} {t : TE} (h : PC X op a b t) (h1 : behindInMarks op b = false := by first | exact nobehind _ (by decide) (by decide) | rfl) : PT X (.Compare a [op] [b] pos) (tB t) := by
  intro pins s σ H Q I hw
  refine wpAny_isTrue_Compare1 (thn (h pins s σ H _ I hw) fun v s1 h1 => thn h1 fun u s2 h2 => thn h2 fun c s3 ⟨x, H1, I1, r1, q1⟩ => ?_) h1
  obtain ⟨d, rfl, q⟩ := q1
  cases r1
  exact wpAny_truthy_bool ⟨H1, I1, q⟩
/-- an expression whose value is a bool, as a test -/
theorem pt_val {e : Expr} {t : TE} (h : PE X e t) (he : ∀ whole, isTrue e X.env whole = (do let v ← whole; standAt e.pos; holding [v] (truthy v)) := by intro _; rfl) : PT X e (tB t) := by
  intro pins s σ H Q I hw
  refine isTrue_plain (thn (h pins s σ H _ I hw) fun v s1 ⟨x, H1, I1, r1, q1⟩ => ?_) (he _)
  obtain ⟨d, rfl, q⟩ := q1
  cases r1
  exact wpAny_truthy_bool ⟨H1, I1, q⟩

/-! ### and, or, not -/
variable {tA tB' : TT} {rest : List Expr}
def tAnd (t u : TT) : TT := fun σ H Q => t σ H fun c H1 => if c = true then u σ H1 Q else Q false H1
def tOr (t u : TT) : TT := fun σ H Q => t σ H fun c H1 => if c = true then Q true H1 else u σ H1 Q
def tNot (t : TT) : TT := fun σ H Q => t σ H fun c H1 => Q (!c) H1
theorem pw_and1 (ha : PT X a tA) : PW X (.BoolOp .And [a] pos) tA := by
  intro wh pins s σ H Q I h
  refine isTrue_and (thn (ha pins s σ H Q I h) fun c s1 e => ?_)
  cases c with
  | true => exact isTrue_and_nil e
  | false => exact e
theorem pw_or1 (ha : PT X a tA) : PW X (.BoolOp .Or [a] pos) tA := by
  intro wh pins s σ H Q I h
  refine isTrue_or (thn (ha pins s σ H Q I h) fun c s1 e => ?_)
  cases c with
  | false => exact isTrue_or_nil e
  | true => exact e
theorem pw_and (ha : PT X a tA) (hb : PW X (.BoolOp .And (b :: rest) pos) tB') : PW X (.BoolOp .And (a :: b :: rest) pos) (tAnd tA tB') := by
  intro wh pins s σ H Q I h
  refine isTrue_and (thn (ha pins s σ H _ I h) fun c s1 ⟨H1, I1, q1⟩ => ?_)
  cases c with
  | true => exact hb wh pins s1 σ H1 Q I1 q1
  | false => exact ⟨H1, I1, q1⟩
theorem pw_or (ha : PT X a tA) (hb : PW X (.BoolOp .Or (b :: rest) pos) tB') : PW X (.BoolOp .Or (a :: b :: rest) pos) (tOr tA tB') := by
  intro wh pins s σ H Q I h
  refine isTrue_or (thn (ha pins s σ H _ I h) fun c s1 ⟨H1, I1, q1⟩ => ?_)
  cases c with
  | true => exact ⟨H1, I1, q1⟩
  | false => exact hb wh pins s1 σ H1 Q I1 q1
theorem pt_not (ha : PT X a tA) : PT X (.UnaryOp .Not a pos) (tNot tA) := by
  intro pins s σ H Q I h
  exact isTrue_not (ha pins s σ H (fun c H1 => Q (!c) H1) I h)
/-- .. as values (bools) -/
def tAndV (ta tb : TE) : TE := fun σ H Q => ta σ H fun x H1 => ∃ c, x = .bl c ∧ if c = true then tb σ H1 Q else Q (.bl false) H1
def tOrV (ta tb : TE) : TE := fun σ H Q => ta σ H fun x H1 => ∃ c, x = .bl c ∧ if c = true then Q (.bl true) H1 else tb σ H1 Q
theorem pe_one {op} {t : TE} (h : PE X a t) : PE X (.BoolOp op [a] pos) t := fun pins s σ H Q I hw => BoolOp_one (h pins s σ H Q I hw)
theorem pe_and (ha : PE X a ta) (hb : PE X (.BoolOp .And (b :: rest) pos) tb) : PE X (.BoolOp .And (a :: b :: rest) pos) (tAndV ta tb) := by
  intro pins s σ H Q I h
  refine BoolOp_and (thn (ha pins s σ H _ I h) fun v s1 ⟨x, H1, I1, r1, q1⟩ => ?_)
  obtain ⟨c, rfl, q1⟩ := q1
  cases r1
  refine wpAny_truthy_bool ?_
  cases c with
  | true => exact hb pins s1 σ H1 Q I1 q1
  | false => exact ⟨.bl false, H1, I1, rfl, q1⟩
theorem pe_or (ha : PE X a ta) (hb : PE X (.BoolOp .Or (b :: rest) pos) tb) : PE X (.BoolOp .Or (a :: b :: rest) pos) (tOrV ta tb) := by
  intro pins s σ H Q I h
  refine BoolOp_or (thn (ha pins s σ H _ I h) fun v s1 ⟨x, H1, I1, r1, q1⟩ => ?_)
  obtain ⟨c, rfl, q1⟩ := q1
  cases r1
  refine wpAny_truthy_bool ?_
  cases c with
  | false => exact hb pins s1 σ H1 Q I1 q1
  | true => exact ⟨.bl true, H1, I1, rfl, q1⟩
end
end L2

namespace L2
open PySem PySem.Spec PyProof.Rows

/-! ### a list, a tuple that is read: tracked, frozen, or an object of the module -/
def SqL (K : PySem.W.Frag) (H : Hp) (a : Addr) (xs : List V) : Prop :=
  Rd H a (.lst xs) ∨
    ∃ (o : Obj) (its : Array Value) (n : Nat), K.lookup a = some o ∧ o.cls = .type "list" ∧ o.dict = none ∧ o.data = .seq its n ∧ its.size ≤ sizeLine ∧ Vals xs its.toList
def SqT (K : PySem.W.Frag) (H : Hp) (a : Addr) (xs : List V) : Prop :=
  Rd H a (.tup xs) ∨
    ∃ (o : Obj) (its : Array Value) (n : Nat), K.lookup a = some o ∧ o.cls = .type "tuple" ∧ o.data = .seq its n ∧ its.size ≤ sizeLine ∧ Vals xs its.toList
def absV : Value → Option V
  | .none => some .non
  | .bool b => some (.bl b)
  | .int i _ => some (.int i)
  | .str x _ => some (.str x)
  | .bytes b _ => some (.byt b)
  | .float b _ => some (.flt b)
  | .ref a => some (.ref a)
  | .type n => some (.ty n)
  | _ => none
theorem RelV.abs {x : V} {u : Value} (r : RelV x u) : absV u = some x := by
  cases x with
  | non => cases r; rfl
  | bl _ => cases r; rfl
  | int _ => obtain ⟨t, rfl⟩ := r; rfl
  | str _ => obtain ⟨t, rfl⟩ := r; rfl
  | byt _ => obtain ⟨t, rfl⟩ := r; rfl
  | flt _ => obtain ⟨t, rfl⟩ := r; rfl
  | ref _ => cases r; rfl
  | ty _ => cases r; rfl
theorem RelV.inj {x y : V} {u : Value} (r : RelV x u) (q : RelV y u) : x = y := Option.some.inj (r.abs.symm.trans q.abs)
theorem Vals.inj : ∀ {xs ys : List V} {us : List Value}, Vals xs us → Vals ys us → xs = ys
  | _, _, _, .nil, .nil => rfl
  | _, _, _, .cons r t, .cons r' t' => by rw [r.inj r', Vals.inj t t']
section
variable {X : Cx} {pins : List (Addr × Obj)} {σ : St} {H : Hp} {s : Shared} {a : Addr} {xs ys : List V}
theorem SqL.of {K : PySem.W.Frag} (h : H a = some (.lst xs)) : SqL K H a xs := .inl (.inl h)
theorem SqT.of {K : PySem.W.Frag} (h : H a = some (.tup xs)) : SqT K H a xs := .inl (.inl h)
theorem Inv.list (I : Inv X pins σ H s) (h : SqL X.K H a xs) : ∃ its : List Value, Vals xs its ∧ PlainL s.heap a its.toArray ∧ xs.length ≤ sizeLine := by
  rcases h with h | ⟨o, its, n, hk, hc, hd, hs, hz, r⟩
  · obtain ⟨z, its, n, r, e⟩ := h.ok I.hok
    exact ⟨its, r, ⟨_, n, e, rfl, rfl, rfl⟩, z⟩
  · refine ⟨its.toList, r, ⟨o, n, I.kIn a o hk, hc, hd, by simpa using hs⟩, ?_⟩
    have e := r.length
    simp only [Array.length_toList] at e
    omega
theorem Inv.tuple (I : Inv X pins σ H s) (h : SqT X.K H a xs) : ∃ its : List Value, Vals xs its ∧ IsTup s.heap a its.toArray ∧ xs.length ≤ sizeLine := by
  rcases h with h | ⟨o, its, n, hk, hc, hs, hz, r⟩
  · obtain ⟨z, its, r, p⟩ := h.ok I.hok
    exact ⟨its, r, p, z⟩
  · refine ⟨its.toList, r, ⟨o, I.kIn a o hk, hc, n, by simpa using hs⟩, ?_⟩
    have e := r.length
    simp only [Array.length_toList] at e
    omega
theorem Inv.list_inj (I : Inv X pins σ H s) (h : SqL X.K H a xs) (h' : SqL X.K H a ys) : xs = ys := by
  obtain ⟨its, r, ⟨o, n, e, _, _, d⟩, _⟩ := I.list h
  obtain ⟨its', r', ⟨o', n', e', _, _, d'⟩, _⟩ := I.list h'
  rw [e] at e'; cases e'
  rw [d] at d'
  injection d' with d1 _
  have : its = its' := by simpa using congrArg Array.toList d1
  subst this
  exact r.inj r'
theorem Inv.tuple_inj (I : Inv X pins σ H s) (h : SqT X.K H a xs) (h' : SqT X.K H a ys) : xs = ys := by
  obtain ⟨its, r, ⟨o, e, _, n, d⟩, _⟩ := I.tuple h
  obtain ⟨its', r', ⟨o', e', _, n', d'⟩, _⟩ := I.tuple h'
  rw [e] at e'; cases e'
  rw [d] at d'
  injection d' with d1 _
  have : its = its' := by simpa using congrArg Array.toList d1
  subst this
  exact r.inj r'
end

/-! ### another wish about exceptions -/
abbrev Cx.wish (X : Cx) (E : Value → Shared → Prop) : Cx := { X with xe := E }
/-- no exception leaves -/
abbrev Cx.nox (X : Cx) : Cx := X.wish fun _ _ => False
theorem Cx.Ok.wish {X : Cx} (ok : X.Ok) (E : Value → Shared → Prop) : (X.wish E).Ok :=
  ⟨ok.mod, ok.kind, ok.glob, ok.blt, ok.above, ok.inj, ok.has, ok.cab, ok.hd, ok.frames, ok.stk, ok.exf, ok.bs, ok.bsz, ok.noex, ok.exfs, ok.funs, ok.frf⟩
theorem Cx.Ok.unwish {X : Cx} {E : Value → Shared → Prop} (ok : (X.wish E).Ok) : X.Ok :=
  ⟨ok.mod, ok.kind, ok.glob, ok.blt, ok.above, ok.inj, ok.has, ok.cab, ok.hd, ok.frames, ok.stk, ok.exf, ok.bs, ok.bsz, ok.noex, ok.exfs, ok.funs, ok.frf⟩
section
variable {X : Cx} {pins : List (Addr × Obj)} {σ : St} {H : Hp} {s : Shared} {E : Value → Shared → Prop}
theorem Inv.wish (I : Inv X pins σ H s) (E : Value → Shared → Prop) : Inv (X.wish E) pins σ H s := ⟨I.ok.wish E, I.os, I.bare, I.base, I.loc, I.cell, I.free, I.freeC, I.pin, I.hok, I.len⟩
theorem Inv.unwish (I : Inv (X.wish E) pins σ H s) : Inv X pins σ H s := ⟨I.ok.unwish, I.os, I.bare, I.base, I.loc, I.cell, I.free, I.freeC, I.pin, I.hok, I.len⟩
theorem SP.unwish {D : Ends} {f : Flow} {s' : Shared} (h : SP (X.wish E) pins D f s') : SP X pins D f s' := by
  cases f with
  | next => obtain ⟨σ', H', I, q⟩ := h; exact ⟨σ', H', I.unwish, q⟩
  | brk => obtain ⟨σ', H', I, q⟩ := h; exact ⟨σ', H', I.unwish, q⟩
  | cont => obtain ⟨σ', H', I, q⟩ := h; exact ⟨σ', H', I.unwish, q⟩
  | ret u => obtain ⟨v, σ', H', I, r, q⟩ := h; exact ⟨v, σ', H', I.unwish, r, q⟩
theorem PSs.nox {st : List Stmt} {t : TS} (h : PSs X.nox st t) : PSs X st t := fun pins s σ H D I hw =>
  wpAny_mono (h pins s σ H D (I.wish _) hw) (fun _ _ q => q.unwish) fun _ _ z => False.elim z
end

/-! ### blocks and small statements -/
section
variable {X : Cx} {st : Stmt} {rest : List Stmt} {t u : TS} {e : Expr} {te : TE} {pos : Pos}
def tNext : TS := fun D σ H => D.nx σ H
def tSeq (t u : TS) : TS := fun D σ H => t { D with nx := u D } σ H
theorem pss_nil : PSs X [] tNext := fun _ _ σ H _ I h => wpAny_execs_nil ⟨σ, H, I, h⟩
theorem pss_cons (h1 : PS X st t) (h2 : PSs X rest u) : PSs X (st :: rest) (tSeq t u) := by
  intro pins s σ H D I h
  refine wpAny_execs_cons (thn (h1 pins s σ H { D with nx := u D } I h) fun f s1 q => ?_)
  cases f with
  | next =>
    obtain ⟨σ', H', I', q⟩ := q
    exact h2 pins s1 σ' H' D I' q
  | ret v => exact q
  | brk => exact q
  | cont => exact q
theorem pss_one (h1 : PS X st t) : PSs X [st] t := by
  intro pins s σ H D I h
  refine wpAny_execs_cons (thn (h1 pins s σ H D I h) fun f s1 q => ?_)
  cases f with
  | next => exact wpAny_execs_nil q
  | ret v => exact q
  | brk => exact q
  | cont => exact q
/-- in a def's body nothing is shown -/
theorem Inv.quiet {pins : List (Addr × Obj)} {σ : St} {H : Hp} {s : Shared} (I : Inv X pins σ H s) : interactive X.env = false := by simp [interactive, I.ok.kind]
/-- an expression whose value is dropped -/
def tDrop (te : TE) : TS := fun D σ H => te σ H fun _ H1 => D.nx σ H1
theorem ps_expr (he : PE X e te) (hs : swapsWith e none pos.line X.env = pure false := by rfl) : PS X (.Expr e pos) (tDrop te) := by
  intro pins s σ H D I h
  exact wpAny_Expr_any (thn (he pins s σ H _ I h) fun v s1 ⟨x, H1, I1, r1, q1⟩ => ⟨σ, H1, I1, q1⟩) I.quiet hs
def tRet (te : TE) : TS := fun D σ H => te σ H D.rt
theorem ps_ret (he : PE X e te) : PS X (.Return (some e) pos) (tRet te) := by
  intro pins s σ H D I h
  exact wpAny_Return_some (thn (he pins s σ H _ I h) fun v s1 ⟨x, H1, I1, r1, q1⟩ => ⟨x, σ, H1, I1, r1, q1⟩)
def tRetN : TS := fun D _ H => D.rt .non H
theorem ps_retN : PS X (.Return none pos) tRetN := fun _ _ σ H _ I h => wpAny_Return_none ⟨.non, σ, H, I, rfl, h⟩
def tIfS (c : TT) (t u : TS) : TS := fun D σ H => c σ H fun b H1 => if b = true then t D σ H1 else u D σ H1
theorem ps_if {c : Expr} {a b : List Stmt} {tc : TT} (hc : PT X c tc) (ha : PSs X a t) (hb : PSs X b u) : PS X (.If c a b pos) (tIfS tc t u) := by
  intro pins s σ H D I h
  refine wpAny_If (thn (hc pins s σ H _ I h) fun d s1 ⟨H1, I1, q1⟩ => ?_)
  cases d with
  | true => exact ha pins s1 σ H1 D I1 q1
  | false => exact hb pins s1 σ H1 D I1 q1
end

/-! ### targets -/
abbrev TG := V → St → Hp → (St → Hp → Prop) → Prop
abbrev TGs := List V → St → Hp → (St → Hp → Prop) → Prop
def PG (X : Cx) (target : Expr) (t : TG) : Prop :=
  ∀ (pins : List (Addr × Obj)) (s : Shared) (σ : St) (H : Hp) (v : V) (u : Value) (Q : St → Hp → Prop), Inv X pins σ H s → RelV v u → t v σ H Q →
    wpAny (model X.prog X.w) X.A (assign target X.env u) (fun _ s' => ∃ σ' H', Inv X pins σ' H' s' ∧ Q σ' H') X.xe s
/-- several targets, one after another -/
def PGs (X : Cx) (ts : List Expr) (t : TGs) : Prop :=
  ∀ (pins : List (Addr × Obj)) (s : Shared) (σ : St) (H : Hp) (vs : List V) (us : List Value) (Q : St → Hp → Prop), Inv X pins σ H s → Vals vs us → t vs σ H Q →
    wpAny (model X.prog X.w) X.A (assignInOrder ((assignEach ts X.env).map (·.2)) us) (fun _ s' => ∃ σ' H', Inv X pins σ' H' s' ∧ Q σ' H') X.xe s
/-- o[i] = v, by values -/
abbrev TSet := V → V → V → Hp → (Hp → Prop) → Prop
def PSet (X : Cx) (t : TSet) : Prop :=
  ∀ (pins : List (Addr × Obj)) (s : Shared) (σ : St) (H : Hp) (o i v : V) (ov iv u : Value) (Q : Hp → Prop), Inv X pins σ H s → RelV o ov → RelV i iv → RelV v u → t o i v H Q →
    wpAny (model X.prog X.w) X.A (setItem ov iv u) (fun _ s' => ∃ H', Inv X pins σ H' s' ∧ Q H') X.xe s
/-- a op= b, by values -/
abbrev TIp := V → V → Hp → VK → Prop
def PIp (X : Cx) (op : Operator) (t : TIp) : Prop :=
  ∀ (pins : List (Addr × Obj)) (s : Shared) (σ : St) (H : Hp) (x y : V) (v u : Value) (Q : VK), Inv X pins σ H s → RelV x v → RelV y u → t x y H Q →
    wpAny (model X.prog X.w) X.A (inplaceOp op v u) (EP X pins σ Q) X.xe s
section
variable {X : Cx} {pos : Pos}
def gName (i : Nat) : TG := fun v σ H Q => Q (σ.set i (some v)) H
theorem pg_name {i : Nat} {x : Str} (hN : X.N.Nodup) (hi : X.N[i]? = some x) (hx : Loc X.env.scope x) (hf : X.fn x = true ∨ X.env.scope.names.lookup x = some .local := by first | exact .inl rfl | exact .inr rfl | assumption) : PG X (.Name x pos) (gName i) := by
  intro pins s σ H v u Q I r h
  exact wpAny_assign_Name (store_ok I hN hi hx r (fun s' I' => ⟨_, H, I', h⟩) hf)
def gNil : TGs := fun vs σ H Q => vs = [] ∧ Q σ H
def gCons (t : TG) (u : TGs) : TGs := fun vs σ H Q => ∃ v r, vs = v :: r ∧ t v σ H fun σ' H' => u r σ' H' Q
theorem pgs_nil : PGs X [] gNil := by
  intro pins s σ H vs us Q I r h
  obtain ⟨e, h⟩ := h
  subst e
  cases r
  exact assignInOrder_nil ⟨σ, H, I, h⟩
theorem pgs_cons {e : Expr} {es : List Expr} {t : TG} {u : TGs} (h1 : PG X e t) (h2 : PGs X es u)
    (hs : (assignEach (e :: es) X.env).map (·.2) = assign e X.env :: (assignEach es X.env).map (·.2) := by rfl) : PGs X (e :: es) (gCons t u) := by
  intro pins s σ H vs us Q I r h
  obtain ⟨v, vr, e1, h⟩ := h
  subst e1
  cases r with
  | cons r rr =>
    rw [hs]
    refine assignInOrder_cons (thn (h1 pins s σ H _ _ _ I r h) fun _ s1 ⟨σ1, H1, I1, q1⟩ => ?_)
    exact h2 pins s1 σ1 H1 _ _ Q I1 rr q1
/-- (a, b, ..) = a tuple of that length -/
def gTup (K : PySem.W.Frag) (n : Nat) (t : TGs) : TG := fun v σ H Q => ∃ a xs, v = .ref a ∧ SqT K H a xs ∧ xs.length = n ∧ t xs σ H Q
theorem pg_tup {es : List Expr} {k : Nat} {t : TGs} {n : Nat} (hc : X.calm = true) (h : PGs X es t)
    (hn : (assignEach es X.env).length = n := by rfl) (hst : (assignEach es X.env).findIdx? (·.1) = none := by rfl) : PG X (.Tuple es k pos) (gTup X.K n t) := by
  intro pins s σ H v u Q I r hw
  obtain ⟨a, xs, e1, hq, hl, hw⟩ := hw
  subst e1
  cases r
  obtain ⟨its, rv, ht, hz⟩ := I.tuple hq
  refine assign_Tuple_tuple (I.ok.hd hc) ht (by simp [hn, ← hl, rv.length]) hst fun h' hx => ?_
  have I1 : Inv X pins σ H { s with heap := h' } := I.kept (t' := s.toks) fun b o e => hx b o (Nat.ne_of_lt (Heap.lt_size e)) e
  exact h pins _ σ H xs _ Q I1 (by simpa using rv) hw
/-- target = value -/
def tAsg (te : TE) (g : TG) : TS := fun D σ H => te σ H fun x H1 => g x σ H1 D.nx
/-- name = value -/
theorem ps_set {i : Nat} {x : Str} {e : Expr} {te : TE} {pos' : Pos} (hN : X.N.Nodup) (hi : X.N[i]? = some x) (hx : Loc X.env.scope x) (he : PE X e te) (hs : swapsWith e (some (.Name x pos')) pos.line X.env = pure false := by rfl) (hf : X.fn x = true ∨ X.env.scope.names.lookup x = some .local := by first | exact .inl rfl | exact .inr rfl | assumption) :
    PS X (.Assign [.Name x pos'] e pos) (tAsg te (gName i)) := by
  intro pins s σ H D I h
  refine wpAny_Assign_Name (thn (he pins s σ H _ I h) fun v s1 ⟨y, H1, I1, r1, q1⟩ => ?_) hs
  exact store_ok I1 hN hi hx r1 (fun s2 I2 => ⟨_, H1, I2, q1⟩) hf
/-- name op= e -/
def tAug (i : Nat) (te : TE) (ti : TIp) : TS := fun D σ H => ∃ x, σ[i]? = some (some x) ∧ te σ H fun y H1 => ti x y H1 fun z H2 => D.nx (σ.set i (some z)) H2
theorem ps_aug {i : Nat} {x : Str} {e : Expr} {te : TE} {op : Operator} {ti : TIp} {pos' : Pos} (hN : X.N.Nodup) (hi : X.N[i]? = some x) (hx : Loc X.env.scope x) (he : PE X e te) (ho : PIp X op ti) (hf : X.fn x = true ∨ X.env.scope.names.lookup x = some .local := by first | exact .inl rfl | exact .inr rfl | assumption) :
    PS X (.AugAssign (.Name x pos') op e pos) (tAug i te ti) := by
  intro pins s σ H D I h
  obtain ⟨v, e1, h⟩ := h
  obtain ⟨m, hn, hl⟩ := I.loc
  have vis : Vis X.env.scope x := by rcases hx with k | k; exact .inl k; exact .inr (.inl k)
  obtain ⟨u, r, l⟩ := hl i x v hi e1 vis
  refine wpAny_AugAssign_Name ?_
  have go : wpAny (model X.prog X.w) X.A (eval e X.env) (fun w s₂ => wpAny (model X.prog X.w) X.A (inplaceOp op u w) (fun r s₃ => wpAny (model X.prog X.w) X.A (storeName X.env x r) (fun _ => SP X pins D .next) X.xe s₃) X.xe s₂) X.xe s := by
    refine thn (he pins s σ H _ I h) fun w s1 ⟨y, H1, I1, r1, q1⟩ => ?_
    refine thn (ho pins s1 σ H1 v y u w _ I1 r r1 q1) fun z s2 ⟨zv, H2, I2, r2, q2⟩ => ?_
    exact store_ok I2 hN hi hx r2 (fun s3 I3 => ⟨_, H2, I3, q2⟩) hf
  rcases l with ⟨hk, hm⟩ | ⟨hk, c, hc, hcell⟩
  · exact wpAny_loadName_local I.ok.kind hk hn hm go
  · rcases hk with hk | hk
    · exact wpAny_loadName_cell I.ok.kind hk hc hcell go
    · rcases hx with k | k
      · have : X.env.scope.names.lookup x = some .free := hk
        rw [k] at this; cases this
      · have : X.env.scope.names.lookup x = some .free := hk
        rw [k] at this; cases this
/-- o[i] op= e -/
def tAugS (to ti te : TE) (tget : V → V → Hp → VK → Prop) (tip : TIp) (tset : TSet) : TS := fun D σ H => to σ H fun o H1 => ti σ H1 fun i H2 => tget o i H2 fun x H3 => te σ H3 fun y H4 => tip x y H4 fun z H5 => tset o i z H5 fun H6 => D.nx σ H6
/-- o[i], by values -/
def PGet (X : Cx) (t : V → V → Hp → VK → Prop) : Prop :=
  ∀ (pins : List (Addr × Obj)) (s : Shared) (σ : St) (H : Hp) (o i : V) (ov iv : Value) (Q : VK), Inv X pins σ H s → RelV o ov → RelV i iv → t o i H Q →
    wpAny (model X.prog X.w) X.A (getItem ov iv) (EP X pins σ Q) X.xe s
theorem ps_augS {o i e : Expr} {to ti te : TE} {tget : V → V → Hp → VK → Prop} {tip : TIp} {tset : TSet} {op : Operator} {tpos : Pos} (ho : PE X o to) (hi : PE X i ti) (hg : PGet X tget) (he : PE X e te) (hp : PIp X op tip) (hs : PSet X tset)
    (ha : ∀ ov iv new, augStore i ov iv new = (do holding [new, ov, iv] (setItem ov iv new); release [new, ov, iv] []; pure .next) := by intros; rfl) : PS X (.AugAssign (.Subscript o i tpos) op e pos) (tAugS to ti te tget tip tset) := by
  intro pins s σ H D I h
  refine wpAny_AugAssign_SubscriptAny (thn (ho pins s σ H _ I h) fun ov s1 ⟨x1, H1, I1, r1, q1⟩ => ?_) ha
  refine thn (hi pins s1 σ H1 _ I1 q1) fun iv s2 ⟨x2, H2, I2, r2, q2⟩ => ?_
  refine thn (hg pins s2 σ H2 x1 x2 ov iv _ I2 r1 r2 q2) fun old s3 ⟨x3, H3, I3, r3, q3⟩ => ?_
  refine thn (he pins s3 σ H3 _ I3 q3) fun v s4 ⟨x4, H4, I4, r4, q4⟩ => ?_
  refine thn (hp pins s4 σ H4 x3 x4 old v _ I4 r3 r4 q4) fun new s5 ⟨x5, H5, I5, r5, q5⟩ => ?_
  exact thn (hs pins s5 σ H5 x1 x2 x5 ov iv new _ I5 r1 r2 r5 q5) fun _ s6 ⟨H6, I6, q6⟩ => ⟨σ, H6, I6, q6⟩
/-- ints -/
def ipI (f : Int → Int → Int) : TIp := fun x y H Q => ∃ i j, x = .int i ∧ y = .int j ∧ Q (.int (f i j)) H
theorem ip_add : PIp X .Add (ipI fun i j => i + j) := by
  intro pins s σ H x y v u Q I r1 r2 h
  obtain ⟨i, j, e1, e2, q⟩ := h
  subst e1; subst e2
  obtain ⟨t, rfl⟩ := r1
  obtain ⟨t', rfl⟩ := r2
  exact iadd_int ⟨.int _, H, I.tok _, ⟨_, rfl⟩, q⟩
end

/-! ### while -/
section
variable {X : Cx} {pos : Pos}
/-- the invariant W with its measure -/
def tWhile (c : TT) (tb : TS) : TS := fun D σ H => ∃ W : Nat → St → Hp → Prop, (∃ m, W m σ H) ∧ ∀ m σ H, W m σ H →
  c σ H fun b H1 => if b = true then ∃ N : St → Hp → Prop, (∀ σ' H', N σ' H' → ∃ m', m' < m ∧ W m' σ' H') ∧ tb { D with nx := N, ct := N, bk := D.nx } σ H1 else D.nx σ H1
theorem ps_while {c : Expr} {body : List Stmt} {tc : TT} {tb : TS} (hp : PassesOwn (model X.prog X.w) X.A X.env X.xe) (hc : PT X c tc) (hb : PSs X body tb) : PS X (.While c body [] pos) (tWhile tc tb) := by
  intro pins s σ H D I h
  obtain ⟨W, ⟨m0, w0⟩, turn⟩ := h
  refine wpAny_While (codeAny_whileLoop (fun n s' => ∃ σ' H', Inv X pins σ' H' s' ∧ W n σ' H') ?_ m0 ⟨σ, H, I, w0⟩)
  rintro n s1 ⟨σ1, H1, I1, w1⟩
  refine wpAny_passesOwn hp (thn (hc pins s1 σ1 H1 _ I1 (turn n σ1 H1 w1)) fun b s2 ⟨H2, I2, q2⟩ => ?_)
  cases b with
  | true =>
    obtain ⟨N, hN, q2⟩ := q2
    rw [if_pos rfl]
    refine wpAny_passesOwn hp (thn (hb pins s2 σ1 H2 _ I2 q2) fun f s3 q3 => ?_)
    cases f with
    | next =>
      obtain ⟨σ3, H3, I3, n3⟩ := q3
      obtain ⟨m', hm, w3⟩ := hN σ3 H3 n3
      exact ⟨m', hm, σ3, H3, I3, w3⟩
    | cont =>
      obtain ⟨σ3, H3, I3, n3⟩ := q3
      obtain ⟨m', hm, w3⟩ := hN σ3 H3 n3
      exact ⟨m', hm, σ3, H3, I3, w3⟩
    | brk => exact q3
    | ret v => exact q3
  | false =>
    rw [if_neg Bool.false_ne_true]
    exact wpAny_execs_nil ⟨σ1, H2, I2, q2⟩
end

/-! ### what a loop or a comprehension walks -/
/-- at turn i: it yields x (the heap may grow), or it stops -/
structure It where
  go : Nat → Hp → Prop
  yld : Nat → Hp → V → Hp → Prop
  stop : Nat → Hp → Prop
/-- the iterator's own objects may turn: they are not the frame's, not pinned, younger than the entry (or a comprehension's own) -/
def FpOk (X : Cx) (pins : List (Addr × Obj)) (H : Hp) (b : Addr) : Prop :=
  H b = none ∧ b ≠ X.env.locals ∧ b ∉ X.fs ∧ (b ∈ X.ex ∨ X.s_0.heap.objs.size ≤ b) ∧ (∀ x c, X.env.cells.lookup x = some c → c ≠ b) ∧ ∀ p ∈ X.pn ++ pins, p.1 ≠ b
theorem Inv.fpOk {X : Cx} {pins : List (Addr × Obj)} {σ : St} {H H' : Hp} {s : Shared} {b : Addr} (I : Inv X pins σ H s) (hb : s.heap.objs.size ≤ b) (hn : H' b = none) : FpOk X pins H' b := by
  refine ⟨hn, Nat.ne_of_gt (Nat.lt_of_lt_of_le I.lt hb), I.nofs hb, .inr (Nat.le_trans I.sz hb), fun x c e z => ?_, fun p hp z => ?_⟩
  · obtain ⟨v, q⟩ := I.cell x c e
    exact absurd (Nat.lt_of_lt_of_le q.lt (by rw [z]; exact hb)) (Nat.lt_irrefl _)
  · exact absurd (Nat.lt_of_lt_of_le (Heap.lt_size (I.pin p hp).1) (by rw [z]; exact hb)) (Nat.lt_irrefl _)
structure Turn (P : Program) (w : World) (K : PySem.W.Frag) (tg : Expr) (J : It) (fp : List Addr) (it : Addr) (tn : Nat → Heap → Prop) : Prop where
  mem : it ∈ fp
  obj : ∀ i h, tn i h → ∀ b ∈ fp, ∃ o, h.get? b = some o ∧ ∀ v, o.data ≠ .cell v
  keep : ∀ i h h', tn i h → (∀ b ∈ fp, ∀ o, h.get? b = some o → h'.get? b = some o) → tn i h'
  item : ∀ (X : Cx), X.prog = P → X.w = w → X.K = K → X.calm = true → ∀ (i : Nat) (pins : List (Addr × Obj)) (s : Shared) (σ : St) (H : Hp) (E : Value → Shared → Prop), Inv X pins σ H s → (∀ b ∈ fp, FpOk X pins H b) → tn i s.heap → J.go i H →
    wpAny (model P w) X.A (pyNext (.ref it)) (fun r s1 => ∃ u, r = some u ∧
      wpAny (model P w) X.A (letOwnedTupleGo tg (.ref it) u) (fun _ s2 => ∃ x H', Inv X pins σ H' s2 ∧ RelV x u ∧ J.yld i H x H' ∧ tn (i + 1) s2.heap ∧ ∀ b ∈ fp, H' b = none) E s1) E s
  done : ∀ (X : Cx), X.prog = P → X.w = w → X.K = K → X.calm = true → ∀ (i : Nat) (pins : List (Addr × Obj)) (s : Shared) (σ : St) (H : Hp) (E : Value → Shared → Prop), Inv X pins σ H s → (∀ b ∈ fp, FpOk X pins H b) → tn i s.heap → J.stop i H →
    wpAny (model P w) X.A (pyNext (.ref it)) (fun r s1 => r = none ∧ Inv X pins σ H s1) E s
  self : ∀ (A : Around) (i : Nat) (s : Shared) (Q : Value → Shared → Prop) (E : Value → Shared → Prop), tn i s.heap → Q (.ref it) s → wpAny (model P w) A (pyIter (.ref it)) Q E s
abbrev TI := St → Hp → (It → Hp → Prop) → Prop
/-- an iterator has come -/
def PIE (X : Cx) (pins : List (Addr × Obj)) (σ : St) (tg : Expr) (R : It → Hp → Prop) (itv : Value) (s2 : Shared) : Prop :=
  ∃ (it : Addr) (fp : List Addr) (tn : Nat → Heap → Prop) (J : It) (H' : Hp), itv = .ref it ∧ Inv X pins σ H' s2 ∧ Turn X.prog X.w X.K tg J fp it tn ∧ tn 0 s2.heap ∧ (∀ b ∈ fp, FpOk X pins H' b) ∧ R J H'
def PI (X : Cx) (tg iter : Expr) (wi : TI) : Prop :=
  ∀ (pins : List (Addr × Obj)) (s : Shared) (σ : St) (H : Hp) (R : It → Hp → Prop), Inv X pins σ H s → wi σ H R →
    wpAny (model X.prog X.w) X.A (eval iter X.env) (fun v s1 => wpAny (model X.prog X.w) X.A (pyIter v) (PIE X pins σ tg R) X.xe s1) X.xe s

/-- the step ahead of the store is nothing for an iterator that keeps no tuple -/
theorem go_of {M : Model} {A : Around} {E : Value → Shared → Prop} {s : Shared} {tg : Expr} {it : Addr} {u : Value} {o : Obj} {n : String} {vs : Array Value} {Q : Unit → Shared → Prop} (ho : s.heap.get? it = some o) (hc : o.cls = .type n) (hd : o.data = .fields vs)
    (hn : ["enumerate", "zip", "dict_itemiterator", "dict_reverseitemiterator", "odict_iterator", "itertools.zip_longest", "itertools.pairwise"].contains n = false) (hQ : Q () s) : wpAny M A (letOwnedTupleGo tg (.ref it) u) Q E s := by
  unfold letOwnedTupleGo
  cases tg <;> first
    | exact wpAny_pure hQ
    | (cases u <;> first
        | exact wpAny_pure hQ
        | (refine wpAny_bind (wpAny_load ho ?_)
           rw [hc, hd]
           show wpAny M A (if (["enumerate", "zip", "dict_itemiterator", "dict_reverseitemiterator", "odict_iterator", "itertools.zip_longest", "itertools.pairwise"].contains n && vs[0]? == some (rawInt _)) = true then _ else _) Q E s
           rw [if_neg (by intro h; rw [hn, Bool.false_and] at h; cases h)]
           exact wpAny_pure hQ))

/-- the list at a, as it stands at each turn (a loop may append to it) -/
def Itl (K : PySem.W.Frag) (a : Addr) : It :=
  ⟨fun i H => ∃ xs x, SqL K H a xs ∧ xs[i]? = some x, fun i H x H' => H' = H ∧ ∀ xs, SqL K H a xs → xs[i]? = some x, fun i H => ∃ xs, SqL K H a xs ∧ xs.length ≤ i⟩
def Itt (K : PySem.W.Frag) (a : Addr) : It :=
  ⟨fun i H => ∃ xs x, SqT K H a xs ∧ xs[i]? = some x, fun i H x H' => H' = H ∧ ∀ xs, SqT K H a xs → xs[i]? = some x, fun i H => ∃ xs, SqT K H a xs ∧ xs.length ≤ i⟩
/-- lo, lo + 1, .. (n of them) -/
def Itr (lo : Int) (n : Nat) : It := ⟨fun i _ => i < n, fun i H x H' => H' = H ∧ x = .int (lo + i), fun i _ => n ≤ i⟩
theorem turn_list {P : Program} {w : World} {K : PySem.W.Frag} {tg : Expr} (a it : Addr) : Turn P w K tg (Itl K a) [it] it (fun i h => h.IsListIter it a i) where
  mem := by simp
  obj := fun i h st b hb => by
    have e : b = it := by simpa using hb
    subst e
    obtain ⟨o, e, c, d⟩ := st
    exact ⟨o, e, fun v z => by rw [d] at z; cases z⟩
  keep := fun i h h' st k => st.at fun o e => k it (by simp) o e
  item := by
    intro X hP hw hK hc i pins s σ H E I hf st hg
    subst hP hw hK
    obtain ⟨xs, x, hq, hx⟩ := hg
    obtain ⟨its, rv, p, hz⟩ := I.list hq
    obtain ⟨u, hu, ru⟩ := rv.get hx
    obtain ⟨f0, f1, f2, f3, f4, f5⟩ := hf it (by simp)
    refine wpAny_pyNext_list_item st p.isList (x := u) (by simpa using hu) fun h' st' sb => ?_
    have I1 : Inv X pins σ H { s with heap := h' } := I.turned (t' := s.toks) (fun b o hb e => (sb.2 b hb).trans e) f0 f1 f3 f4 f5
    obtain ⟨o, e, c, d⟩ := id st'
    exact ⟨u, rfl, go_of (s := { s with heap := h' }) e c d (by decide) ⟨x, H, I1, ru, ⟨rfl, fun ys hy => by rw [I.list_inj hy hq]; exact hx⟩, st', fun b hb => (hf b hb).1⟩⟩
  done := by
    intro X hP hw hK hc i pins s σ H E I hf st hg
    subst hP hw hK
    obtain ⟨xs, hq, hx⟩ := hg
    obtain ⟨its, rv, p, hz⟩ := I.list hq
    obtain ⟨f0, f1, f2, f3, f4, f5⟩ := hf it (by simp)
    have hl := rv.length
    exact wpAny_pyNext_list_end (I.ok.hd hc) st p.isList (by simp; omega) fun h' eb => ⟨rfl, I.turned (t' := s.toks) (fun b o hb e => eb b o hb e) f0 f1 f3 f4 f5⟩
  self := fun _ _ _ _ _ st h => wpAny_pyIter_listiter st h
theorem turn_tuple {P : Program} {w : World} {K : PySem.W.Frag} {tg : Expr} (a it : Addr) : Turn P w K tg (Itt K a) [it] it (fun i h => h.IsTupleIter it a i) where
  mem := by simp
  obj := fun i h st b hb => by
    have e : b = it := by simpa using hb
    subst e
    obtain ⟨o, e, c, d⟩ := st
    exact ⟨o, e, fun v z => by rw [d] at z; cases z⟩
  keep := fun i h h' st k => st.at fun o e => k it (by simp) o e
  item := by
    intro X hP hw hK hc i pins s σ H E I hf st hg
    subst hP hw hK
    obtain ⟨xs, x, hq, hx⟩ := hg
    obtain ⟨its, rv, p, hz⟩ := I.tuple hq
    obtain ⟨u, hu, ru⟩ := rv.get hx
    obtain ⟨f0, f1, f2, f3, f4, f5⟩ := hf it (by simp)
    refine wpAny_pyNext_tuple_item st (show s.heap.IsTuple a its.toArray from p) (x := u) (by simpa using hu) fun h' st' sb => ?_
    have I1 : Inv X pins σ H { s with heap := h' } := I.turned (t' := s.toks) (fun b o hb e => (sb.2 b hb).trans e) f0 f1 f3 f4 f5
    obtain ⟨o, e, c, d⟩ := id st'
    exact ⟨u, rfl, go_of (s := { s with heap := h' }) e c d (by decide) ⟨x, H, I1, ru, ⟨rfl, fun ys hy => by rw [I.tuple_inj hy hq]; exact hx⟩, st', fun b hb => (hf b hb).1⟩⟩
  done := by
    intro X hP hw hK hc i pins s σ H E I hf st hg
    subst hP hw hK
    obtain ⟨xs, hq, hx⟩ := hg
    obtain ⟨its, rv, p, hz⟩ := I.tuple hq
    obtain ⟨f0, f1, f2, f3, f4, f5⟩ := hf it (by simp)
    have hl := rv.length
    exact wpAny_pyNext_tuple_end (I.ok.hd hc) st (show s.heap.IsTuple a its.toArray from p) (by simp; omega) fun h' eb => ⟨rfl, I.turned (t' := s.toks) (fun b o hb e => eb b o hb e) f0 f1 f3 f4 f5⟩
  self := fun _ _ _ _ _ st h => wpAny_pyIter_tupleiter st h
theorem turn_range {P : Program} {w : World} {K : PySem.W.Frag} {tg : Expr} (it : Addr) (lo : Int) (n : Nat) : Turn P w K tg (Itr lo n) [it] it (fun i h => IsRangeIter h it (lo + (i : Nat) * 1) ((n : Int) - (i : Nat)) 1) where
  mem := by simp
  obj := fun i h st b hb => by
    have e : b = it := by simpa using hb
    subst e
    exact ⟨_, st, fun v z => by
      have z' : Data.fields _ = Data.cell v := z
      cases z'⟩
  keep := fun i h h' st k => k it (by simp) _ st
  item := by
    intro X hP hw hK hc i pins s σ H E I hf st hg
    subst hP hw hK
    obtain ⟨f0, f1, f2, f3, f4, f5⟩ := hf it (by simp)
    have W := Walks.range (prog := X.prog) (w := X.w) (I.ok.hd hc) it lo 1 n
    refine W.item i s _ _ hg st fun v h' tk hv st' kk => ?_
    obtain ⟨t, rfl⟩ := hv
    have I1 : Inv X pins σ H { s with heap := h', toks := tk } := I.turned (fun b o hb e => kk b o (by simpa using hb) e) f0 f1 f3 f4 f5
    refine ⟨_, rfl, go_of (s := { s with heap := h', toks := tk }) (n := "range_iterator") st' rfl rfl (by decide) ⟨.int (lo + i), H, I1, ⟨t, ?_⟩, ⟨rfl, rfl⟩, st', fun b hb => (hf b hb).1⟩⟩
    rw [Int.mul_one]
  done := by
    intro X hP hw hK hc i pins s σ H E I hf st hg
    subst hP hw hK
    obtain ⟨f0, f1, f2, f3, f4, f5⟩ := hf it (by simp)
    exact wpAny_pyNext_range_end (I.ok.hd hc) st (by have : n ≤ i := hg; omega) fun h' eb => ⟨rfl, I.turned (t' := s.toks) (fun b o hb e => eb b o hb e) f0 f1 f3 f4 f5⟩
  self := fun _ _ _ _ _ st h => wpAny_pyIter_rangeiter st h
end L2

namespace L2
open PySem PySem.Spec PyProof.Rows
section
variable {X : Cx} {tg : Expr}
def iList (K : PySem.W.Frag) (tl : TE) : TI := fun σ H R => tl σ H fun x H1 => ∃ a, x = .ref a ∧ (∃ xs, SqL K H1 a xs) ∧ R (Itl K a) H1
def iTup (K : PySem.W.Frag) (tl : TE) : TI := fun σ H R => tl σ H fun x H1 => ∃ a, x = .ref a ∧ (∃ xs, SqT K H1 a xs) ∧ R (Itt K a) H1
theorem pi_list {l : Expr} {tl : TE} (hl : PE X l tl) : PI X tg l (iList X.K tl) := by
  intro pins s σ H R I h
  refine thn (hl pins s σ H _ I h) fun v s1 ⟨x, H1, I1, r1, q1⟩ => ?_
  obtain ⟨a, e, ⟨xs, hq⟩, q⟩ := q1
  subst e
  cases r1
  obtain ⟨its, rv, p, hz⟩ := I1.list hq
  refine wpAny_pyIter_list p.isList ?_
  refine ⟨s1.heap.objs.size, [s1.heap.objs.size], _, _, H1, rfl, I1.kept (t' := s1.toks) fun b o e => Heap.get?_push_of_some _ e, turn_list a _, ⟨_, Heap.get?_push_size _ rfl, rfl, rfl⟩, fun b hb => ?_, q⟩
  have e : b = s1.heap.objs.size := by simpa using hb
  subst e
  exact I1.fpOk (Nat.le_refl _) (I1.hok.fresh (Nat.le_refl _))
theorem pi_tup {l : Expr} {tl : TE} (hl : PE X l tl) : PI X tg l (iTup X.K tl) := by
  intro pins s σ H R I h
  refine thn (hl pins s σ H _ I h) fun v s1 ⟨x, H1, I1, r1, q1⟩ => ?_
  obtain ⟨a, e, ⟨xs, hq⟩, q⟩ := q1
  subst e
  cases r1
  obtain ⟨its, rv, p, hz⟩ := I1.tuple hq
  refine wpAny_pyIter_tuple (show s1.heap.IsTuple a its.toArray from p) ?_
  refine ⟨s1.heap.objs.size, [s1.heap.objs.size], _, _, H1, rfl, I1.kept (t' := s1.toks) fun b o e => Heap.get?_push_of_some _ e, turn_tuple a _, ⟨_, Heap.get?_push_size _ rfl, rfl, rfl⟩, fun b hb => ?_, q⟩
  have e : b = s1.heap.objs.size := by simpa using hb
  subst e
  exact I1.fpOk (Nat.le_refl _) (I1.hok.fresh (Nat.le_refl _))
/-- a range object just made, walked -/
theorem range_it {pins : List (Addr × Obj)} {σ : St} {H : Hp} {s : Shared} {R : It → Hp → Prop} {E : Value → Shared → Prop} {lo hi : Int} {t u v : Tok} {tk : Nat} (I : Inv X pins σ H s) (h1 : -(2 ^ 62) ≤ lo) (h2 : lo < 2 ^ 62) (h3 : -(2 ^ 62) ≤ hi) (h4 : hi < 2 ^ 62)
    (q : R (Itr lo (hi - lo).toNat) H) : wpAny (model X.prog X.w) X.A (pyIter (.ref s.heap.objs.size)) (PIE X pins σ tg R) E { s with heap := s.heap.push { cls := .type "range", data := .fields #[.int lo t, .int hi u, .int 1 v] }, toks := tk } := by
  refine wpAny_pyIter_range (IsRange.new ..) (small_one h1 h2 h3 h4) ?_
  have I1 : Inv X pins σ H { s with heap := s.heap.push { cls := .type "range", data := .fields #[.int lo t, .int hi u, .int 1 v] }, toks := tk } := I.kept fun b o e => Heap.get?_push_of_some _ e
  refine ⟨(s.heap.push { cls := .type "range", data := .fields #[.int lo t, .int hi u, .int 1 v] }).objs.size, [(s.heap.push { cls := .type "range", data := .fields #[.int lo t, .int hi u, .int 1 v] }).objs.size], _, _, H, rfl,
    I1.kept (t' := tk) fun b o e => Heap.get?_push_of_some _ e, turn_range _ lo (hi - lo).toNat, ?_, fun b hb => ?_, q⟩
  · have e1 : lo + ((0 : Nat) : Int) * 1 = lo := by simp
    have e2 : (((hi - lo).toNat : Nat) : Int) - ((0 : Nat) : Int) = Builtin.Range.rangeSize lo hi 1 := by rw [rangeSize_one]; split <;> omega
    show IsRangeIter _ _ (lo + ((0 : Nat) : Int) * 1) ((((hi - lo).toNat : Nat) : Int) - ((0 : Nat) : Int)) 1
    rw [e1, e2]
    exact Heap.get?_push_size _ rfl
  · have e : b = (s.heap.push { cls := .type "range", data := .fields #[.int lo t, .int hi u, .int 1 v] }).objs.size := by simpa using hb
    subst e
    exact I1.fpOk (Nat.le_refl _) (I1.hok.fresh (Nat.le_refl _))
def iRng1 (ta : TA) : TI := fun σ H R => ta σ H fun vs H1 => ∃ j : Int, vs = [.int j] ∧ -(2 ^ 62) ≤ j ∧ j < 2 ^ 62 ∧ R (Itr 0 j.toNat) H1
def iRng2 (ta : TA) : TI := fun σ H R => ta σ H fun vs H1 => ∃ i j : Int, vs = [.int i, .int j] ∧ (-(2 ^ 62) ≤ i ∧ i < 2 ^ 62 ∧ -(2 ^ 62) ≤ j ∧ j < 2 ^ 62) ∧ R (Itr i (j - i).toNat) H1
theorem pi_range1 {a : Expr} {ta : TA} {p pos : Pos} (hg : Gl X "range") (hm : X.mg "range" = none) (ha : PA X [a] ta) (hs : starEach [a] X.env = [(false, eval a X.env)] := by rfl) : PI X tg (.Call (.Name "range" p) [a] [] pos) (iRng1 ta) := by
  intro pins s σ H R I h
  refine Call_ (ld_blt I hg hm boot_range (PyProof.Rows.callWith_type1 (thn (ha pos pins s σ H _ I h) fun us s1 ⟨vs, H1, I1, r1, q1⟩ => ?_) hs rfl))
  obtain ⟨j, e, q1, q2, q⟩ := q1
  subst e
  cases r1 with
  | cons r rr =>
    cases rr
    obtain ⟨t, rfl⟩ := r
    exact call_range_1 (range_it I1 (by omega) (by omega) q1 q2 (by simpa using q))
theorem pi_range2 {a b : Expr} {ta : TA} {p pos : Pos} (hg : Gl X "range") (hm : X.mg "range" = none) (ha : PA X [a, b] ta) (hs : starEach [a, b] X.env = [(false, eval a X.env), (false, eval b X.env)] := by rfl) (hs2 : starEach [b] X.env = [(false, eval b X.env)] := by rfl) :
    PI X tg (.Call (.Name "range" p) [a, b] [] pos) (iRng2 ta) := by
  intro pins s σ H R I h
  refine Call_ (ld_blt I hg hm boot_range (PyProof.Rows.callWith_type1 (thn (ha pos pins s σ H _ I h) fun us s1 ⟨vs, H1, I1, r1, q1⟩ => ?_) (by rw [hs, hs2]) (by rw [hs2]; rfl)))
  obtain ⟨i, j, e, ⟨q1, q2, q3, q4⟩, q⟩ := q1
  subst e
  cases r1 with
  | cons r rr =>
    cases rr with
    | cons r' rr =>
      cases rr
      obtain ⟨t, rfl⟩ := r
      obtain ⟨t', rfl⟩ := r'
      exact call_range_2 (range_it I1 q1 q2 q3 q4 q)

/-! ### for -/
/-- W: the invariant by the turn and a measure; N: what the body is to reach -/
def tFor (wi : TI) (g : TG) (tb : TS) : TS := fun D σ H => wi σ H fun J H1 => ∃ W : Nat → Nat → St → Hp → Prop, (∃ m, W 0 m σ H1) ∧ ∀ i m σ H, W i m σ H →
  (J.stop i H ∧ D.nx σ H) ∨ (J.go i H ∧ ∃ N : St → Hp → Prop, (∀ σ' H', N σ' H' → ∃ m', m' < m ∧ W (i + 1) m' σ' H') ∧ ∀ x H', J.yld i H x H' → g x σ H' fun σ2 H2 => tb { D with nx := N, ct := N, bk := D.nx } σ2 H2)
/-- the records at fp as they stand -/
def pinsAt (fp : List Addr) (h : Heap) : List (Addr × Obj) := fp.filterMap fun b => (h.get? b).map fun o => (b, o)
theorem mem_pinsAt {fp : List Addr} {h : Heap} {b : Addr} {o : Obj} (hb : b ∈ fp) (e : h.get? b = some o) : (b, o) ∈ pinsAt fp h := List.mem_filterMap.mpr ⟨b, hb, by rw [e]; rfl⟩
theorem of_pinsAt {fp : List Addr} {h : Heap} {p : Addr × Obj} (hp : p ∈ pinsAt fp h) : p.1 ∈ fp ∧ h.get? p.1 = some p.2 := by
  obtain ⟨b, hb, e⟩ := List.mem_filterMap.mp hp
  cases q : h.get? b with
  | none => rw [q] at e; cases e
  | some o =>
    rw [q] at e
    have e' : (b, o) = p := Option.some.inj e
    subst e'
    exact ⟨hb, q⟩
theorem Inv.pinned {pins : List (Addr × Obj)} {σ : St} {H : Hp} {s : Shared} {fp : List Addr} (I : Inv X pins σ H s) (hf : ∀ b ∈ fp, FpOk X pins H b) (ho : ∀ b ∈ fp, ∃ o, s.heap.get? b = some o ∧ ∀ v, o.data ≠ .cell v) : Inv X (pins ++ pinsAt fp s.heap) σ H s :=
  I.pins_of fun p hp => (List.mem_append.mp hp).elim (fun z => I.pin p (List.mem_append_right _ z)) fun z => by
    obtain ⟨hb, e⟩ := of_pinsAt z
    obtain ⟨f0, f1, f2, _⟩ := hf p.1 hb
    obtain ⟨o, e', d⟩ := ho p.1 hb
    rw [e] at e'; cases e'
    exact ⟨e, f0, f1, f2, d⟩
theorem Inv.unpinned {pins pl : List (Addr × Obj)} {σ : St} {H : Hp} {s : Shared} (I : Inv X (pins ++ pl) σ H s) : Inv X pins σ H s := I.pins_of fun p hp => I.pin p (List.mem_append_right _ (List.mem_append_left _ hp))
theorem ps_for {iter : Expr} {body : List Stmt} {wi : TI} {g : TG} {tb : TS} {pos : Pos} (hp : PassesOwn (model X.prog X.w) X.A X.env X.xe) (hc : X.calm = true) (hi : PI X tg iter wi) (hg : PG X tg g) (hb : PSs X body tb)
    (hs : ∀ x, foldedSetIterable iter X.env x = pure x := by intro _; rfl) : PS X (.For tg iter body [] pos) (tFor wi g tb) := by
  intro pins s σ H D I h
  refine wpAny_For (thn (hi pins s σ H _ I h) fun v s1 h1 => thn h1 fun itv s2 h2 => ?_) hs
  obtain ⟨it, fp, tn, J, H2, e, I2, T, st2, f2, W, ⟨m0, w0⟩, turn⟩ := h2
  subst e
  -- what stays true of the iterator's objects through the loop
  have stat : ∀ {H' : Hp}, (∀ b ∈ fp, H' b = none) → ∀ b ∈ fp, FpOk X pins H' b := fun hn b hb => ⟨hn b hb, (f2 b hb).2⟩
  refine codeAny_forLoop_any (fun n s' => ∃ i σ' H', Inv X pins σ' H' s' ∧ tn i s'.heap ∧ (∀ b ∈ fp, H' b = none) ∧ W i n σ' H') ?_ m0 ⟨0, σ, H2, I2, st2, fun b hb => (f2 b hb).1, w0⟩
  rintro n s3 ⟨i, σ3, H3, I3, st3, fr3, w3⟩
  rcases turn i n σ3 H3 w3 with ⟨stop, qn⟩ | ⟨go, N, hN, step⟩
  · refine wpAny_passesOwn hp (thn (T.done X rfl rfl rfl hc i pins s3 σ3 H3 X.xe I3 (stat fr3) st3 stop) fun r s4 ⟨hr, I4⟩ => ?_)
    subst hr
    exact wpAny_execs_nil ⟨σ3, H3, I4, qn⟩
  · refine wpAny_passesOwn hp (thn (T.item X rfl rfl rfl hc i pins s3 σ3 H3 X.xe I3 (stat fr3) st3 go) fun r s4 ⟨u, hr, h4⟩ => ?_)
    subst hr
    refine wpAny_passesOwn hp (thn h4 fun _ s5 ⟨x, H5, I5, r5, y5, st5, fr5⟩ => ?_)
    have I5' := I5.pinned (stat fr5) (T.obj _ _ st5)
    refine wpAny_passesOwn hp (thn (hg _ s5 σ3 H5 x u _ I5' r5 (step x H5 y5)) fun _ s6 ⟨σ6, H6, I6, q6⟩ => ?_)
    refine wpAny_passesOwn hp (thn (hb _ s6 σ6 H6 _ I6 q6) fun f s7 q7 => ?_)
    have again : ∀ {σ7 : St} {H7 : Hp}, Inv X (pins ++ pinsAt fp s5.heap) σ7 H7 s7 → N σ7 H7 → ∃ m, m < n ∧ ∃ i σ' H', Inv X pins σ' H' s7 ∧ tn i s7.heap ∧ (∀ b ∈ fp, H' b = none) ∧ W i m σ' H' := fun {σ7 H7} I7 n7 => by
      obtain ⟨m', hm, w7⟩ := hN σ7 H7 n7
      refine ⟨m', hm, i + 1, σ7, H7, I7.unpinned, T.keep _ _ _ st5 fun b hb o e => (I7.pin (b, o) (List.mem_append_right _ (List.mem_append_right _ (mem_pinsAt hb e)))).1, fun b hb => ?_, w7⟩
      obtain ⟨o, e, d⟩ := T.obj _ _ st5 b hb
      exact (I7.pin (b, o) (List.mem_append_right _ (List.mem_append_right _ (mem_pinsAt hb e)))).2.1
    cases f with
    | next => obtain ⟨σ7, H7, I7, n7⟩ := q7; exact again I7 n7
    | cont => obtain ⟨σ7, H7, I7, n7⟩ := q7; exact again I7 n7
    | brk => obtain ⟨σ7, H7, I7, q7⟩ := q7; exact ⟨σ7, H7, I7.unpinned, q7⟩
    | ret v => obtain ⟨x7, σ7, H7, I7, r7, q7⟩ := q7; exact ⟨x7, σ7, H7, I7.unpinned, r7, q7⟩
end

/-! ### the forms one uses -/
/-- over a list that the body leaves as it is -/
theorem for_list {K : PySem.W.Frag} {a : Addr} {xs : List V} {g : TG} {tb : TS} {D : Ends} {σ : St} {H : Hp} (Pv : Nat → St → Hp → Prop) (h0 : Pv 0 σ H) (hl : ∀ i σ H, i ≤ xs.length → Pv i σ H → SqL K H a xs)
    (hs : ∀ i x σ H, xs[i]? = some x → Pv i σ H → g x σ H fun σ2 H2 => tb { D with nx := Pv (i + 1), ct := Pv (i + 1), bk := D.nx } σ2 H2) (hd : ∀ σ H, Pv xs.length σ H → D.nx σ H) :
    ∃ W : Nat → Nat → St → Hp → Prop, (∃ m, W 0 m σ H) ∧ ∀ i m σ H, W i m σ H →
      ((Itl K a).stop i H ∧ D.nx σ H) ∨ ((Itl K a).go i H ∧ ∃ N : St → Hp → Prop, (∀ σ' H', N σ' H' → ∃ m', m' < m ∧ W (i + 1) m' σ' H') ∧ ∀ x H', (Itl K a).yld i H x H' → g x σ H' fun σ2 H2 => tb { D with nx := N, ct := N, bk := D.nx } σ2 H2) := by
  refine ⟨fun i m σ H => m = xs.length - i ∧ i ≤ xs.length ∧ Pv i σ H, ⟨xs.length, by simp, Nat.zero_le _, h0⟩, ?_⟩
  rintro i m σ H ⟨rfl, hi, p⟩
  have q := hl i σ H hi p
  by_cases hlt : i < xs.length
  · refine .inr ⟨⟨xs, xs[i], q, by simp [hlt]⟩, Pv (i + 1), fun σ' H' p' => ⟨xs.length - (i + 1), by omega, rfl, hlt, p'⟩, fun x H' y => ?_⟩
    obtain ⟨e, y⟩ := y
    subst e
    exact hs i x σ _ (y xs q) p
  · have e : i = xs.length := by omega
    subst e
    exact .inl ⟨⟨xs, q, Nat.le_refl _⟩, hd σ H p⟩
theorem for_tup {K : PySem.W.Frag} {a : Addr} {xs : List V} {g : TG} {tb : TS} {D : Ends} {σ : St} {H : Hp} (Pv : Nat → St → Hp → Prop) (h0 : Pv 0 σ H) (hl : ∀ i σ H, i ≤ xs.length → Pv i σ H → SqT K H a xs)
    (hs : ∀ i x σ H, xs[i]? = some x → Pv i σ H → g x σ H fun σ2 H2 => tb { D with nx := Pv (i + 1), ct := Pv (i + 1), bk := D.nx } σ2 H2) (hd : ∀ σ H, Pv xs.length σ H → D.nx σ H) :
    ∃ W : Nat → Nat → St → Hp → Prop, (∃ m, W 0 m σ H) ∧ ∀ i m σ H, W i m σ H →
      ((Itt K a).stop i H ∧ D.nx σ H) ∨ ((Itt K a).go i H ∧ ∃ N : St → Hp → Prop, (∀ σ' H', N σ' H' → ∃ m', m' < m ∧ W (i + 1) m' σ' H') ∧ ∀ x H', (Itt K a).yld i H x H' → g x σ H' fun σ2 H2 => tb { D with nx := N, ct := N, bk := D.nx } σ2 H2) := by
  refine ⟨fun i m σ H => m = xs.length - i ∧ i ≤ xs.length ∧ Pv i σ H, ⟨xs.length, by simp, Nat.zero_le _, h0⟩, ?_⟩
  rintro i m σ H ⟨rfl, hi, p⟩
  have q := hl i σ H hi p
  by_cases hlt : i < xs.length
  · refine .inr ⟨⟨xs, xs[i], q, by simp [hlt]⟩, Pv (i + 1), fun σ' H' p' => ⟨xs.length - (i + 1), by omega, rfl, hlt, p'⟩, fun x H' y => ?_⟩
    obtain ⟨e, y⟩ := y
    subst e
    exact hs i x σ _ (y xs q) p
  · have e : i = xs.length := by omega
    subst e
    exact .inl ⟨⟨xs, q, Nat.le_refl _⟩, hd σ H p⟩
theorem for_range {lo : Int} {n : Nat} {g : TG} {tb : TS} {D : Ends} {σ : St} {H : Hp} (Pv : Nat → St → Hp → Prop) (h0 : Pv 0 σ H)
    (hs : ∀ i σ H, i < n → Pv i σ H → g (.int (lo + i)) σ H fun σ2 H2 => tb { D with nx := Pv (i + 1), ct := Pv (i + 1), bk := D.nx } σ2 H2) (hd : ∀ σ H, Pv n σ H → D.nx σ H) :
    ∃ W : Nat → Nat → St → Hp → Prop, (∃ m, W 0 m σ H) ∧ ∀ i m σ H, W i m σ H →
      ((Itr lo n).stop i H ∧ D.nx σ H) ∨ ((Itr lo n).go i H ∧ ∃ N : St → Hp → Prop, (∀ σ' H', N σ' H' → ∃ m', m' < m ∧ W (i + 1) m' σ' H') ∧ ∀ x H', (Itr lo n).yld i H x H' → g x σ H' fun σ2 H2 => tb { D with nx := N, ct := N, bk := D.nx } σ2 H2) := by
  refine ⟨fun i m σ H => m = n - i ∧ i ≤ n ∧ Pv i σ H, ⟨n, by simp, Nat.zero_le _, h0⟩, ?_⟩
  rintro i m σ H ⟨rfl, hi, p⟩
  by_cases hlt : i < n
  · refine .inr ⟨hlt, Pv (i + 1), fun σ' H' p' => ⟨n - (i + 1), by omega, rfl, hlt, p'⟩, fun x H' y => ?_⟩
    obtain ⟨e, y⟩ := y
    subst e y
    exact hs i σ _ hlt p
  · have e : i = n := by omega
    subst e
    exact .inl ⟨Nat.le_refl _, hd σ H p⟩
/-- while, by a word and a measure of the state -/
theorem while_by {c : TT} {tb : TS} {D : Ends} {σ : St} {H : Hp} (Pv : St → Hp → Prop) (μ : St → Hp → Nat) (h0 : Pv σ H)
    (hs : ∀ σ H, Pv σ H → c σ H fun b H1 => if b = true then tb { D with nx := fun σ' H' => Pv σ' H' ∧ μ σ' H' < μ σ H, ct := fun σ' H' => Pv σ' H' ∧ μ σ' H' < μ σ H, bk := D.nx } σ H1 else D.nx σ H1)
    (mono : ∀ σ H Q Q', (∀ b H1, Q b H1 → Q' b H1) → c σ H Q → c σ H Q') : tWhile c tb D σ H := by
  refine ⟨fun m σ H => m = μ σ H ∧ Pv σ H, ⟨_, rfl, h0⟩, ?_⟩
  rintro m σ H ⟨rfl, p⟩
  refine mono σ H _ _ (fun b H1 q => ?_) (hs σ H p)
  cases b with
  | true => exact ⟨_, fun σ' H' ⟨p', l⟩ => ⟨_, l, rfl, p'⟩, q⟩
  | false => exact q
end L2

namespace L2
open PySem PySem.Spec PyProof.Rows

abbrev R2 := V → V → Hp → VK → Prop
/-- a two-place operation on values: f is binaryOp op, inplaceOp op or compareOp op -/
def OpR (X : Cx) (f : Value → Value → Sem Value) (r : R2) : Prop :=
  ∀ (pins : List (Addr × Obj)) (s : Shared) (σ : St) (H : Hp) (x y : V) (v u : Value) (Q : VK), Inv X pins σ H s → RelV x v → RelV y u → r x y H Q →
    wpAny (model X.prog X.w) X.A (f v u) (EP X pins σ Q) X.xe s
/-- a one-place operation -/
def UnR (X : Cx) (f : Value → Sem Value) (r : V → Hp → VK → Prop) : Prop :=
  ∀ (pins : List (Addr × Obj)) (s : Shared) (σ : St) (H : Hp) (x : V) (v : Value) (Q : VK), Inv X pins σ H s → RelV x v → r x H Q →
    wpAny (model X.prog X.w) X.A (f v) (EP X pins σ Q) X.xe s
/-- a call of a value that is known (a builtin, a type) with values -/
def CallR (X : Cx) (f : Value) (r : List V → Hp → VK → Prop) : Prop :=
  ∀ (pins : List (Addr × Obj)) (s : Shared) (σ : St) (H : Hp) (xs : List V) (us : List Value) (Q : VK), Inv X pins σ H s → Vals xs us → r xs H Q →
    wpAny (model X.prog X.w) X.A (call f us) (EP X pins σ Q) X.xe s

def tOp (r : R2) (ta tb : TE) : TE := fun σ H Q => ta σ H fun x H1 => tb σ H1 fun y H2 => r x y H2 Q
def tUn (r : V → Hp → VK → Prop) (ta : TE) : TE := fun σ H Q => ta σ H fun x H1 => r x H1 Q
/-- ints in, under C, and a value out -/
def rI (C : Int → Int → Prop) (g : Int → Int → V) : R2 := fun x y H Q => ∃ i j, x = .int i ∧ y = .int j ∧ C i j ∧ Q (g i j) H
def rI0 (g : Int → Int → V) : R2 := fun x y H Q => ∃ i j, x = .int i ∧ y = .int j ∧ Q (g i j) H
def rU (g : Int → V) : V → Hp → VK → Prop := fun x H Q => ∃ i, x = .int i ∧ Q (g i) H

section
variable {X : Cx} {a b c : Expr} {ta tb tc : TE} {pos : Pos}

theorem binT (ha : PE X a ta) (hb : PE X b tb) {pins : List (Addr × Obj)} {s : Shared} {σ : St} {H : Hp} {R : V → V → Hp → Prop} (I : Inv X pins σ H s)
    (h : ta σ H fun x H1 => tb σ H1 fun y H2 => R x y H2) {Q : Value → Shared → Prop} {f : Value → Value → Sem Value}
    (hf : ∀ v u s2 x y H2, Inv X pins σ H2 s2 → RelV x v → RelV y u → R x y H2 → wpAny (model X.prog X.w) X.A (f v u) Q X.xe s2) :
    wpAny (model X.prog X.w) X.A (eval a X.env) (fun v s₁ => wpAny (model X.prog X.w) X.A (eval b X.env) (fun u s₂ => wpAny (model X.prog X.w) X.A (f v u) Q X.xe s₂) X.xe s₁) X.xe s := by
  refine thn (ha pins s σ H _ I h) fun v s1 ⟨x, H1, I1, r1, q1⟩ => ?_
  refine thn (hb pins s1 σ H1 _ I1 q1) fun u s2 ⟨y, H2, I2, r2, q2⟩ => ?_
  exact hf v u s2 x y H2 I2 r1 r2 q2

theorem pe_op {op : Operator} {r : R2} (ho : OpR X (binaryOp op) r) (ha : PE X a ta) (hb : PE X b tb) : PE X (.BinOp a op b pos) (tOp r ta tb) := by
  intro pins s σ H Q I h
  exact wpAny_BinOp (binT ha hb I h fun v u s2 x y H2 I2 rx ry q => ho pins s2 σ H2 x y v u Q I2 rx ry q)
theorem pe_un {op : UnaryOp} {r : V → Hp → VK → Prop} (ho : UnR X (unaryOp op) r) (ha : PE X a ta) : PE X (.UnaryOp op a pos) (tUn r ta) := by
  intro pins s σ H Q I h
  exact UnaryOp_ (thn (ha pins s σ H _ I h) fun v s1 ⟨x, H1, I1, r1, q1⟩ => ho pins s1 σ H1 x v Q I1 r1 q1)

/-! ### ints -/
theorem opI {f : Value → Value → Sem Value} {C : Int → Int → Prop} {g : Int → Int → Int}
    (rule : ∀ (i j : Int) (t u : Tok) (s : Shared) (Q : Value → Shared → Prop) (E : Value → Shared → Prop), C i j → Q (.int (g i j) s.toks) { s with toks := s.toks + 1 } → wpAny (model X.prog X.w) X.A (f (.int i t) (.int j u)) Q E s) :
    OpR X f (rI C fun i j => .int (g i j)) := by
  intro pins s σ H x y v u Q I rx ry h
  obtain ⟨i, j, rfl, rfl, hc, q⟩ := h
  obtain ⟨t, rfl⟩ := rx
  obtain ⟨t', rfl⟩ := ry
  exact rule i j t t' s _ _ hc ⟨.int (g i j), H, I.tok _, ⟨_, rfl⟩, q⟩
theorem opI0 {f : Value → Value → Sem Value} {g : Int → Int → Int}
    (rule : ∀ (i j : Int) (t u : Tok) (s : Shared) (Q : Value → Shared → Prop) (E : Value → Shared → Prop), Q (.int (g i j) s.toks) { s with toks := s.toks + 1 } → wpAny (model X.prog X.w) X.A (f (.int i t) (.int j u)) Q E s) :
    OpR X f (rI0 fun i j => .int (g i j)) := by
  intro pins s σ H x y v u Q I rx ry h
  obtain ⟨i, j, rfl, rfl, q⟩ := h
  obtain ⟨t, rfl⟩ := rx
  obtain ⟨t', rfl⟩ := ry
  exact rule i j t t' s _ _ ⟨.int (g i j), H, I.tok _, ⟨_, rfl⟩, q⟩
theorem opB0 {f : Value → Value → Sem Value} {g : Int → Int → Bool}
    (rule : ∀ (i j : Int) (t u : Tok) (s : Shared) (Q : Value → Shared → Prop) (E : Value → Shared → Prop), Q (.bool (g i j)) s → wpAny (model X.prog X.w) X.A (f (.int i t) (.int j u)) Q E s) :
    OpR X f (rI0 fun i j => .bl (g i j)) := by
  intro pins s σ H x y v u Q I rx ry h
  obtain ⟨i, j, rfl, rfl, q⟩ := h
  obtain ⟨t, rfl⟩ := rx
  obtain ⟨t', rfl⟩ := ry
  exact rule i j t t' s _ _ ⟨.bl (g i j), H, I, rfl, q⟩

def CDiv (i j : Int) : Prop := 0 < j ∧ j < 1073741824
def CPow (i j : Int) : Prop := 0 ≤ j ∧ j ≤ 1000000 ∧ i.natAbs < 2 ^ 64
def CMul (i j : Int) : Prop := (-(2 ^ 64) < i ∧ i < 2 ^ 64) ∨ (-(2 ^ 64) < j ∧ j < 2 ^ 64)
theorem CMul.ok {i j : Int} (h : CMul i j) : IntMulOk i j := by
  rcases h with ⟨h1, h2⟩ | ⟨h1, h2⟩
  · exact .of_left (intBits_le_64 h1 h2)
  · exact .of_right (intBits_le_64 h1 h2)

theorem op_add : OpR X (binaryOp .Add) (rI0 fun i j => .int (i + j)) := opI0 fun _ _ _ _ _ _ _ q => add_int q
theorem op_sub : OpR X (binaryOp .Sub) (rI0 fun i j => .int (i - j)) := opI0 fun _ _ _ _ _ _ _ q => sub_int q
theorem op_mul : OpR X (binaryOp .Mult) (rI CMul fun i j => .int (i * j)) := opI fun _ _ _ _ _ _ _ hc q => mul_int q hc.ok
/-- // by a positive divisor -/
theorem op_fdiv : OpR X (binaryOp .FloorDiv) (rI CDiv fun i j => .int (i / j)) := opI fun i j _ _ _ _ _ hc q => by
  have h1 : (0 : Int) < j := hc.1
  have h2 : j < 1073741824 := hc.2
  exact floordiv_int (by omega) (by rw [Int.fdiv_eq_ediv_of_nonneg i (by omega)]; exact q) (.inl (PyProof.noPylong_small (by omega)))
/-- % by a positive divisor of any size -/
theorem op_mod : OpR X (binaryOp .Mod) (rI (fun _ j => 0 < j) fun i j => .int (i % j)) := opI fun i j _ _ _ _ _ hc q => by
  have h1 : (0 : Int) < j := hc
  exact mod_int' (by omega) (by rw [Int.fmod_eq_emod_of_nonneg i (by omega)]; exact q)
theorem op_pow : OpR X (binaryOp .Pow) (rI CPow fun i j => .int (i ^ j.toNat)) := opI fun _ _ _ _ _ _ _ hc q => pow_int_small hc.1 hc.2.1 hc.2.2 q


theorem unI {f : Value → Sem Value} {g : Int → Int}
    (rule : ∀ (i : Int) (t : Tok) (s : Shared) (Q : Value → Shared → Prop) (E : Value → Shared → Prop), Q (.int (g i) s.toks) { s with toks := s.toks + 1 } → wpAny (model X.prog X.w) X.A (f (.int i t)) Q E s) :
    UnR X f (rU fun i => .int (g i)) := by
  intro pins s σ H x v Q I rx h
  obtain ⟨i, rfl, q⟩ := h
  obtain ⟨t, rfl⟩ := rx
  exact rule i t s _ _ ⟨.int (g i), H, I.tok _, ⟨_, rfl⟩, q⟩
theorem un_neg : UnR X (unaryOp .USub) (rU fun i => .int (-i)) := unI fun _ _ _ _ _ q => neg_int q

/-! ### bools among ints: n += (a < b) -/
end

/-! ### comparisons -/
/-- the scalars that == tells apart as data does -/
def scal : V → V → Bool
  | .non, .non => true | .non, .int _ => true | .int _, .non => true | .non, .bl _ => true | .bl _, .non => true | .non, .str _ => true | .str _, .non => true
  | .int _, .int _ => true | .bl _, .bl _ => true | .str _, .str _ => true | .byt _, .byt _ => true
  | .int _, .str _ => true | .str _, .int _ => true | .bl _, .str _ => true | .str _, .bl _ => true
  | _, _ => false
def rEq : R2 := fun x y H Q => scal x y = true ∧ Q (.bl (decide (x = y))) H
def rNe : R2 := fun x y H Q => scal x y = true ∧ Q (.bl (!decide (x = y))) H

theorem dec_int {i j : Int} : decide (V.int i = V.int j) = (i == j) := by
  rw [Bool.eq_iff_iff]
  simp
theorem dec_bl {i j : Bool} : decide (V.bl i = V.bl j) = (i == j) := by
  rw [Bool.eq_iff_iff]
  simp
theorem dec_str {i j : Str} : decide (V.str i = V.str j) = (i == j) := by
  rw [Bool.eq_iff_iff]
  simp
theorem dec_byt {i j : Array UInt8} : decide (V.byt i = V.byt j) = (i.toList == j.toList) := by
  rw [Bool.eq_iff_iff]
  cases i
  cases j
  simp

section
variable {X : Cx} {a b c : Expr} {ta tb tc : TE} {pos : Pos}
theorem fin_bl {pins : List (Addr × Obj)} {σ : St} {H : Hp} {s : Shared} {Q : VK} {k k' : Bool} (I : Inv X pins σ H s) (q : Q (.bl k) H) (e : k = k') : EP X pins σ Q (.bool k') s := by
  subst e
  exact ⟨.bl k, H, I, rfl, q⟩
theorem op_eq : OpR X (compareOp .Eq) rEq := by
  intro pins s σ H x y v u Q I rx ry h
  obtain ⟨hs, q⟩ := h
  cases x with
  | non =>
    cases rx
    cases y with
    | non => cases ry; exact PySem.EqNone.eq_none_none (fin_bl I q (by simp))
    | bl j => cases ry; exact PySem.EqNone.eq_none_bool (fin_bl I q (by simp))
    | int j => obtain ⟨t', rfl⟩ := ry; exact PySem.EqNone.eq_none_int (fin_bl I q (by simp))
    | str j => obtain ⟨t', rfl⟩ := ry; exact PySem.EqNone.eq_none_str (fin_bl I q (by simp))
    | _ => exact absurd (show false = true from hs) Bool.false_ne_true
  | bl i =>
    cases rx
    cases y with
    | non => cases ry; exact PySem.EqNone.eq_bool_none (fin_bl I q (by simp))
    | bl j => cases ry; exact eq_bool (fin_bl I q dec_bl)
    | str j => obtain ⟨t', rfl⟩ := ry; exact PySem.EqMixed.eq_bool_str (fin_bl I q (by simp))
    | _ => exact absurd (show false = true from hs) Bool.false_ne_true
  | int i =>
    obtain ⟨t, rfl⟩ := rx
    cases y with
    | non => cases ry; exact PySem.EqNone.eq_int_none (fin_bl I q (by simp))
    | int j => obtain ⟨t', rfl⟩ := ry; exact eq_int (fin_bl I q dec_int)
    | str j => obtain ⟨t', rfl⟩ := ry; exact PySem.EqMixed.eq_int_str (fin_bl I q (by simp))
    | _ => exact absurd (show false = true from hs) Bool.false_ne_true
  | str i =>
    obtain ⟨t, rfl⟩ := rx
    cases y with
    | non => cases ry; exact PySem.EqNone.eq_str_none (fin_bl I q (by simp))
    | bl j => cases ry; exact PySem.EqMixed.eq_str_bool (fin_bl I q (by simp))
    | int j => obtain ⟨t', rfl⟩ := ry; exact PySem.EqMixed.eq_str_int (fin_bl I q (by simp))
    | str j => obtain ⟨t', rfl⟩ := ry; exact eq_str (fin_bl I q dec_str)
    | _ => exact absurd (show false = true from hs) Bool.false_ne_true
  | byt i =>
    obtain ⟨t, rfl⟩ := rx
    cases y with
    | byt j => obtain ⟨t', rfl⟩ := ry; exact PySem.W.eq_bytes (fin_bl I q dec_byt)
    | _ => exact absurd (show false = true from hs) Bool.false_ne_true
  | _ => cases y <;> exact absurd (show false = true from hs) Bool.false_ne_true
theorem op_ne : OpR X (compareOp .NotEq) rNe := by
  intro pins s σ H x y v u Q I rx ry h
  obtain ⟨hs, q⟩ := h
  cases x with
  | non =>
    cases rx
    cases y with
    | non => cases ry; exact PySem.EqNone.ne_none_none (fin_bl I q (by simp))
    | bl j => cases ry; exact PySem.EqNone.ne_none_bool (fin_bl I q (by simp))
    | int j => obtain ⟨t', rfl⟩ := ry; exact PySem.EqNone.ne_none_int (fin_bl I q (by simp))
    | str j => obtain ⟨t', rfl⟩ := ry; exact PySem.EqNone.ne_none_str (fin_bl I q (by simp))
    | _ => exact absurd (show false = true from hs) Bool.false_ne_true
  | bl i =>
    cases rx
    cases y with
    | non => cases ry; exact PySem.EqNone.ne_bool_none (fin_bl I q (by simp))
    | bl j => cases ry; exact ne_bool (fin_bl I q (congrArg not dec_bl))
    | str j => obtain ⟨t', rfl⟩ := ry; exact PySem.EqMixed.ne_bool_str (fin_bl I q (by simp))
    | _ => exact absurd (show false = true from hs) Bool.false_ne_true
  | int i =>
    obtain ⟨t, rfl⟩ := rx
    cases y with
    | non => cases ry; exact PySem.EqNone.ne_int_none (fin_bl I q (by simp))
    | int j => obtain ⟨t', rfl⟩ := ry; exact ne_int (fin_bl I q (congrArg not dec_int))
    | str j => obtain ⟨t', rfl⟩ := ry; exact PySem.EqMixed.ne_int_str (fin_bl I q (by simp))
    | _ => exact absurd (show false = true from hs) Bool.false_ne_true
  | str i =>
    obtain ⟨t, rfl⟩ := rx
    cases y with
    | non => cases ry; exact PySem.EqNone.ne_str_none (fin_bl I q (by simp))
    | bl j => cases ry; exact PySem.EqMixed.ne_str_bool (fin_bl I q (by simp))
    | int j => obtain ⟨t', rfl⟩ := ry; exact PySem.EqMixed.ne_str_int (fin_bl I q (by simp))
    | str j => obtain ⟨t', rfl⟩ := ry; exact ne_str (fin_bl I q (congrArg not dec_str))
    | _ => exact absurd (show false = true from hs) Bool.false_ne_true
  | byt i =>
    obtain ⟨t, rfl⟩ := rx
    cases y with
    | byt j => obtain ⟨t', rfl⟩ := ry; exact PySem.W.ne_bytes (fin_bl I q (congrArg not dec_byt))
    | _ => exact absurd (show false = true from hs) Bool.false_ne_true
  | _ => cases y <;> exact absurd (show false = true from hs) Bool.false_ne_true

theorem op_lt : OpR X (compareOp .Lt) (rI0 fun i j => .bl (decide (i < j))) := opB0 fun _ _ _ _ _ _ _ q => lt_int q
theorem op_le : OpR X (compareOp .LtE) (rI0 fun i j => .bl (decide (i ≤ j))) := opB0 fun _ _ _ _ _ _ _ q => le_int q
theorem op_gt : OpR X (compareOp .Gt) (rI0 fun i j => .bl (decide (j < i))) := opB0 fun _ _ _ _ _ _ _ q => gt_int q




theorem nomark (b : Expr) {op : CmpOp} (h : op ≠ .In := by decide) (h2 : op ≠ .NotIn := by decide) : behindInMarks op b = false := by
  have e1 : (op == CmpOp.In) = false := by cases op <;> first | rfl | exact absurd rfl h
  have e2 : (op == CmpOp.NotIn) = false := by cases op <;> first | rfl | exact absurd rfl h2
  cases b <;> simp [behindInMarks, e1, e2]
/-- a comparison as a value; hm: nomark b, or (for in, not in) by with_unfolding_all rfl -/
theorem pe_cmpR {op : CmpOp} {r : R2} (ho : OpR X (compareOp op) r) (ha : PE X a ta) (hb : PE X b tb) (hm : behindInMarks op b = false) : PE X (.Compare a [op] [b] pos) (tOp r ta tb) := by
  intro pins s σ H Q I h
  exact wpAny_Compare1 (binT ha hb I h fun v u s2 x y H2 I2 rx ry q => ho pins s2 σ H2 x y v u Q I2 rx ry q) hm
/-- a reading of a value as a test -/
def tTest (t : TE) : TT := fun σ H Q => t σ H fun x H' => ∃ k, x = .bl k ∧ Q k H'
theorem pt_cmpR {op : CmpOp} {r : R2} (ho : OpR X (compareOp op) r) (ha : PE X a ta) (hb : PE X b tb) (hm : behindInMarks op b = false) : PT X (.Compare a [op] [b] pos) (tTest (tOp r ta tb)) := by
  intro pins s σ H Q I h
  refine wpAny_isTrue_Compare1 (thn (ha pins s σ H _ I h) fun v s1 ⟨x, H1, I1, r1, q1⟩ => thn (hb pins s1 σ H1 _ I1 q1) fun u s2 ⟨y, H2, I2, r2, q2⟩ =>
    thn (ho pins s2 σ H2 x y v u _ I2 r1 r2 q2) fun c s3 ⟨z, H3, I3, r3, k, e, q3⟩ => ?_) hm
  subst e
  cases r3
  exact wpAny_truthy_bool ⟨H3, I3, q3⟩

/-! ### truth -/
theorem line63 : (sizeLine : Nat) < 2 ^ 63 := by rw [sizeLine_eq]; decide

/-! ### strs and bytes -/


/-! ### scalar builtins, by CallR -/
theorem vals1 {x : V} {us : List Value} (r : Vals [x] us) : ∃ u, us = [u] ∧ RelV x u := by
  cases r with
  | cons r1 r2 => cases r2; exact ⟨_, rfl, r1⟩
end
end L2

namespace L2
open PySem PySem.Spec PyProof.Rows

/-! ### an instance, its attributes a map -/
structure ObjM (h : Heap) (x dx C : Addr) (mA : Str → Option Value) : Prop where
  obj : h.get? x = some (PySem.W.instObj C dx)
  ns : h.Ns1 dx mA
  ne : dx ≠ x

theorem lookIn_ns {h : Heap} {dx : Addr} {mA : Str → Option Value} (n : h.Ns1 dx mA) : ∃ od, h.get? dx = some od ∧ ∀ name, PySem.W.lookIn name od = some (mA name) := by
  obtain ⟨o, es, ep, ho, hd, hk, _, hm⟩ := n
  refine ⟨o, ho, fun name => ?_⟩
  have e := hm name
  unfold nsFind findBy at e
  rw [← Array.find?_toList] at e
  unfold PySem.W.lookIn
  rw [hd]
  dsimp only
  split
  · rename_i y q
    rw [q] at e
    exact congrArg some e
  · rename_i q
    rw [q] at e
    have a : es.toList.any (·.refKey) = false := by
      rw [List.any_eq_false]
      intro y hy
      obtain ⟨z, t, hkey⟩ := hk y (Array.mem_toList_iff.mp hy)
      simp [DictEntry.refKey, hkey]
    have a' : ¬ es.toList.any (·.refKey) = true := by rw [a]; exact Bool.false_ne_true
    rw [if_neg a']
    exact congrArg some e

theorem ObjM.look {h : Heap} {x dx C : Addr} {mA : Str → Option Value} (I : ObjM h x dx C mA) : ∃ od, PySem.W.InstAt h x (PySem.W.instObj C dx) C (some od) ∧ ∀ name, PySem.W.lookIn name od = some (mA name) :=
  let ⟨od, ho, hl⟩ := lookIn_ns I.ns
  ⟨od, ⟨I.obj, rfl, rfl, ho⟩, hl⟩

section
variable {prog : Program} {w : World} {A : Around} {E : Value → Shared → Prop} {s : Shared} {K : PySem.W.Frag} {x dx C f : Addr} {mA : Str → Option Value} {name : Str} {v : Value}

theorem get_map {expr : Bool} {Q : Value → Shared → Prop} (X : K.In s.heap) (I : ObjM s.heap x dx C mA) (hg : PySem.W.plainGet K C name = true) (hh : PySem.W.hasDictIn K C = true)
    (ha : PySem.W.findIn K (.ref C) name = some none) (hv : mA name = some v) (hv' : PySem.W.handedIn v = true) (h : Q v { s with toks := s.toks + 1 }) :
    wpAny (model prog w) A (getAttr (.ref x) name expr) Q E s := by
  obtain ⟨od, J, hl⟩ := I.look
  exact PySem.W.get_value X J (PySem.W.plainGet_of hg).1 (PySem.W.findObj_own hh ha rfl (by rw [hl, hv])) hv' h



theorem set_map {ns : List Str} {Q : Unit → Shared → Prop} (X : K.In s.heap) (I : ObjM s.heap x dx C mA)
    (hs : PySem.W.findIn K (.ref C) "__setattr__" = some (some (.builtin "object.__setattr__"))) (hp : PySem.W.plainOver K C = true) (ht : PySem.W.takerIn K C name = some none) (hh : PySem.W.hasDictIn K C = true)
    (hw : PySem.Within mA ns) (hsz : ns.length ≤ sizeLine)
    (h : ∀ h', ObjM h' x dx C (fun y => if y = name then some v else mA y) → Heap.SameBut dx s.heap h' → Q () { s with heap := h', toks := s.toks + 2 }) :
    wpAny (model prog w) A (setAttr (.ref x) name v) Q E s := by
  obtain ⟨od, J, hl⟩ := I.look
  refine PySem.W.set_plain X J hs (PySem.W.osa_open (s := { s with toks := s.toks + 1 }) (r := none) X J hp ht fun b => ?_)
  obtain ⟨cd, hc, hd'⟩ := PySem.W.any_some hh
  have hx : s.heap.get? x = some ⟨.ref C, some dx, .plain, #[]⟩ := I.obj
  refine wpAny_bind (wpAny_pure (wpAny_bind (wpAny_bind (wpAny_loadPart hx (wpAny_bind (PySem.W.Looks.here (s := { s with toks := s.toks + 1 }) (PySem.W.looks_clsIn X hc) ?_))))))
  rw [hd']
  refine wpAny_pure (a := some dx) (wpAny_bind (wpAny_pure (wpAny_bind ?_)))
  refine wpAny_nsSet1 (s := { s with toks := s.toks + 1 }) I.ns fun h' hn2 hs2 => ?_
  obtain ⟨oD, esD, epD, hoD, hdD, hcD⟩ := hn2.count (PySem.Within.cons name v hw)
  refine wpAny_bind (wpAny_lookBehind hoD (by rw [hdD]; exact pastItsLine_dict (Nat.le_trans hcD (by rw [List.length_cons]; omega))) ?_)
  exact wpAny_pure (h _ ⟨(hs2.2 _ (Ne.symm I.ne)).trans I.obj, hn2, I.ne⟩ hs2)

/-- C(..): the dict at the heap's end, the instance behind it; then its __init__ -/
theorem make_map {R : Result → Shared → Prop} {vs : List Value} {kw : List (Str × Value)} (X : K.In s.heap) (hm : PySem.W.makesIn K C = true)
    (hi : PySem.W.findIn K (.ref C) "__init__" = some (some (.ref f))) (hf : PySem.W.typeIn K (.ref f) = some (.type "function"))
    (h : codeAny (model prog w) (A.under (.builtin "type.__call__" ⟨.ref C :: vs, kw⟩)) (.call (.ref f) ⟨.ref (s.heap.objs.size + 1) :: vs, kw⟩) (PySem.W.InitBack (s.heap.objs.size + 1) R)
      { s with heap := (s.heap.push PySem.W.emptyDict).push (PySem.W.instObj C s.heap.objs.size) }) :
    codeAny (model prog w) A (.call (.ref C) ⟨vs, kw⟩) R s := by
  obtain ⟨hh, g, d, t, os⟩ := s
  exact PySem.W.make_core (PySem.W.makes_of X hm) (PySem.W.looks_findIn X hi) (fun self => PySem.W.bind_fn X self hf) (.inl rfl) h
end

/-! ### the attributes as a list of pairs -/
def putF (f : Str) (v : V) : List (Str × V) → List (Str × V)
  | [] => [(f, v)]
  | (g, x) :: r => if g = f then (g, v) :: r else (g, x) :: putF f v r
theorem lookup_putF (f g : Str) (v : V) : ∀ fs : List (Str × V), (putF f v fs).lookup g = if g = f then some v else fs.lookup g
  | [] => by
    show List.lookup g [(f, v)] = _
    by_cases h : g = f
    · have hb : (g == f) = true := beq_iff_eq.mpr h
      simp only [List.lookup, hb, if_pos h]
    · have hb : (g == f) = false := beq_eq_false_iff_ne.mpr h
      simp only [List.lookup, hb, if_neg h]
  | (k, x) :: r => by
    have ih := lookup_putF f g v r
    rw [show putF f v ((k, x) :: r) = (if k = f then (k, v) :: r else (k, x) :: putF f v r) from rfl]
    by_cases hk : k = f
    · rw [if_pos hk]
      by_cases h : g = k
      · have hb : (g == k) = true := beq_iff_eq.mpr h
        simp only [List.lookup, hb, if_pos (h.trans hk)]
      · have hb : (g == k) = false := beq_eq_false_iff_ne.mpr h
        simp only [List.lookup, hb, if_neg (fun e : g = f => h (e.trans hk.symm))]
    · rw [if_neg hk]
      by_cases h : g = k
      · have hb : (g == k) = true := beq_iff_eq.mpr h
        simp only [List.lookup, hb, if_neg (fun e : g = f => hk (h.symm.trans e))]
      · have hb : (g == k) = false := beq_eq_false_iff_ne.mpr h
        simp only [List.lookup, hb]
        exact ih
theorem keys_putF (f : Str) (v : V) : ∀ fs : List (Str × V), f ∈ (putF f v fs).map (·.1) ∧ ∀ g, g ∈ fs.map (·.1) → g ∈ (putF f v fs).map (·.1)
  | [] => ⟨by simp [putF], fun g h => by simp at h⟩
  | (k, x) :: r => by
    obtain ⟨i1, i2⟩ := keys_putF f v r
    rw [show putF f v ((k, x) :: r) = (if k = f then (k, v) :: r else (k, x) :: putF f v r) from rfl]
    by_cases hk : k = f
    · rw [if_pos hk]
      subst hk
      exact ⟨by simp, fun g h => by simpa using h⟩
    · rw [if_neg hk]
      refine ⟨?_, fun g h => ?_⟩
      · rw [List.map_cons]
        exact List.mem_cons_of_mem _ i1
      · rw [List.map_cons] at h ⊢
        rcases List.mem_cons.mp h with e | e
        · exact List.mem_cons.mpr (.inl e)
        · exact List.mem_cons_of_mem _ (i2 g e)
theorem length_putF (f : Str) (v : V) : ∀ fs : List (Str × V), (putF f v fs).length ≤ fs.length + 1
  | [] => by simp [putF]
  | (k, x) :: r => by
    have ih := length_putF f v r
    rw [show putF f v ((k, x) :: r) = (if k = f then (k, v) :: r else (k, x) :: putF f v r) from rfl]
    by_cases hk : k = f
    · rw [if_pos hk, List.length_cons, List.length_cons]; omega
    · rw [if_neg hk, List.length_cons, List.length_cons]; omega

theorem RelO.some_of {v : V} {o : Option Value} (r : RelO (some v) o) : ∃ u, o = some u ∧ RelV v u := by
  cases o with
  | none => exact (show False from r).elim
  | some u => exact ⟨u, rfl, r⟩
theorem handed_of {v : V} {u : Value} (r : RelV v u) : PySem.W.handedIn u = true := by
  cases v with
  | non => cases (show u = Value.none from r); rfl
  | bl b => cases (show u = Value.bool b from r); rfl
  | int i => obtain ⟨t, e⟩ := (show ∃ t, u = Value.int i t from r); cases e; rfl
  | str x => obtain ⟨t, e⟩ := (show ∃ t, u = Value.str x t from r); cases e; rfl
  | byt b => obtain ⟨t, e⟩ := (show ∃ t, u = Value.bytes b t from r); cases e; rfl
  | flt b => obtain ⟨t, e⟩ := (show ∃ t, u = Value.float b t from r); cases e; rfl
  | ref a => cases (show u = Value.ref a from r); rfl
  | ty n => cases (show u = Value.type n from r); rfl

section
variable {P : Program} {w : World} {H H' : Hp} {h h' : Heap} {a C dx : Addr} {fs fs' : List (Str × V)}
theorem ins_get (hok : HOk P w H h) (e : H a = some (.ins C dx fs)) : ∃ mA, ObjM h a dx C mA ∧ (∀ f, RelO (fs.lookup f) (mA f)) ∧ PySem.Within mA (fs.map (·.1)) ∧ fs.length ≤ 1000 ∧ H dx = some (.own a) := by
  obtain ⟨d, z, ne, ob, mA, n, r, q⟩ := (show ObjOk P w H h a (.ins C dx fs) from hok a _ e)
  exact ⟨mA, ⟨ob, n, ne⟩, r, q, z, d⟩
end

/-! ### what of the text a class must have -/
structure Cls (K : PySem.W.Frag) (C : Addr) : Prop where
  pg : PySem.W.plainGet K C Str.empty = true
  hd : PySem.W.hasDictIn K C = true
  po : PySem.W.plainOver K C = true
  sa : PySem.W.findIn K (.ref C) "__setattr__" = some (some (.builtin "object.__setattr__"))
theorem Cls.get {K : PySem.W.Frag} {C : Addr} (c : Cls K C) (f : Str) : PySem.W.plainGet K C f = true := c.pg
/-- no class of it has the name -/
def NoAttr (K : PySem.W.Frag) (C : Addr) (f : Str) : Prop := PySem.W.findIn K (.ref C) f = some none
theorem NoAttr.taker {K : PySem.W.Frag} {C : Addr} {f : Str} (n : NoAttr K C f) : PySem.W.takerIn K C f = some none := by
  unfold PySem.W.takerIn
  rw [show PySem.W.findIn K (.ref C) f = some none from n]
  rfl

section
variable {X : Cx} {pins : List (Addr × Obj)} {σ : St} {H : Hp} {s : Shared} {a C dx : Addr} {fs : List (Str × V)} {f : Str} {v : V} {A : Around} {E : Value → Shared → Prop}

theorem getattr_ok {b : Bool} {Q : Value → Shared → Prop} (I : Inv X pins σ H s) (e : H a = some (.ins C dx fs)) (c : Cls X.K C) (n : NoAttr X.K C f) (l : fs.lookup f = some v)
    (h : ∀ u s', Inv X pins σ H s' → RelV v u → Q u s') : wpAny (model X.prog X.w) A (getAttr (.ref a) f b) Q E s := by
  obtain ⟨mA, O, r, _, _, _⟩ := ins_get I.hok e
  obtain ⟨u, hu, ru⟩ := RelO.some_of (v := v) (o := mA f) (by rw [← l]; exact r f)
  exact get_map I.kIn O (c.get f) c.hd n hu (handed_of ru) (h u _ (I.tok _) ru)



theorem setattr_ok {y : V} {u : Value} {Q : Unit → Shared → Prop} (I : Inv X pins σ H s) (e : H a = some (.ins C dx fs)) (c : Cls X.K C) (n : NoAttr X.K C f) (hl : fs.length < 1000) (ry : RelV y u)
    (h : ∀ s', Inv X pins σ (upd H a (.ins C dx (putF f y fs))) s' → Q () s') : wpAny (model X.prog X.w) A (setAttr (.ref a) f u) Q E s := by
  obtain ⟨mA, O, r, wi, _, ho⟩ := ins_get I.hok e
  have hz : (fs.map (·.1)).length ≤ sizeLine := by rw [List.length_map, sizeLine_eq]; omega
  refine set_map I.kIn O c.sa c.po n.taker c.hd wi hz fun h' O' sb => h _ ?_
  have hd : ∃ o, h'.get? dx = some o := let ⟨o, _, _, e', _⟩ := O'.ns; ⟨o, e'⟩
  refine I.write (x := a) (e := dx) (by rw [e]; exact True.intro) (.inr ho) (fun b q hb z => (sb.2 b hb).trans z) hd ?_
  refine ⟨by rw [upd_ne O.ne]; exact ho, ?_, O.ne, O'.obj, _, O'.ns, fun g => ?_, fun g hg => ?_⟩
  · have := length_putF f y fs; omega
  · show RelO ((putF f y fs).lookup g) (if g = f then some u else mA g)
    rw [lookup_putF]
    by_cases q : g = f
    · rw [if_pos q, if_pos q]; exact ry
    · rw [if_neg q, if_neg q]; exact r g
  · by_cases q : g = f
    · rw [q]; exact (keys_putF f y fs).1
    · refine (keys_putF f y fs).2 g (wi g fun z => hg ?_)
      show (if g = f then some u else mA g) = none
      rw [if_neg q]; exact z

/-- a new instance, tracked, without attributes -/
theorem Inv.made (I : Inv X pins σ H s) : Inv X pins σ (upd (upd H s.heap.objs.size (.own (s.heap.objs.size + 1))) (s.heap.objs.size + 1) (.ins C s.heap.objs.size []))
    { s with heap := (s.heap.push PySem.W.emptyDict).push (PySem.W.instObj C s.heap.objs.size) } := by
  have e1 : (s.heap.push PySem.W.emptyDict).get? s.heap.objs.size = some PySem.W.emptyDict := Heap.get?_push_size s.heap rfl
  have e2 : ((s.heap.push PySem.W.emptyDict).push (PySem.W.instObj C s.heap.objs.size)).get? (s.heap.objs.size + 1) = some (PySem.W.instObj C s.heap.objs.size) := by
    have := Heap.get?_push_size (s.heap.push PySem.W.emptyDict) (o := PySem.W.instObj C s.heap.objs.size) rfl
    rwa [Heap.size_push] at this
  have e3 : (s.heap.push PySem.W.emptyDict).Ns s.heap.objs.size (fun _ => none) := ⟨PySem.W.emptyDict, #[], _, e1, rfl, (fun e he => absurd he (by simp)), fun _ => rfl⟩
  have I1 := I.laid (a := s.heap.objs.size) (o := .own (s.heap.objs.size + 1)) (h' := s.heap.push PySem.W.emptyDict) (t' := s.toks) (fun b u q => Heap.get?_push_of_some _ q) (Nat.le_refl _) ⟨_, e1⟩
  refine I1.laid (a := s.heap.objs.size + 1) (o := .ins C s.heap.objs.size []) (t' := s.toks) (fun b u q => Heap.get?_push_of_some _ q) (Nat.le_of_eq (Heap.size_push _ _)) ?_
  have ne : s.heap.objs.size ≠ s.heap.objs.size + 1 := Nat.ne_of_lt (Nat.lt_succ_self _)
  refine ⟨by rw [upd_ne ne, upd_same], Nat.zero_le _, ne, e2, fun _ => none, (Heap.Ns1.of_empty e3).at fun o q => Heap.get?_push_of_some _ q, fun _ => True.intro, fun y hy => absurd rfl hy⟩

/-- e.f where nothing but the object is asked: through attributeBase (super) and the last hold -/
theorem attr_of {prog : Program} {w : World} {env : Env} {e : Expr} {f : Str} {pos : Pos} {s : Shared} {Q : Value → Shared → Prop} (hb : attributeBase e f env (eval e env) = eval e env)
    (h : wpAny (model prog w) A (eval e env) (fun o s₁ => wpAny (model prog w) A (getAttr o f true) Q E s₁) E s) : wpAny (model prog w) A (eval (.Attribute e f pos) env) Q E s :=
  Attribute_any_ h (by rw [arm_eval_Attribute, hb])
end

/-! ### readings and rules -/
/-- e.f, an attribute of the instance -/
def tFld (K : PySem.W.Frag) (ta : TE) (f : Str) : TE := fun σ H Q => ta σ H fun x H1 => ∃ a C dx fs v, x = .ref a ∧ H1 a = some (.ins C dx fs) ∧ Cls K C ∧ NoAttr K C f ∧ fs.lookup f = some v ∧ Q v H1
/-- e.f = value -/
def sFld (K : PySem.W.Frag) (ta tv : TE) (f : Str) : TS := fun D σ H => tv σ H fun y H1 => ta σ H1 fun x H2 => ∃ a C dx fs, x = .ref a ∧ H2 a = some (.ins C dx fs) ∧ Cls K C ∧ NoAttr K C f ∧ fs.length < 1000 ∧
  D.nx σ (upd H2 a (.ins C dx (putF f y fs)))
/-- an augmented operator on two values -/
def InOp (X : Cx) (op : Operator) (rd : V → V → Hp → VK → Prop) : Prop :=
  ∀ (pins : List (Addr × Obj)) (s : Shared) (σ : St) (H : Hp) (x y : V) (u v : Value) (Q : VK), Inv X pins σ H s → RelV x u → RelV y v → rd x y H Q → wpAny (model X.prog X.w) X.A (inplaceOp op u v) (EP X pins σ Q) X.xe s
/-- e.f op= value -/
def sFldAug (K : PySem.W.Frag) (ta tv : TE) (rd : V → V → Hp → VK → Prop) (f : Str) : TS := fun D σ H => ta σ H fun x H1 => ∃ a C dx fs v, x = .ref a ∧ H1 a = some (.ins C dx fs) ∧ Cls K C ∧ NoAttr K C f ∧ fs.lookup f = some v ∧
  tv σ H1 fun y H2 => rd v y H2 fun z H3 => ∃ dx' fs', H3 a = some (.ins C dx' fs') ∧ fs'.length < 1000 ∧ D.nx σ (upd H3 a (.ins C dx' (putF f z fs')))

section
variable {X : Cx} {o e value : Expr} {f : Str} {pos pos' tpos : Pos} {ta tv : TE}
theorem pe_fld (he : PE X e ta) (hb : attributeBase e f X.env (eval e X.env) = eval e X.env) : PE X (.Attribute e f pos) (tFld X.K ta f) := by
  intro pins s σ H Q I h
  refine attr_of hb (thn (he pins s σ H _ I h) fun u s1 ⟨x, H1, I1, rx, a, C, dx, fs, v, ex, ea, c, n, l, q⟩ => ?_)
  subst ex
  obtain rfl : u = Value.ref a := rx
  exact getattr_ok I1 ea c n l fun u' s2 I2 ru => ⟨v, H1, I2, ru, q⟩
theorem ps_fld (ha : PE X o ta) (hv : PE X value tv) (hs : swapsWith value (some (.Attribute o f pos')) pos.line X.env = pure false) : PS X (.Assign [.Attribute o f pos'] value pos) (sFld X.K ta tv f) := by
  intro pins s σ H D I h
  refine plainObj_wpAny_Assign_Attribute (thn (hv pins s σ H _ I h) fun u s1 ⟨y, H1, I1, ry, q⟩ => thn (ha pins s1 σ H1 _ I1 q) fun ov s2 ⟨x, H2, I2, rx, a, C, dx, fs, ex, ea, c, n, l, q2⟩ => ?_) hs
  subst ex
  obtain rfl : ov = Value.ref a := rx
  exact setattr_ok I2 ea c n l ry fun s3 I3 => ⟨σ, _, I3, q2⟩
theorem ps_fldaug {op : Operator} {rd : V → V → Hp → VK → Prop} (ha : PE X o ta) (hv : PE X value tv) (hop : InOp X op rd) : PS X (.AugAssign (.Attribute o f tpos) op value pos) (sFldAug X.K ta tv rd f) := by
  intro pins s σ H D I h
  refine wpAny_AugAssign_AttributeAny (thn (ha pins s σ H _ I h) fun ov s1 ⟨x, H1, I1, rx, a, C, dx, fs, v, ex, ea, c, n, l, q⟩ => ?_)
  subst ex
  obtain rfl : ov = Value.ref a := rx
  refine getattr_ok I1 ea c n l fun u s2 I2 ru => thn (hv pins s2 σ H1 _ I2 q) fun w3 s3 ⟨y, H2, I3, ry, q3⟩ => thn (hop pins s3 σ H2 v y u w3 _ I3 ru ry q3) fun w4 s4 ⟨z, H3, I4, rz, dx', fs', ea', l', q4⟩ => ?_
  exact setattr_ok I4 ea' c n l' rz fun s5 I5 => ⟨σ, _, I5, q4⟩
def rAdd : V → V → Hp → VK → Prop := fun x y H Q => ∃ i j, x = .int i ∧ y = .int j ∧ Q (.int (i + j)) H
theorem in_add : InOp X .Add rAdd := by
  rintro pins s σ H x y u v Q I rx ry ⟨i, j, rfl, rfl, q⟩
  obtain ⟨t, rfl⟩ := (show ∃ t, u = Value.int i t from rx)
  obtain ⟨t', rfl⟩ := (show ∃ t', v = Value.int j t' from ry)
  exact PyProof.Rows.iadd_int ⟨.int (i + j), H, I.tok _, ⟨_, rfl⟩, q⟩

end

/-! ### isinstance -/
section
variable {X : Cx} {pins : List (Addr × Obj)} {σ : St} {H : Hp} {s : Shared} {A : Around} {E : Value → Shared → Prop} {Q : Value → Shared → Prop} {c : Value} {b : Bool}
end
end L2

namespace L2
open PySem PySem.Spec PyProof.Rows

/-! ### room -/
structure Room (k : Nat) (A : Around) : Prop where
  hd : A.handled = none
  dp : A.depth + 3 * k + 5 < recursionLimit
  un : A.units + 16 * k + 200 < cLine
theorem Room.mono {j k : Nat} {A : Around} (r : Room k A) (h : j ≤ k) : Room j A := ⟨r.hd, by have := r.dp; omega, by have := r.un; omega⟩
theorem Room.deeper {k : Nat} {A : Around} (r : Room (k + 1) A) (env : Env) : Room k (A.deeper env) :=
  ⟨r.hd, by have := r.dp; show A.depth + 1 + 3 * k + 5 < _; omega, by have := r.un; show A.units + 3 + 16 * k + 200 < _; omega⟩
theorem Room.in1 {k : Nat} {A : Around} (r : Room (k + 1) A) : Room k A.in1 :=
  ⟨r.hd, by have := r.dp; show A.depth + 3 * k + 5 < _; omega, by have := r.un; show A.units + 1 + 16 * k + 200 < _; omega⟩
theorem make_depth {A : Around} {C : Addr} {us : List Value} {kw : List (Str × Value)} : (A.under (.builtin "type.__call__" ⟨.ref C :: us, kw⟩)).depth = A.depth + 1 := by
  first | rfl | simp [Around.under, Code.weight, Code.isCreation, Code.isGuard, Code.isCaller, Code.frames, Code.isFrame, guardIds]
theorem make_units {A : Around} {C : Addr} {us : List Value} {kw : List (Str × Value)} : (A.under (.builtin "type.__call__" ⟨.ref C :: us, kw⟩)).units = A.units + 1 := by
  first | rfl | simp [Around.under, Code.cUnits, Code.frames, Code.isFrame]
theorem Room.make {k : Nat} {A : Around} (r : Room (k + 1) A) (C : Addr) (us : List Value) (kw : List (Str × Value)) : Room k (A.under (.builtin "type.__call__" ⟨.ref C :: us, kw⟩)) :=
  ⟨r.hd, by have := r.dp; rw [make_depth]; omega, by have := r.un; rw [make_units]; omega⟩
theorem Room.depth {k : Nat} {A : Around} (r : Room k A) : A.depth < recursionLimit := by have := r.dp; omega
theorem Room.units {k : Nat} {A : Around} (r : Room k A) : A.units + 64 < cLine := by have := r.un; omega

/-! ### argument lists and displays -/
def tNil : TA := fun _ H Q => Q [] H
def tCons (ta : TE) (tr : TA) : TA := fun σ H Q => ta σ H fun x H1 => tr σ H1 fun xs H2 => Q (x :: xs) H2
section
variable {X : Cx} {e : Expr} {es : List Expr} {te : TE} {t : TA} {pos : Pos}
theorem pa_nil : PA X [] tNil := fun _ _ _ _ H Q I h => Calls.spliced_nil ⟨[], H, I, .nil, h⟩
theorem pa_cons (ha : PE X e te) (hr : PA X es t) (hs : starEach (e :: es) X.env = (false, eval e X.env) :: starEach es X.env := by rfl) : PA X (e :: es) (tCons te t) := by
  intro pos pins s σ H Q I h
  rw [hs]
  show wpAny _ _ (spliced ((false, eval e X.env) :: backTo pos (starEach es X.env))) _ _ s
  refine Calls.spliced_cons (thn (ha pins s σ H _ I h) fun u s1 ⟨x, H1, I1, r1, q1⟩ => ?_)
  exact thn (hr pos pins s1 σ H1 _ I1 q1) fun us s2 ⟨xs, H2, I2, r2, q2⟩ => ⟨x :: xs, H2, I2, .cons r1 r2, q2⟩

/-- a tuple, a list of written items -/
def tTup (t : TA) : TE := fun σ H Q => t σ H fun xs H1 => xs.length ≤ sizeLine ∧ ∀ p, H1 p = none → Q (.ref p) (upd H1 p (.tup xs))
def tLst (t : TA) : TE := fun σ H Q => t σ H fun xs H1 => xs.length ≤ sizeLine ∧ ∀ p, H1 p = none → Q (.ref p) (upd H1 p (.lst xs))
theorem pe_tup {x1} (h : PA X es t) : PE X (.Tuple es x1 pos) (tTup t) := by
  intro pins s σ H Q I hq
  refine wpAny_Tuple_spliced (thn (h pos pins s σ H _ I hq) fun us s1 ⟨xs, H1, I1, r, z, q⟩ => ⟨by rw [← r.length]; exact z, ?_⟩)
  have hf : H1 s1.heap.objs.size = none := I1.hok.fresh (Nat.le_refl _)
  refine ⟨.ref s1.heap.objs.size, upd H1 s1.heap.objs.size (.tup xs), I1.laid (t' := s1.toks) (fun b u e => Heap.get?_push_of_some _ e) (Nat.le_refl _) ?_, rfl, q _ hf⟩
  exact ⟨z, us, r, ⟨_, Heap.get?_push_size _ rfl, rfl, _, rfl⟩⟩
theorem pe_lst (h : PA X es t) : PE X (.List es pos) (tLst t) := by
  intro pins s σ H Q I hq
  refine wpAny_List_spliced (thn (h pos pins s σ H _ I hq) fun us s1 ⟨xs, H1, I1, r, z, q⟩ => ⟨by rw [← r.length]; exact z, ?_⟩)
  have hf : H1 s1.heap.objs.size = none := I1.hok.fresh (Nat.le_refl _)
  refine ⟨.ref s1.heap.objs.size, upd H1 s1.heap.objs.size (.lst xs), I1.laid (t' := s1.toks) (fun b u e => Heap.get?_push_of_some _ e) (Nat.le_refl _) ?_, rfl, q _ hf⟩
  exact ⟨z, us, 0, r, Heap.get?_push_size _ rfl⟩
end

/-! ### what a def promises -/
/-- a def's promise: the bound arguments in the parameters' order, the heap, the wanted end, the wanted exception -/
abbrev Sp := List V → Hp → VK → XK → Prop
/-- how an exception lies behind a call (file 08 gives it): the callers' frames, abstract heap and state ahead of the call, the wish, the exception, the state -/
abbrev CXT := List Env → Hp → Shared → XK → Value → Shared → Prop

/-- the state at a call -/
structure Env0 (P : Program) (w : World) (K : PySem.W.Frag) (mg : Str → Option Value) (base : Heap) (A : Around) (outer : List Env) (s : Shared) (H : Hp) : Prop where
  frames : A.frames = some outer
  mod : Mod K mg base
  bs : ∀ b o, base.get? b = some o → s.heap.get? b = some o ∧ H b = none
  bsz : base.objs.size ≤ s.heap.objs.size
  funs : s.heap.FunFrames base outer
  frf : ∀ b ∈ frs outer, H b = none
  hok : HOk P w H s.heap
  bare : AllBare s.gens
/-- a call's end -/
def CE (outer : List Env) (P : Program) (w : World) (H : Hp) (s : Shared) (Q : VK) (u : Value) (s' : Shared) : Prop :=
  ∃ v H', s'.os = s.os ∧ AllBare s'.gens ∧ Un (frs outer) [] H H' s.heap s'.heap ∧ HOk P w H' s'.heap ∧ RelV v u ∧ Q v H'
def CR (CX : CXT) (outer : List Env) (P : Program) (w : World) (H : Hp) (s : Shared) (Q : VK) (E : XK) (r : Result) (s' : Shared) : Prop :=
  match r with
  | .ok (.ret u) => CE outer P w H s Q u s'
  | .ok _ => False
  | .error e => CX outer H s E e s'
structure FnOk (P : Program) (w : World) (K : PySem.W.Frag) (mg : Str → Option Value) (base : Heap) (CX : CXT) (k : Nat) (f : Addr) (fd : FuncData) (ps : List Str) (sp : Sp) : Prop where
  len : ∀ vs H Q E, sp vs H Q E → vs.length = ps.length
  run : ∀ (A : Around) (outer : List Env) (s : Shared) (H : Hp) (args : Args) (us : List Value) (vs : List V) (Q : VK) (E : XK), Room k A → Env0 P w K mg base A outer s H → BindsTo s fd args (ps.zip us) → Vals vs us → sp vs H Q E →
    codeAny (model P w) A (.call (.ref f) args) (CR CX outer P w H s Q E) s

theorem Env0.make {P : Program} {w : World} {K : PySem.W.Frag} {mg : Str → Option Value} {base : Heap} {A : Around} {outer : List Env} {s : Shared} {H : Hp} (e : Env0 P w K mg base A outer s H) (C : Addr) (us : List Value) (kw : List (Str × Value)) :
    Env0 P w K mg base (A.under (.builtin "type.__call__" ⟨.ref C :: us, kw⟩)) outer s H := ⟨by first | exact e.frames | (simpa [Around.under, Code.envs, Code.isFrame, pushEnvs] using e.frames), e.mod, e.bs, e.bsz, e.funs, e.frf, e.hok, e.bare⟩

section
variable {X : Cx} {pins : List (Addr × Obj)} {σ : St} {H : Hp} {s s' : Shared}
/-- from a body: what a callee wants -/
theorem Inv.env0 (I : Inv X pins σ H s) : Env0 X.prog X.w X.K X.mg X.base X.A X.stack s H :=
  ⟨I.ok.frames, I.ok.mod, I.bs, Nat.le_trans I.ok.bsz I.sz, I.stack, I.stkFree, I.hok, I.bare⟩
/-- behind a call -/
theorem Inv.after {Q : VK} {u : Value} (I : Inv X pins σ H s) (h : CE X.stack X.prog X.w H s Q u s') : EP X pins σ Q u s' := by
  obtain ⟨v, H', os, bare, un, hok, r, q⟩ := h
  obtain ⟨hh, g, d, t, os'⟩ := s'
  obtain rfl : os' = s.os := os
  exact ⟨v, H', I.call (h' := hh) (g' := g) (d' := d) (t' := t) (ch := []) un hok bare (fun b z => absurd z (by simp)), r, q⟩
end

/-! ### calls -/
/-- f(..): the written arguments, then the defaults dvs; E: what is wanted of an exception -/
def tCall (sp : Sp) (dvs : List V) (E : XK) (t : TA) : TE := fun σ H Q => t σ H fun vs H1 => sp (vs ++ dvs) H1 Q E
/-- C(..): a new instance and its dict, then __init__ -/
def tMake (C : Addr) (sp : Sp) (dvs : List V) (E : XK) (t : TA) : TE := fun σ H Q => t σ H fun vs H1 => ∀ x dx, H1 x = none → H1 dx = none → dx ≠ x →
  sp (.ref x :: (vs ++ dvs)) (upd (upd H1 dx (.own x)) x (.ins C dx [])) (fun v H2 => v = .non ∧ Q (.ref x) H2) E

/-- how the parameters are bound: us the positional arguments, kw the keywords' values by name, ds the defaults that fill up -/
def Binds (K : PySem.W.Frag) (fd : FuncData) (ps : List Str) (ds : List Value) : Prop :=
  ∀ (s : Shared) (us : List Value), K.In s.heap → (us ++ ds).length = ps.length → BindsTo s fd ⟨us, []⟩ (ps.zip (us ++ ds))
/-- every parameter is given -/
theorem Binds.all {K : PySem.W.Frag} {fd : FuncData} {ps : List Str} (h : ∀ us : List Value, us.length = ps.length → bindArgs fd ⟨us, []⟩ = pure (ps.zip us)) : Binds K fd ps [] := fun s us _ hl => by
  rw [List.append_nil] at hl ⊢
  exact .of_eq (h us hl)

/-- an exception of a callee reaches what this body wants of exceptions -/
def Passes (CX : CXT) (X : Cx) (E : XK) : Prop := ∀ (pins : List (Addr × Obj)) (σ : St) (H : Hp) (s : Shared) (e : Value) (s' : Shared), Inv X pins σ H s → CX X.stack H s E e s' → X.xe e s'

section
variable {X : Cx} {CX : CXT} {k : Nat} {f C : Addr} {fd : FuncData} {ps : List Str} {sp : Sp} {dvs : List V} {ds : List Value} {E : XK} {x m : Str} {p pos apos : Pos} {e o : Expr} {es : List Expr} {ta : TE} {t : TA}

/-- the callee runs -/
theorem run_fn {pins : List (Addr × Obj)} {σ : St} {H : Hp} {s : Shared} {Q : VK} {us : List Value} {vs : List V} (F : FnOk X.prog X.w X.K X.mg X.base CX k f fd ps sp) (hr : Room k X.A) (hb : Binds X.K fd ps ds) (hd : Vals dvs ds) (hx : Passes CX X E)
    (I : Inv X pins σ H s) (r : Vals vs us) (h : sp (vs ++ dvs) H Q E) : wpAny (model X.prog X.w) X.A (call (.ref f) us) (EP X pins σ Q) X.xe s := by
  have r2 : Vals (vs ++ dvs) (us ++ ds) := r.append hd
  have hl : (us ++ ds).length = ps.length := by rw [← r2.length]; exact F.len _ _ _ _ h
  refine wpAny_call (codeAny_mono (F.run X.A X.stack s H ⟨us, []⟩ (us ++ ds) (vs ++ dvs) Q E hr I.env0 (hb s us I.kIn hl) r2 h) fun r s' hq => ?_)
  cases r with
  | error e => exact hx pins σ H s e s' I hq
  | ok fl =>
    cases fl with
    | ret u => exact I.after hq
    | next => exact False.elim hq
    | brk => exact False.elim hq
    | cont => exact False.elim hq

theorem pe_call (F : FnOk X.prog X.w X.K X.mg X.base CX k f fd ps sp) (hr : Room k X.A) (hg : Gl X x) (hm : X.mg x = some (.ref f)) (hk : PySem.W.keepIn X.K (.ref f) = true) (hb : Binds X.K fd ps ds) (hd : Vals dvs ds) (hx : Passes CX X E)
    (ha : PA X (e :: es) t) (hdb : (x == ("__debug__" : Str)) = false := by decide) (he : starEach (e :: es) X.env = (false, eval e X.env) :: starEach es X.env := by rfl) (hpl : (backTo pos (starEach es X.env)).any (·.1) = false := by rfl) :
    PE X (.Call (.Name x p) (e :: es) [] pos) (tCall sp dvs E t) := by
  intro pins s σ H Q I h
  refine wpAny_Call_Name_kw (ld_glob I hg hm ?_ hdb)
  refine PySem.W.callWith_K (h₀ := X.base) I.ok.mod.kin hk (thn (ha pos pins s σ H _ I h) fun us s1 ⟨vs, H1, I1, r, q⟩ => ⟨I1.kIn, ?_⟩) he hpl
  exact run_fn F hr hb hd hx I1 r q
theorem pe_call0 (F : FnOk X.prog X.w X.K X.mg X.base CX k f fd ps sp) (hr : Room k X.A) (hg : Gl X x) (hm : X.mg x = some (.ref f)) (hk : PySem.W.keepIn X.K (.ref f) = true) (hb : Binds X.K fd ps ds) (hd : Vals dvs ds) (hx : Passes CX X E)
    (hdb : (x == ("__debug__" : Str)) = false := by decide) : PE X (.Call (.Name x p) [] [] pos) (tCall sp dvs E tNil) := by
  intro pins s σ H Q I h
  refine wpAny_Call_Name_kw (ld_glob I hg hm ?_ hdb)
  exact PySem.W.callWith_K0 I.kIn hk (run_fn (us := []) F hr hb hd hx I .nil h)


/-- what a class must have to be made -/
structure Mk (K : PySem.W.Frag) (C f : Addr) : Prop where
  makes : PySem.W.makesIn K C = true
  init : PySem.W.findIn K (.ref C) "__init__" = some (some (.ref f))
  fn : PySem.W.isFn K (.ref f) = true
  kp : PySem.W.keepIn K (.ref C) = true

theorem run_make {pins : List (Addr × Obj)} {σ : St} {H : Hp} {s : Shared} {Q : VK} {us : List Value} {vs : List V} (M : Mk X.K C f) (F : FnOk X.prog X.w X.K X.mg X.base CX k f fd ps sp) (hr : Room (k + 1) X.A) (hb : Binds X.K fd ps ds) (hd : Vals dvs ds)
    (hx : Passes CX X E) (I : Inv X pins σ H s) (r : Vals vs us)
    (h : ∀ x dx, H x = none → H dx = none → dx ≠ x → sp (.ref x :: (vs ++ dvs)) (upd (upd H dx (.own x)) x (.ins C dx [])) (fun v H2 => v = .non ∧ Q (.ref x) H2) E) :
    wpAny (model X.prog X.w) X.A (call (.ref C) us) (EP X pins σ Q) X.xe s := by
  have hq := h (s.heap.objs.size + 1) s.heap.objs.size (I.hok.fresh (Nat.le_succ _)) (I.hok.fresh (Nat.le_refl _)) (Nat.ne_of_lt (Nat.lt_succ_self _))
  have I2 := Inv.made (C := C) I
  have r2 : Vals (V.ref (s.heap.objs.size + 1) :: (vs ++ dvs)) (Value.ref (s.heap.objs.size + 1) :: (us ++ ds)) := .cons rfl (r.append hd)
  have hl : (Value.ref (s.heap.objs.size + 1) :: us ++ ds).length = ps.length := by
    have e := r2.length
    rw [F.len _ _ _ _ hq] at e
    exact e.symm
  refine wpAny_call (make_map (f := f) I.kIn M.makes M.init (beq_iff_eq.mp M.fn) (codeAny_mono (F.run _ X.stack _ _ ⟨Value.ref (s.heap.objs.size + 1) :: us, []⟩ (Value.ref (s.heap.objs.size + 1) :: (us ++ ds)) _ _ E (hr.make C us [])
    (I2.env0.make C us []) (hb _ (Value.ref (s.heap.objs.size + 1) :: us) I2.kIn hl) r2 hq) fun r s' hq' => ?_))
  cases r with
  | error e => exact hx pins σ _ _ e s' I2 hq'
  | ok fl =>
    cases fl with
    | ret u =>
      obtain ⟨v, H', I3, rv, ev, q3⟩ := I2.after hq'
      subst ev
      exact ⟨rv, ⟨V.ref (s.heap.objs.size + 1), H', I3, rfl, q3⟩⟩
    | next => exact False.elim hq'
    | brk => exact False.elim hq'
    | cont => exact False.elim hq'
theorem pe_make (M : Mk X.K C f) (F : FnOk X.prog X.w X.K X.mg X.base CX k f fd ps sp) (hr : Room (k + 1) X.A) (hg : Gl X x) (hm : X.mg x = some (.ref C)) (hb : Binds X.K fd ps ds) (hd : Vals dvs ds) (hx : Passes CX X E)
    (ha : PA X (e :: es) t) (hdb : (x == ("__debug__" : Str)) = false := by decide) (he : starEach (e :: es) X.env = (false, eval e X.env) :: starEach es X.env := by rfl) (hpl : (backTo pos (starEach es X.env)).any (·.1) = false := by rfl) :
    PE X (.Call (.Name x p) (e :: es) [] pos) (tMake C sp dvs E t) := by
  intro pins s σ H Q I h
  refine wpAny_Call_Name_kw (ld_glob I hg hm ?_ hdb)
  refine PySem.W.callWith_K (h₀ := X.base) I.ok.mod.kin M.kp (thn (ha pos pins s σ H _ I h) fun us s1 ⟨vs, H1, I1, r, q⟩ => ⟨I1.kIn, ?_⟩) he hpl
  exact run_make M F hr hb hd hx I1 r q
theorem pe_make0 (M : Mk X.K C f) (F : FnOk X.prog X.w X.K X.mg X.base CX k f fd ps sp) (hr : Room (k + 1) X.A) (hg : Gl X x) (hm : X.mg x = some (.ref C)) (hb : Binds X.K fd ps ds) (hd : Vals dvs ds) (hx : Passes CX X E)
    (hdb : (x == ("__debug__" : Str)) = false := by decide) : PE X (.Call (.Name x p) [] [] pos) (tMake C sp dvs E tNil) := by
  intro pins s σ H Q I h
  refine wpAny_Call_Name_kw (ld_glob I hg hm ?_ hdb)
  exact PySem.W.callWith_K0 I.kIn M.kp (run_make (us := []) M F hr hb hd hx I .nil h)
end

/-! ### keywords -/
section
variable {X : Cx} {CX : CXT} {k : Nat} {f C : Addr} {fd : FuncData} {ps ks : List Str} {sp : Sp} {E : XK} {x m : Str} {p pos apos kpos : Pos} {e o : Expr} {es : List Expr} {kws : List Keyword} {te ta : TE} {t tk : TA} {nm : Option Str}

variable {g : List Value → List Value → List Value} {gV : List V → List V → List V}
end

/-! ### a def's body keeps its promise -/
/-- names: the parameters first -/
structure FnScope (N P : List Str) (sc : Scope) : Prop where
  kind : sc.kind = .function
  co : sc.isCoroutine = false
  gen : sc.isGenerator = false
  nd : N.Nodup
  pre : N.take P.length = P
  par : ∀ x ∈ P, sc.names.lookup x = some .local ∨ sc.names.lookup x = some .cell
  nofree : ∀ y ∈ sc.names, y.2 ≠ .free

theorem bindL_out {kindOf : Str → Option NameKind} {x : Str} : ∀ {binds : List (Str × Value)} {m : Str → Option Value}, (∀ v, (x, v) ∉ binds) → bindL kindOf binds m x = m x
  | [], _, _ => rfl
  | (n, v) :: r, m, h => by
    unfold bindL
    rw [bindL_out fun w hw => h w (List.mem_cons_of_mem _ hw)]
    split
    · have : x ≠ n := by rintro rfl; exact h v List.mem_cons_self
      simp [this]
    · rfl
theorem bindC_out {kindOf : Str → Option NameKind} {x : Str} : ∀ {binds : List (Str × Value)} {m : Str → Option Value}, (∀ v, (x, v) ∉ binds) → bindC kindOf binds m x = m x
  | [], _, _ => rfl
  | (n, v) :: r, m, h => by
    unfold bindC
    rw [bindC_out fun w hw => h w (List.mem_cons_of_mem _ hw)]
    split
    · rfl
    · have : x ≠ n := by rintro rfl; exact h v List.mem_cons_self
      simp [this]
theorem bindL_get {kindOf : Str → Option NameKind} {x : Str} {v : Value} : ∀ {P : List Str} {vs : List Value} {i : Nat} {m : Str → Option Value}, P.Nodup → P[i]? = some x → vs[i]? = some v → kindOf x = some .local →
    bindL kindOf (P.zip vs) m x = some v
  | [], _, _, _, _, h, _, _ => by simp at h
  | _ :: _, [], _, _, _, _, h, _ => by simp at h
  | p :: P, w :: vs, 0, m, nd, h1, h2, hk => by
    simp at h1 h2; subst h1; subst h2
    show bindL kindOf ((p, w) :: P.zip vs) m p = _
    unfold bindL
    rw [bindL_out fun v hv => (List.nodup_cons.mp nd).1 (List.of_mem_zip hv).1, if_pos hk]
    simp
  | p :: P, w :: vs, i + 1, m, nd, h1, h2, hk => by
    show bindL kindOf ((p, w) :: P.zip vs) m x = _
    unfold bindL
    exact bindL_get (i := i) (List.nodup_cons.mp nd).2 (by simpa using h1) (by simpa using h2) hk
theorem bindC_get {kindOf : Str → Option NameKind} {x : Str} {v : Value} : ∀ {P : List Str} {vs : List Value} {i : Nat} {m : Str → Option Value}, P.Nodup → P[i]? = some x → vs[i]? = some v → kindOf x ≠ some .local →
    bindC kindOf (P.zip vs) m x = some v
  | [], _, _, _, _, h, _, _ => by simp at h
  | _ :: _, [], _, _, _, _, h, _ => by simp at h
  | p :: P, w :: vs, 0, m, nd, h1, h2, hk => by
    simp at h1 h2; subst h1; subst h2
    show bindC kindOf ((p, w) :: P.zip vs) m p = _
    unfold bindC
    rw [bindC_out fun v hv => (List.nodup_cons.mp nd).1 (List.of_mem_zip hv).1, if_neg hk]
    simp
  | p :: P, w :: vs, i + 1, m, nd, h1, h2, hk => by
    show bindC kindOf ((p, w) :: P.zip vs) m x = _
    unfold bindC
    exact bindC_get (i := i) (List.nodup_cons.mp nd).2 (by simpa using h1) (by simpa using h2) hk

/-- the names' values at the entry -/
def start (N : List Str) (vs : List V) : St := vs.map some ++ List.replicate (N.length - vs.length) none

/-- the context of a def's body, at its entry; an exception leaves the frame, then lies as CX says -/
def cxOf (CX : CXT) (P : Program) (w : World) (K : PySem.W.Frag) (mg : Str → Option Value) (base : Heap) (N : List Str) (qual : Str) (scope : Scope) (f : Addr) (cd : Value) (A : Around) (outer : List Env) (s : Shared) (H : Hp) (E : XK) : Cx where
  prog := P
  w := w
  K := K
  mg := mg
  base := base
  A := A.deeper (envOfC qual scope s.heap.objs.size f cd)
  N := N
  s_0 := s
  H_0 := H
  env := envOfC qual scope s.heap.objs.size f cd
  outer := outer
  stack := envOfC qual scope s.heap.objs.size f cd :: outer
  ex := []
  calm := true
  fn := fun _ => true
  pn := []
  xe := fun e s' => wpAny (model P w) (A.deeper (envOfC qual scope s.heap.objs.size f cd)) (leaving (envOfC qual scope s.heap.objs.size f cd) e) (fun _ s'' => CX outer H s E e s'') (fun e' s'' => CX outer H s E e' s'') s'

theorem cell_has {sc : Scope} {n : Nat} {x : Str} (h : sc.names.lookup x = some .cell) : ∃ c, (cellsFrom n sc.names []).lookup x = some c := by
  have q := PySem.W.cellsFrom_some sc.names n [] (.inl h)
  exact Option.isSome_iff_exists.mp q

theorem inv_start {CX : CXT} {P : Program} {w : World} {K : PySem.W.Frag} {mg : Str → Option Value} {base : Heap} {N ps : List Str} {qual : Str} {scope : Scope} {f : Addr} {cd : Value} {A : Around} {outer : List Env} {s s1 : Shared} {H : Hp} {E : XK} {us : List Value} {vs : List V}
    (S : FnScope N ps scope) (hd : A.handled = none) (e0 : Env0 P w K mg base A outer s H) (hl : vs.length = ps.length) (r : Vals vs us)
    (x : InCallC s s.heap.objs.size (bindL (envOfC qual scope s.heap.objs.size f cd).kindOf (ps.zip us) fun _ => none) (cellsFrom (s.heap.objs.size + 1) scope.names []) (bindC (envOfC qual scope s.heap.objs.size f cd).kindOf (ps.zip us) fun _ => none) s1) :
    Inv (cxOf CX P w K mg base N qual scope f cd A outer s H E) [] (start N vs) H s1 := by
  have hpl : ps.length ≤ N.length := by have := congrArg List.length S.pre; rw [List.length_take] at this; omega
  obtain ⟨h1, tk, rfl, hk⟩ := x.done
  have noA : ∀ b : Addr, b ∉ (cxOf CX P w K mg base N qual scope f cd A outer s H E).ex := fun b z => absurd (show b ∈ ([] : List Addr) from z) (by simp)
  refine ⟨⟨e0.mod, S.kind, rfl, rfl, Nat.le_refl _, fun y z c h1 h2 => ?_, fun y hy => ?_, fun y c _ h => ?_, fun _ => hd, Around.frames_deeper e0.frames, .inr ⟨rfl, rfl⟩, fun b z => absurd z (noA b), e0.bs, e0.bsz, fun b _ _ => noA b, fun b z => absurd z (noA b), e0.funs, e0.frf⟩,
    rfl, e0.bare, Un.kept hk, ⟨_, x.toInCall.ns, fun i y v h1 h2 h3 => ?_⟩, fun y c h => ⟨_, x.cell y c h⟩, e0.hok.fresh (Nat.le_refl _), fun y c h => ?_, fun p hp => absurd (show p ∈ ([] : List (Addr × Obj)) from hp) (by simp), e0.hok.kept hk, ?_⟩
  · exact name_of_addr x.apart (PySem.mem_of_lookup h1) (PySem.mem_of_lookup h2)
  · have hy : scope.names.lookup y = some .cell ∨ scope.names.lookup y = some .free := hy
    rcases hy with hy | hy
    · exact cell_has hy
    · exact absurd rfl (S.nofree _ (PySem.mem_of_lookup hy))
  · exact Nat.le_of_lt (x.above y c (PySem.mem_of_lookup h))
  · have hi : i < vs.length := by
      unfold start at h2
      by_cases hi : i < vs.length
      · exact hi
      · rw [List.getElem?_append_right (by simpa using hi)] at h2
        rw [List.getElem?_replicate] at h2
        split at h2 <;> cases h2
    have ha : vs[i]? = some v := by
      unfold start at h2
      rw [List.getElem?_append_left (by simpa using hi), List.getElem?_map] at h2
      cases e : vs[i]? with
      | none => rw [e] at h2; cases h2
      | some a => rw [e] at h2; cases h2; rfl
    obtain ⟨u, hu, rv⟩ := r.get ha
    have hp : ps[i]? = some y := by
      rw [← S.pre, List.getElem?_take_of_lt (by omega)]; exact h1
    have ndP : ps.Nodup := by rw [← S.pre]; exact S.nd.sublist (List.take_sublist _ _)
    refine ⟨u, rv, ?_⟩
    rcases S.par y (List.mem_of_getElem? hp) with k | k
    · exact .inl ⟨k, bindL_get ndP hp hu k⟩
    · obtain ⟨c, e⟩ := cell_has (n := s.heap.objs.size + 1) k
      refine .inr ⟨.inl k, c, e, ?_⟩
      have q := x.cell y c e
      rw [bindC_get ndP hp hu (by show scope.names.lookup y ≠ _; rw [k]; decide)] at q
      exact q
  · exact e0.hok.fresh (Nat.le_of_lt (x.above y c (PySem.mem_of_lookup h)))
  · unfold start
    show _ = N.length
    rw [List.length_append, List.length_map, List.length_replicate]
    omega

/-- THE RULE: a def (or a method) of the text, by its body. The body's reading t is chosen for each entry; it is run at the parameters' values -/
theorem fn_of {CX : CXT} {P : Program} {w : World} {K : PySem.W.Frag} {mg : Str → Option Value} {base : Heap} {k : Nat} {f : Addr} {name qual : Str} {params : Arguments} {body : List Stmt} {scope : Scope} {dV kV doc pm cdv ct oc : Value} {an od : Option Addr}
    {osl : Array (Option Value)} {N ps : List Str} {sp : Sp} (lk : K.lookup f = some ⟨oc, od, .func (PySem.W.fnOf name qual params body scope dV kV doc pm an cdv ct), osl⟩) (hcd : PySem.W.codeIn K cdv qual = true) (S : FnScope N ps scope)
    (len : ∀ vs H Q E, sp vs H Q E → vs.length = ps.length)
    (hbody : ∀ (A : Around) (outer : List Env) (s : Shared) (H : Hp) (vs : List V) (Q : VK) (E : XK), Room k (A.deeper (envOfC qual scope s.heap.objs.size f cdv)) → sp vs H Q E →
      ∃ t, PSs (cxOf CX P w K mg base N qual scope f cdv A outer s H E) body t ∧ t { nx := fun _ H' => Q .non H', rt := Q } (start N vs) H) :
    FnOk P w K mg base CX (k + 1) f (PySem.W.fnOf name qual params body scope dV kV doc pm an cdv ct) ps sp := by
  refine ⟨len, fun A outer s H args us vs Q E hr e0 hb r hsp => ?_⟩
  have hl := len _ _ _ _ hsp
  have KX : K.In s.heap := e0.mod.kin.keeps fun b o e => (e0.bs b o e).1
  have lim : s.heap.NoLimit := e0.mod.nolimit.keeps fun b o e => (e0.bs b o e).1
  have hkind : ∀ y ∈ ps.zip us, scope.names.lookup y.1 = some .local ∨ (scope.names.lookup y.1 = some .cell ∧ ((cellsFrom (s.heap.objs.size + 1) scope.names []).lookup y.1).isSome = true) := fun ⟨n, v⟩ hy => by
    rcases S.par n (List.of_mem_zip hy).1 with q | q
    · exact .inl q
    · exact .inr ⟨q, PySem.W.cellsFrom_some _ _ _ (.inl q)⟩
  refine codeAny_call_function hr.depth (KX _ _ lk) rfl S.co S.gen rfl (PySem.W.codeRec_of KX hcd) (hb _ _ _ _ ?_)
  refine wpAny_newFunctionEnv_cells S.kind hkind fun env he s1 x => ?_
  subst he
  refine ⟨lim.keeps x.toInCall.keep, codeAny_func ?_⟩
  obtain ⟨t, ht, hq⟩ := hbody A outer s H vs Q E (hr.deeper _) hsp
  have I : Inv (cxOf CX P w K mg base N qual scope f cdv A outer s H E) [] (start N vs) H s1 := inv_start S hr.hd e0 hl r x
  refine wpAny_mono (ht [] s1 (start N vs) H _ I hq) (fun fl s' hs => ?_) fun e s' hs => hs
  have fin : ∀ {σ' : St} {H' : Hp} {v : V} {u : Value}, Inv (cxOf CX P w K mg base N qual scope f cdv A outer s H E) [] σ' H' s' → RelV v u → Q v H' → CE outer P w H s Q u s' :=
    fun {σ' H' v u} J rv q => ⟨v, H', J.os, J.bare, J.base, J.hok, rv, q⟩
  cases fl with
  | ret u =>
    obtain ⟨v, σ', H', J, rv, q⟩ := hs
    exact fin J rv q
  | next =>
    obtain ⟨σ', H', J, q⟩ := hs
    exact fin (v := V.non) (u := Value.none) J rfl q
  | brk =>
    obtain ⟨_, _, _, q⟩ := hs
    exact False.elim q
  | cont =>
    obtain ⟨_, _, _, q⟩ := hs
    exact False.elim q
end L2

namespace L2
open PySem PySem.Spec PyProof.Rows
section
variable {X : Cx} {x : Str} {p pos : Pos} {e : Expr} {es : List Expr} {t : TA} {id T : String} {r : List V → Hp → VK → Prop}

def tCB (r : List V → Hp → VK → Prop) (t : TA) : TE := fun σ H Q => t σ H fun vs H1 => r vs H1 Q
/-- f(e, ..), f a built-in function -/
theorem pe_callB (hc : CallR X (.builtin id) r) (hg : Gl X x) (hm : X.mg x = none) (hv : bootBuiltins x = some (.builtin id)) (ha : PA X (e :: es) t) (hn : x ≠ "__name__" := by decide) (hdb : (x == ("__debug__" : Str)) = false := by decide)
    (he : starEach (e :: es) X.env = (false, eval e X.env) :: starEach es X.env := by rfl) (hpl : (backTo pos (starEach es X.env)).any (·.1) = false := by rfl) : PE X (.Call (.Name x p) (e :: es) [] pos) (tCB r t) := by
  intro pins s σ H Q I h
  refine wpAny_Call_Name_kw (ld_blt I hg hm hv ?_ hn hdb)
  exact PyProof.Rows.callWith_builtin1 (thn (ha pos pins s σ H _ I h) fun us s1 ⟨vs, H1, I1, r1, q1⟩ => hc pins s1 σ H1 vs us Q I1 r1 q1) he hpl
end
end L2

namespace HT
open PySem PyProof.Rows



section
open PySem.SeqAt
open PySem.AutoSeq1 (wpAny_loadPart')
open PySem.MeetsSeq PySem.MeetsSeq2 PySem.MeetsSeq3

end

section
variable {prog : Program} {w : World} {A : Around} {E : Value → Shared → Prop} {s : Shared}



/-! ### t[a:b], not the whole -/
/-- a slice's bound as a place among n (d where it is left out) -/
def sIx (n d : Nat) : Option Int → Nat
  | none => d
  | some v => if v < 0 then (v + (n : Int)).toNat else min v.toNat n

end
end HT

namespace L2
open PySem PySem.Spec PyProof.Rows

/-! ### the parts of a slice -/
abbrev TO := St → Hp → (Option Int → Hp → Prop) → Prop
/-- a slice's part (left out, or an int) -/
def PO (X : Cx) (e : Option Expr) (t : TO) : Prop :=
  ∀ (pins : List (Addr × Obj)) (s : Shared) (σ : St) (H : Hp) (Q : Option Int → Hp → Prop), Inv X pins σ H s → t σ H Q →
    wpAny (model X.prog X.w) X.A (evalPart e X.env) (fun u s' => ∃ o H', Inv X pins σ H' s' ∧ IsPart u o ∧ Q o H') X.xe s
def tNoPart : TO := fun _ H Q => Q none H
def tPart (t : TE) : TO := fun σ H Q => t σ H fun x H1 => ∃ i, x = .int i ∧ Q (some i) H1


section
variable {X : Cx} {e : Expr} {te : TE} {lo hi : Option Expr} {tl th : TO} {pos p2 : Pos}

theorem po_none : PO X none tNoPart := by
  intro pins s σ H Q I h
  rw [evalPart_none]
  exact wpAny_pure ⟨none, H, I, .none, h⟩
theorem po_some (h : PE X e te) : PO X (some e) (tPart te) := by
  intro pins s σ H Q I hw
  rw [evalPart_some]
  refine thn (h pins s σ H _ I hw) fun u s1 ⟨x, H1, I1, r1, q1⟩ => ?_
  obtain ⟨i, rfl, q⟩ := q1
  obtain ⟨t, rfl⟩ := r1
  exact ⟨some i, H1, I1, .int i t, q⟩

/-- what a slice of a value is, by values: the slice object stands at sl -/
def SlR (X : Cx) (r : V → Option Int → Option Int → Hp → VK → Prop) : Prop :=
  ∀ (pins : List (Addr × Obj)) (s : Shared) (σ : St) (H : Hp) (x : V) (v vl vu : Value) (lo hi : Option Int) (sl : Addr) (Q : VK), Inv X pins σ H s → RelV x v → s.heap.IsSliceOf sl vl vu .none → IsPart vl lo → IsPart vu hi → r x lo hi H Q →
    ∃ T id, typeLookup (.type T) "__getitem__" = pure (some (.builtin id)) ∧ s.TypeIs v T ∧ wpAny (model X.prog X.w) X.A (getItem v (.ref sl)) (EP X pins σ Q) X.xe s
def tSl (r : V → Option Int → Option Int → Hp → VK → Prop) (te : TE) (tl th : TO) : TE := fun σ H Q => te σ H fun x H1 => tl σ H1 fun l H2 => th σ H2 fun u H3 => r x l u H3 Q
/-- a[lo:hi], any a -/
theorem pe_slice {r : V → Option Int → Option Int → Hp → VK → Prop} (hr : SlR X r) (he : PE X e te) (hl : PO X lo tl) (hu : PO X hi th) : PE X (.Subscript e (.Slice lo hi none p2) pos) (tSl r te tl th) := by
  intro pins s σ H Q I h
  refine Subscript_ (thn (he pins s σ H _ I h) fun v s1 ⟨x, H1, I1, r1, q1⟩ => ?_)
  refine wpAny_Slice (thn (hl pins s1 σ H1 _ I1 q1) fun vl s2 ⟨l, H2, I2, pl, q2⟩ => thn (hu pins s2 σ H2 _ I2 q2) fun vu s3 ⟨u, H3, I3, pu, q3⟩ => ?_)
  rw [evalPart_none]
  refine wpAny_pure ?_
  have I4 : Inv X pins σ H3 { s3 with heap := s3.heap.push { cls := .type "slice", data := .fields #[vl, vu, .none] } } := I3.kept (t' := s3.toks) fun b ob q => Heap.get?_push_of_some _ q
  obtain ⟨T, id, hT, ht, hg⟩ := hr pins { s3 with heap := s3.heap.push { cls := .type "slice", data := .fields #[vl, vu, .none] } } σ H3 x v vl vu l u s3.heap.objs.size Q I4 r1 (Heap.IsSliceOf.new ..) pl pu q3
  show wpAny (model X.prog X.w) X.A (subscriptTail e (.Slice lo hi none p2) v (.ref s3.heap.objs.size)) (EP X pins σ Q) X.xe { s3 with heap := s3.heap.push { cls := .type "slice", data := .fields #[vl, vu, .none] } }
  exact tail_any (ops := [.ref s3.heap.objs.size, v]) ht hT hg (by with_unfolding_all rfl)

/-- the items of xs[lo:hi] -/
def cutV (xs : List V) (lo hi : Option Int) : List V := (xs.drop (HT.sIx xs.length 0 lo)).take (HT.sIx xs.length xs.length hi - HT.sIx xs.length 0 lo)
theorem cutV_length (xs : List V) (lo hi : Option Int) : (cutV xs lo hi).length ≤ xs.length := by
  unfold cutV
  rw [List.length_take, List.length_drop]
  omega

/-! ### t < u, t + u -/
end
end L2

namespace L2
open PySem PySem.Spec PyProof.Rows

/-! ### places -/
/-- the place that an index of any sign means -/
def ixN (n : Nat) (i : Int) : Option Nat := if 0 ≤ i then (if i < n then some i.toNat else none) else if -(n : Int) ≤ i then some (i + n).toNat else none
def atI {α : Type} (xs : List α) (i : Int) : Option α := (ixN xs.length i).bind fun j => xs[j]?
theorem ixN_seq {n : Nat} {i : Int} {j : Nat} (h : ixN n i = some j) : seqIndex? i n = some j ∧ j < n ∧ -(n : Int) ≤ i ∧ i < n := by
  unfold ixN at h
  by_cases h0 : 0 ≤ i
  · rw [if_pos h0] at h
    by_cases h1 : i < n
    · rw [if_pos h1] at h
      have e : i.toNat = j := Option.some.inj h
      exact ⟨by rw [seqIndex_of h0 h1, e], by omega, by omega, h1⟩
    · rw [if_neg h1] at h; cases h
  · rw [if_neg h0] at h
    by_cases h1 : -(n : Int) ≤ i
    · rw [if_pos h1] at h
      have e : (i + n).toNat = j := Option.some.inj h
      exact ⟨by rw [seqIndex_neg (by omega) h1, e], by omega, h1, by omega⟩
    · rw [if_neg h1] at h; cases h
theorem atI_get {α : Type} {xs : List α} {i : Int} {v : α} (h : atI xs i = some v) : ∃ j, seqIndex? i xs.length = some j ∧ xs[j]? = some v ∧ j < xs.length ∧ -(xs.length : Int) ≤ i ∧ i < xs.length := by
  unfold atI at h
  cases e : ixN xs.length i with
  | none => rw [e] at h; cases h
  | some j =>
    rw [e] at h
    obtain ⟨h1, h2, h3, h4⟩ := ixN_seq e
    exact ⟨j, h1, h, h2, h3, h4⟩
theorem atI_nat {α : Type} {xs : List α} {j : Nat} {v : α} (h : xs[j]? = some v) : atI xs (j : Int) = some v := by
  have hj : j < xs.length := (List.getElem?_eq_some_iff.mp h).1
  have e : ixN xs.length (j : Int) = some j := by
    unfold ixN
    rw [if_pos (by omega), if_pos (by omega)]; simp
  unfold atI; rw [e]; exact h

/-! ### what may be subscripted -/
/-- what stands as an index of a plain subscript -/
def PlainIx (b : Expr) : Prop := ∀ o i, subscripted b false o i = operate [o, i] (getItem o i)
/-- a subscript by values -/
def IxR (X : Cx) (r : R2) : Prop :=
  ∀ (value slice : Expr) (pins : List (Addr × Obj)) (s : Shared) (σ : St) (H : Hp) (x y : V) (v u : Value) (Q : VK), Inv X pins σ H s → RelV x v → RelV y u → r x y H Q →
    subscripted slice false v u = operate [v, u] (getItem v u) → wpAny (model X.prog X.w) X.A (subscriptTail value slice v u) (EP X pins σ Q) X.xe s
/-- a call of a builtin's method by values: the receiver, the arguments -/
def MtR (X : Cx) (id : String) (r : V → List V → Hp → VK → Prop) : Prop :=
  ∀ (pins : List (Addr × Obj)) (s : Shared) (σ : St) (H : Hp) (x : V) (xs : List V) (v : Value) (us : List Value) (Q : VK), Inv X pins σ H s → RelV x v → Vals xs us → r x xs H Q →
    wpAny (model X.prog X.w) X.A (call (.builtin id) (v :: us)) (EP X pins σ Q) X.xe s
section
variable {X : Cx} {a b : Expr} {ta tb : TE} {pos : Pos}
theorem IxR.or {r r' : R2} (h : IxR X r) (h' : IxR X r') : IxR X (fun x y H Q => r x y H Q ∨ r' x y H Q) := by
  intro value slice pins s σ H x y v u Q I rx ry q hs
  rcases q with q | q
  · exact h value slice pins s σ H x y v u Q I rx ry q hs
  · exact h' value slice pins s σ H x y v u Q I rx ry q hs
/-- a[b] -/
theorem pe_ix {r : R2} (hr : IxR X r) (ha : PE X a ta) (hb : PE X b tb) (hs : PlainIx b) : PE X (.Subscript a b pos) (tOp r ta tb) := by
  intro pins s σ H Q I h
  exact Subscript_ (binT ha hb I h fun v u s2 x y H2 I2 rx ry q => hr a b pins s2 σ H2 x y v u Q I2 rx ry q (hs _ _))

def rIxL (K : PySem.W.Frag) : R2 := fun x y H Q => ∃ p xs i v, x = .ref p ∧ y = .int i ∧ SqL K H p xs ∧ atI xs i = some v ∧ Q v H
def rIxT (K : PySem.W.Frag) : R2 := fun x y H Q => ∃ p xs i v, x = .ref p ∧ y = .int i ∧ SqT K H p xs ∧ atI xs i = some v ∧ Q v H
def rIxS : R2 := fun x y H Q => ∃ z i c, x = .str z ∧ y = .int i ∧ z.length ≤ sizeLine ∧ atI z.cps.toList i = some c ∧ Q (.str ⟨#[c]⟩) H
theorem ix_list : IxR X (rIxL X.K) := by
  intro value slice pins s σ H x y v u Q I rx ry h hs
  obtain ⟨p, xs, i, z, rfl, rfl, hq, he, q⟩ := h
  cases rx
  obtain ⟨t, rfl⟩ := ry
  obtain ⟨its, r, pl, hz⟩ := I.list hq
  obtain ⟨j, h1, h2, h3, h4, h5⟩ := atI_get he
  obtain ⟨w, ew, rw'⟩ := r.get h2
  have hl := r.length
  have hn := line63
  have fin : EP X pins σ Q w s := ⟨z, H, I, rw', q⟩
  by_cases h0 : 0 ≤ i
  · have hj : i.toNat = j := by
      rw [seqIndex_of h0 h5] at h1
      exact Option.some.inj h1
    exact item_listR pl.isList h0 (by omega) (by rw [hj]; simpa using ew) fin hs
  · have hj : (i + (its.toArray.size : Int)).toNat = j := by
      rw [seqIndex_neg (by omega) h4] at h1
      rw [List.size_toArray, ← hl]
      exact Option.some.inj h1
    exact subscriptTail_builtinR (x := w) pl.isList.typeIs slot_list_getitem.lookup
      (wpAny_getItem_list_neg (Q := fun r s' => r = w ∧ EP X pins σ Q r s') pl.isList (by omega) (by rw [List.size_toArray] <;> omega) (by omega) (by rw [hj]; simpa using ew) ⟨rfl, fin⟩) hs
theorem ix_tup : IxR X (rIxT X.K) := by
  intro value slice pins s σ H x y v u Q I rx ry h hs
  obtain ⟨p, xs, i, z, rfl, rfl, hq, he, q⟩ := h
  cases rx
  obtain ⟨t, rfl⟩ := ry
  obtain ⟨its, r, pl, hz⟩ := I.tuple hq
  obtain ⟨j, h1, h2, h3, h4, h5⟩ := atI_get he
  obtain ⟨w, ew, rw'⟩ := r.get h2
  have hl := r.length
  have hn := line63
  have fin : EP X pins σ Q w s := ⟨z, H, I, rw', q⟩
  exact subscriptTail_builtinR (x := w) pl.typeIs slot_tuple_getitem.lookup
    (getItem_tuple (j := j) (Q := fun r s' => r = w ∧ EP X pins σ Q r s') pl (by omega) (by omega) (by rw [List.size_toArray, ← hl]; exact h1) (by simpa using ew) ⟨rfl, fin⟩) hs
theorem ix_str : IxR X rIxS := by
  intro value slice pins s σ H x y v u Q I rx ry h hs
  obtain ⟨z, i, c, rfl, rfl, hz, he, q⟩ := h
  obtain ⟨t, rfl⟩ := rx
  obtain ⟨t', rfl⟩ := ry
  obtain ⟨j, h1, h2, h3, h4, h5⟩ := atI_get he
  have hl : z.cps.toList.length = z.length := by simp [Str.length]
  rw [hl] at h1 h4 h5
  have hn := line63
  exact tail_any (typeIs_str s z t) slot_str_getitem.lookup (getItem_str (c := c) (by
    have e1 : decide (i < -(2 ^ 63 : Int)) = false := decide_eq_false (by omega)
    have e2 : decide (i ≥ 2 ^ 63) = false := decide_eq_false (by omega)
    rw [e1, e2, Bool.or_false]) (by rw [h1]; simpa using h2) ⟨.str ⟨#[c]⟩, H, I.tok _, ⟨_, rfl⟩, q⟩) hs
/-- list, tuple or str -/
def rIx (K : PySem.W.Frag) : R2 := fun x y H Q => rIxL K x y H Q ∨ rIxT K x y H Q ∨ rIxS x y H Q
theorem ix_seq : IxR X (rIx X.K) := ix_list.or (ix_tup.or ix_str)

/-! ### xs[i] = v, any sign -/
/-- the list's object behind a store -/
theorem mapSeq_set (its : List Value) (n j : Nat) (u : Value) : Obj.mapSeq (·.setIfInBounds j u) { cls := .type "list", data := .seq its.toArray n } = { cls := .type "list", data := .seq (its.set j u).toArray n } := by
  simp [Obj.mapSeq]
theorem Inv.lst {pins : List (Addr × Obj)} {σ : St} {H : Hp} {s : Shared} {p : Addr} {xs : List V} (I : Inv X pins σ H s) (h : H p = some (.lst xs)) :
    ∃ (its : List Value) (n : Nat), Vals xs its ∧ s.heap.get? p = some { cls := .type "list", data := .seq its.toArray n } ∧ xs.length ≤ sizeLine := by
  obtain ⟨z, its, n, r, e⟩ := I.hok p _ h
  exact ⟨its, n, r, e, z⟩
/-- the list at p is written by an update of its object -/
theorem Inv.lstUpd {pins : List (Addr × Obj)} {σ : St} {H : Hp} {s : Shared} {p : Addr} {xs ys : List V} {its its' : List Value} {n n' : Nat} {f : Obj → Obj} (I : Inv X pins σ H s) (h : H p = some (.lst xs))
    (ho : s.heap.get? p = some { cls := .type "list", data := .seq its.toArray n }) (hf : f { cls := .type "list", data := .seq its.toArray n } = { cls := .type "list", data := .seq its'.toArray n' }) (r : Vals ys its') (hz : ys.length ≤ sizeLine) (t : Nat) :
    Inv X pins σ (upd H p (.lst ys)) { s with heap := s.heap.update p f, toks := t } := by
  have e : (s.heap.update p f).get? p = some { cls := .type "list", data := .seq its'.toArray n' } := by
    rw [Heap.get?_update_self f ho (by rw [hf] <;> rfl), hf]
  refine I.write (x := p) (e := p) (by rw [h]; trivial) (.inl rfl) (fun b u hb q => (Heap.get?_update_other _ _ (Ne.symm hb)).trans q) ⟨_, e⟩ ?_
  exact ⟨hz, its', n', r, e⟩
def rSetL : V → V → V → Hp → (Hp → Prop) → Prop := fun o i v H Q => ∃ p xs k j, o = .ref p ∧ i = .int k ∧ H p = some (.lst xs) ∧ ixN xs.length k = some j ∧ Q (upd H p (.lst (xs.set j v)))
theorem set_list : PSet X rSetL := by
  intro pins s σ H o i v ov iv u Q I ro ri rv h
  obtain ⟨p, xs, k, j, rfl, rfl, hp, hj, q⟩ := h
  cases ro
  obtain ⟨t, rfl⟩ := ri
  obtain ⟨its, n, r, ho, hz⟩ := I.lst hp
  obtain ⟨h1, h2, h3, h4⟩ := ixN_seq hj
  have hl := r.length
  have hn := line63
  have I' : Inv X pins σ (upd H p (.lst (xs.set j v))) { s with heap := s.heap.update p (Obj.mapSeq (·.setIfInBounds j u)) } :=
    I.lstUpd hp ho (mapSeq_set its n j u) (r.set rv j) (by rw [List.length_set]; exact hz) s.toks
  by_cases h0 : 0 ≤ k
  · have hk : k.toNat = j := by
      rw [seqIndex_of h0 h4] at h1
      exact Option.some.inj h1
    exact PySem.W.ki_setAt ho h0 (by omega) (by rw [List.size_toArray, ← hl]; exact h4) (by rw [hk]; exact ⟨_, I', q⟩)
  · have hk : (k + (its.toArray.size : Int)).toNat = j := by
      rw [seqIndex_neg (by omega) h3] at h1
      rw [List.size_toArray, ← hl]
      exact Option.some.inj h1
    exact PySem.W.ki_setBack ho (by omega) (by rw [List.size_toArray, ← hl]; exact h3) (by omega) (by rw [hk]; exact ⟨_, I', q⟩)

/-! ### slices -/
theorem slice_bounds (lo hi : Option Int) (n : Nat) : (sliceBounds lo hi none n).1 = ((HT.sIx n 0 lo : Nat) : Int) ∧ (sliceBounds lo hi none n).2.1 = ((HT.sIx n n hi : Nat) : Int) ∧ (sliceBounds lo hi none n).2.2 = 1 := by
  refine ⟨?_, ?_, rfl⟩
  · cases lo with
    | none => simp [sliceBounds, HT.sIx]
    | some i =>
      simp only [sliceBounds, HT.sIx, Option.getD_none, show (1 : Int) > 0 by decide, if_true]
      by_cases h : i < 0
      · simp only [h, if_true] <;> omega
      · simp only [h, if_false] <;> omega
  · cases hi with
    | none => simp [sliceBounds, HT.sIx]
    | some i =>
      simp only [sliceBounds, HT.sIx, Option.getD_none, show (1 : Int) > 0 by decide, if_true]
      by_cases h : i < 0
      · simp only [h, if_true] <;> omega
      · simp only [h, if_false] <;> omega
theorem slicePick_cut (its : List Value) (lo hi : Option Int) : slicePick its.toArray lo hi none = ((its.drop (HT.sIx its.length 0 lo)).take (HT.sIx its.length its.length hi - HT.sIx its.length 0 lo)).toArray := by
  obtain ⟨h1, h2, h3⟩ := slice_bounds lo hi its.toArray.size
  unfold slicePick
  rw [h1, h2, h3]
  simp only [sliceRange_one, pick_run, List.size_toArray] <;> rfl
/-- xs[lo:hi] of a list: a new list -/
def rSlL (K : PySem.W.Frag) : V → Option Int → Option Int → Hp → VK → Prop := fun x lo hi H Q => ∃ a xs, x = .ref a ∧ SqL K H a xs ∧ ∀ p, H p = none → Q (.ref p) (upd H p (.lst (cutV xs lo hi)))
theorem sl_list : SlR X (rSlL X.K) := by
  intro pins s σ H x v vl vu lo hi sl Q I rx hs pl pu h
  obtain ⟨a, xs, rfl, hx, q⟩ := h
  cases rx
  obtain ⟨its, r, ht, hz⟩ := I.list hx
  have hlen := r.length
  refine ⟨"list", _, slot_list_getitem.lookup, ht.isList.typeIs, ?_⟩
  refine wpAny_getItem_list_slice ht.isList hs pl pu .none (by simp) ?_ (by rw [List.size_toArray] <;> omega)
  rw [slicePick_cut, ← hlen]
  refine ⟨.ref s.heap.objs.size, _, I.laid (t' := s.toks) (o := .lst (cutV xs lo hi)) (fun b ob q => Heap.get?_push_of_some _ q) (Nat.le_refl _) ?_, rfl, q _ (I.hok.fresh (Nat.le_refl _))⟩
  exact ⟨Nat.le_trans (cutV_length xs lo hi) hz, _, 0, (r.drop (HT.sIx xs.length 0 lo)).take (HT.sIx xs.length xs.length hi - HT.sIx xs.length 0 lo), Heap.get?_push_size _ rfl⟩

/-! ### in, not in: flat items -/

/-! ### len, list(x), tuple(x) of any list or tuple that is read -/
theorem call_len_seq : CallR X (.builtin "len") (fun xs H Q => ∃ p ys, xs = [.ref p] ∧ (SqL X.K H p ys ∨ SqT X.K H p ys) ∧ Q (.int ys.length) H) := by
  intro pins s σ H xs us Q I r h
  obtain ⟨p, ys, rfl, hq, q⟩ := h
  obtain ⟨u, rfl, rx⟩ := vals1 r
  cases rx
  have hn := line63
  rcases hq with hq | hq
  · obtain ⟨its, r', pl, hz⟩ := I.list hq
    have hlen := r'.length
    exact Calls.call_len_list pl.isList (by simp only [List.size_toArray] <;> omega) ⟨.int ys.length, H, I.tok _, ⟨s.toks + 1, by rw [List.size_toArray, hlen]⟩, q⟩
  · obtain ⟨its, r', pl, hz⟩ := I.tuple hq
    have hlen := r'.length
    exact len_tuple pl (by simp only [List.size_toArray] <;> omega) ⟨.int ys.length, H, I.tok _, ⟨s.toks + 1, by rw [List.size_toArray, hlen]⟩, q⟩

/-! ### the call of a builtin's method: o.m(..) -/
/-- the value is of that builtin type -/
def tyV (K : PySem.W.Frag) (T : String) (x : V) (H : Hp) : Prop := match x with
  | .str _ => T = "str"
  | .int _ => T = "int"
  | .ref p => (T = "list" ∧ ∃ xs, SqL K H p xs) ∨ (T = "tuple" ∧ ∃ o, K.lookup p = some o ∧ o.cls = .type "tuple" ∧ o.dict = none) ∨
      (T = "dict" ∧ ((∃ kvs, H p = some (.dK kvs)) ∨ ∃ kvs, H p = some (.dT kvs))) ∨ (T = "set" ∧ ∃ S n, H p = some (.set S n))
  | _ => False
theorem tyV_is {pins : List (Addr × Obj)} {σ : St} {H : Hp} {s : Shared} {T : String} {x : V} {v : Value} (I : Inv X pins σ H s) (r : RelV x v) (ty : tyV X.K T x H) :
    s.TypeIs v T ∧ ∀ a, v = .ref a → ∃ ob, s.heap.get? a = some ob ∧ ob.dict = none := by
  cases x with
  | str z =>
    obtain ⟨t, rfl⟩ := r
    cases (show T = "str" from ty)
    exact ⟨typeIs_str s z t, fun _ e => nomatch e⟩
  | int i =>
    obtain ⟨t, rfl⟩ := r
    cases (show T = "int" from ty)
    exact ⟨typeIs_int s i t, fun _ e => nomatch e⟩
  | ref p =>
    cases r
    rcases ty with ⟨rfl, xs, hq⟩ | ⟨rfl, o, hk, hc, hd⟩ | ⟨rfl, hk⟩ | ⟨rfl, S, n, hk⟩
    · obtain ⟨its, _, pl, _⟩ := I.list hq
      refine ⟨pl.isList.typeIs, fun a e => ?_⟩
      cases e
      obtain ⟨o, n, e, c, hd, _⟩ := pl
      exact ⟨o, e, hd⟩
    · refine ⟨⟨o, I.kIn p o hk, hc⟩, fun a e => ?_⟩
      cases e
      exact ⟨o, I.kIn _ o hk, hd⟩
    · have z : ∃ o, s.heap.get? p = some o ∧ o.ExactDict := by
        rcases hk with ⟨kvs, hk⟩ | ⟨kvs, hk⟩
        · obtain ⟨_, _, _, _, o, _, _, e, ex, _⟩ := I.hok p _ hk
          exact ⟨o, e, ex⟩
        · obtain ⟨_, _, _, _, o, _, _, e, ex, _⟩ := I.hok p _ hk
          exact ⟨o, e, ex⟩
      obtain ⟨o, e, ex⟩ := z
      refine ⟨⟨o, e, ex.1⟩, fun a e2 => ?_⟩
      cases e2
      exact ⟨o, e, ex.2.1⟩
    · obtain ⟨o, _, _, _, e, ex, _⟩ := I.hok p _ hk
      refine ⟨⟨o, e, ex.1⟩, fun a e2 => ?_⟩
      cases e2
      exact ⟨o, e, ex.2.1⟩
  | _ => exact False.elim ty
def tBM (K : PySem.W.Frag) (T : String) (r : V → List V → Hp → VK → Prop) (to : TE) (t : TA) : TE := fun σ H Q => to σ H fun x H1 => tyV K T x H1 ∧ t σ H1 fun xs H2 => r x xs H2 Q
variable {o e : Expr} {es : List Expr} {to : TE} {t : TA} {name : Str} {apos cpos : Pos} {T id : String} {r : V → List V → Hp → VK → Prop}
theorem pe_bm (pa : PlainAttrs T) (slot : Slot T name id) (hty : typeOf (.builtin id) = pure (.type "method_descriptor")) (hm : MtR X id r) (ho : PE X o to) (ha : PA X (e :: es) t)
    (hbase : attributeBase o name X.env (eval o X.env) = eval o X.env := by rfl)
    (hfew : ((backTo cpos (starEach (e :: es) X.env)).all (fun x => !x.1) && (backToKw cpos (keywordEach [] X.env)).all (fun x => x.1.isSome)
      && decide ((e :: es).length + ([] : List Keyword).length + (if ([] : List Keyword).isEmpty then 0 else 1) < 30)) = true := by rfl)
    (hline : (apos.endLine == cpos.line) = true := by rfl) (hs : starEach (e :: es) X.env = (false, eval e X.env) :: starEach es X.env := by rfl) (hplain : (backTo cpos (starEach es X.env)).any (·.1) = false := by rfl) :
    PE X (.Call (.Attribute o name apos) (e :: es) [] cpos) (tBM X.K T r to t) := by
  intro pins s σ H Q I h
  refine wpAny_Call_method_late hbase hfew hline rfl (thn (ho pins s σ H _ I h) fun v s1 ⟨x, H1, I1, r1, ty, q1⟩ => ?_)
  obtain ⟨h1, h2⟩ := tyV_is I1 r1 ty
  refine ⟨T, id, pa, slot, hty, h1, h2, ?_⟩
  have hA := ha cpos pins s1 σ H1 _ I1 q1
  rw [hs] at hA ⊢
  refine Calls.callWith_builtin (by show (false || (backTo cpos (starEach es X.env)).any (·.1)) = false; rw [hplain] <;> rfl) (Calls.evalArgs_plain ?_)
  exact thn hA fun us s2 ⟨vs, H2, I2, r2, q2⟩ => hm pins s2 σ H2 x vs v us Q I2 r1 r2 q2
/- xs.append(e), list.index on a module's tuple .. are MtR facts of 06m -/
end
end L2

namespace L2
open PySem PySem.Spec PyProof.Rows

def MtM (X : Cx) (id : String) (r : V → List V → Hp → VK → Prop) : Prop :=
  ∀ (pins : List (Addr × Obj)) (s : Shared) (σ : St) (H : Hp) (x : V) (xs : List V) (v : Value) (us : List Value) (Q : VK), Inv X pins σ H s → RelV x v → Vals xs us → r x xs H Q →
    wpAny (model X.prog X.w) X.A (call (.builtin id) (v :: us)) (EP X pins σ Q) X.xe s

/-! ### lists of values -/
theorem Vals.one : ∀ {x : V} {us : List Value}, Vals [x] us → ∃ u, us = [u] ∧ RelV x u
  | _, _, .cons r .nil => ⟨_, rfl, r⟩

section
variable {X : Cx} {pins : List (Addr × Obj)} {σ : St} {H : Hp} {s : Shared} {l b : Addr} {xs ys zs : List V}

/-! ### the two steps: a tracked list is rewritten, a new list is laid -/
theorem Inv.lset {its its' : List Value} {n : Nat} {f : Array Value → Array Value} {t' : Nat} (I : Inv X pins σ H s) (hH : H l = some (.lst xs))
    (e : s.heap.get? l = some { cls := .type "list", data := .seq its.toArray n }) (hf : f its.toArray = its'.toArray) (hv : Vals ys its') (hz : ys.length ≤ sizeLine) :
    Inv X pins σ (upd H l (.lst ys)) { s with heap := s.heap.update l (Obj.mapSeq f), toks := t' } := by
  have q := PySem.IsL.update e f
  rw [hf] at q
  refine I.write (x := l) (e := l) (by rw [hH]; exact trivial) (.inl rfl) (fun b' u hb hu => (Heap.get?_update_other s.heap (Obj.mapSeq f) (Ne.symm hb)).trans hu) ⟨_, q⟩ ?_
  exact ⟨hz, its', _, hv, q⟩
theorem Inv.lnew {its : List Value} {t' : Nat} (I : Inv X pins σ H s) (hv : Vals ys its) (hz : ys.length ≤ sizeLine) :
    Inv X pins σ (upd H s.heap.objs.size (.lst ys)) { s with heap := s.heap.push { cls := .type "list", data := .seq its.toArray }, toks := t' } :=
  I.laid (fun _ _ q => Heap.get?_push_of_some _ q) (Nat.le_refl _) ⟨hz, its, 0, hv, Heap.get?_push_size _ rfl⟩
theorem Inv.fresh (I : Inv X pins σ H s) : H s.heap.objs.size = none := I.hok.fresh (Nat.le_refl _)
theorem Inv.lstM (I : Inv X pins σ H s) (hH : H l = some (.lst xs)) : xs.length ≤ sizeLine ∧ ∃ (its : List Value) (n : Nat), Vals xs its ∧ xs.length = its.length ∧ s.heap.get? l = some { cls := .type "list", data := .seq its.toArray n } := by
  obtain ⟨z, its, n, r, e⟩ := I.hok l _ hH
  exact ⟨z, its, n, r, r.length, e⟩

theorem notLongL {n : Nat} (h : n ≤ sizeLine) : Builtin.List.listTooLong n = false := by
  unfold Builtin.List.listTooLong
  exact decide_eq_false (by omega)
end

section
variable {X : Cx}

/-! ### methods -/
def rAppend : V → List V → Hp → VK → Prop := fun x vs H Q => ∃ l xs y, x = .ref l ∧ vs = [y] ∧ H l = some (.lst xs) ∧ xs.length < sizeLine ∧ Q .non (upd H l (.lst (xs ++ [y])))
theorem mt_append : MtM X "list.append" rAppend := by
  intro pins s σ H x vs v us Q I rx rv h
  obtain ⟨l, xs, y, rfl, rfl, hH, hz, q⟩ := h
  cases rx
  obtain ⟨u, rfl, ru⟩ := rv.one
  obtain ⟨z, its, n, r, hl, e⟩ := I.lstM hH
  refine call_meets F.slot_list_append ⟨_, e, rfl⟩ F.entry_list_append (F.args_list_append_2 _ _) (PySem.list_append l its.toArray n u (by rw [List.size_toArray]; omega)) ⟨e, ?_⟩
  refine ⟨.non, _, I.lset (its' := its ++ [u]) hH e (by simp) (r.append (.cons ru .nil)) ?_, rfl, q⟩
  rw [List.length_append, List.length_singleton]
  omega

def rExtend : V → List V → Hp → VK → Prop := fun x vs H Q => ∃ l b xs zs, x = .ref l ∧ vs = [.ref b] ∧ H l = some (.lst xs) ∧ H b = some (.lst zs) ∧ xs.length + zs.length ≤ sizeLine ∧ Q .non (upd H l (.lst (xs ++ zs)))
theorem mt_extend : MtM X "list.extend" rExtend := by
  intro pins s σ H x vs v us Q I rx rv h
  obtain ⟨l, b, xs, zs, rfl, rfl, hH, hB, hz, q⟩ := h
  cases rx
  obtain ⟨u, rfl, ru⟩ := rv.one
  cases ru
  obtain ⟨z, its, n, r, hl, e⟩ := I.lstM hH
  obtain ⟨z2, its2, n2, r2, hl2, e2⟩ := I.lstM hB
  have hsz : its.toArray.size + its2.toArray.size ≤ sizeLine := by rw [List.size_toArray, List.size_toArray]; omega
  have hlong : ¬ (!its.toArray.isEmpty && Builtin.List.listTooLong (its.toArray.size + its2.toArray.size)) = true := by
    rw [notLongL hsz, Bool.and_false]
    exact Bool.false_ne_true
  refine call_meets F.slot_list_extend ⟨_, e, rfl⟩ F.entry_list_extend (F.args_list_extend_2 _ _)
    (AutoSeq1.list_extend_list_list_0 l its.toArray n b its2.toArray n2 hlong (by rw [List.size_toArray]; omega) (by omega)) ⟨e, e2, ?_⟩
  refine ⟨.non, _, I.lset (its' := its ++ its2) hH e (by simp) (r.append r2) ?_, rfl, q⟩
  rw [List.length_append]
  omega





/-! ### list + list, list += list, list * int -/
def rCat : R2 := fun x y H Q => ∃ l b xs zs, x = .ref l ∧ y = .ref b ∧ H l = some (.lst xs) ∧ H b = some (.lst zs) ∧ xs.length + zs.length ≤ sizeLine ∧ ∀ p, H p = none → Q (.ref p) (upd H p (.lst (xs ++ zs)))
theorem op_cat : OpR X (binaryOp .Add) rCat := by
  intro pins s σ H x y v u Q I rx ry h
  obtain ⟨l, b, xs, zs, rfl, rfl, hH, hB, hz, q⟩ := h
  cases rx
  cases ry
  obtain ⟨z, its, n, r, hl, e⟩ := I.lstM hH
  obtain ⟨z2, its2, n2, r2, hl2, e2⟩ := I.lstM hB
  refine PySem.P.add_list e e2 ?_ (by rw [List.size_toArray, List.size_toArray]; omega)
  have ea : its.toArray ++ its2.toArray = (its ++ its2).toArray := by simp
  rw [ea]
  exact ⟨.ref _, _, I.lnew (t' := s.toks) (r.append r2) (by rw [List.length_append]; omega), rfl, q _ I.fresh⟩

/-! ### del xs[i] -/
end

/-! ### xs[a:b] = ys -/
section
variable {prog : Program} {w : World} {A : Around} {E : Value → Shared → Prop} {s : Shared}
set_option maxRecDepth 100000 in
end

section
variable {X : Cx}
end
end L2

namespace L2
open PySem PySem.Spec PyProof.Rows

theorem Vals.ints : ∀ {ns : List Int} {us : List Value}, Vals (ns.map V.int) us → IntsAre us ns
  | [], us, h => by
    rw [List.map_nil] at h
    cases h
    exact IntsAre.nil
  | n :: ns, us, h => by
    rw [List.map_cons] at h
    cases h with
    | cons r t =>
      obtain ⟨k, rfl⟩ := r
      exact IntsAre.cons n k (Vals.ints t)
theorem vals_of_ints : ∀ {us : List Value} {ns : List Int}, IntsAre us ns → Vals (ns.map V.int) us
  | _, _, .nil => by rw [List.map_nil]; exact Paired.nil
  | _, _, .cons n t h => by rw [List.map_cons]; exact Paired.cons (show RelV (V.int n) (Value.int n t) from ⟨t, rfl⟩) (vals_of_ints h)
theorem Vals.bls : ∀ {bs : List Bool} {us : List Value}, Vals (bs.map V.bl) us → us = bs.map Value.bool
  | [], us, h => by
    rw [List.map_nil] at h
    cases h
    rfl
  | b :: bs, us, h => by
    rw [List.map_cons] at h
    cases h with
    | cons r t =>
      cases r
      rw [Vals.bls t, List.map_cons]
theorem Vals.ref1 {a : Addr} {us : List Value} (r : Vals [V.ref a] us) : us = [Value.ref a] := by
  cases r with
  | cons r t =>
    cases t
    cases r
    rfl

/-! ### the library's walks over a list of ints, kept objects alone -/
section
variable {prog : Program} {w : World} {A : Around} {E : Value → Shared → Prop} {s : Shared} {l : Addr} {its : List Value} {ns : List Int} {Q : Value → Shared → Prop}
theorem sum_raw (hh : A.handled = none) (hl : s.heap.IsList l its.toArray) (hi : IntsAre its ns)
    (h : ∀ h' tk t', (∀ b o, s.heap.get? b = some o → h'.get? b = some o) → Q (.int ns.sum t') { s with heap := h', toks := tk }) : wpAny (model prog w) A (call (.builtin "sum") [.ref l]) Q E s := by
  obtain ⟨xs, e⟩ := hi.allInts.items
  have hn : numsOf (intItems xs).toList = ns := by rw [← e]; exact hi.numsOf
  rw [nums_intItems] at hn
  rw [e] at hl
  refine PySem.sum_intListG hh hl fun h' tk t' hk => ?_
  have := h h' tk t' hk
  rw [preSum_eq, List.take_of_length_le (by simp), hn]; exact this
end

/-! ### the calls, by values (CallR of 03t; MtR of 06l) -/
section
variable {X : Cx}
/-- sum(xs) of a list of ints -/
def rSum (K : PySem.W.Frag) : List V → Hp → VK → Prop := fun vs H Q => ∃ (a : Addr) (ns : List Int), vs = [V.ref a] ∧ SqL K H a (ns.map V.int) ∧ Q (.int ns.sum) H
theorem cr_sum (hc : X.calm = true) : CallR X (.builtin "sum") (rSum X.K) := by
  intro pins s σ H vs us Q I r h
  obtain ⟨a, ns, rfl, hs, q⟩ := h
  obtain ⟨its, rv, hl, _⟩ := I.list hs
  rw [Vals.ref1 r]
  exact sum_raw (I.ok.hd hc) hl.isList rv.ints fun h' tk t' hk => ⟨.int _, H, I.kept hk, ⟨_, rfl⟩, q⟩

/-! sorted, sort (fewer than 64 items: the library's own bound) -/
end

/-! ### list.index, flat items -/
section
variable {X : Cx}
end

/-! ### type(x) of an own instance; is, is not of a module's class -/
section
variable {X : Cx}
end

/-! ### any(xs), all(xs) of a list of bools -/
theorem iter_any {prog : Program} {w : World} {A : Around} {E : Value → Shared → Prop} {s : Shared} {l : Addr} {items : Array Value} {Q : Value → Shared → Prop} (hl : s.heap.IsList l items)
    (h : ∀ s₂ : Shared, s₂ = { s with heap := s.heap.push { cls := .type "list_iterator", data := .fields #[.ref l, .int 0 0] } } →
      (s₂.heap.IsListIter s.heap.objs.size l 0 ∧ s₂.heap.IsList l items) → l ≠ s.heap.objs.size → Q (.ref s.heap.objs.size) s₂) : wpAny (model prog w) A (pyIter (.ref l)) Q E s := by
  have hlt : l < s.heap.objs.size := by obtain ⟨_, e, _⟩ := hl; exact Heap.lt_size e
  exact wpAny_pyIter_list hl (h _ rfl ⟨⟨_, Heap.get?_push_size _ rfl, rfl, rfl⟩, hl.push _⟩ (Nat.ne_of_lt hlt))
theorem truth_bools {prog : Program} {w : World} {A : Around} {bs : List Bool} {its : List Value} (e : its = bs.map Value.bool) :
    TruthOf prog w A (fun i v => its.toArray[i]? = some v) (fun i => bs.getD i false) := fun i v s Q E hv hq => by
  have hv' : its[i]? = some v := by simpa using hv
  rw [e, List.getElem?_map] at hv'
  obtain ⟨b, hb, rfl⟩ := Option.map_eq_some_iff.mp hv'
  have hg : bs.getD i false = b := by rw [List.getD_eq_getElem?_getD, hb] <;> rfl
  have hq' : Q (bs.getD i false) s := hq
  rw [hg] at hq'
  exact wpAny_truthy_bool hq'
theorem any_range : ∀ bs : List Bool, (List.range bs.length).any (fun i => bs.getD i false) = bs.any id
  | [] => rfl
  | b :: bs => by
    rw [List.length_cons, List.range_succ_eq_map, List.any_cons, List.any_map, List.any_cons, ← any_range bs]
    all_goals rfl
theorem all_range : ∀ bs : List Bool, (List.range bs.length).all (fun i => bs.getD i false) = bs.all id
  | [] => rfl
  | b :: bs => by
    rw [List.length_cons, List.range_succ_eq_map, List.all_cons, List.all_map, List.all_cons, ← all_range bs]
    all_goals rfl
section
variable {X : Cx}
def rAll (K : PySem.W.Frag) : List V → Hp → VK → Prop := fun vs H Q => ∃ (a : Addr) (bs : List Bool), vs = [V.ref a] ∧ SqL K H a (bs.map V.bl) ∧ Q (.bl (bs.all id)) H
theorem cr_all (hc : X.calm = true) : CallR X (.builtin "all") (rAll X.K) := by
  intro pins s σ H vs us Q I r h
  obtain ⟨a, bs, rfl, hs, q⟩ := h
  obtain ⟨its, rv, hl, _⟩ := I.list hs
  rw [Vals.ref1 r]
  have hb := rv.bls
  refine call_all_walk (iter_any hl.isList fun s₂ e2 st hne => ?_)
  subst e2
  refine ⟨_, _, _, _, _, _, _, rfl, Walks.list (A := X.A.in1) (I.ok.hd hc) _ a hne its.toArray, st, truth_bools hb, fun h' tk hk => ?_⟩
  refine ⟨.bl _, H, I.kept fun b o eo => hk b o (fun hmem => ?_) (Heap.get?_push_of_some _ eo), ?_, q⟩
  · rcases List.mem_cons.mp hmem with e1 | hmem
    · exact absurd (e1 ▸ Heap.lt_size eo) (Nat.lt_irrefl _)
    · cases hmem
  · show Value.bool _ = Value.bool _
    rw [← all_range, hb, List.size_toArray, List.length_map]
end

/-! ### == and != of data at any depth: none, bools, ints, texts, lists, tuples -/
section
variable {X : Cx} {pins : List (Addr × Obj)} {σ : St} {H : Hp} {s : Shared}
end
section
variable {X : Cx}
end
end L2

namespace L2
open PySem PySem.Spec PyProof.Rows
abbrev CellAt (h : Heap) (c : Addr) (v : Option Value) : Prop := h.IsCell c v
def relS (scope sc : Scope) : Scope :=
  { scope with names := scope.names.map fun (n, k) => if (k == .free && sc.kind == .function && sc.names.lookup n == some .cell) then (n, .cell) else (n, k) }

def cloFrom (cells : List (Str × Addr)) : List (Str × NameKind) → List (Str × Addr) → List (Str × Addr)
  | [], acc => acc
  | (n, k) :: r, acc => if k == .free then cloFrom cells r ((n, (cells.lookup n).getD 0) :: acc) else cloFrom cells r acc

theorem closure_loop (env : Env) (f : Str × NameKind → List (Str × Addr) → Sem (ForInStep (List (Str × Addr))))
    (hf : ∀ n k c, f (n, k) c = if k == .free then (do let a ← cellOf env n; pure (.yield ((n, a) :: c))) else pure (.yield c)) :
    ∀ (names : List (Str × NameKind)) (acc : List (Str × Addr)), (∀ y ∈ names, y.2 = .free → ∃ c, env.cells.lookup y.1 = some c) → forIn names acc f = pure (cloFrom env.cells names acc)
  | [], acc, _ => by rw [List.forIn_nil]; rfl
  | (n, k) :: r, acc, h => by
    rw [List.forIn_cons, hf]
    have ih := fun acc => closure_loop env f hf r acc fun y hy => h y (List.mem_cons_of_mem _ hy)
    unfold cloFrom
    by_cases hk : (k == NameKind.free) = true
    · rw [if_pos hk, if_pos hk]
      obtain ⟨c, hc⟩ := h (n, k) List.mem_cons_self (by simpa using hk)
      have e : cellOf env n = pure c := by unfold cellOf; rw [hc]
      rw [e]
      have e2 : (env.cells.lookup n).getD 0 = c := by rw [hc]; rfl
      rw [e2]
      exact ih _
    · rw [if_neg hk, if_neg hk]
      exact ih _
theorem closure_ok {scope : Scope} {env : Env} (h : ∀ y ∈ scope.names, y.2 = .free → ∃ c, env.cells.lookup y.1 = some c) : closureFor scope env = pure (cloFrom env.cells scope.names []) := by
  simp only [closureFor]
  rw [closure_loop env _ (fun n k c => rfl) scope.names [] h]
  rfl

theorem mem_lookup {α : Type} : ∀ {l : List (Str × α)} {n : Str} {c : α}, (n, c) ∈ l → ∃ c', l.lookup n = some c'
  | (k, v) :: r, n, c, h => by
    rw [List.lookup_cons]
    cases hb : n == k with
    | true => exact ⟨_, rfl⟩
    | false =>
      rcases List.mem_cons.mp h with e | h
      · cases e; simp at hb
      · exact mem_lookup h

theorem cloFrom_mem {cells : List (Str × Addr)} : ∀ {names : List (Str × NameKind)} {acc : List (Str × Addr)} {n : Str} {c : Addr}, (n, c) ∈ cloFrom cells names acc → (n, c) ∈ acc ∨ ((n, .free) ∈ names ∧ c = (cells.lookup n).getD 0)
  | [], _, _, _, h => .inl h
  | (m, k) :: r, acc, n, c, h => by
    unfold cloFrom at h
    split at h
    · rename_i hk
      have hk : k = .free := by simpa using hk
      rcases cloFrom_mem h with h | ⟨h1, h2⟩
      · rcases List.mem_cons.mp h with e | h
        · cases e; exact .inr ⟨hk ▸ List.mem_cons_self, rfl⟩
        · exact .inl h
      · exact .inr ⟨List.mem_cons_of_mem _ h1, h2⟩
    · rcases cloFrom_mem h with h | ⟨h1, h2⟩
      · exact .inl h
      · exact .inr ⟨List.mem_cons_of_mem _ h1, h2⟩
theorem cloFrom_acc {cells : List (Str × Addr)} : ∀ {names : List (Str × NameKind)} {acc : List (Str × Addr)} {p : Str × Addr}, p ∈ acc → p ∈ cloFrom cells names acc
  | [], _, _, h => h
  | (m, k) :: r, acc, p, h => by
    unfold cloFrom
    split
    · exact cloFrom_acc (List.mem_cons_of_mem _ h)
    · exact cloFrom_acc h
theorem cloFrom_has {cells : List (Str × Addr)} : ∀ {names : List (Str × NameKind)} {acc : List (Str × Addr)} {n : Str}, (n, .free) ∈ names → (n, (cells.lookup n).getD 0) ∈ cloFrom cells names acc
  | (m, k) :: r, acc, n, h => by
    unfold cloFrom
    rcases List.mem_cons.mp h with e | h
    · cases e
      exact cloFrom_acc List.mem_cons_self
    · split
      · exact cloFrom_has h
      · exact cloFrom_has h

theorem cells_mem : ∀ {names : List (Str × NameKind)} {h : Heap} {acc : List (Str × Addr)} {x : Str} {c : Addr}, (x, c) ∈ cellsFrom h.objs.size names acc →
    (x, c) ∈ acc ∨ ((x, .cell) ∈ names ∧ h.objs.size ≤ c ∧ CellAt (pushCells h names) c none)
  | [], _, _, _, _, h => .inl h
  | (n, k) :: r, h, acc, x, c, hm => by
    unfold cellsFrom at hm
    unfold pushCells
    split at hm
    · rename_i hk
      rw [if_pos hk]
      have hk : k = .cell := by simpa using hk
      rw [← Heap.size_push h { cls := .type "cell", data := .cell none }] at hm
      rcases cells_mem hm with hm | ⟨h1, h2, h3⟩
      · rcases List.mem_cons.mp hm with e | hm
        · cases e
          exact .inr ⟨hk ▸ List.mem_cons_self, Nat.le_refl _, _, pushCells_keeps r _ _ _ (Heap.get?_push_size _ rfl), rfl⟩
        · exact .inl hm
      · rw [Heap.size_push] at h2
        exact .inr ⟨List.mem_cons_of_mem _ h1, Nat.le_of_succ_le h2, h3⟩
    · rename_i hk
      rw [if_neg hk]
      rcases cells_mem hm with hm | ⟨h1, h2, h3⟩
      · exact .inl hm
      · exact .inr ⟨List.mem_cons_of_mem _ h1, h2, h3⟩
theorem cells_acc : ∀ {names : List (Str × NameKind)} {n : Nat} {acc : List (Str × Addr)} {p : Str × Addr}, p ∈ acc → p ∈ cellsFrom n names acc
  | [], _, _, _, h => h
  | (m, k) :: r, n, acc, p, h => by
    unfold cellsFrom
    split
    · exact cells_acc (List.mem_cons_of_mem _ h)
    · exact cells_acc h
theorem cells_has : ∀ {names : List (Str × NameKind)} {n : Nat} {acc : List (Str × Addr)} {x : Str}, (x, .cell) ∈ names → ∃ c, (x, c) ∈ cellsFrom n names acc
  | (m, k) :: r, n, acc, x, h => by
    unfold cellsFrom
    rcases List.mem_cons.mp h with e | h
    · cases e
      exact ⟨n, cells_acc List.mem_cons_self⟩
    · split
      · exact cells_has h
      · exact cells_has h
theorem cells_inj : ∀ {names : List (Str × NameKind)} {h : Heap} {acc : List (Str × Addr)} {x y : Str} {c : Addr}, (∀ p ∈ acc, p.2 < h.objs.size) → (∀ x y c, (x, c) ∈ acc → (y, c) ∈ acc → x = y) →
    (x, c) ∈ cellsFrom h.objs.size names acc → (y, c) ∈ cellsFrom h.objs.size names acc → x = y
  | [], _, _, _, _, _, _, hi, h1, h2 => hi _ _ _ h1 h2
  | (n, k) :: r, h, acc, x, y, c, hl, hi, h1, h2 => by
    unfold cellsFrom at h1 h2
    split at h1
    · rename_i hk
      rw [if_pos hk] at h2
      rw [← Heap.size_push h { cls := .type "cell", data := .cell none }] at h1 h2
      refine cells_inj (h := h.push _) (fun p hp => ?_) (fun x y c a b => ?_) h1 h2
      · rw [Heap.size_push]
        rcases List.mem_cons.mp hp with rfl | hp
        · exact Nat.lt_succ_self _
        · exact Nat.lt_succ_of_lt (hl p hp)
      · rcases List.mem_cons.mp a with e | a <;> rcases List.mem_cons.mp b with e' | b
        · cases e; cases e'; rfl
        · cases e; exact absurd (hl _ b) (Nat.lt_irrefl _)
        · cases e'; exact absurd (hl _ a) (Nat.lt_irrefl _)
        · exact hi _ _ _ a b
    · rename_i hk
      rw [if_neg hk] at h2
      exact cells_inj hl hi h1 h2

theorem newEnv_comp {M : Model} {A : Around} {E : Value → Shared → Prop} {s : Shared} {scope : Scope} {globals : Addr} {closure : List (Str × Addr)} {qual : Str} {func : Option Addr} {code : Value} {around : Env} {builtins : Addr} {Q : Env → Shared → Prop}
    (h : Q (newEnv scope s.heap.objs.size globals (cellsFrom (s.heap.objs.size + 1) scope.names closure) qual func code (some around) builtins)
      { s with heap := pushCells (s.heap.push { cls := .type "dict", data := .dict #[] }) scope.names }) :
    wpAny M A (newFunctionEnv scope globals closure [] qual func code (some around) builtins) Q E s := by
  simp only [newFunctionEnv, Option.isSome_some, if_true]
  refine wpAny_bind (wpAny_alloc ?_)
  refine wpAny_bind (wpAny_layCells _ (fun n k c => rfl) scope.names closure _ _ ?_)
  rw [show ({ s with heap := s.heap.push { cls := .type "dict", data := .dict #[] } } : Shared).heap.objs.size = s.heap.objs.size + 1 from Heap.size_push ..]
  rw [List.forIn_nil]
  exact wpAny_bind (wpAny_pure (wpAny_pure h))

/-- every name of the written scope, in the scope that runs -/
theorem lookup_relS {sc : Scope} : ∀ {names : List (Str × NameKind)} {x : Str} {k : NameKind},
    (names.map fun (n, k) => if (k == NameKind.free && sc.kind == .function && sc.names.lookup n == some .cell) then (n, NameKind.cell) else (n, k)).lookup x = some k →
    ∃ k', names.lookup x = some k' ∧ (k = k' ∨ (k' = .free ∧ k = .cell))
  | [], _, _, h => by simp at h
  | (n, k₀) :: r, x, k, h => by
    have ih := @lookup_relS sc r x k
    have h' : List.lookup x ((if (k₀ == NameKind.free && sc.kind == .function && sc.names.lookup n == some .cell) = true then (n, NameKind.cell) else (n, k₀)) :: (r.map _)) = some k := h
    cases hx : x == n with
    | true =>
      simp only [List.lookup_cons, hx]
      by_cases hc : (k₀ == NameKind.free && sc.kind == .function && sc.names.lookup n == some .cell) = true
      · rw [if_pos hc] at h'
        simp only [List.lookup_cons, hx] at h'
        cases h'
        simp only [Bool.and_eq_true, beq_iff_eq] at hc
        exact ⟨k₀, rfl, .inr ⟨hc.1.1, rfl⟩⟩
      · rw [if_neg hc] at h'
        simp only [List.lookup_cons, hx] at h'
        cases h'
        exact ⟨_, rfl, .inl rfl⟩
    | false =>
      simp only [List.lookup_cons, hx]
      by_cases hc : (k₀ == NameKind.free && sc.kind == .function && sc.names.lookup n == some .cell) = true
      · rw [if_pos hc] at h'
        simp only [List.lookup_cons, hx] at h'
        exact ih h'
      · rw [if_neg hc] at h'
        simp only [List.lookup_cons, hx] at h'
        exact ih h'



/-- the names of a comprehension's block: its own (with their places in N), or captured -/
structure BlkOk (N : List Str) (sc scope : Scope) (own : List (Str × Nat)) : Prop where
  kind : scope.kind = .function
  uniq : ∀ y ∈ scope.names, scope.names.lookup y.1 = some y.2
  ix : ∀ p ∈ own, N[p.2]? = some p.1
  free : ∀ y ∈ scope.names, y.2 = .free → sc.names.lookup y.1 = some .cell ∨ sc.names.lookup y.1 = some .free
  own : ∀ y ∈ scope.names, y.2 = .local ∨ y.2 = .cell → y.1 ∈ own.map (·.1) ∨ y.1 ∉ N
/-- the slots of the block's own names forgotten -/
def wipe (σ : St) : List Nat → St
  | [] => σ
  | v :: vs => (wipe σ vs).set v none
theorem wipe_length (σ : St) : ∀ vs : List Nat, (wipe σ vs).length = σ.length
  | [] => rfl
  | v :: vs => by unfold wipe; rw [List.length_set, wipe_length σ vs]
theorem wipe_some {σ : St} {i : Nat} {x : V} : ∀ {vs : List Nat}, (wipe σ vs)[i]? = some (some x) → σ[i]? = some (some x) ∧ i ∉ vs
  | [], h => ⟨h, by simp⟩
  | v :: vs, h => by
    unfold wipe at h
    by_cases hi : v = i
    · subst hi
      by_cases hv : v < (wipe σ vs).length
      · rw [List.getElem?_set_self hv] at h; cases h
      · rw [List.getElem?_eq_none (by simpa using hv)] at h; cases h
    · rw [List.getElem?_set_ne hi] at h
      obtain ⟨h1, h2⟩ := wipe_some h
      exact ⟨h1, by simp only [List.mem_cons, not_or]; exact ⟨fun e => hi e.symm, h2⟩⟩

/-- the context of a block that starts at s, its iterator's objects at fp -/
abbrev Cx.blk (X : Cx) (s : Shared) (H : Hp) (scope : Scope) (cenv : Env) (fp : List Addr) : Cx := { X with s_0 := s, H_0 := H, env := cenv, outer := X.stack, ex := fp, fn := fun x => scope.names.lookup x == some .cell, pn := [], xe := fun _ _ => False }
section
variable {X : Cx} {pins : List (Addr × Obj)} {σ : St} {H : Hp} {s : Shared}
theorem block_start {scope : Scope} {own : List (Str × Nat)} {fp : List Addr} (I : Inv X pins σ H s) (ok : BlkOk X.N X.env.scope scope own) (hN : X.N.Nodup) (hfp : ∀ b ∈ fp, FpOk X pins H b ∧ b < s.heap.objs.size) :
    Inv (X.blk s H scope (compEnvC scope (cellsFrom (s.heap.objs.size + 1) scope.names (cloFrom X.env.cells scope.names [])) s.heap.objs.size X.env) fp) [] (wipe σ (own.map (·.2))) H { s with heap := pushCells (s.heap.push { cls := .type "dict", data := .dict #[] }) scope.names } := by
  have hfree : ∀ y ∈ scope.names, y.2 = .free → ∃ c, X.env.cells.lookup y.1 = some c := fun y hy e => by
    rcases ok.free y hy e with k | k
    · exact I.ok.has _ (.inl k)
    · exact I.ok.has _ (.inr k)
  generalize hcenv : compEnvC scope (cellsFrom (s.heap.objs.size + 1) scope.names (cloFrom X.env.cells scope.names [])) s.heap.objs.size X.env = cenv
  have kp : ∀ b o, s.heap.get? b = some o → (pushCells (s.heap.push { cls := .type "dict", data := .dict #[] }) scope.names).get? b = some o := fun b o e => pushCells_keeps _ _ _ _ (Heap.get?_push_of_some _ e)
  have hL : cenv.locals = s.heap.objs.size := by rw [← hcenv]; rfl
  have hcl : cenv.cells = cellsFrom (s.heap.objs.size + 1) scope.names (cloFrom X.env.cells scope.names []) := by rw [← hcenv]; rfl
  have hsc : cenv.scope = relS scope X.env.scope := by rw [← hcenv]; rfl
  rw [← Heap.size_push s.heap { cls := .type "dict", data := .dict #[] }] at hcl
  have cm : ∀ {y c}, (y, c) ∈ cloFrom X.env.cells scope.names [] → X.env.cells.lookup y = some c ∧ c < s.heap.objs.size := fun {y c} hm => by
    rcases cloFrom_mem hm with hm | ⟨h1, rfl⟩
    · cases hm
    · obtain ⟨c, hc⟩ := hfree _ h1 rfl
      rw [hc]
      obtain ⟨w, z⟩ := I.cell _ _ hc
      exact ⟨rfl, z.lt⟩
  have mem : ∀ {y c}, cenv.cells.lookup y = some c → (X.env.cells.lookup y = some c ∧ c < s.heap.objs.size) ∨ (s.heap.objs.size + 1 ≤ c ∧ CellAt (pushCells (s.heap.push { cls := .type "dict", data := .dict #[] }) scope.names) c none) := fun {y c} e => by
    rw [hcl] at e
    rcases cells_mem (PySem.mem_of_lookup e) with hm | ⟨_, h2, h3⟩
    · exact .inl (cm hm)
    · rw [Heap.size_push] at h2; exact .inr ⟨h2, h3⟩
  have look : ∀ {y}, scope.names.lookup y = some .free → ∃ c, cenv.cells.lookup y = some c ∧ X.env.cells.lookup y = some c := fun {y} hl => by
    have hy : (y, NameKind.free) ∈ scope.names := PySem.mem_of_lookup hl
    obtain ⟨c', e'⟩ := mem_lookup (cells_acc (names := scope.names) (n := (s.heap.push { cls := .type "dict", data := .dict #[] }).objs.size) (cloFrom_has (cells := X.env.cells) (acc := []) hy))
    rw [← hcl] at e'
    refine ⟨c', e', ?_⟩
    rw [hcl] at e'
    rcases cells_mem (PySem.mem_of_lookup e') with hm | ⟨h1, _, _⟩
    · exact (cm hm).1
    · have := ok.uniq _ h1
      rw [hl] at this; cases this
  have okB : (X.blk s H scope cenv fp).Ok := by
    refine ⟨I.ok.mod, by show cenv.scope.kind = _; rw [hsc]; exact ok.kind, by show cenv.globals = _; rw [← hcenv]; exact I.ok.glob, by show cenv.builtins = _; rw [← hcenv]; exact I.ok.blt, by show s.heap.objs.size ≤ cenv.locals; rw [hL]; exact Nat.le_refl _,
      fun y z c e1 e2 => ?_, fun y hy => ?_, fun y c z e => ?_, I.ok.hd, I.ok.frames, .inl rfl, fun b hb => ⟨?_, fun y c e z => ?_⟩, I.bs, Nat.le_trans I.ok.bsz I.sz, fun b o e hb => ?_, fun b hb z => ?_, I.stack, I.stkFree⟩
    · have e1 : cenv.cells.lookup y = some c := e1
      have e2 : cenv.cells.lookup z = some c := e2
      rw [hcl] at e1 e2
      refine cells_inj (fun p hp => ?_) (fun y z c a b => I.ok.inj y z c (cm a).1 (cm b).1) (PySem.mem_of_lookup e1) (PySem.mem_of_lookup e2)
      rw [Heap.size_push]
      exact Nat.lt_succ_of_lt (cm (y := p.1) (c := p.2) hp).2
    · show ∃ c, cenv.cells.lookup y = some c
      have key : ∀ k, cenv.kindOf y = some k → (k = .cell ∨ k = .free) → ∃ c, cenv.cells.lookup y = some c := fun k hk hk' => by
        unfold Env.kindOf at hk
        rw [hsc] at hk
        obtain ⟨k', e, r⟩ := lookup_relS hk
        have : k' = .cell ∨ k' = .free := by
          rcases r with rfl | ⟨rfl, _⟩
          · exact hk'
          · exact .inr rfl
        rcases this with rfl | rfl
        · obtain ⟨c, hm⟩ := cells_has (n := (s.heap.push { cls := .type "dict", data := .dict #[] }).objs.size) (acc := cloFrom X.env.cells scope.names []) (PySem.mem_of_lookup e)
          obtain ⟨c', e'⟩ := mem_lookup hm
          exact ⟨c', by rw [hcl]; exact e'⟩
        · obtain ⟨c, h1, _⟩ := look e
          exact ⟨c, h1⟩
      rcases hy with hy | hy
      · exact key _ hy (.inl rfl)
      · exact key _ hy (.inr rfl)
    · have z : (scope.names.lookup y == some NameKind.cell) = true := z
      have z : scope.names.lookup y = some .cell := by simpa using z
      have e : cenv.cells.lookup y = some c := e
      rw [hcl] at e
      rcases cells_mem (PySem.mem_of_lookup e) with hm | ⟨_, h2, _⟩
      · rcases cloFrom_mem hm with hm | ⟨h1, _⟩
        · cases hm
        · have q := ok.uniq _ h1
          rw [z] at q; cases q
      · rw [Heap.size_push] at h2
        exact Nat.le_of_succ_le h2
    · show b ≠ cenv.locals
      rw [hL]; exact Nat.ne_of_lt (hfp b hb).2
    · have e : cenv.cells.lookup y = some c := e
      rcases mem e with ⟨h1, _⟩ | ⟨h1, _⟩
      · exact (hfp b hb).1.2.2.2.2.1 y c h1 z
      · have h2 : s.heap.objs.size + 1 ≤ b := by rw [← z]; exact h1
        exact absurd (Nat.lt_of_lt_of_le (hfp b hb).2 (Nat.le_of_succ_le h2)) (Nat.lt_irrefl _)
    · rcases (hfp b hb).1.2.2.2.1 with z | z
      · exact I.ok.noex b o e z
      · exact absurd (Nat.lt_of_lt_of_le (Heap.lt_size e) (Nat.le_trans I.ok.bsz z)) (Nat.lt_irrefl _)
    · rcases List.mem_cons.mp (I.stkSub b z) with z | z
      · exact (hfp b hb).1.2.1 z
      · exact (hfp b hb).1.2.2.1 z
  refine ⟨okB, rfl, I.bare, Un.kept kp, ⟨fun _ => none, ?_, fun i y av e1 e2 e3 => ?_⟩, fun y c e => ?_, ?_, fun y c e => ?_, fun p hp => ?_, I.hok.kept kp, by rw [wipe_length]; exact I.len⟩
  · show Heap.Ns _ cenv.locals _
    rw [hL]
    exact Heap.Ns.keeps (Heap.Ns.new ..) fun b o e => pushCells_keeps _ _ _ _ e
  · obtain ⟨e2, hne⟩ := wipe_some e2
    have hfr : scope.names.lookup y = some .free ∧ (cenv.kindOf y = some .cell ∨ cenv.kindOf y = some .free) := by
      have key : ∀ k, cenv.scope.names.lookup y = some k → k = .local ∨ k = .cell ∨ k = .free → scope.names.lookup y = some .free ∧ (cenv.kindOf y = some .cell ∨ cenv.kindOf y = some .free) := fun k hk hk' => by
        have hk0 := hk
        rw [hsc] at hk
        obtain ⟨k', e, r⟩ := lookup_relS hk
        have no : ¬ (k' = .local ∨ k' = .cell) := fun hh => by
          rcases ok.own _ (PySem.mem_of_lookup e) hh with e' | e'
          · obtain ⟨p, hp, hpy⟩ := List.mem_map.mp e'
            have e3 := ok.ix p hp
            have : p.1 = y := hpy
            rw [this] at e3
            exact hne (List.mem_map.mpr ⟨p, hp, nodup_ix hN e3 e1⟩)
          · exact e' (List.mem_of_getElem? e1)
        rcases r with rfl | ⟨rfl, rfl⟩
        · rcases hk' with rfl | rfl | rfl
          · exact absurd (.inl rfl) no
          · exact absurd (.inr rfl) no
          · exact ⟨e, .inr hk0⟩
        · exact ⟨e, .inl hk0⟩
      have e3 : Vis cenv.scope y := e3
      rcases e3 with e3 | e3 | e3
      · exact key _ e3 (.inl rfl)
      · exact key _ e3 (.inr (.inl rfl))
      · exact key _ e3 (.inr (.inr rfl))
    obtain ⟨m, hn, hl⟩ := I.loc
    have hvis : Vis X.env.scope y := (ok.free _ (PySem.mem_of_lookup hfr.1) rfl).elim (fun k => .inr (.inl k)) (fun k => .inr (.inr k))
    obtain ⟨w, r, q⟩ := hl i y av e1 e2 hvis
    refine ⟨w, r, .inr ⟨hfr.2, ?_⟩⟩
    obtain ⟨c, h1, h2⟩ := look hfr.1
    rcases q with ⟨k, _⟩ | ⟨_, c', e', z⟩
    · have k : X.env.scope.names.lookup y = some .local := k
      rcases ok.free _ (PySem.mem_of_lookup hfr.1) rfl with k' | k' <;> rw [show X.env.scope.names.lookup y = _ from k'] at k <;> cases k
    · rw [h2] at e'; cases e'
      exact ⟨c, h1, z.keeps kp⟩
  · have e : cenv.cells.lookup y = some c := e
    rcases mem e with ⟨h1, _⟩ | ⟨_, z⟩
    · obtain ⟨w, z⟩ := I.cell y c h1
      exact ⟨w, z.keeps kp⟩
    · exact ⟨_, z⟩
  · show H cenv.locals = none
    rw [hL]; exact I.hok.fresh (Nat.le_refl _)
  · have e : cenv.cells.lookup y = some c := e
    rcases mem e with ⟨h1, _⟩ | ⟨h1, _⟩
    · exact I.freeC y c h1
    · exact I.hok.fresh (Nat.le_of_succ_le h1)
  · exact absurd (show p ∈ ([] : List (Addr × Obj)) ++ [] from hp) (by simp)

/-- an item appended to a tracked list -/
theorem app_ok {E : Value → Shared → Prop} {D : Addr} {xs : List V} {y : V} {v : Value} {Q : Value → Shared → Prop} (I : Inv X pins σ H s) (hD : H D = some (.lst xs)) (hz : xs.length < sizeLine) (r : RelV y v)
    (h : ∀ s', Inv X pins σ (upd H D (.lst (xs ++ [y]))) s' → Q .none s') : wpAny (model X.prog X.w) X.A (call (.builtin "list.append") [.ref D, v]) Q E s := by
  obtain ⟨hz', its, n, ri, e⟩ := I.hok D _ hD
  have hl := ri.length
  refine append_at (hsz := by rw [List.size_toArray]; omega) e fun h' sb ho' => ?_
  refine h { s with heap := h' } (I.write (t' := s.toks) (by rw [hD]; trivial) (.inl rfl) (fun b u hb q => (sb.2 b hb).trans q) ⟨_, ho'⟩ ⟨by rw [List.length_append]; exact hz, its ++ [v], n + 1, ri.append (.cons r .nil), ?_⟩)
  rw [ho']
  simp

/-- a clause's tests -/
def PTs (X : Cx) (ifs : List Expr) (t : TT) : Prop :=
  ∀ (pins : List (Addr × Obj)) (s : Shared) (σ : St) (H : Hp) (Q : Bool → Hp → Prop), Inv X pins σ H s → t σ H Q →
    wpAny (model X.prog X.w) X.A (forIn ifs true fun c r => if r = true then do let ok ← isTrue c X.env (eval c X.env); pure (ForInStep.yield ok) else pure (ForInStep.yield r)) (TP X pins σ Q) X.xe s
def tYes : TT := fun _ H Q => Q true H
theorem pts_nil : PTs X [] tYes := fun _ _ _ H _ I h => wpAny_tests_nil ⟨H, I, h⟩
end

theorem thnF {α : Type} {t : Sem α} {Q Q' : α → Shared → Prop} {M : Model} {A : Around} {E : Value → Shared → Prop} {s : Shared} (h : wpAny M A t Q (fun _ _ => False) s) (hQ : ∀ a s, Q a s → Q' a s) : wpAny M A t Q' E s := wpAny_mono h hQ fun _ _ z => False.elim z

/-- the loop of a list comprehension's block, the target of any form (codeAny_compLoop_tests asks a target that no tuple goes to; statement and proof follow it, PyProof/CompMap.lean:41-61, with the step letOwnedTupleGo kept) -/
theorem compLoop_any {prog : Program} {w : World} {A : Around} {R : Result → Shared → Prop} {s : Shared} {elt target iter : Expr} {ifs : List Expr} {scope : Scope} {pos : Pos} {it acc : Value} {env : Env} (I : Nat → Shared → Prop)
    (turn : ∀ n s, I n s → wpAny (model prog w) A (pyNext it) (fun r s₁ => match r with
      | none => R (.ok .next) s₁
      | some v => wpAny (model prog w) A (letOwnedTupleGo target it v) (fun _ s₁' => wpAny (model prog w) A (assign target env v) (fun _ s₂ =>
          wpAny (model prog w) A (forIn ifs true fun c r => if r = true then do let ok ← isTrue c env (eval c env); pure (ForInStep.yield ok) else pure (ForInStep.yield r)) (fun ok s₃ =>
            if ok = true then wpAny (model prog w) A (eval elt env) (fun x s₄ =>
              wpAny (model prog w) A (call (.builtin "list.append") [acc, x]) (fun _ s₅ => ∃ m, m < n ∧ I m s₅) (notedBy (model prog w) A env fun e s' => R (.error e) s') s₄) (notedBy (model prog w) A env fun e s' => R (.error e) s') s₃
            else ∃ m, m < n ∧ I m s₃) (notedBy (model prog w) A env fun e s' => R (.error e) s') s₂) (notedBy (model prog w) A env fun e s' => R (.error e) s') s₁') (notedBy (model prog w) A env fun e s' => R (.error e) s') s₁) (notedBy (model prog w) A env fun e s' => R (.error e) s') s)
    (n : Nat) (h : I n s) :
    codeAny (model prog w) A (.compLoop (.ListComp elt [⟨target, iter, ifs, 0⟩] scope pos) 0 it acc env) R s := by
  refine codeAny_loop rfl I (fun n s hI => ?_) n h
  show wpAny _ A ((compTurn (.ListComp elt [⟨target, iter, ifs, 0⟩] scope pos) 0 it acc env).onRaise (fun x => do noteFrame x env; theTreesLotGoes x)) _ _ s
  refine wpAny_noted ?_
  rw [compTurn_list]
  refine wpAny_bind (wpAny_standAt (wpAny_bind (wpAny_mono (turn n s hI) (fun r s₁ h₁ => ?_) fun _ _ h' => h')))
  cases r with
  | none => exact wpAny_pure h₁
  | some v =>
    refine wpAny_bind (wpAny_mono h₁ (fun _ s₁' h₁' => ?_) fun _ _ h' => h')
    refine wpAny_bind (wpAny_mono h₁' (fun _ s₂ h₂ => wpAny_bind (wpAny_mono h₂ (fun ok s₃ h₃ => ?_) fun _ _ h' => h')) fun _ _ h' => h')
    cases ok with
    | false => exact wpAny_pure ⟨rfl, h₃⟩
    | true =>
      exact wpAny_bind (wpAny_bind (wpAny_mono h₃ (fun x s₄ h₄ => wpAny_bind (wpAny_mono h₄ (fun _ s₅ h₅ => wpAny_pure (wpAny_pure ⟨rfl, h₅⟩)) fun _ _ h' => h')) fun _ _ h' => h'))

section
variable {X : Cx}
/-- [elt for target in iter if ..]: D the new list; W by the turn and a measure, Nx what a turn is to reach -/
def tLc (wi : TI) (g : TG) (tt : TT) (te : TE) (vs : List Nat) : TE := fun σ H Q => wi σ H fun J H1 => ∀ D, H1 D = none → ∃ W : Nat → Nat → Hp → Prop, (∃ m, W 0 m (upd H1 D (.lst []))) ∧ ∀ i m H, W i m H →
  (J.stop i H ∧ Q (.ref D) H) ∨ (J.go i H ∧ ∃ Nx : Hp → Prop, (∀ H', Nx H' → ∃ m', m' < m ∧ W (i + 1) m' H') ∧ ∀ x H', J.yld i H x H' → g x (wipe σ vs) H' fun σ2 H2 => wipe σ2 vs = wipe σ vs ∧ tt σ2 H2 fun b H3 =>
    if b = true then te σ2 H3 fun y H4 => ∃ acc, H4 D = some (.lst acc) ∧ acc.length < sizeLine ∧ Nx (upd H4 D (.lst (acc ++ [y]))) else Nx H3)
theorem lc_core {pins : List (Addr × Obj)} {s : Shared} {σ : St} {H : Hp} {Q : VK} {elt tg iter : Expr} {ifs : List Expr} {scope : Scope} {own : List (Str × Nat)} {pos pos' : Pos} {wi : TI} {g : TG} {tt : TT} {te : TE} {use : Option (Value → Sem Unit)} {Qf : Value → Shared → Prop}
    (hc : X.calm = true) (hN : X.N.Nodup) (I : Inv X pins σ H s) (hi : PI X tg iter wi) (ok : BlkOk X.N X.env.scope scope own)
    (hg : ∀ (s : Shared) (H : Hp) (C : Addr) (cl : List (Str × Addr)) (fp : List Addr), PG (X.blk s H scope (compEnvC scope cl C X.env) fp) tg g) (ht : ∀ (s : Shared) (H : Hp) (C : Addr) (cl : List (Str × Addr)) (fp : List Addr), PTs (X.blk s H scope (compEnvC scope cl C X.env) fp) ifs tt)
    (he : ∀ (s : Shared) (H : Hp) (C : Addr) (cl : List (Str × Addr)) (fp : List Addr), PE (X.blk s H scope (compEnvC scope cl C X.env) fp) elt te) (hs : ∀ x, foldedSetIterable iter X.env x = pure x)
    (h : tLc wi g tt te (own.map (·.2)) σ H Q)
    (hRR : ∀ D C s' m H', Inv X pins σ H' s' → Q (.ref D) H' → s'.heap.Ns C m → FpOk X pins H' C → compPost (model X.prog X.w) X.A X.xe use Qf (.ref D) C (.ok .next) s') :
    wpAny (model X.prog X.w) X.A (comprehension (.ListComp elt [⟨tg, iter, ifs, 0⟩] scope pos) scope X.env pos' (newList []) false (eval iter X.env) use) Qf X.xe s := by
  have hfree : ∀ y ∈ scope.names, y.2 = .free → ∃ c, X.env.cells.lookup y.1 = some c := fun y hy e => by
    rcases ok.free y hy e with k | k
    · exact I.ok.has _ (.inl k)
    · exact I.ok.has _ (.inr k)
  refine wpAny_comprehension_free (use := use) rfl hs (closure_ok hfree) ok.kind (fun y hy e => by rw [ok.uniq y hy, e])
    (thn (hi pins s σ H _ I h) fun xv s1 hx => thn hx fun itv s2 h2 => ?_)
  obtain ⟨it, fp, tn, J, H2, e, I2, T, st2, f2, q⟩ := h2
  subst e
  refine wpAny_newObj_type (newEnv_comp ?_) (by show 0 ≤ sizeLine; decide)
  generalize hD : s2.heap.objs.size = D
  have hDn : H2 D = none := I2.hok.fresh (Nat.le_of_eq hD)
  obtain ⟨W, ⟨m0, w0⟩, turn⟩ := q D hDn
  -- the new list
  generalize hs3 : ({ s2 with heap := s2.heap.push { cls := .type "list", data := .seq ([] : List Value).toArray } } : Shared) = s3
  have I3 : Inv X pins σ (upd H2 D (.lst [])) s3 := by
    rw [← hs3]
    refine I2.laid (t' := s2.toks) (fun b o e => Heap.get?_push_of_some _ e) (Nat.le_of_eq hD) ⟨Nat.zero_le _, [], 0, .nil, ?_⟩
    rw [← hD]
    exact Heap.get?_push_size _ rfl
  have h3 : s3.heap = s2.heap.push { cls := .type "list", data := .seq ([] : List Value).toArray } := by rw [← hs3]
  have sz : ∀ b ∈ fp, b < s2.heap.objs.size := fun b hb => by
    obtain ⟨o, e, _⟩ := T.obj _ _ st2 b hb
    exact Heap.lt_size e
  have f3 : ∀ b ∈ fp, FpOk X pins (upd H2 D (.lst [])) b ∧ b < s3.heap.objs.size := fun b hb => by
    have hlt := sz b hb
    refine ⟨⟨?_, (f2 b hb).2⟩, by rw [h3, Heap.size_push]; exact Nat.lt_succ_of_lt hlt⟩
    rw [upd_ne (by rw [← hD]; exact Nat.ne_of_lt hlt)]
    exact (f2 b hb).1
  have st3 : tn 0 s3.heap := T.keep _ _ _ st2 fun b _ o e => by rw [h3]; exact Heap.get?_push_of_some _ e
  have I4 := block_start I3 ok hN f3
  have pg := hg s3 (upd H2 D (.lst [])) s3.heap.objs.size (cellsFrom (s3.heap.objs.size + 1) scope.names (cloFrom X.env.cells scope.names [])) fp
  have pt := ht s3 (upd H2 D (.lst [])) s3.heap.objs.size (cellsFrom (s3.heap.objs.size + 1) scope.names (cloFrom X.env.cells scope.names [])) fp
  have pe := he s3 (upd H2 D (.lst [])) s3.heap.objs.size (cellsFrom (s3.heap.objs.size + 1) scope.names (cloFrom X.env.cells scope.names [])) fp
  show codeAny _ _ (.compStart (.ListComp elt [⟨tg, iter, ifs, 0⟩] scope pos) 0 (.ref it) (.ref D) (compEnvC scope (cellsFrom (s3.heap.objs.size + 1) scope.names (cloFrom X.env.cells scope.names [])) s3.heap.objs.size X.env)) (compPost (model X.prog X.w) X.A X.xe use Qf (.ref D) s3.heap.objs.size) { s3 with heap := pushCells (s3.heap.push { cls := .type "dict", data := .dict #[] }) scope.names }
  have nfp : ∀ b ∈ fp, (upd H2 D (.lst [])) b = none := fun b hb => (f3 b hb).1.1
  generalize hce : compEnvC scope (cellsFrom (s3.heap.objs.size + 1) scope.names (cloFrom X.env.cells scope.names [])) s3.heap.objs.size X.env = ce at I4 pg pt pe ⊢
  have cL : ce.locals = s3.heap.objs.size := by subst hce; rfl
  generalize hH3 : upd H2 D (.lst []) = H3 at I3 I4 pg pt pe w0 nfp f3
  generalize hs4 : ({ s3 with heap := pushCells (s3.heap.push { cls := .type "dict", data := .dict #[] }) scope.names } : Shared) = s4 at I4 ⊢
  have st4 : tn 0 s4.heap := T.keep _ _ _ st3 fun b _ o e => by rw [← hs4]; exact pushCells_keeps _ _ _ _ (Heap.get?_push_of_some _ e)
  have stat : ∀ {σ' : St} {H' : Hp} {s' : Shared}, Inv (X.blk s3 H3 scope ce fp) [] σ' H' s' → (∀ b ∈ fp, H' b = none) → ∀ b ∈ fp, FpOk (X.blk s3 H3 scope ce fp) [] H' b := fun {σ' H' s'} I' hn b hb =>
    ⟨hn b hb, (I'.ok.exf b hb).1, I'.ok.exfs b hb, .inl hb, fun x c e => (I'.ok.exf b hb).2 x c e, fun p hp => absurd (show p ∈ ([] : List (Addr × Obj)) ++ [] from hp) (by simp)⟩
  have loop : codeAny (model X.prog X.w) X.A (.compLoop (.ListComp elt [⟨tg, iter, ifs, 0⟩] scope pos) 0 (.ref it) (.ref D) ce) (compPost (model X.prog X.w) X.A X.xe use Qf (.ref D) s3.heap.objs.size) s4 := by
    refine compLoop_any (fun n s' => ∃ i H', Inv (X.blk s3 H3 scope ce fp) [] (wipe σ (own.map (·.2))) H' s' ∧ tn i s'.heap ∧ (∀ b ∈ fp, H' b = none) ∧ W i n H') ?_ m0 ⟨0, H3, I4, st4, nfp, w0⟩
    rintro n s5 ⟨i, H5, I5, st5, n5, w5⟩
    rcases turn i n H5 w5 with ⟨stop, qq⟩ | ⟨go, Nx, hNx, step⟩
    · have td := T.done (X.blk s3 H3 scope ce fp) rfl rfl rfl hc i [] s5 _ H5 (fun _ _ => False) I5 (stat I5 n5) st5 stop
      refine thnF td fun r s6 ⟨hr, I6⟩ => ?_
      subst hr
      -- back in the def's context
      have I7 : Inv X pins σ H5 s6 := I3.call' (ch := fp) I6.os I6.base I6.hok I6.bare fun b hb => ⟨(f3 b hb).1.2.2.2.1, (f3 b hb).1.2.1, (f3 b hb).1.2.2.2.2.1, (f3 b hb).1.2.2.2.2.2⟩
      have nC : H5 s3.heap.objs.size = none := by
        have z : H5 ce.locals = none := I6.free
        rw [cL] at z
        exact z
      obtain ⟨m, hn, _⟩ := I6.loc
      have hn : s6.heap.Ns ce.locals m := hn
      rw [cL] at hn
      exact hRR D s3.heap.objs.size s6 m H5 I7 qq hn (I3.fpOk (Nat.le_refl _) nC)
    · have ti := T.item (X.blk s3 H3 scope ce fp) rfl rfl rfl hc i [] s5 _ H5 (fun _ _ => False) I5 (stat I5 n5) st5 go
      refine thnF ti fun r s6 ⟨u, hr, h6⟩ => ?_
      subst hr
      refine thnF h6 fun _ s7 ⟨x, H7, I7, r7, y7, st7, n7⟩ => ?_
      have I7' := I7.pinned (stat I7 n7) (T.obj _ _ st7)
      refine thnF (pg _ s7 _ H7 x u _ I7' r7 (step x H7 y7)) fun _ s8 ⟨σ8, H8, I8, hw8, q8⟩ => ?_
      refine thnF (pt _ s8 σ8 H8 _ I8 q8) fun b s9 ⟨H9, I9, q9⟩ => ?_
      -- the turn's end
      have fin : ∀ {s' : Shared} {H' : Hp}, Inv (X.blk s3 H3 scope ce fp) ([] ++ pinsAt fp s7.heap) σ8 H' s' → Nx H' → ∃ m, m < n ∧ ∃ i H', Inv (X.blk s3 H3 scope ce fp) [] (wipe σ (own.map (·.2))) H' s' ∧ tn i s'.heap ∧ (∀ b ∈ fp, H' b = none) ∧ W i m H' := fun {s' H'} I' nx => by
        obtain ⟨m', hm, w'⟩ := hNx H' nx
        have pin' : ∀ b ∈ fp, ∀ o, s7.heap.get? b = some o → s'.heap.get? b = some o ∧ H' b = none := fun b hb o e =>
          let z := I'.pin (b, o) (List.mem_append_right _ (List.mem_append_right _ (mem_pinsAt hb e)))
          ⟨z.1, z.2.1⟩
        have hl : (wipe σ (own.map (·.2))).length = σ8.length := by rw [← hw8, wipe_length]
        refine ⟨m', hm, i + 1, H', (I'.unpinned (pins := [])).weak hl (fun j v e => ?_), T.keep _ _ _ st7 fun b hb o e => (pin' b hb o e).1, fun b hb => ?_, w'⟩
        · rw [← hw8] at e
          exact (wipe_some e).1
        · obtain ⟨o, e, _⟩ := T.obj _ _ st7 b hb
          exact (pin' b hb o e).2
      cases b with
      | false =>
        simp only [Bool.false_eq_true, if_false] at q9 ⊢
        exact fin I9 q9
      | true =>
        simp only [if_true] at q9 ⊢
        refine thnF (pe _ s9 σ8 H9 _ I9 q9) fun z s10 ⟨yv, H10, I10, r10, acc, hD10, hz10, nx⟩ => ?_
        exact app_ok (X := X.blk s3 H3 scope ce fp) I10 hD10 hz10 r10 fun s11 I11 => fin I11 nx
  exact codeAny_compStart_list loop (T.self X.A 0 _ _ _ st4 loop)
/-- as a value -/
theorem pe_lc {elt tg iter : Expr} {ifs : List Expr} {scope : Scope} {own : List (Str × Nat)} {pos : Pos} {wi : TI} {g : TG} {tt : TT} {te : TE} (hc : X.calm = true) (hN : X.N.Nodup) (hi : PI X tg iter wi) (ok : BlkOk X.N X.env.scope scope own)
    (hg : ∀ (s : Shared) (H : Hp) (C : Addr) (cl : List (Str × Addr)) (fp : List Addr), PG (X.blk s H scope (compEnvC scope cl C X.env) fp) tg g) (ht : ∀ (s : Shared) (H : Hp) (C : Addr) (cl : List (Str × Addr)) (fp : List Addr), PTs (X.blk s H scope (compEnvC scope cl C X.env) fp) ifs tt)
    (he : ∀ (s : Shared) (H : Hp) (C : Addr) (cl : List (Str × Addr)) (fp : List Addr), PE (X.blk s H scope (compEnvC scope cl C X.env) fp) elt te) (hs : ∀ x, foldedSetIterable iter X.env x = pure x := by intro _; rfl) :
    PE X (.ListComp elt [⟨tg, iter, ifs, 0⟩] scope pos) (tLc wi g tt te (own.map (·.2))) := by
  intro pins s σ H Q I h
  rw [eval_ListComp]
  refine lc_core hc hN I hi ok hg ht he hs h fun D C s' m H' I' q hn f => ⟨m, hn, fun h'' sb => ?_⟩
  obtain ⟨f0, f1, f2, f3, f4, f5⟩ := f
  exact ⟨.ref D, H', I'.turned (t' := s'.toks) (fun b o hb e => (sb.2 b hb).trans e) f0 f1 f3 f4 f5, rfl, q⟩
/-- name = [..] on one line, the name a local -/
theorem ps_setLc {i : Nat} {y : Str} {py : Pos} {elt tg iter : Expr} {ifs : List Expr} {scope : Scope} {own : List (Str × Nat)} {pos spos : Pos} {wi : TI} {g : TG} {tt : TT} {te : TE} (hc : X.calm = true) (hN : X.N.Nodup) (hy : X.N[i]? = some y) (hyl : X.env.scope.names.lookup y = some .local)
    (hsw : swapsWith (.ListComp elt [⟨tg, iter, ifs, 0⟩] scope pos) (some (.Name y py)) spos.line X.env = pure true) (hi : PI X tg iter wi) (ok : BlkOk X.N X.env.scope scope own)
    (hg : ∀ (s : Shared) (H : Hp) (C : Addr) (cl : List (Str × Addr)) (fp : List Addr), PG (X.blk s H scope (compEnvC scope cl C X.env) fp) tg g) (ht : ∀ (s : Shared) (H : Hp) (C : Addr) (cl : List (Str × Addr)) (fp : List Addr), PTs (X.blk s H scope (compEnvC scope cl C X.env) fp) ifs tt)
    (he : ∀ (s : Shared) (H : Hp) (C : Addr) (cl : List (Str × Addr)) (fp : List Addr), PE (X.blk s H scope (compEnvC scope cl C X.env) fp) elt te) (hs : ∀ x, foldedSetIterable iter X.env x = pure x := by intro _; rfl) :
    PS X (.Assign [.Name y py] (.ListComp elt [⟨tg, iter, ifs, 0⟩] scope pos) spos) (tAsg (tLc wi g tt te (own.map (·.2))) (gName i)) := by
  intro pins s σ H D I h
  rw [exec_Assign_Name_used _ _ _ _ hsw]
  refine wpAny_bind (wpAny_standAt (wpAny_bind ?_))
  show wpAny _ X.A (do let _ ← comprehension (.ListComp elt [⟨tg, iter, ifs, 0⟩] scope pos) scope X.env (firstIterPos [⟨tg, iter, ifs, 0⟩] pos) (newList []) false (eval iter X.env) (some (assign (.Name y py) X.env))) _ _ s
  have h : tLc wi g tt te (own.map (·.2)) σ H (fun x H1 => gName i x σ H1 D.nx) := h
  refine wpAny_bind (thn (lc_core (Qf := fun _ s' => SP X pins D .next s') hc hN I hi ok hg ht he hs h fun L C s' m H' I' q hn f => ?_) fun _ s' hq => wpAny_pure (wpAny_pure hq))
  show wpAny _ _ (assign (.Name y py) X.env (.ref L)) _ _ _
  refine wpAny_assign_Name (store_ok2 (v := V.ref L) I' hN hy (.inl hyl) rfl (fun s2 I2 ⟨a, sb, ha⟩ => ?_) (.inr hyl))
  obtain ⟨f0, f1, f2, f3, f4, f5⟩ := f
  have haC : C ≠ a := by
    rcases ha with z | z
    · rw [z]; exact f1
    · exact fun e => f4 y a z e.symm
  refine ⟨m, hn.sameBut sb haC, fun h3 sb3 => ?_⟩
  exact ⟨_, H', I2.turned (t' := s2.toks) (fun b o hb e => (sb3.2 b hb).trans e) f0 f1 f3 f4 f5, q⟩
theorem sw_true {elt : Expr} {gs : List Comprehension} {scope : Scope} {pos py : Pos} {y : Str} {l : Nat} {env : Env} (hk : env.scope.kind = .function) (hy : env.scope.names.lookup y = some .local) (hl : (py.line == pos.line) = true)
    (ha : (scope.names.any fun (n, k) => n == y && (k == .local || k == .cell)) = false) : swapsWith (.ListComp elt gs scope pos) (some (.Name y py)) l env = pure true := by
  have ky : env.kindOf y = some .local := hy
  have hb : env.blockKind = .function := by unfold Env.blockKind; rw [hk]; rfl
  unfold swapsWith
  simp only [hb, ky, ha, Expr.pos, hl]
  rfl
end

/-! ### the forms one uses -/
/-- over a list that the block leaves as it is -/
theorem lc_list {K : PySem.W.Frag} {a : Addr} {xs : List V} {g : TG} {tt : TT} {te : TE} {vs : List Nat} {σ : St} {H1 : Hp} {D : Addr} {Qd : Hp → Prop} (Pv : Nat → Hp → Prop) (h0 : Pv 0 (upd H1 D (.lst []))) (hl : ∀ i H, i ≤ xs.length → Pv i H → SqL K H a xs)
    (hs : ∀ i x H, xs[i]? = some x → Pv i H → g x (wipe σ vs) H fun σ2 H2 => wipe σ2 vs = wipe σ vs ∧ tt σ2 H2 fun b H3 =>
      if b = true then te σ2 H3 fun y H4 => ∃ acc, H4 D = some (.lst acc) ∧ acc.length < sizeLine ∧ Pv (i + 1) (upd H4 D (.lst (acc ++ [y]))) else Pv (i + 1) H3) (hd : ∀ H, Pv xs.length H → Qd H) :
    ∃ W : Nat → Nat → Hp → Prop, (∃ m, W 0 m (upd H1 D (.lst []))) ∧ ∀ i m H, W i m H →
      ((Itl K a).stop i H ∧ Qd H) ∨ ((Itl K a).go i H ∧ ∃ Nx : Hp → Prop, (∀ H', Nx H' → ∃ m', m' < m ∧ W (i + 1) m' H') ∧ ∀ x H', (Itl K a).yld i H x H' → g x (wipe σ vs) H' fun σ2 H2 => wipe σ2 vs = wipe σ vs ∧ tt σ2 H2 fun b H3 =>
        if b = true then te σ2 H3 fun y H4 => ∃ acc, H4 D = some (.lst acc) ∧ acc.length < sizeLine ∧ Nx (upd H4 D (.lst (acc ++ [y]))) else Nx H3) := by
  refine ⟨fun i m H => m = xs.length - i ∧ i ≤ xs.length ∧ Pv i H, ⟨xs.length, by simp, Nat.zero_le _, h0⟩, ?_⟩
  rintro i m H ⟨rfl, hi, p⟩
  have q := hl i H hi p
  by_cases hlt : i < xs.length
  · refine .inr ⟨⟨xs, xs[i], q, by simp [hlt]⟩, Pv (i + 1), fun H' p' => ⟨xs.length - (i + 1), by omega, rfl, hlt, p'⟩, fun x H' y => ?_⟩
    obtain ⟨e, y⟩ := y
    subst e
    exact hs i x _ (y xs q) p
  · have e : i = xs.length := by omega
    subst e
    exact .inl ⟨⟨xs, q, Nat.le_refl _⟩, hd H p⟩
def blkC (N : List Str) (sc scope : Scope) (own : List (Str × Nat)) : Bool :=
  (match scope.kind with | .function => true | _ => false) && (scope.names.all fun y => decide (scope.names.lookup y.1 = some y.2)) && (own.all fun p => decide (N[p.2]? = some p.1)) &&
    (scope.names.all fun y => match y.2 with
      | .free => (match sc.names.lookup y.1 with | some .cell => true | some .free => true | _ => false)
      | .local => decide (y.1 ∈ own.map (·.1)) || decide (y.1 ∉ N)
      | .cell => decide (y.1 ∈ own.map (·.1)) || decide (y.1 ∉ N)
      | _ => true)
theorem blkOk_by {N : List Str} {sc scope : Scope} {own : List (Str × Nat)} (h : blkC N sc scope own = true) : BlkOk N sc scope own := by
  unfold blkC at h
  simp only [Bool.and_eq_true, List.all_eq_true, decide_eq_true_eq] at h
  obtain ⟨⟨⟨h1, h2⟩, h3⟩, h4⟩ := h
  refine ⟨?_, h2, h3, fun y hy e => ?_, fun y hy e => ?_⟩
  · split at h1
    · assumption
    · cases h1
  · have q := h4 y hy
    simp only [e] at q
    split at q <;> first | exact .inl (by assumption) | exact .inr (by assumption) | cases q
  · have q := h4 y hy
    rcases e with e | e <;> (simp only [e, Bool.or_eq_true, decide_eq_true_eq] at q; exact q)
end L2

namespace L2
open PySem PySem.Spec PyProof.Rows


section
variable {prog : Program} {w : World} {A : Around} {R : Result → Shared → Prop} {s : Shared} {elt t0 i0 t1 i1 : Expr} {ifs0 ifs1 : List Expr} {scope : Scope} {pos : Pos} {it acc : Value} {env : Env}
end

section
variable {X : Cx}
end
end L2

namespace L2
open PySem PySem.Spec PyProof.Rows

/-! ### lists of pairs as tables -/
section
variable {κ : Type} [DecidableEq κ]
def valV (kvs : List (κ × V)) (k : κ) : Option V := (kvs.find? fun kv => decide (kv.1 = k)).map (·.2)
/-- in its place, or at the end -/
def putK (kvs : List (κ × V)) (k : κ) (v : V) : List (κ × V) :=
  if (kvs.any fun kv => decide (kv.1 = k)) = true then kvs.map (fun kv => if kv.1 = k then (kv.1, v) else kv) else kvs ++ [(k, v)]

theorem valV_pos {p : κ × V} {r : List (κ × V)} {k : κ} (e : p.1 = k) : valV (p :: r) k = some p.2 := by simp [valV, List.find?_cons, e]
theorem valV_neg {p : κ × V} {r : List (κ × V)} {k : κ} (e : ¬ p.1 = k) : valV (p :: r) k = valV r k := by simp [valV, List.find?_cons, e]
theorem valV_any (k : κ) : ∀ kvs : List (κ × V), (kvs.any fun kv => decide (kv.1 = k)) = (valV kvs k).isSome
  | [] => rfl
  | p :: r => by
    rw [List.any_cons]
    by_cases e : p.1 = k
    · simp only [valV_pos e, decide_eq_true e, Bool.true_or, Option.isSome_some]
    · rw [valV_neg e, decide_eq_false e, Bool.false_or]; exact valV_any k r
theorem valV_map (k j : κ) (y : V) : ∀ kvs : List (κ × V), valV (kvs.map fun kv => if kv.1 = k then (kv.1, y) else kv) j = (valV kvs j).map fun x => if j = k then y else x
  | [] => rfl
  | p :: r => by
    have ih := valV_map k j y r
    rw [List.map_cons]
    by_cases h : p.1 = k
    · rw [if_pos h]
      by_cases e : p.1 = j
      · rw [valV_pos (p := (p.1, y)) e, valV_pos e, Option.map_some, if_pos (e.symm.trans h)]
      · rw [valV_neg (p := (p.1, y)) e, valV_neg e, ih]
    · rw [if_neg h]
      by_cases e : p.1 = j
      · rw [valV_pos (p := p) e, valV_pos e, Option.map_some, if_neg (fun z => h (e.trans z))]
      · rw [valV_neg (p := p) e, valV_neg e, ih]
theorem valV_snoc (k j : κ) (y : V) : ∀ kvs : List (κ × V), valV kvs k = none → valV (kvs ++ [(k, y)]) j = if j = k then some y else valV kvs j
  | [], _ => by
    by_cases e : k = j
    · rw [if_pos e.symm]; exact valV_pos (p := (k, y)) e
    · rw [if_neg (fun z => e z.symm)]; exact valV_neg (p := (k, y)) e
  | p :: r, hn => by
    rw [List.cons_append]
    have hk : ¬ p.1 = k := fun z => by rw [valV_pos z] at hn; cases hn
    rw [valV_neg hk] at hn
    have ih := valV_snoc k j y r hn
    by_cases e : p.1 = j
    · rw [valV_pos e, valV_pos e, if_neg (fun z => hk (e.trans z))]
    · rw [valV_neg e, valV_neg e, ih]
theorem valV_put (kvs : List (κ × V)) (k j : κ) (y : V) : valV (putK kvs k y) j = if j = k then some y else valV kvs j := by
  unfold putK
  by_cases a : (kvs.any fun kv => decide (kv.1 = k)) = true
  · rw [if_pos a, valV_map]
    rw [valV_any] at a
    by_cases e : j = k
    · obtain ⟨x, hx⟩ := Option.isSome_iff_exists.mp a
      rw [if_pos e, e, hx, Option.map_some, if_pos rfl]
    · rw [if_neg e]
      cases valV kvs j with
      | none => rfl
      | some x => rw [Option.map_some, if_neg e]
  · rw [if_neg a]
    refine valV_snoc k j y kvs ?_
    rw [valV_any] at a
    cases q : valV kvs k with
    | none => rfl
    | some x => rw [q] at a; exact (a rfl).elim
theorem length_putK (kvs : List (κ × V)) (k : κ) (v : V) : (putK kvs k v).length ≤ kvs.length + 1 := by
  unfold putK
  split
  · rw [List.length_map]; omega
  · rw [List.length_append, List.length_cons, List.length_nil]; omega

theorem RelO.isSome_eq {o : Option V} {u : Option Value} (r : RelO o u) : o.isSome = u.isSome := by
  cases o with
  | none => cases u with
    | none => rfl
    | some _ => exact (show False from r).elim
  | some _ => cases u with
    | none => exact (show False from r).elim
    | some _ => rfl

/-- raw tables of the same keys -/
theorem KV.val {kvs : List (κ × V)} {vs : List (κ × Value)} (r : KV kvs vs) (k : κ) : RelO (valV kvs k) (valueAt vs k) := by
  unfold KV at r
  induction r with
  | nil => exact True.intro
  | @cons p q ps qs h t ih =>
    obtain ⟨h1, h2⟩ := h
    by_cases e : p.1 = k
    · have e' : q.1 = k := h1.symm.trans e
      have b : valueAt (q :: qs) k = some q.2 := by simp [valueAt, List.find?_cons, e']
      rw [valV_pos e, b]; exact h2
    · have e' : ¬ q.1 = k := fun z => e (h1.trans z)
      have b : valueAt (q :: qs) k = valueAt qs k := by simp [valueAt, List.find?_cons, e']
      rw [valV_neg e, b]; exact ih
theorem KV.any {kvs : List (κ × V)} {vs : List (κ × Value)} (r : KV kvs vs) (k : κ) : (kvs.any fun kv => decide (kv.1 = k)) = vs.any fun kv => decide (kv.1 = k) := by
  unfold KV at r
  induction r with
  | nil => rfl
  | cons h t ih => rw [List.any_cons, List.any_cons, ih, h.1]
theorem KV.repl {kvs : List (κ × V)} {vs : List (κ × Value)} (r : KV kvs vs) (k : κ) {y : V} {u : Value} (ry : RelV y u) :
    KV (kvs.map fun kv => if kv.1 = k then (kv.1, y) else kv) (vs.map fun kv => if kv.1 = k then (kv.1, u) else kv) := by
  unfold KV at r ⊢
  induction r with
  | nil => exact .nil
  | @cons p q ps qs h t ih =>
    rw [List.map_cons, List.map_cons]
    refine .cons ?_ ih
    obtain ⟨h1, h2⟩ := h
    by_cases e : p.1 = k
    · rw [if_pos e, if_pos (h1.symm.trans e)]; exact ⟨h1, ry⟩
    · rw [if_neg e, if_neg (fun z => e (h1.trans z))]; exact ⟨h1, h2⟩
theorem KV.put {kvs : List (κ × V)} {vs : List (κ × Value)} (r : KV kvs vs) (k : κ) {y : V} {u : Value} (ry : RelV y u) : KV (putK kvs k y) (stored vs k u) := by
  unfold putK stored
  rw [r.any k]
  by_cases e : (vs.any fun kv => decide (kv.1 = k)) = true
  · rw [if_pos e, if_pos e]; exact r.repl k ry
  · rw [if_neg e, if_neg e]; exact Paired.snoc r ⟨rfl, ry⟩
theorem KV.length {kvs : List (κ × V)} {vs : List (κ × Value)} (r : KV kvs vs) : kvs.length = vs.length := Paired.length r
end


/-! ### a tracked dict, its keys ints and texts or tuples of these -/
theorem kV_is {P : Program} {w : World} {k : Key} {u : Value} (r : RelV (kV k) u) : (mixKind P w).is k u = true := by
  cases k with
  | inl i => obtain ⟨t, e⟩ := (show ∃ t, u = Value.int i t from r); subst e; exact mixKind_int P w i t
  | inr x => obtain ⟨t, e⟩ := (show ∃ t, u = Value.str x t from r); subst e; exact mixKind_str P w x t
theorem items_are {P : Program} {w : World} : ∀ {ks : List Key} {us : List Value}, Vals (ks.map kV) us → ItemsAre (mixKind P w) ks us
  | [], _, r => by rw [List.map_nil] at r; cases r; exact .nil
  | k :: ks, _, r => by
    rw [List.map_cons] at r
    cases r with
    | cons h t => exact .cons (kV_is h) (items_are t)

/-- raw entries of a dict with tuple keys -/
abbrev KT (H : Hp) : List (List Key × V) → List (List Key × Addr × Value) → Prop := Paired fun p q => p.1 = q.1 ∧ H q.2.1 = some (.tup (p.1.map kV)) ∧ RelV p.2 q.2.2
theorem KT.val {H : Hp} {kvs : List (List Key × V)} {xs : List (List Key × Addr × Value)} (r : KT H kvs xs) (k : List Key) : RelO (valV kvs k) ((atKey xs k).map (·.2)) := by
  induction r with
  | nil => exact True.intro
  | @cons p q ps qs h t ih =>
    obtain ⟨h1, _, h2⟩ := h
    by_cases e : p.1 = k
    · have e' : q.1 = k := h1.symm.trans e
      have b : atKey (q :: qs) k = some q.2 := by simp [atKey, List.find?_cons, e']
      rw [valV_pos e, b]; exact h2
    · have e' : ¬ q.1 = k := fun z => e (h1.trans z)
      have b : atKey (q :: qs) k = atKey qs k := by simp [atKey, List.find?_cons, e']
      rw [valV_neg e, b]; exact ih
theorem KT.repl {H : Hp} {kvs : List (List Key × V)} {xs : List (List Key × Addr × Value)} (r : KT H kvs xs) (k : List Key) {y : V} {u : Value} (ry : RelV y u) :
    KT H (kvs.map fun kv => if kv.1 = k then (kv.1, y) else kv) (xs.map (putAt k u)) := by
  induction r with
  | nil => exact .nil
  | @cons p q ps qs h t ih =>
    rw [List.map_cons, List.map_cons]
    refine .cons ?_ ih
    obtain ⟨h1, h2, h3⟩ := h
    unfold putAt
    by_cases e : p.1 = k
    · rw [if_pos e, if_pos (h1.symm.trans e)]; exact ⟨h1, h2, ry⟩
    · rw [if_neg e, if_neg (fun z => e (h1.trans z))]; exact ⟨h1, h2, h3⟩
theorem KT.put {H : Hp} {kvs : List (List Key × V)} {xs : List (List Key × Addr × Value)} (r : KT H kvs xs) (k : List Key) {b : Addr} {y : V} {u : Value} (hb : H b = some (.tup (k.map kV))) (ry : RelV y u) :
    KT H (putK kvs k y) (storedH xs k b u) := by
  have e : (kvs.any fun kv => decide (kv.1 = k)) = (atKey xs k).isSome := by
    rw [valV_any, (r.val k).isSome_eq, Option.isSome_map]
  unfold putK storedH
  rw [e]
  by_cases q : (atKey xs k).isSome = true
  · rw [if_pos q, if_pos q]; exact r.repl k ry
  · rw [if_neg q, if_neg q]; exact Paired.snoc r ⟨rfl, hb, ry⟩
theorem KT.keeps {H H' : Hp} {kvs : List (List Key × V)} {xs : List (List Key × Addr × Value)} (r : KT H kvs xs) (ht : ∀ b ys, H b = some (.tup ys) → H' b = some (.tup ys)) : KT H' kvs xs :=
  Paired.mapP r fun _ _ z => ⟨z.1, ht _ _ z.2.1, z.2.2⟩

section
variable {P : Program} {w : World} {H : Hp} {h : Heap} {a : Addr}
theorem rd_of {u : HO} (ok : HOk P w H h) (e : Rd H a u) : ObjOk P w H h a u := e.ok ok
theorem dk_rd {kvs : List (Key × V)} (ok : HOk P w H h) (e : Rd H a (.dK kvs)) : kvs.length ≤ sizeLine ∧ (a == sysModules) = false ∧ ∃ vs, KV kvs vs ∧ h.DictOf (mixKind P w) a vs :=
  show ObjOk P w H h a (.dK kvs) from rd_of ok e
theorem dk_of {kvs : List (Key × V)} (ok : HOk P w H h) (e : H a = some (.dK kvs)) : kvs.length ≤ sizeLine ∧ (a == sysModules) = false ∧ ∃ vs, KV kvs vs ∧ h.DictOf (mixKind P w) a vs := dk_rd ok (.inl e)
/-- a tracked tuple of ints and texts is a key -/
theorem key_of {ks : List Key} (ok : HOk P w H h) (e : H a = some (.tup (ks.map kV))) : (tupleKind (mixKind P w)).is h ks a := by
  obtain ⟨_, its, r, o, h1, h2, n, h3⟩ := (show ObjOk P w H h a (.tup (ks.map kV)) from ok a _ e)
  exact ⟨o, its.toArray, n, h1, h2, h3, by simpa using items_are r⟩
theorem dt_rd {kvs : List (List Key × V)} (ok : HOk P w H h) (e : Rd H a (.dT kvs)) : kvs.length ≤ sizeLine ∧ (a == sysModules) = false ∧
    ∃ xs, KT H kvs xs ∧ h.DictOfH (tupleKind (mixKind P w)) a xs := by
  obtain ⟨z, y, xs, r, o, es, ep, h1, h2, h3, h4, h5⟩ := (show ObjOk P w H h a (.dT kvs) from rd_of ok e)
  refine ⟨z, y, xs, r, o, es, ep, h1, h2, h3, h4, fun x hx => ?_, h5⟩
  have all : ∀ {l : List (List Key × V)} {m : List (List Key × Addr × Value)}, KT H l m → ∀ x ∈ m, (tupleKind (mixKind P w)).is h x.1 x.2.1 := by
    intro l m q
    induction q with
    | nil => intro x hx; exact nomatch hx
    | @cons p q ps qs hq t ih =>
      intro x hx
      rcases List.mem_cons.mp hx with e | hx
      · subst e
        exact key_of ok (by rw [← hq.1]; exact hq.2.1)
      · exact ih x hx
  exact all r x hx
theorem dt_of {kvs : List (List Key × V)} (ok : HOk P w H h) (e : H a = some (.dT kvs)) : kvs.length ≤ sizeLine ∧ (a == sysModules) = false ∧
    ∃ xs, KT H kvs xs ∧ h.DictOfH (tupleKind (mixKind P w)) a xs := dt_rd ok (.inl e)
end

/-- what the dict at a holds at the key y -/
def DGet (H : Hp) (a : Addr) (y : V) (r : Option V) : Prop :=
  (∃ kvs k, Rd H a (.dK kvs) ∧ y = kV k ∧ r = valV kvs k) ∨ ∃ kvs k b, Rd H a (.dT kvs) ∧ y = .ref b ∧ H b = some (.tup (k.map kV)) ∧ r = valV kvs k
/-- the heap behind a[y] = v -/
def DPut (H : Hp) (a : Addr) (y v : V) (H' : Hp) : Prop :=
  (∃ kvs k, H a = some (.dK kvs) ∧ y = kV k ∧ kvs.length < sizeLine ∧ H' = upd H a (.dK (putK kvs k v))) ∨
  ∃ kvs k b, H a = some (.dT kvs) ∧ y = .ref b ∧ H b = some (.tup (k.map kV)) ∧ kvs.length < sizeLine ∧ H' = upd H a (.dT (putK kvs k v))
theorem DGet.t {H : Hp} {a b : Addr} {kvs : List (List Key × V)} {k : List Key} (e : H a = some (.dT kvs)) (eb : H b = some (.tup (k.map kV))) : DGet H a (.ref b) (valV kvs k) := .inr ⟨kvs, k, b, .inl e, rfl, eb, rfl⟩
theorem DPut.t {H : Hp} {a b : Addr} {kvs : List (List Key × V)} {k : List Key} {v : V} (e : H a = some (.dT kvs)) (eb : H b = some (.tup (k.map kV))) (hl : kvs.length < sizeLine) :
    DPut H a (.ref b) v (upd H a (.dT (putK kvs k v))) := .inr ⟨kvs, k, b, e, rfl, eb, hl, rfl⟩


section
variable {X : Cx} {pins : List (Addr × Obj)} {σ : St} {H : Hp} {s : Shared} {a : Addr} {y v : V} {u r : Value} {o : Option V} {A : Around} {E : Value → Shared → Prop}

theorem Inv.big (I : Inv X pins σ H s) : sysModules < s.heap.objs.size := by
  have h : mainGlobals < s.heap.objs.size := (I.mod.glob.keeps I.bk).lt
  exact Nat.lt_trans (by decide) h

/-- d[y], there -/
theorem d_getItem {Q : Value → Shared → Prop} (hu : A.units + 1 < cLine) (I : Inv X pins σ H s) (g : DGet H a y (some v)) (ry : RelV y u) (h : ∀ w' s', Inv X pins σ H s' → RelV v w' → Q w' s') :
    wpAny (model X.prog X.w) A (getItem (.ref a) u) Q E s := by
  rcases g with ⟨kvs, k, e, ey, l⟩ | ⟨kvs, k, b, e, ey, eb, l⟩
  · subst ey
    obtain ⟨z, hd, vs, rel, dd⟩ := dk_rd I.hok e
    obtain ⟨w', hw, rw'⟩ := RelO.some_of (v := v) (o := valueAt vs k) (by rw [l]; exact rel.val k)
    exact wpAny_getItem_of (kV_is ry) dd.mapOf hw (h w' _ (I.tok _) rw')
  · subst ey
    cases (show u = Value.ref b from ry)
    obtain ⟨z, hd, xs, rel, dd⟩ := dt_rd I.hok e
    obtain ⟨w', hw, rw'⟩ := RelO.some_of (v := v) (o := (atKey xs k).map (·.2)) (by rw [l]; exact rel.val k)
    obtain ⟨p, hp, hp2⟩ := Option.map_eq_some_iff.mp hw
    refine wpAny_getItem_heap (tupleKind_room_in1 hu) (key_of I.hok eb) dd hp ?_
    rw [hp2]
    exact h w' _ (I.tok _) rw'
/-- a dict's object is replaced -/
theorem d_write {h' : Heap} {t' : Nat} {ob : HO} (I : Inv X pins σ H s) (mu : Mut (H a)) (hs : Heap.SameBut a s.heap h') (he : ∃ q, h'.get? a = some q) (new : ObjOk X.prog X.w (upd H a ob) h' a ob) :
    Inv X pins σ (upd H a ob) { s with heap := h', toks := t' } :=
  I.write (x := a) (e := a) mu (.inl rfl) (fun b q hb z => (hs.2 b hb).trans z) he new
theorem dk_new {P : Program} {w : World} {H' : Hp} {h' : Heap} {kvs : List (Key × V)} {vs : List (Key × Value)} (z : kvs.length ≤ sizeLine) (hd : (a == sysModules) = false) (rel : KV kvs vs) (dd : h'.DictOf (mixKind P w) a vs) :
    ObjOk P w H' h' a (.dK kvs) := ⟨z, hd, vs, rel, dd⟩
/-- d[y] = v -/
theorem d_setItem {H' : Hp} {Q : Unit → Shared → Prop} (hu : A.units + 1 < cLine) (I : Inv X pins σ H s) (g : DPut H a y v H') (ry : RelV y u) (rv : RelV v r) (h : ∀ s', Inv X pins σ H' s' → Q () s') :
    wpAny (model X.prog X.w) A (setItem (.ref a) u r) Q E s := by
  rcases g with ⟨kvs, k, e, ey, l, eH⟩ | ⟨kvs, k, b, e, ey, eb, l, eH⟩
  · subst ey eH
    obtain ⟨z, hd, vs, rel, dd⟩ := dk_of I.hok e
    have hz : vs.length ≤ sizeLine := by rw [← rel.length]; exact z
    have hl : (putK kvs k v).length ≤ sizeLine := by have := length_putK kvs k v; omega
    refine wpAny_setItem_pairs (hsz := hz) (kV_is ry) dd fun h' dd' hs => h _ ?_
    have he : ∃ q, h'.get? a = some q := let ⟨q, _, _, hq, _⟩ := dd'; ⟨q, hq⟩
    exact d_write I (by rw [e]; exact True.intro) hs he (dk_new hl hd (rel.put k rv) dd')
  · subst ey eH
    cases (show u = Value.ref b from ry)
    obtain ⟨z, hd, xs, rel, dd⟩ := dt_of I.hok e
    have hz : xs.length ≤ sizeLine := by rw [← Paired.length rel]; exact z
    have hl : (putK kvs k v).length ≤ sizeLine := by have := length_putK kvs k v; omega
    refine wpAny_setItem_heap (hsz := hz) (tupleKind_room_in1 hu) (key_of I.hok eb) dd fun h' dd' hs => h _ ?_
    obtain ⟨q, es, ep, hq, h2, h3, h4, _, h5⟩ := dd'
    refine d_write I (by rw [e]; exact True.intro) hs ⟨q, hq⟩ ⟨hl, hd, _, (rel.put k eb rv).keeps fun c ys ec => ?_, q, es, ep, hq, h2, h3, h4, h5⟩
    rw [upd_ne (ne_of ec e (fun z => nomatch z))]
    exact ec
end

section
variable {X : Cx} {pins : List (Addr × Obj)} {σ : St} {H : Hp} {s : Shared} {a : Addr} {kvs : List (Key × V)} {k : Key} {u : Value} {A : Around} {E : Value → Shared → Prop}
end


/-! ### readings and rules -/
/-- the element of a subscription, not a slice -/
def NoSl (i : Expr) : Prop := ∀ ov iv, subscripted i false ov iv = operate [ov, iv] (getItem ov iv)
theorem subD_of {prog : Program} {w : World} {A : Around} {E : Value → Shared → Prop} {s : Shared} {env : Env} {value slice : Expr} {pos : Pos} {T id : String} {Q : Value → Shared → Prop}
    (hl : typeLookup (.type T) "__getitem__" = pure (some (.builtin id))) (hs : NoSl slice)
    (h : wpAny (model prog w) A (eval value env) (fun o s₁ => wpAny (model prog w) A (eval slice env) (fun i s₂ => s₂.TypeIs o T ∧ wpAny (model prog w) A (getItem o i) Q E s₂) E s₁) E s) :
    wpAny (model prog w) A (eval (.Subscript value slice pos) env) Q E s := by
  refine Subscript_ (wpAny_mono h (fun o s₁ h₁ => wpAny_mono h₁ (fun i s₂ h₂ => ?_) fun _ _ x => x) fun _ _ x => x)
  obtain ⟨hT, h₂⟩ := h₂
  unfold subscriptTail
  refine wpAny_bind ?_
  rw [getitemInPython_of_ne hT.not_modules]
  refine wpAny_bind (wpAny_specialOf hT hl ?_)
  have fin : wpAny (model prog w) A (subscripted slice false o i) (fun r s₃ => wpAny (model prog w) A (letTemporaryGo value o r >>= fun _ => pure r) Q E s₃) E s₂ := by
    rw [hs o i]
    exact wpAny_operating (wpAny_mono h₂ (fun r s₃ h₃ => wpAny_bind (wpAny_letTemporaryGo (wpAny_pure h₃))) fun _ _ x => x)
  first
    | exact wpAny_pure (wpAny_bind fin)
    | exact wpAny_bind (wpAny_pure (wpAny_bind fin))
    | exact wpAny_bind fin

theorem dict_typeIs {X : Cx} {pins : List (Addr × Obj)} {σ : St} {H : Hp} {s : Shared} {a : Addr} {y : V} {o : Option V} (I : Inv X pins σ H s) (g : DGet H a y o) : s.TypeIs (.ref a) "dict" := by
  rcases g with ⟨kvs, k, e, _, _⟩ | ⟨kvs, k, b, e, _, _, _⟩
  · obtain ⟨_, _, vs, _, dd⟩ := dk_rd I.hok e
    exact dd.typeIs
  · obtain ⟨_, _, xs, _, dd⟩ := dt_rd I.hok e
    exact dd.typeIs

/-- d[y] -/
def tDGet (td ty : TE) : TE := fun σ H Q => td σ H fun x H1 => ty σ H1 fun y H2 => ∃ a v, x = .ref a ∧ DGet H2 a y (some v) ∧ Q v H2
/-- d[y] = v -/
def sDPut (td ty tv : TE) : TS := fun D σ H => tv σ H fun v H1 => td σ H1 fun x H2 => ty σ H2 fun y H3 => ∃ a H4, x = .ref a ∧ DPut H3 a y v H4 ∧ D.nx σ H4

section
variable {X : Cx} {o i e value : Expr} {pos pos' tpos : Pos} {td ty tv : TE}
theorem pe_dget (hu : X.A.units + 1 < cLine) (ho : PE X o td) (hi : PE X i ty) (hs : NoSl i) : PE X (.Subscript o i pos) (tDGet td ty) := by
  intro pins s σ H Q I h
  refine subD_of PySem.F.slot_dict_getitem.lookup hs (thn (ho pins s σ H _ I h) fun u s1 ⟨x, H1, I1, rx, q1⟩ => thn (hi pins s1 σ H1 _ I1 q1) fun iv s2 ⟨y, H2, I2, ry, a, v, ex, g, q2⟩ => ?_)
  subst ex
  obtain rfl : u = Value.ref a := rx
  exact ⟨dict_typeIs I2 g, d_getItem hu I2 g ry fun w' s3 I3 rw' => ⟨v, H2, I3, rw', q2⟩⟩
theorem ps_dput (hu : X.A.units + 1 < cLine) (ho : PE X o td) (hi : PE X i ty) (hv : PE X value tv) (hs : swapsWith value (some (.Subscript o i pos')) pos.line X.env = pure false) :
    PS X (.Assign [.Subscript o i pos'] value pos) (sDPut td ty tv) := by
  intro pins s σ H D I h
  refine wpAny_Assign_Subscript (thn (hv pins s σ H _ I h) fun r s1 ⟨v, H1, I1, rv, q1⟩ => thn (ho pins s1 σ H1 _ I1 q1) fun u s2 ⟨x, H2, I2, rx, q2⟩ => thn (hi pins s2 σ H2 _ I2 q2) fun iv s3 ⟨y, H3, I3, ry, a, H4, ex, g, q3⟩ => ?_) hs
  subst ex
  obtain rfl : u = Value.ref a := rx
  exact d_setItem hu I3 g ry rv fun s4 I4 => ⟨σ, H4, I4, q3⟩
end


/-! ### displays -/
theorem dt_empty {P : Program} {w : World} {H : Hp} (h : Heap) (hb : sysModules < h.objs.size) : ObjOk P w H (h.push { cls := .type "dict", data := .dict #[] }) h.objs.size (.dT []) :=
  ⟨Nat.zero_le _, beq_eq_false_iff_ne.mpr (Ne.symm (Nat.ne_of_lt hb)), [], .nil, _, #[], 0, Heap.get?_push_size _ rfl, ⟨rfl, rfl, rfl⟩, rfl, rfl, List.nodup_nil⟩
def tDNewT : TE := fun _ H Q => ∀ p, H p = none → Q (.ref p) (upd H p (.dT []))
section
variable {X : Cx} {pos : Pos}
theorem pe_dnewT : PE X (.Dict [] [] pos) tDNewT := fun pins s σ H Q I h =>
  wpAny_Dict_empty ⟨.ref s.heap.objs.size, _, I.laid (a := s.heap.objs.size) (o := .dT []) (t' := s.toks) (fun _ _ q => Heap.get?_push_of_some _ q) (Nat.le_refl _) (dt_empty s.heap I.big), rfl, h _ (I.hok.fresh (Nat.le_refl _))⟩
end




/-! ### methods -/


section
variable {X : Cx} {pins : List (Addr × Obj)} {σ : St} {H : Hp} {s : Shared} {a : Addr} {y d : V} {u r : Value} {o : Option V} {A : Around} {E : Value → Shared → Prop}
end

section
variable {X : Cx} {o e f : Expr} {apos cpos : Pos} {td ty tx : TE}
end

/-! ### dict(d): a copy -/
section
variable {X : Cx} {pins : List (Addr × Obj)} {σ : St} {H : Hp} {s : Shared} {a : Addr} {kvs : List (Key × V)} {A : Around} {E : Value → Shared → Prop}
end


section
variable {X : Cx} {pins : List (Addr × Obj)} {σ : St} {H : Hp} {s : Shared} {a : Addr} {y : V} {u : Value} {A : Around} {E : Value → Shared → Prop}
end
end L2

namespace L2
open PySem PySem.Spec PyProof.Rows


section
variable {prog : Program} {w : World} {A : Around} {E : Value → Shared → Prop}


end

section
variable {X : Cx}
end
end L2

namespace L2
open PySem PySem.Spec PyProof.Rows


section
variable {X : Cx} {pins : List (Addr × Obj)} {σ : St} {H : Hp} {s : Shared} {h' : Heap}
/-- several records of ours have turned -/
theorem Inv.turnedL {t' : Nat} {ch : List Addr} (I : Inv X pins σ H s) (k : ∀ b o, b ∉ ch → s.heap.get? b = some o → h'.get? b = some o) (hf : ∀ b ∈ ch, FpOk X pins H b) : Inv X pins σ H { s with heap := h', toks := t' } := by
  have nit : ∀ b u, H b = some u → b ∉ ch := fun b u e z => by
    have q := (hf b z).1
    rw [q] at e; cases e
  refine I.step (g' := s.gens) (d' := s.drawn) (ch := ch) (fun b hb => ⟨(hf b hb).2.2.2.1, (hf b hb).2.1, (hf b hb).2.2.2.2.1, (hf b hb).2.2.2.2.2⟩) (fun b o _ _ hc e _ => k b o hc e) (fun b o _ _ hc e _ => ⟨o.slots, k b o hc e⟩)
    (fun _ _ _ _ n => n) (fun b o hc e => ⟨o, k b o hc e⟩) (fun _ _ e => e) (fun _ _ _ e => e) (fun b ps e => ⟨#[], by rw [e]; simp⟩) (fun m hm => ?_) (fun b u e => ?_) I.bare
  · obtain ⟨o, es, ep, ho, r⟩ := hm
    exact ⟨o, es, ep, k _ o (fun z => (hf _ z).2.1 rfl) ho, r⟩
  · refine (I.hok b u e).stay (fun c v hc q => k c v ?_ q) (fun _ q => q) fun _ _ q => q
    rcases hc with z | z
    · rw [z]; exact nit b u e
    · exact nit c _ z
/-- .. and one new object is laid -/
theorem Inv.turnedNew {t' : Nat} {ch : List Addr} {T : Addr} {ob : HO} (I : Inv X pins σ H s) (k : ∀ b o, b ∉ ch → s.heap.get? b = some o → h'.get? b = some o) (hf : ∀ b ∈ ch, FpOk X pins H b) (hT : s.heap.objs.size ≤ T)
    (new : ObjOk X.prog X.w (upd H T ob) h' T ob) : Inv X pins σ (upd H T ob) { s with heap := h', toks := t' } := by
  have hn : H T = none := I.hok.fresh hT
  have nit : ∀ b u, H b = some u → b ∉ ch := fun b u e z => by
    have q := (hf b z).1
    rw [q] at e; cases e
  refine I.step (g' := s.gens) (d' := s.drawn) (ch := ch) (fun b hb => ⟨(hf b hb).2.2.2.1, (hf b hb).2.1, (hf b hb).2.2.2.2.1, (hf b hb).2.2.2.2.2⟩) (fun b o _ _ hc e _ => k b o hc e) (fun b o _ _ hc e _ => ⟨o.slots, k b o hc e⟩)
    (fun b o _ e n => ?_) (fun b o hc e => ⟨o, k b o hc e⟩) (fun b xs e => ?_) (fun b o u e => ?_) (fun b ps e => ⟨#[], ?_⟩) (fun m hm => ?_) (fun b u e => ?_) I.bare
  · rw [upd_ne (Nat.ne_of_lt (Nat.lt_of_lt_of_le (Heap.lt_size e) hT))]; exact n
  · rw [upd_ne (ne_of_none e hn)]; exact e
  · rw [upd_ne (ne_of_none e hn)]; exact e
  · rw [upd_ne (ne_of_none e hn), e]; simp
  · obtain ⟨o, es, ep, ho, r⟩ := hm
    exact ⟨o, es, ep, k _ o (fun z => (hf _ z).2.1 rfl) ho, r⟩
  · by_cases hb : b = T
    · subst hb
      rw [upd_same] at e
      cases e
      exact new
    · rw [upd_ne hb] at e
      refine (I.hok b u e).stay (fun c v hc q => k c v ?_ q) (fun c q => by rw [upd_ne (ne_of_none q hn)]; exact q) fun c xs q => by rw [upd_ne (ne_of_none q hn)]; exact q
      rcases hc with z | z
      · rw [z]; exact nit b u e
      · exact nit c _ z

/-! ### locking a thing while a statement runs -/
end
section
variable {X : Cx}

/-! ### one iterator just laid -/
theorem pi_one {tg : Expr} {pins : List (Addr × Obj)} {σ : St} {H : Hp} {s : Shared} {R : It → Hp → Prop} {J : It} {tn : Nat → Heap → Prop} {tk : Nat} (I : Inv X pins σ H s) (o : Obj)
    (T : Turn X.prog X.w X.K tg J [s.heap.objs.size] s.heap.objs.size tn) (st : tn 0 (s.heap.push o)) (q : R J H) : PIE X pins σ tg R (.ref s.heap.objs.size) { s with heap := s.heap.push o, toks := tk } := by
  refine ⟨s.heap.objs.size, [s.heap.objs.size], tn, J, H, rfl, I.kept fun b ob e => Heap.get?_push_of_some _ e, T, st, fun b hb => ?_, q⟩
  have e : b = s.heap.objs.size := by simpa using hb
  subst e
  exact I.fpOk (Nat.le_refl _) (I.hok.fresh (Nat.le_refl _))
end

/-! ### range with a step -/
/-- lo, lo + c, .. (n of them) -/
def Itc (lo c : Int) (n : Nat) : It := ⟨fun i _ => i < n, fun i H x H' => H' = H ∧ x = .int (lo + (i : Nat) * c), fun i _ => n ≤ i⟩
theorem turn_rangeC {P : Program} {w : World} {K : PySem.W.Frag} {tg : Expr} (it : Addr) (lo c : Int) (n : Nat) : Turn P w K tg (Itc lo c n) [it] it (fun i h => IsRangeIter h it (lo + (i : Nat) * c) ((n : Int) - (i : Nat)) c) where
  mem := by simp
  obj := fun i h st b hb => by
    have e : b = it := by simpa using hb
    subst e
    exact ⟨_, st, fun v z => nomatch z⟩
  keep := fun i h h' st k => k it (by simp) _ st
  item := by
    intro X hP hw hK hc i pins s σ H E I hf st hg
    subst hP hw hK
    obtain ⟨f0, f1, f2, f3, f4, f5⟩ := hf it (by simp)
    have W := Walks.range (prog := X.prog) (w := X.w) (I.ok.hd hc) it lo c n
    refine W.item i s _ _ hg st fun v h' tk hv st' kk => ?_
    obtain ⟨t, rfl⟩ := hv
    have I1 : Inv X pins σ H { s with heap := h', toks := tk } := I.turned (fun b o hb e => kk b o (by simpa using hb) e) f0 f1 f3 f4 f5
    exact ⟨_, rfl, go_of (s := { s with heap := h', toks := tk }) (n := "range_iterator") st' rfl rfl (by decide) ⟨.int (lo + (i : Nat) * c), H, I1, ⟨t, rfl⟩, ⟨rfl, rfl⟩, st', fun b hb => (hf b hb).1⟩⟩
  done := by
    intro X hP hw hK hc i pins s σ H E I hf st hg
    subst hP hw hK
    obtain ⟨f0, f1, f2, f3, f4, f5⟩ := hf it (by simp)
    exact wpAny_pyNext_range_end (I.ok.hd hc) st (by have : n ≤ i := hg; omega) fun h' eb => ⟨rfl, I.turned (t' := s.toks) (fun b o hb e => eb b o hb e) f0 f1 f3 f4 f5⟩
  self := fun A i s Q E st h => wpAny_pyIter_rangeiter st h
/-- range(i, j, c): small bounds, n items -/
def RgC (i j c : Int) (n : Nat) : Prop := c ≠ 0 ∧ c.natAbs < 1073741824 ∧ Builtin.Range.small i j c = true ∧ Builtin.Range.rangeSize i j c = n
theorem RgC.neg {i j : Int} (ha : -(2 ^ 62) ≤ i) (ha' : i < 2 ^ 62) (hb : -(2 ^ 62) ≤ j) (hb' : j < 2 ^ 62) : RgC i j (-1) (i - j).toNat :=
  ⟨by decide, by decide, PySem.W.small_down ha ha' hb hb', PySem.W.rangeSize_downNat i j⟩
def iRng3 (ta : TA) : TI := fun σ H R => ta σ H fun vs H1 => ∃ (i j c : Int) (n : Nat), vs = [.int i, .int j, .int c] ∧ RgC i j c n ∧ R (Itc i c n) H1
section
variable {X : Cx} {tg : Expr}
theorem pi_range3 {a b c : Expr} {ta : TA} {p pos : Pos} (hg : Gl X "range") (hm : X.mg "range" = none) (ha : PA X [a, b, c] ta)
    (hs : starEach [a, b, c] X.env = (false, eval a X.env) :: starEach [b, c] X.env := by rfl) (hpl : (backTo pos (starEach [b, c] X.env)).any (·.1) = false := by rfl) :
    PI X tg (.Call (.Name "range" p) [a, b, c] [] pos) (iRng3 ta) := by
  intro pins s σ H R I h
  refine Call_ (ld_blt I hg hm boot_range (PyProof.Rows.callWith_type1 (thn (ha pos pins s σ H _ I h) fun us s1 ⟨vs, H1, I1, r1, q1⟩ => ?_) hs hpl))
  obtain ⟨i, j, k, n, e, ⟨c0, c1, c2, c3⟩, q⟩ := q1
  subst e
  cases r1 with
  | cons r rr =>
    cases rr with
    | cons r' rr =>
      cases rr with
      | cons r'' rr =>
        cases rr
        obtain ⟨t, rfl⟩ := r
        obtain ⟨t', rfl⟩ := r'
        obtain ⟨t'', rfl⟩ := r''
        refine call_range_3 c0 ?_ (.inl (PyProof.noPylong_small c1))
        refine wpAny_pyIter_range (IsRange.new ..) c2 ?_
        have I2 : Inv X pins σ H1 { s1 with heap := s1.heap.push { cls := .type "range", data := .fields #[.int i t, .int j t', .int k t''] } } := I1.kept (t' := s1.toks) fun b o e => Heap.get?_push_of_some _ e
        refine pi_one (tk := s1.toks) I2 _ (turn_rangeC _ i k n) ?_ q
        have e1 : i + ((0 : Nat) : Int) * k = i := by simp
        have e2 : (n : Int) - ((0 : Nat) : Int) = Builtin.Range.rangeSize i j k := by rw [c3]; simp
        show IsRangeIter _ _ (i + ((0 : Nat) : Int) * k) ((n : Int) - ((0 : Nat) : Int)) k
        rw [e1, e2]
        exact Heap.get?_push_size _ rfl
end
/-- the turns of a step range, for the for loop -/
theorem for_rangeC {lo c : Int} {n : Nat} {g : TG} {tb : TS} {D : Ends} {σ : St} {H : Hp} (Pv : Nat → St → Hp → Prop) (h0 : Pv 0 σ H)
    (hs : ∀ i σ H, i < n → Pv i σ H → g (.int (lo + (i : Nat) * c)) σ H fun σ2 H2 => tb { D with nx := Pv (i + 1), ct := Pv (i + 1), bk := D.nx } σ2 H2) (hd : ∀ σ H, Pv n σ H → D.nx σ H) :
    ∃ W : Nat → Nat → St → Hp → Prop, (∃ m, W 0 m σ H) ∧ ∀ i m σ H, W i m σ H →
      ((Itc lo c n).stop i H ∧ D.nx σ H) ∨ ((Itc lo c n).go i H ∧ ∃ N : St → Hp → Prop, (∀ σ' H', N σ' H' → ∃ m', m' < m ∧ W (i + 1) m' σ' H') ∧ ∀ x H', (Itc lo c n).yld i H x H' → g x σ H' fun σ2 H2 => tb { D with nx := N, ct := N, bk := D.nx } σ2 H2) := by
  refine ⟨fun i m σ H => m = n - i ∧ i ≤ n ∧ Pv i σ H, ⟨n, by simp, Nat.zero_le _, h0⟩, ?_⟩
  rintro i m σ H ⟨rfl, hi, p⟩
  by_cases hlt : i < n
  · refine .inr ⟨hlt, Pv (i + 1), fun σ' H' p' => ⟨n - (i + 1), by omega, rfl, hlt, p'⟩, fun x H' y => ?_⟩
    obtain ⟨e, y⟩ := y
    subst e y
    exact hs i σ _ hlt p
  · have e : i = n := by omega
    subst e
    exact .inl ⟨Nat.le_refl _, hd σ H p⟩

/-! ### reversed(list) -/
section
variable {X : Cx} {tg : Expr}
end

/-! ### a str -/

/-! ### a dict's keys: any dict's entries -/
section
variable {prog : Program} {w : World} {A : Around} {E : Value → Shared → Prop} {s : Shared}
end

/-! ### a locked dict -/
section
variable {X : Cx} {pins : List (Addr × Obj)} {σ : St} {H : Hp} {s : Shared} {d : Addr} {o : Obj}
end

section
variable {P : Program} {w : World} {K : PySem.W.Frag} {tg : Expr} {d : Addr} {o : Obj} {es : Array DictEntry} {ep : Nat}
end

/-! ### for k in d, d.keys(), d.values(), d.items() -/
section
variable {X : Cx} {tg e : Expr} {td : TE} {apos cpos : Pos}
end

/-! ### enumerate(list) -/
/-- the list at a as it stands at each turn, each item in a new pair -/
def Ite (K : PySem.W.Frag) (a : Addr) : It :=
  ⟨fun i H => ∃ (xs : List V) (x : V), SqL K H a xs ∧ xs[i]? = some x, fun i H v H' => ∃ T x, v = .ref T ∧ H T = none ∧ H' = upd H T (.tup [.int (i : Nat), x]) ∧ ∀ xs, SqL K H a xs → xs[i]? = some x, fun i H => ∃ xs : List V, SqL K H a xs ∧ xs.length ≤ i⟩
theorem turn_enum {P : Program} {w : World} {K : PySem.W.Frag} {elts : List Expr} {kk : Nat} {tpos : Pos} (a e it : Addr) :
    Turn P w K (.Tuple elts kk tpos) (Ite K a) [e, it] e (fun i h => (∃ old, IsEnum h e it ((i : Nat) : Int) old) ∧ h.IsListIter it a i ∧ e ≠ it) where
  mem := by simp
  obj := fun i h st b hb => by
    obtain ⟨⟨old, he⟩, ⟨o, ho, hc, hd⟩, _⟩ := st
    have e' : b = e ∨ b = it := by simpa using hb
    rcases e' with z | z
    · rw [z]; exact ⟨_, he, fun v q => nomatch q⟩
    · rw [z]; exact ⟨o, ho, fun v q => by rw [hd] at q; cases q⟩
  keep := fun i h h' st k => let ⟨⟨old, he⟩, hi, hne⟩ := st; ⟨⟨old, k e (by simp) _ he⟩, hi.at fun o q => k it (by simp) o q, hne⟩
  item := by
    intro X hP hw hK hc i pins s σ H E I hf st hg
    subst hP hw hK
    obtain ⟨⟨old, he⟩, hit, hne⟩ := st
    obtain ⟨xs, x, hq, hx⟩ := hg
    obtain ⟨its, rv, p, hz⟩ := I.list hq
    obtain ⟨u, hu, ru⟩ := rv.get hx
    have hel : e < s.heap.objs.size := Heap.lt_size he
    have hil : it < s.heap.objs.size := by obtain ⟨_, q, _⟩ := hit; exact Heap.lt_size q
    refine wpAny_pyNext_enum_item he hit p.isList (x := u) (by simpa using hu) hne fun h' ho hit' hT hsz hk => ?_
    refine ⟨_, rfl, wpAny_letOwnedTupleGo_enum (s := { s with heap := h', toks := s.toks + 1 }) ho fun h'' he' sb => ?_⟩
    have hT2 : h''.get? s.heap.objs.size = some { cls := .type "tuple", data := .seq #[.int i s.toks, u] } := (sb.2 _ (Nat.ne_of_gt hel)).trans hT
    have new : ObjOk X.prog X.w (upd H s.heap.objs.size (.tup [.int (i : Nat), x])) h'' s.heap.objs.size (.tup [.int (i : Nat), x]) :=
      ⟨by show 2 ≤ sizeLine; decide, [.int i s.toks, u], .cons ⟨_, rfl⟩ (.cons ru .nil), ⟨_, hT2, rfl, _, rfl⟩⟩
    have I1 : Inv X pins σ (upd H s.heap.objs.size (.tup [.int (i : Nat), x])) { s with heap := h'', toks := s.toks + 1 } :=
      I.turnedNew (ch := [e, it]) (fun b ob hb q => (sb.2 b (fun z => hb (by simp [z]))).trans (hk b ob (fun z => hb (by simp [z])) (fun z => hb (by simp [z])) q)) hf (Nat.le_refl _) new
    refine ⟨.ref s.heap.objs.size, _, I1, rfl, ⟨_, x, rfl, I.hok.fresh (Nat.le_refl _), rfl, fun ys hy => by rw [I.list_inj hy hq]; exact hx⟩, ⟨⟨u, ?_⟩, hit'.at fun o q => (sb.2 it (Ne.symm hne)).trans q, hne⟩, fun b hb => ?_⟩
    · have e1 : ((i + 1 : Nat) : Int) = (i : Int) + 1 := by omega
      rw [e1]; exact he'
    · have hb' : b < s.heap.objs.size := by
        have e' : b = e ∨ b = it := by simpa using hb
        rcases e' with z | z
        · rw [z]; exact hel
        · rw [z]; exact hil
      rw [upd_ne (Nat.ne_of_lt hb')]
      exact (hf b hb).1
  done := by
    intro X hP hw hK hc i pins s σ H E I hf st hg
    subst hP hw hK
    obtain ⟨⟨old, he⟩, hit, hne⟩ := st
    obtain ⟨xs, hq, hx⟩ := hg
    obtain ⟨its, rv, p, hz⟩ := I.list hq
    obtain ⟨f0, f1, f2, f3, f4, f5⟩ := hf it (by simp)
    have hl := rv.length
    exact wpAny_pyNext_enum_end (I.ok.hd hc) he hit p.isList (by simp; omega) fun h' eb => ⟨rfl, I.turned (t' := s.toks) (fun b o hb q => eb b o hb q) f0 f1 f3 f4 f5⟩
  self := fun A i s Q E st h => let ⟨⟨_, he⟩, _⟩ := st; wpAny_pyIter_enum he h
def iEnum (K : PySem.W.Frag) (ta : TA) : TI := fun σ H R => ta σ H fun vs H1 => ∃ a xs, vs = [.ref a] ∧ SqL K H1 a xs ∧ R (Ite K a) H1
theorem pi_enum {X : Cx} {e : Expr} {ta : TA} {p pos tpos : Pos} {elts : List Expr} {kk : Nat} (hg : Gl X "enumerate") (hm : X.mg "enumerate" = none) (ha : PA X [e] ta) (hs : starEach [e] X.env = [(false, eval e X.env)] := by rfl) :
    PI X (.Tuple elts kk tpos) (.Call (.Name "enumerate" p) [e] [] pos) (iEnum X.K ta) := by
  intro pins s σ H R I h
  refine Call_ (ld_blt I hg hm boot_enumerate (PyProof.Rows.callWith_type1 (thn (ha pos pins s σ H _ I h) fun us s1 ⟨vs, H1, I1, r1, q1⟩ => ?_) hs rfl))
  obtain ⟨a, xs, ex, hq, q⟩ := q1
  subst ex
  cases r1 with
  | cons r rr =>
    cases rr
    cases r
    obtain ⟨its, rv, p', hz⟩ := I1.list hq
    refine call_enumerate_list p'.isList fun h' he hit hsz hk => wpAny_pyIter_enum he ?_
    have I2 : Inv X pins σ H1 { s1 with heap := h' } := I1.kept (t' := s1.toks) hk
    refine ⟨s1.heap.objs.size + 1, [s1.heap.objs.size + 1, s1.heap.objs.size], _, _, H1, rfl, I2, turn_enum a (s1.heap.objs.size + 1) s1.heap.objs.size, ⟨⟨.none, he⟩, hit, Nat.succ_ne_self _⟩, fun b hb => ?_, q⟩
    have e' : b = s1.heap.objs.size + 1 ∨ b = s1.heap.objs.size := by simpa using hb
    have hle : s1.heap.objs.size ≤ b := by
      rcases e' with z | z
      · rw [z]; exact Nat.le_add_right _ _
      · rw [z]; exact Nat.le_refl _
    exact I1.fpOk hle (I1.hok.fresh hle)
/-! ### zip(list, list) -/
theorem boot_zip5 : bootBuiltins "zip" = some (.type "zip") := by decide +kernel
/-- the lists at a and b as they stand at each turn, the items in new pairs -/
def Itz (K : PySem.W.Frag) (a b : Addr) : It :=
  ⟨fun i H => ∃ (xs ys : List V) (x y : V), SqL K H a xs ∧ SqL K H b ys ∧ xs[i]? = some x ∧ ys[i]? = some y,
    fun i H v H' => ∃ T x y, v = .ref T ∧ H T = none ∧ H' = upd H T (.tup [x, y]) ∧ (∀ xs, SqL K H a xs → xs[i]? = some x) ∧ ∀ ys, SqL K H b ys → ys[i]? = some y,
    fun i H => ∃ xs ys : List V, SqL K H a xs ∧ SqL K H b ys ∧ (xs.length ≤ i ∨ ys.length ≤ i)⟩
theorem turn_zip {P : Program} {w : World} {K : PySem.W.Frag} {elts : List Expr} {kk : Nat} {tpos : Pos} {a b z TI TO i1 i2 : Addr} (D : ZipApart z TI TO i1 i2 a b) :
    Turn P w K (.Tuple elts kk tpos) (Itz K a b) [z, TI, TO, i1, i2] z (fun i h => IsZip h z TI TO .none ∧ IsPair h TI (.ref i1) (.ref i2) ∧ (∃ x y, IsPair h TO x y) ∧ h.IsListIter i1 a i ∧ h.IsListIter i2 b i) where
  mem := by simp
  obj := fun i h st c hc => by
    obtain ⟨hz, hTI, ⟨x, y, hTO⟩, ⟨o1, e1, _, d1⟩, ⟨o2, e2, _, d2⟩⟩ := st
    have e' : c = z ∨ c = TI ∨ c = TO ∨ c = i1 ∨ c = i2 := by simpa using hc
    rcases e' with q | q | q | q | q
    · rw [q]; exact ⟨_, hz, fun v q => nomatch q⟩
    · rw [q]; exact ⟨_, hTI, fun v q => nomatch q⟩
    · rw [q]; exact ⟨_, hTO, fun v q => nomatch q⟩
    · rw [q]; exact ⟨o1, e1, fun v q => by rw [d1] at q; cases q⟩
    · rw [q]; exact ⟨o2, e2, fun v q => by rw [d2] at q; cases q⟩
  keep := fun i h h' st k => by
    obtain ⟨hz, hTI, ⟨x, y, hTO⟩, h1, h2⟩ := st
    exact ⟨k z (by simp) _ hz, k TI (by simp) _ hTI, ⟨x, y, k TO (by simp) _ hTO⟩, h1.at fun o q => k i1 (by simp) o q, h2.at fun o q => k i2 (by simp) o q⟩
  item := by
    intro X hP hw hK hc i pins s σ H E I hf st hg
    subst hP hw hK
    obtain ⟨hz, hTI, ⟨x0, y0, hTO⟩, h1, h2⟩ := st
    obtain ⟨xs, ys, x, y, hqx, hqy, hx, hy⟩ := hg
    obtain ⟨its, rv, p, _⟩ := I.list hqx
    obtain ⟨its2, rv2, p2, _⟩ := I.list hqy
    obtain ⟨u, hu, ru⟩ := rv.get hx
    obtain ⟨u2, hu2, ru2⟩ := rv2.get hy
    have hzl : z < s.heap.objs.size := Heap.lt_size hz
    refine wpAny_pyNext_zip_item D hz hTI hTO h1 h2 p.isList p2.isList (x := u) (y := u2) (by simpa using hu) (by simpa using hu2) fun h' z' TO' h1' h2' hT hsz hk => ?_
    refine ⟨_, rfl, wpAny_letOwnedTupleGo_zip (s := { s with heap := h' }) z' fun h'' z'' sb => ?_⟩
    have hT2 : h''.get? s.heap.objs.size = some { cls := .type "tuple", data := .seq #[u, u2] } := (sb.2 _ (Nat.ne_of_gt hzl)).trans hT
    have new : ObjOk X.prog X.w (upd H s.heap.objs.size (.tup [x, y])) h'' s.heap.objs.size (.tup [x, y]) :=
      ⟨by show 2 ≤ sizeLine; decide, [u, u2], .cons ru (.cons ru2 .nil), ⟨_, hT2, rfl, _, rfl⟩⟩
    have I1 : Inv X pins σ (upd H s.heap.objs.size (.tup [x, y])) { s with heap := h'' } :=
      I.turnedNew (t' := s.toks) (ch := [z, TI, TO, i1, i2]) (fun c o hb q => (sb.2 c (fun q' => hb (by simp [q']))).trans (hk c o (fun q' => hb (by simp [q'])) (fun q' => hb (by simp [q'])) (fun q' => hb (by simp [q'])) (fun q' => hb (by simp [q'])) q)) hf (Nat.le_refl _) new
    refine ⟨.ref s.heap.objs.size, _, I1, rfl, ⟨_, x, y, rfl, I.hok.fresh (Nat.le_refl _), rfl, fun l hl => by rw [I.list_inj hl hqx]; exact hx, fun l hl => by rw [I.list_inj hl hqy]; exact hy⟩, ⟨z'', ?_, ⟨u, u2, ?_⟩, ?_, ?_⟩, fun c hcm => ?_⟩
    · exact (sb.2 _ D.TIz).trans (hk _ _ D.TIz D.TITO D.TIi1 D.TIi2 hTI)
    · exact (sb.2 _ D.TOz).trans TO'
    · exact h1'.at fun o q => (sb.2 _ D.i1z).trans q
    · exact h2'.at fun o q => (sb.2 _ D.i2z).trans q
    · have hlt : c < s.heap.objs.size := by
        have e' : c = z ∨ c = TI ∨ c = TO ∨ c = i1 ∨ c = i2 := by simpa using hcm
        rcases e' with q | q | q | q | q
        · rw [q]; exact hzl
        · rw [q]; exact Heap.lt_size hTI
        · rw [q]; exact Heap.lt_size hTO
        · rw [q]; obtain ⟨_, e1, _⟩ := h1; exact Heap.lt_size e1
        · rw [q]; obtain ⟨_, e2, _⟩ := h2; exact Heap.lt_size e2
      rw [upd_ne (Nat.ne_of_lt hlt)]
      exact (hf c hcm).1
  done := by
    intro X hP hw hK hc i pins s σ H E I hf st hg
    subst hP hw hK
    obtain ⟨hz, hTI, ⟨x0, y0, hTO⟩, h1, h2⟩ := st
    obtain ⟨xs, ys, hqx, hqy, hend⟩ := hg
    obtain ⟨its, rv, p, _⟩ := I.list hqx
    obtain ⟨its2, rv2, p2, _⟩ := I.list hqy
    have l1 := rv.length
    have l2 := rv2.length
    have he : its.toArray[i]? = none ∨ its2.toArray[i]? = none := by
      rcases hend with q | q
      · exact .inl (by simp; omega)
      · exact .inr (by simp; omega)
    exact wpAny_pyNext_zip_end (I.ok.hd hc) D hz hTI hTO h1 h2 p.isList p2.isList he fun h' hk => ⟨rfl, I.turnedL (t' := s.toks) (ch := [z, TI, TO, i1, i2]) (fun c o hb q =>
      hk c o (fun q' => hb (by simp [q'])) (fun q' => hb (by simp [q'])) (fun q' => hb (by simp [q'])) (fun q' => hb (by simp [q'])) q) hf⟩
  self := fun A i s Q E st h => wpAny_pyIter_zip st.1 h
def iZip (K : PySem.W.Frag) (ta : TA) : TI := fun σ H R => ta σ H fun vs H1 => ∃ a b xs ys, vs = [.ref a, .ref b] ∧ SqL K H1 a xs ∧ SqL K H1 b ys ∧ R (Itz K a b) H1
theorem pi_zip {X : Cx} {e e2 : Expr} {ta : TA} {p pos tpos : Pos} {elts : List Expr} {kk : Nat} (hg : Gl X "zip") (hm : X.mg "zip" = none) (ha : PA X [e, e2] ta)
    (hs : starEach [e, e2] X.env = (false, eval e X.env) :: starEach [e2] X.env := by rfl) (hpl : (backTo pos (starEach [e2] X.env)).any (·.1) = false := by rfl) :
    PI X (.Tuple elts kk tpos) (.Call (.Name "zip" p) [e, e2] [] pos) (iZip X.K ta) := by
  intro pins s σ H R I h
  refine Call_ (ld_blt I hg hm boot_zip5 (PyProof.Rows.callWith_type1 (thn (ha pos pins s σ H _ I h) fun us s1 ⟨vs, H1, I1, r1, q1⟩ => ?_) hs hpl))
  obtain ⟨a, b, xs, ys, ex, hqx, hqy, q⟩ := q1
  subst ex
  cases r1 with
  | cons r rr =>
    cases rr with
    | cons r' rr =>
      cases rr
      cases r
      cases r'
      obtain ⟨its, rv, p1, _⟩ := I1.list hqx
      obtain ⟨its2, rv2, p2, _⟩ := I1.list hqy
      have la : a < s1.heap.objs.size := p1.lt
      have lb : b < s1.heap.objs.size := p2.lt
      refine call_zip_2 p1.isList p2.isList fun h' hz hTI hTO h1 h2 hsz hk => wpAny_pyIter_zip hz ?_
      have I2 : Inv X pins σ H1 { s1 with heap := h' } := I1.kept (t' := s1.toks) hk
      refine ⟨s1.heap.objs.size + 4, [s1.heap.objs.size + 4, s1.heap.objs.size + 2, s1.heap.objs.size + 3, s1.heap.objs.size, s1.heap.objs.size + 1], _, _, H1, rfl, I2, turn_zip (PySem.W.ktu_apart s1.heap.objs.size a b la lb), ⟨hz, hTI, ⟨_, _, hTO⟩, h1, h2⟩, fun c hcm => ?_, q⟩
      have e' : c = s1.heap.objs.size + 4 ∨ c = s1.heap.objs.size + 2 ∨ c = s1.heap.objs.size + 3 ∨ c = s1.heap.objs.size ∨ c = s1.heap.objs.size + 1 := by simpa using hcm
      have hle : s1.heap.objs.size ≤ c := by
        rcases e' with z | z | z | z | z
        · rw [z]; exact Nat.le_add_right _ _
        · rw [z]; exact Nat.le_add_right _ _
        · rw [z]; exact Nat.le_add_right _ _
        · rw [z]; exact Nat.le_refl _
        · rw [z]; exact Nat.le_add_right _ _
      exact I1.fpOk hle (I1.hok.fresh hle)
end L2

namespace Att
open PySem PySem.W PySem.Calls PyProof.Rows

/-! ### the script -/



/-! ### the attachment: holds_open's last premise (the goal 'hc' behind k_head) from a wpAny of the law's body -/



/-! ### rules over ANY heap (no ledger) from facts about the written part K: the library's own take a ledger (News) for what they write -/
section
variable {prog : Program} {w : World} {A : Around} {E : Value → Shared → Prop} {s : Shared} {K : Frag}





/-! the whole heap as the ledger: makes every rule that writes through a ledger a rule over any heap -/

end
end Att

namespace L2
open PySem PySem.Spec PyProof.Rows



end L2

namespace L2
open PySem PySem.Spec PyProof.Rows


end L2

/- THE LAST THEOREM (shape; LID, My.* are yours):
   My.Adr: a structure of the addresses that your layer names (classes, functions); My.Txt K t: a structure (Prop) of the equations over K;
   My.txt_mk : {K} {implicit addresses ..} (e1 : nsIn K mainGlobals "law" = some (some (.ref f))) (e2 : K.lookup f = some ⟨oc, od, .func (fnOf "law" "law" params body scope dV kV doc pm an cdv ct), sl⟩) (e3 : codeIn K cdv "law" = true) .. : ∃ t, My.Txt K t

set_option maxRecDepth 100000 in
set_option maxHeartbeats 0 in
theorem PySem.Challenge.cw_LID_holds : PySem.Challenge.rw_LID.Holds := by
  w_on; o_law; k_head; (case hw => w_witness2)
  k_fill
  refine L2.walk_of (l := PySem.Challenge.rw_LID) (n := 63) (k := 40) (x := "script") (CX := fun w => ..) (sp := fun _ => My.sp_law) rfl (by decide) rfl ⟨rfl, by decide, by decide⟩ (fun w h Y => PySem.W.kIn_of Y) ?F ?S ?C
  case F =>
    intro w mg fa h KX G hmg
    have T : ∃ t, My.Txt (L2.KOf KX) t := by
      dsimp only [L2.KOf]                          -- K must stand as «<heap const> w.params» for k_is
      refine' My.txt_mk ?e1 ?e2 ?e3 ..
      (case e1 => PySem.W.k_is)                    -- in the order: a name -> its address -> its object -> its parts
      (case e2 => PySem.W.k_is)
      ..
    obtain ⟨t, T⟩ := T
    have e0 := hmg.symm.trans (PySem.W.mg_of KX G T.law)
    cases e0                                       -- fa is the law's own address
    exact ⟨_, fun s u => .of_eq rfl, fun base kb nb => My.law_fn T kb nb⟩     -- if «.of_eq rfl» comes too early: refine' ⟨_, ?b, fun base kb nb => My.law_fn T kb nb⟩; exact fun s u => .of_eq rfl
  case S => exact fun w H a ns hl hO hS => ..
  case C => exact ..
(the tactic k_is has no namespace: write k_is) -/

/-! SHORT WORDS over the layer: a def of the text, its body, what a loop and a test want. -/
namespace L2
open PySem PySem.Spec PyProof.Rows

/-! ### the text by places -/
/-- the j-th statement of a class's body -/
def inClass (s : Stmt) (j : Nat) : Stmt := match s with
  | .ClassDef _ _ _ body _ _ _ _ _ _ _ => body.getD j (.Pass ⟨0, 0, 0, 0⟩)
  | _ => .Pass ⟨0, 0, 0, 0⟩
def defArgs (s : Stmt) : Arguments := match s with
  | .FunctionDef _ a _ _ _ _ _ _ _ _ => a
  | _ => { posonlyargs := [], args := [], vararg := none, kwonlyargs := [], kw_defaults := [], kwarg := none, defaults := [] }
def defBody (s : Stmt) : List Stmt := match s with
  | .FunctionDef _ _ b _ _ _ _ _ _ _ => b
  | _ => []
def defScope (s : Stmt) : Scope := match s with
  | .FunctionDef _ _ _ _ _ _ sc _ _ _ => sc
  | _ => { kind := .function, names := [], isGenerator := false, isCoroutine := false }

/-! ### no exception leaves a def -/
abbrev CX0 : CXT := fun _ _ _ _ _ _ => False
abbrev E0 : XK := fun _ _ _ => False
theorem pass0 {X : Cx} : Passes CX0 X E0 := fun _ _ _ _ _ _ _ h => h.elim

/-! ### a def (or method) of the text as it stands behind the top -/
structure Fun (K : PySem.W.Frag) (x qual : Str) (st : Stmt) (f : Addr) (fd : FuncData) : Prop where
  ex : ∃ (oc : Value) (od : Option Addr) (kV doc pm : Value) (an : Option Addr) (cdv ct : Value) (osl : Array (Option Value)),
    fd = PySem.W.fnOf x qual (defArgs st) (defBody st) (defScope st) .none kV doc pm an cdv ct ∧ K.lookup f = some ⟨oc, od, .func fd, osl⟩ ∧ PySem.W.codeIn K cdv qual = true
  kp : PySem.W.keepIn K (.ref f) = true
section
variable {P : Program} {w : World} {K : PySem.W.Frag} {mg : Str → Option Value} {base : Heap}
/-- THE RULE for a def: its body as a term of rules, and the reading of that term -/
theorem Fun.ok {x qual : Str} {st : Stmt} {f : Addr} {fd : FuncData} {N ps : List Str} {k : Nat} {sp : Sp} (F : Fun K x qual st f fd) (S : FnScope N ps (defScope st)) (len : ∀ vs H Q E, sp vs H Q E → vs.length = ps.length)
    (hbody : ∀ (cdv : Value) (A : Around) (outer : List Env) (s : Shared) (H : Hp) (vs : List V) (Q : VK) (E : XK), Room k (A.deeper (envOfC qual (defScope st) s.heap.objs.size f cdv)) → sp vs H Q E →
      ∃ t, PSs (cxOf CX0 P w K mg base N qual (defScope st) f cdv A outer s H E).nox (defBody st) t ∧ t { nx := fun _ H' => Q .non H', rt := Q } (start N vs) H) : FnOk P w K mg base CX0 (k + 1) f fd ps sp := by
  obtain ⟨oc, od, kV, doc, pm, an, cdv, ct, osl, rfl, lk, hcd⟩ := F.ex
  refine fn_of lk hcd S len fun A outer s H vs Q E hr hsp => ?_
  obtain ⟨t, h, q⟩ := hbody cdv A outer s H vs Q E hr hsp
  exact ⟨t, h.nox, q⟩
/-- how its arguments bind (no defaults): h is «fun _ _ _ _ _ _ us hl => match us, hl with | [_, _], _ => rfl», one _ a parameter -/
theorem Fun.binds {x qual : Str} {st : Stmt} {f : Addr} {fd : FuncData} {ps : List Str} (F : Fun K x qual st f fd)
    (h : ∀ (kV doc pm : Value) (an : Option Addr) (cdv ct : Value) (us : List Value), us.length = ps.length → bindArgs (PySem.W.fnOf x qual (defArgs st) (defBody st) (defScope st) .none kV doc pm an cdv ct) ⟨us, []⟩ = pure (ps.zip us)) : Binds K fd ps [] := by
  obtain ⟨oc, od, kV, doc, pm, an, cdv, ct, osl, rfl, lk, hcd⟩ := F.ex
  exact .all (h kV doc pm an cdv ct)
theorem fun_mk {x qual : Str} {st : Stmt} {f : Addr} {oc : Value} {od an : Option Addr} {osl : Array (Option Value)} {kV doc pm cdv ct : Value} (l : K.lookup f = some ⟨oc, od, .func (PySem.W.fnOf x qual (defArgs st) (defBody st) (defScope st) .none kV doc pm an cdv ct), osl⟩)
    (c : PySem.W.codeIn K cdv qual = true) (k : PySem.W.keepIn K (.ref f) = true) : Fun K x qual st f (PySem.W.fnOf x qual (defArgs st) (defBody st) (defScope st) .none kV doc pm an cdv ct) := ⟨⟨oc, od, kV, doc, pm, an, cdv, ct, osl, rfl, l, c⟩, k⟩
end
theorem hu_of {A : Around} {k : Nat} (hr : Room k A) : A.units + 1 < cLine := Nat.lt_of_le_of_lt (Nat.add_le_add_left (by decide : 1 ≤ 64) _) hr.units

/-! ### expressions in short: the name that stands in the i-th slot -/
section
variable {X : Cx}
theorem pv (i : Nat) {x : Str} {pos : Pos} (hN : X.N[i]? = some x := by rfl) (hv : Vis X.env.scope x := by first | exact Or.inl rfl | exact Or.inr (Or.inl rfl) | exact Or.inr (Or.inr rfl)) (hd : (x == ("__debug__" : Str)) = false := by decide)
    (hcd : (x == ("__classdict__" : Str)) = false := by decide) : PE X (.Name x pos) (tVar i) := pe_var hN hv hd hcd
end

/-! ### tests -/
theorem iteF {A B : Prop} (h : B) : if false = true then A else B := by
  rw [if_neg Bool.false_ne_true]
  exact h
theorem iteT {A B : Prop} (h : A) : if true = true then A else B := by
  rw [if_pos rfl]
  exact h

/-! ### heaps -/
/-- all that was tracked is as it was -/
def Same (H H' : Hp) : Prop := ∀ b o, H b = some o → H' b = some o
theorem Same.refl (H : Hp) : Same H H := fun _ _ h => h
theorem Same.trans {H H1 H2 : Hp} (a : Same H H1) (b : Same H1 H2) : Same H H2 := fun c o h => b c o (a c o h)
theorem Same.free {H H' : Hp} (e : Same H H') {l : Addr} (h : H' l = Option.none) : H l = Option.none := by
  cases q : H l with
  | none => rfl
  | some o =>
    rw [e l o q] at h
    cases h
theorem Same.seq {K : PySem.W.Frag} {H H' : Hp} {a : Addr} {xs : List V} (e : Same H H') (h : SqL K H a xs) : SqL K H' a xs := by
  rcases h with (h | ⟨o, h⟩) | h
  · exact .inl (.inl (e _ _ h))
  · exact .inl (.inr ⟨o, e _ _ h⟩)
  · exact .inr h

/-! ### a dict's pairs: keys that differ -/
section
variable {κ : Type} [DecidableEq κ]
end
/-! ### lists -/
theorem at_of {xs : List V} {z : Int} {j : Nat} {v : V} (e : z = (j : Int)) (h : xs[j]? = some v) : atI xs z = some v := by
  rw [e]
  exact atI_nat h
/-- a new instance and its __init__ leave all that was tracked as it was -/
theorem Same.made {H H1 : Hp} {x dx C : Addr} (nx : H x = Option.none) (nd : H dx = Option.none) (k : ∀ b o, (upd (upd H dx (.own x)) x (.ins C dx [])) b = some o → b ≠ x → H1 b = some o) : Same H H1 := fun b o e =>
  k b o (by rw [upd_ne (ne_of_none e nx), upd_ne (ne_of_none e nd)]; exact e) (ne_of_none e nx)
end L2

end
section
set_option Elab.async false
set_option linter.all false
set_option maxRecDepth 100000
set_option maxHeartbeats 2000000
namespace L2
open PySem PySem.Spec PyProof.Rows
open PySem.W (WData Codec OpenSpec Well WellAll ReadsW ReadsAllW)
/-! ### an answer as data -/
mutual
/-- x stands for the datum d, lists and tuples all the way -/
inductive Dw (K : PySem.W.Frag) (H : Hp) : V → WData → Prop
  | non : Dw K H .non .none
  | bl (b : Bool) : Dw K H (.bl b) (.bool b)
  | int (i : Int) : Dw K H (.int i) (.int i)
  | str (x : Str) : Dw K H (.str x) (.str x)
  | byt (b : Array UInt8) : Dw K H (.byt b) (.bytes b.toList)
  | lst {a : Addr} {xs : List V} {ds : List WData} : SqL K H a xs → DwAll K H xs ds → Dw K H (.ref a) (.list ds)
  | tup {a : Addr} {xs : List V} {ds : List WData} : SqT K H a xs → DwAll K H xs ds → Dw K H (.ref a) (.tuple ds)
inductive DwAll (K : PySem.W.Frag) (H : Hp) : List V → List WData → Prop
  | nil : DwAll K H [] []
  | cons {v : V} {vs : List V} {d : WData} {ds : List WData} : Dw K H v d → DwAll K H vs ds → DwAll K H (v :: vs) (d :: ds)
end
theorem dw_ints {K : PySem.W.Frag} {H : Hp} : ∀ ns : List Int, DwAll K H (ns.map V.int) (ns.map WData.int)
  | [] => .nil
  | n :: r => .cons (.int n) (dw_ints r)
theorem ints_dw {K : PySem.W.Frag} {H : Hp} : ∀ (ns : List Int) (xs : List V), DwAll K H xs (ns.map WData.int) → xs = ns.map V.int
  | [], xs, h => by
    cases h
    rfl
  | n :: r, xs, h => by
    cases h with
    | cons h1 h2 =>
      cases h1
      rw [ints_dw r _ h2] <;> rfl
section
variable {P : Program} {w : World} {K : PySem.W.Frag} {H : Hp} {h : Heap} {R : PySem.W.WRecords} {cl : Str → Option Addr}
theorem sqL_at {a : Addr} {xs : List V} (hok : HOk P w H h) (KX : K.In h) (q : SqL K H a xs) : ∃ (its : List Value) (o : Obj) (n : Nat), Vals xs its ∧ h.get? a = some o ∧ o.cls = .type "list" ∧ o.data = .seq its.toArray n := by
  rcases q with q | ⟨o, its, n, e, hc, _, hd, _, hv⟩
  · obtain ⟨_, its, n, hv, e⟩ := (show ObjOk P w H h a (.lst xs) from q.ok hok)
    exact ⟨its, _, n, hv, e, rfl, rfl⟩
  · exact ⟨its.toList, o, n, hv, KX _ _ e, hc, by simp [hd]⟩
theorem sqT_at {a : Addr} {xs : List V} (hok : HOk P w H h) (KX : K.In h) (q : SqT K H a xs) : ∃ (its : List Value) (o : Obj) (n : Nat), Vals xs its ∧ h.get? a = some o ∧ o.cls = .type "tuple" ∧ o.data = .seq its.toArray n := by
  rcases q with q | ⟨o, its, n, e, hc, hd, _, hv⟩
  · obtain ⟨_, its, hv, o, e, hc, n, hd⟩ := (show ObjOk P w H h a (.tup xs) from q.ok hok)
    exact ⟨its, o, n, hv, e, hc, hd⟩
  · exact ⟨its.toList, o, n, hv, KX _ _ e, hc, by simp [hd]⟩
mutual
theorem Dw.reads (hok : HOk P w H h) (KX : K.In h) : ∀ (d : WData) (v : V) (u : Value), Dw K H v d → RelV v u → ∃ as, ReadsW R cl h u d as
  | .none, _, _, x, r => by
    cases x
    cases r
    exact ⟨_, ReadsW.none⟩
  | .bool b, _, _, x, r => by
    cases x
    cases r
    exact ⟨_, ReadsW.bool b⟩
  | .int i, _, _, x, r => by
    cases x
    obtain ⟨t, rfl⟩ := r
    exact ⟨_, ReadsW.int i t⟩
  | .str s, _, _, x, r => by
    cases x
    obtain ⟨t, rfl⟩ := r
    exact ⟨_, ReadsW.str s t⟩
  | .bytes b, _, _, x, r => by
    cases x
    obtain ⟨t, rfl⟩ := r
    exact ⟨_, ReadsW.bytes _ t⟩
  | .list ds, _, _, x, r => by
    cases x with
    | lst hs ha =>
      cases r
      obtain ⟨its, o, n, rv, ho, hc, hd⟩ := sqL_at hok KX hs
      obtain ⟨as, hr⟩ := Dw.readsAll hok KX ds _ its ha rv
      exact ⟨_, ReadsW.list ho hc hd hr⟩
  | .tuple ds, _, _, x, r => by
    cases x with
    | tup hs ha =>
      cases r
      obtain ⟨its, o, n, rv, ho, hc, hd⟩ := sqT_at hok KX hs
      obtain ⟨as, hr⟩ := Dw.readsAll hok KX ds _ its ha rv
      exact ⟨_, ReadsW.tuple ho hc hd hr⟩
  | .float _, _, _, x, _ => by cases x
  | .dict _, _, _, x, _ => by cases x
  | .bytearray _, _, _, x, _ => by cases x
  | .set _, _, _, x, _ => by cases x
  | .frozenset _, _, _, x, _ => by cases x
  | .obj _ _, _, _, x, _ => by cases x
theorem Dw.readsAll (hok : HOk P w H h) (KX : K.In h) : ∀ (ds : List WData) (vs : List V) (us : List Value), DwAll K H vs ds → Vals vs us → ∃ as, ReadsAllW R cl h us ds as
  | [], _, _, x, r => by
    cases x
    cases r
    exact ⟨_, ReadsAllW.nil⟩
  | d :: ds, _, _, x, r => by
    cases x with
    | cons h1 h2 =>
      cases r with
      | cons r1 r2 =>
        obtain ⟨as, q1⟩ := Dw.reads hok KX d _ _ h1 r1
        obtain ⟨bs, q2⟩ := Dw.readsAll hok KX ds _ _ h2 r2
        exact ⟨_, ReadsAllW.cons q1 q2⟩
end
end
/-! ### the arguments -/
mutual
/-- data that a codec tells -/
def plW : WData → Bool
  | .none => true
  | .bool _ => true
  | .int _ => true
  | .str _ => true
  | .bytes _ => true
  | .list xs => plWs xs
  | .tuple xs => plWs xs
  | _ => false
def plWs : List WData → Bool
  | [] => true
  | x :: r => plW x && plWs r
end
theorem plWs_map {α : Type} {f : α → WData} (h : ∀ a, plW (f a) = true) : ∀ l : List α, plWs (l.map f) = true
  | [] => rfl
  | x :: r => by
    show (plW (f x) && plWs (r.map f)) = true
    rw [h x, plWs_map h r] <;> rfl
theorem pl_enc : ∀ (c : Codec) (a : c.denote), plW (c.enc a) = true
  | .unit, _ => rfl
  | .bool, _ => rfl
  | .int _ _, _ => rfl
  | .nat _ _, _ => rfl
  | .u8, _ => rfl
  | .bytes _ _, _ => rfl
  | .text _ _ _ _, _ => rfl
  | .list _ _ c, a => plWs_map (fun x => pl_enc c x) a
  | .pair c d, a => by
    show (plW (c.enc a.1) && (plW (d.enc a.2) && true)) = true
    rw [pl_enc c a.1, pl_enc d a.2] <;> rfl
  | .triple c d e, a => by
    show (plW (c.enc a.1) && (plW (d.enc a.2.1) && (plW (e.enc a.2.2) && true))) = true
    rw [pl_enc c a.1, pl_enc d a.2.1, pl_enc e a.2.2] <;> rfl
  | .option c, none => rfl
  | .option c, some x => pl_enc c x
theorem pl_encAll : ∀ (cs : List Codec) (a : Codec.denoteAll cs), plWs (Codec.encAll cs a) = true
  | [], _ => rfl
  | c :: cs, a => by
    show (plW (c.enc a.1) && plWs (Codec.encAll cs a.2)) = true
    rw [pl_enc c a.1, pl_encAll cs a.2] <;> rfl
theorem weight_mem : ∀ {xs : List WData} {d : WData}, d ∈ xs → d.weight ≤ WData.weightAll xs
  | [], d, h => absurd h (by simp)
  | x :: r, d, h => by
    show d.weight ≤ x.weight + 1 + WData.weightAll r
    rcases List.mem_cons.mp h with e | m
    · rw [e]
      omega
    · have z := weight_mem m
      omega
def toV : Value → V
  | .none => .non
  | .bool b => .bl b
  | .int i _ => .int i
  | .str x _ => .str x
  | .bytes b _ => .byt b
  | .ref a => .ref a
  | _ => .non
/-- a value of the arguments, its objects among A -/
def OkU (A : List Addr) : Value → Prop
  | .none => True
  | .bool _ => True
  | .int _ _ => True
  | .str _ _ => True
  | .bytes _ _ => True
  | .ref a => a ∈ A
  | _ => False
theorem OkU.mono {A B : List Addr} (h : ∀ a ∈ A, a ∈ B) : ∀ {u : Value}, OkU A u → OkU B u := fun {u} x => by
  cases u with
  | ref a => exact h a x
  | none => trivial
  | bool b => trivial
  | int i t => trivial
  | str s t => trivial
  | bytes b t => trivial
  | _ => exact False.elim x
theorem relV_toV {A : List Addr} {u : Value} (x : OkU A u) : RelV (toV u) u := by
  cases u with
  | ref a => rfl
  | none => rfl
  | bool b => rfl
  | int i t => exact ⟨t, rfl⟩
  | str s t => exact ⟨t, rfl⟩
  | bytes b t => exact ⟨t, rfl⟩
  | _ => exact False.elim x
theorem vals_toV {A : List Addr} : ∀ {vs : List Value}, (∀ u ∈ vs, OkU A u) → Vals (vs.map toV) vs
  | [], _ => .nil
  | u :: r, h => .cons (relV_toV (h u (List.mem_cons_self ..))) (vals_toV fun x hx => h x (List.mem_cons_of_mem _ hx))
/-- an object of the arguments -/
def ArgOb (h : Heap) (A : List Addr) (a : Addr) : Prop := ∃ vs : List Value, vs.length ≤ sizeLine ∧ (∀ u ∈ vs, OkU A u) ∧
  (h.get? a = some { cls := .type "list", data := .seq vs.toArray } ∨ h.get? a = some { cls := .type "tuple", data := .seq vs.toArray })
theorem ArgOb.mono {h : Heap} {A B : List Addr} {a : Addr} (k : ∀ a ∈ A, a ∈ B) (x : ArgOb h A a) : ArgOb h B a := by
  obtain ⟨vs, h1, h2, h3⟩ := x
  exact ⟨vs, h1, fun u hu => (h2 u hu).mono k, h3⟩
theorem wellAll_len {P : Params} {h : Heap} : ∀ {vs : List Value} {ds : List WData}, WellAll P h vs ds → vs.length = ds.length
  | _, _, .nil => rfl
  | _, _, .cons _ b => by
    show _ + 1 = _ + 1
    rw [wellAll_len b]
theorem well_list {P : Params} {h : Heap} {v : Value} {ds : List WData} (x : Well P h v (.list ds)) : ∃ (a : Addr) (vs : List Value), v = .ref a ∧ h.get? a = some { cls := .type "list", data := .seq vs.toArray } ∧ WellAll P h vs ds := by
  cases x with
  | list ho hall => exact ⟨_, _, rfl, ho, hall⟩
theorem well_tuple {P : Params} {h : Heap} {v : Value} {ds : List WData} (x : Well P h v (.tuple ds)) : ∃ (a : Addr) (vs : List Value), v = .ref a ∧ h.get? a = some { cls := .type "tuple", data := .seq vs.toArray } ∧ WellAll P h vs ds := by
  cases x with
  | tuple ho hall => exact ⟨_, _, rfl, ho, hall⟩
theorem well_cons {P : Params} {h : Heap} {us : List Value} {d : WData} {ds : List WData} (x : WellAll P h us (d :: ds)) : ∃ (v : Value) (vs : List Value), us = v :: vs ∧ Well P h v d ∧ WellAll P h vs ds := by
  cases x with
  | cons a b => exact ⟨_, _, rfl, a, b⟩
theorem line_of {n : Nat} (h : n ≤ 1048576) : n ≤ sizeLine := Nat.le_trans h (by decide)
section
variable {P : Params} {h : Heap}
mutual
theorem area_one : ∀ (d : WData) (v : Value), Well P h v d → plW d = true → d.weight ≤ 1048576 → ∃ A : List Addr, OkU A v ∧ ∀ a ∈ A, ArgOb h A a
  | .none, _, x, _, _ => by
    cases x
    exact ⟨[], trivial, fun a m => absurd m (by simp)⟩
  | .bool b, _, x, _, _ => by
    cases x
    exact ⟨[], trivial, fun a m => absurd m (by simp)⟩
  | .int i, _, x, _, _ => by
    cases x
    exact ⟨[], trivial, fun a m => absurd m (by simp)⟩
  | .str s, _, x, _, _ => by
    cases x
    exact ⟨[], trivial, fun a m => absurd m (by simp)⟩
  | .bytes b, _, x, _, _ => by
    cases x
    exact ⟨[], trivial, fun a m => absurd m (by simp)⟩
  | .list ds, _, x, p, z => by
    obtain ⟨a, vs, rfl, ho, hall⟩ := well_list x
    have z2 : WData.weightAll ds ≤ 1048576 := z
    obtain ⟨A, h1, h2⟩ := area_all ds _ hall p fun d hd => Nat.le_trans (weight_mem hd) z2
    have k : ∀ b ∈ A, b ∈ a :: A := fun b hb => List.mem_cons_of_mem _ hb
    refine ⟨a :: A, List.mem_cons_self .., fun b hb => ?_⟩
    rcases List.mem_cons.mp hb with e | m
    · rw [e]
      exact ⟨vs, line_of (by rw [wellAll_len hall]; exact Nat.le_trans (PySem.W.length_le_weightAllW ds) z2), fun u hu => (h1 u hu).mono k, .inl ho⟩
    · exact (h2 b m).mono k
  | .tuple ds, _, x, p, z => by
    obtain ⟨a, vs, rfl, ho, hall⟩ := well_tuple x
    have z2 : WData.weightAll ds ≤ 1048576 := z
    obtain ⟨A, h1, h2⟩ := area_all ds _ hall p fun d hd => Nat.le_trans (weight_mem hd) z2
    have k : ∀ b ∈ A, b ∈ a :: A := fun b hb => List.mem_cons_of_mem _ hb
    refine ⟨a :: A, List.mem_cons_self .., fun b hb => ?_⟩
    rcases List.mem_cons.mp hb with e | m
    · rw [e]
      exact ⟨vs, line_of (by rw [wellAll_len hall]; exact Nat.le_trans (PySem.W.length_le_weightAllW ds) z2), fun u hu => (h1 u hu).mono k, .inr ho⟩
    · exact (h2 b m).mono k
  | .float _, _, _, p, _ => Bool.noConfusion (show false = true from p)
  | .dict _, _, _, p, _ => Bool.noConfusion (show false = true from p)
  | .bytearray _, _, _, p, _ => Bool.noConfusion (show false = true from p)
  | .set _, _, _, p, _ => Bool.noConfusion (show false = true from p)
  | .frozenset _, _, _, p, _ => Bool.noConfusion (show false = true from p)
  | .obj _ _, _, _, p, _ => Bool.noConfusion (show false = true from p)
theorem area_all : ∀ (ds : List WData) (vs : List Value), WellAll P h vs ds → plWs ds = true → (∀ d ∈ ds, d.weight ≤ 1048576) → ∃ A : List Addr, (∀ u ∈ vs, OkU A u) ∧ ∀ a ∈ A, ArgOb h A a
  | [], _, x, _, _ => by
    cases x
    exact ⟨[], fun u m => absurd m (by simp), fun a m => absurd m (by simp)⟩
  | d :: ds, _, x, p, z => by
    obtain ⟨v, vs, rfl, x1, x2⟩ := well_cons x
    have q : plW d = true ∧ plWs ds = true := Bool.and_eq_true_iff.mp p
    obtain ⟨A, a1, a2⟩ := area_one d v x1 q.1 (z d (List.mem_cons_self ..))
    obtain ⟨B, b1, b2⟩ := area_all ds vs x2 q.2 fun e he => z e (List.mem_cons_of_mem _ he)
    have kA : ∀ b ∈ A, b ∈ A ++ B := fun b hb => List.mem_append.mpr (.inl hb)
    have kB : ∀ b ∈ B, b ∈ A ++ B := fun b hb => List.mem_append.mpr (.inr hb)
    refine ⟨A ++ B, fun u hu => ?_, fun b hb => ?_⟩
    · rcases List.mem_cons.mp hu with e | m
      · rw [e]
        exact a1.mono kA
      · exact (b1 u m).mono kB
    · rcases List.mem_append.mp hb with m | m
      · exact (a2 b m).mono kA
      · exact (b2 b m).mono kB
end
end
/-- what is tracked of an argument's object -/
def hoOf (o : Obj) : Option HO := match o.data with
  | .seq vs _ => if (o.cls == Value.type "list") = true then some (.frz o (.lst (vs.toList.map toV))) else some (.frz o (.tup (vs.toList.map toV)))
  | _ => none
def argH (K : PySem.W.Frag) (h : Heap) (A : List Addr) : Hp := fun b => if b ∈ A then (if (K.lookup b).isNone = true then (h.get? b).bind hoOf else none) else none
/-- nothing is tracked but what is known to the object -/
def OnlyF (H : Hp) : Prop := ∀ b, H b = none ∨ ∃ o u, H b = some (.frz o u)
theorem hoOf_lst (vs : List Value) : hoOf { cls := .type "list", data := .seq vs.toArray } = some (.frz { cls := .type "list", data := .seq vs.toArray } (.lst (vs.map toV))) := by
  show (if (Value.type "list" == Value.type "list") = true then some (HO.frz { cls := .type "list", data := .seq vs.toArray } (.lst (vs.toArray.toList.map toV))) else some (HO.frz { cls := .type "list", data := .seq vs.toArray } (.tup (vs.toArray.toList.map toV)))) = _
  rw [if_pos (beq_self_eq_true _)]
theorem hoOf_tup (vs : List Value) : hoOf { cls := .type "tuple", data := .seq vs.toArray } = some (.frz { cls := .type "tuple", data := .seq vs.toArray } (.tup (vs.map toV))) := by
  show (if (Value.type "tuple" == Value.type "list") = true then some (HO.frz { cls := .type "tuple", data := .seq vs.toArray } (.lst (vs.toArray.toList.map toV))) else some (HO.frz { cls := .type "tuple", data := .seq vs.toArray } (.tup (vs.toArray.toList.map toV)))) = _
  rw [if_neg (by decide)]
section
variable {P : Program} {w : World} {K : PySem.W.Frag} {h : Heap} {A : List Addr}
theorem argH_at {b : Addr} {o : Obj} (hb : b ∈ A) (hk : K.lookup b = none) (e : h.get? b = some o) : argH K h A b = hoOf o := by
  unfold argH
  rw [if_pos hb, hk, if_pos (show (none : Option Obj).isNone = true from rfl), e] <;> rfl
theorem of_argH {b : Addr} {u : HO} (q : argH K h A b = some u) : b ∈ A ∧ K.lookup b = none := by
  unfold argH at q
  by_cases hb : b ∈ A
  · rw [if_pos hb] at q
    cases hk : K.lookup b with
    | none => exact ⟨hb, rfl⟩
    | some o =>
      rw [hk, if_neg (by simp)] at q
      cases q
  · rw [if_neg hb] at q
    cases q
/-- what stands tracked -/
theorem argH_is (ar : ∀ a ∈ A, ArgOb h A a) {b : Addr} {u : HO} (q : argH K h A b = some u) : K.lookup b = none ∧ ∃ vs : List Value, vs.length ≤ sizeLine ∧ (∀ u ∈ vs, OkU A u) ∧
    ((h.get? b = some { cls := .type "list", data := .seq vs.toArray } ∧ u = .frz { cls := .type "list", data := .seq vs.toArray } (.lst (vs.map toV))) ∨
     (h.get? b = some { cls := .type "tuple", data := .seq vs.toArray } ∧ u = .frz { cls := .type "tuple", data := .seq vs.toArray } (.tup (vs.map toV)))) := by
  obtain ⟨hb, hk⟩ := of_argH q
  obtain ⟨vs, h1, h2, h3⟩ := ar b hb
  refine ⟨hk, vs, h1, h2, ?_⟩
  rcases h3 with e | e
  · rw [argH_at hb hk e, hoOf_lst] at q
    exact .inl ⟨e, (Option.some.inj q).symm⟩
  · rw [argH_at hb hk e, hoOf_tup] at q
    exact .inr ⟨e, (Option.some.inj q).symm⟩
theorem argH_only (ar : ∀ a ∈ A, ArgOb h A a) : OnlyF (argH K h A) := fun b => by
  cases q : argH K h A b with
  | none => exact .inl rfl
  | some u =>
    obtain ⟨_, vs, _, _, ⟨_, e⟩ | ⟨_, e⟩⟩ := argH_is ar q
    · exact .inr ⟨_, _, by rw [e]⟩
    · exact .inr ⟨_, _, by rw [e]⟩
theorem argH_ok (ar : ∀ a ∈ A, ArgOb h A a) : HOk P w (argH K h A) h := fun b u q => by
  obtain ⟨_, vs, h1, h2, ⟨e, rfl⟩ | ⟨e, rfl⟩⟩ := argH_is ar q
  · exact ⟨e, by rw [List.length_map]; exact h1, vs, _, vals_toV h2, e⟩
  · exact ⟨e, by rw [List.length_map]; exact h1, vs, vals_toV h2, _, e, rfl, _, rfl⟩
theorem seq_inj {c c' : Value} {vs us : List Value} (e : (some { cls := c, data := .seq vs.toArray } : Option Obj) = some { cls := c', data := .seq us.toArray }) : c = c' ∧ vs = us := by
  have e1 := Option.some.inj e
  have e2 : c = c' := congrArg Obj.cls e1
  have e3 : Data.seq vs.toArray = Data.seq us.toArray := congrArg Obj.data e1
  injection e3 with e4
  refine ⟨e2, ?_⟩
  have e5 := congrArg Array.toList e4
  simpa using e5
/-- a list argument -/
theorem argL (KX : K.In h) (ar : ∀ a ∈ A, ArgOb h A a) {a : Addr} {vs : List Value} (ha : a ∈ A) (e : h.get? a = some { cls := .type "list", data := .seq vs.toArray }) : (∀ u ∈ vs, OkU A u) ∧ SqL K (argH K h A) a (vs.map toV) := by
  obtain ⟨us, h1, h2, h3⟩ := ar a ha
  have hu : us = vs := by
    rcases h3 with q | q
    · rw [e] at q
      exact (seq_inj q).2.symm
    · rw [e] at q
      exact absurd (Value.type.inj (seq_inj q).1) (by decide)
  subst hu
  refine ⟨h2, ?_⟩
  cases hk : K.lookup a with
  | none => exact .inl (.inr ⟨_, by rw [argH_at ha hk e, hoOf_lst]⟩)
  | some o =>
    have e2 := KX a o hk
    rw [e] at e2
    obtain rfl := Option.some.inj e2
    exact .inr ⟨_, us.toArray, _, hk, rfl, rfl, rfl, by rw [List.size_toArray]; exact h1, by simpa using vals_toV h2⟩
theorem argT (KX : K.In h) (ar : ∀ a ∈ A, ArgOb h A a) {a : Addr} {vs : List Value} (ha : a ∈ A) (e : h.get? a = some { cls := .type "tuple", data := .seq vs.toArray }) : (∀ u ∈ vs, OkU A u) ∧ SqT K (argH K h A) a (vs.map toV) := by
  obtain ⟨us, h1, h2, h3⟩ := ar a ha
  have hu : us = vs := by
    rcases h3 with q | q
    · rw [e] at q
      exact absurd (Value.type.inj (seq_inj q).1) (by decide)
    · rw [e] at q
      exact (seq_inj q).2.symm
  subst hu
  refine ⟨h2, ?_⟩
  cases hk : K.lookup a with
  | none => exact .inl (.inr ⟨_, by rw [argH_at ha hk e, hoOf_tup]⟩)
  | some o =>
    have e2 := KX a o hk
    rw [e] at e2
    obtain rfl := Option.some.inj e2
    exact .inr ⟨_, us.toArray, _, hk, rfl, rfl, by rw [List.size_toArray]; exact h1, by simpa using vals_toV h2⟩
mutual
theorem dw_one {Pm : Params} (KX : K.In h) (ar : ∀ a ∈ A, ArgOb h A a) : ∀ (d : WData) (v : Value), Well Pm h v d → plW d = true → OkU A v → Dw K (argH K h A) (toV v) d
  | .none, _, x, _, _ => by
    cases x
    exact .non
  | .bool b, _, x, _, _ => by
    cases x
    exact .bl b
  | .int i, _, x, _, _ => by
    cases x
    exact .int i
  | .str s, _, x, _, _ => by
    cases x
    exact .str s
  | .bytes b, _, x, _, _ => by
    cases x
    have z := Dw.byt (K := K) (H := argH K h A) b.toArray
    exact z
  | .list ds, _, x, p, hu => by
    obtain ⟨a, vs, rfl, ho, hall⟩ := well_list x
    obtain ⟨h2, hs⟩ := argL KX ar hu ho
    exact .lst hs (dw_all KX ar ds _ hall p h2)
  | .tuple ds, _, x, p, hu => by
    obtain ⟨a, vs, rfl, ho, hall⟩ := well_tuple x
    obtain ⟨h2, hs⟩ := argT KX ar hu ho
    exact .tup hs (dw_all KX ar ds _ hall p h2)
  | .float _, _, _, p, _ => Bool.noConfusion (show false = true from p)
  | .dict _, _, _, p, _ => Bool.noConfusion (show false = true from p)
  | .bytearray _, _, _, p, _ => Bool.noConfusion (show false = true from p)
  | .set _, _, _, p, _ => Bool.noConfusion (show false = true from p)
  | .frozenset _, _, _, p, _ => Bool.noConfusion (show false = true from p)
  | .obj _ _, _, _, p, _ => Bool.noConfusion (show false = true from p)
theorem dw_all {Pm : Params} (KX : K.In h) (ar : ∀ a ∈ A, ArgOb h A a) : ∀ (ds : List WData) (vs : List Value), WellAll Pm h vs ds → plWs ds = true → (∀ u ∈ vs, OkU A u) → DwAll K (argH K h A) (vs.map toV) ds
  | [], _, x, _, _ => by
    cases x
    exact .nil
  | d :: ds, _, x, p, hu => by
    obtain ⟨v, vs, rfl, x1, x2⟩ := well_cons x
    have q : plW d = true ∧ plWs ds = true := Bool.and_eq_true_iff.mp p
    exact .cons (dw_one KX ar d v x1 q.1 (hu _ (List.mem_cons_self ..))) (dw_all KX ar ds vs x2 q.2 fun u m => hu u (List.mem_cons_of_mem _ m))
end
end
/-! ### the call -/
/-! ### the row -/
theorem layable_weight {ds : List WData} (h : WData.layableAll ds = true) : ∀ d ∈ ds, d.weight ≤ 1048576 := fun d hd =>
  (PySem.W.layableW_iff.mp (List.all_eq_true.mp h d hd)).2.2
theorem encAll_len : ∀ (cs : List Codec) (a : Codec.denoteAll cs), (Codec.encAll cs a).length = cs.length
  | [], _ => rfl
  | c :: cs, a => by
    show (Codec.encAll cs a.2).length + 1 = cs.length + 1
    rw [encAll_len cs a.2]
end L2
-- rests on (row put in by the clerk, for the bench that shows a file only what it spells): KE.SpHead KE.OsShapes
end
section
set_option Elab.async false
namespace Bp
open Sy31

/-! ### sums -/
def isum (l : List Nat) : Int := (l.map fun (n : Nat) => (n : Int)).sum
theorem foldl_add (l : List Nat) : ∀ a : Nat, l.foldl (fun (a b : Nat) => a + b) a = a + l.foldl (fun (a b : Nat) => a + b) 0 := by
  induction l with
  | nil => intro a; rfl
  | cons x l ih =>
    intro a
    rw [List.foldl_cons, List.foldl_cons, ih (a + x), ih (0 + x)]
    lia
theorem total_nil : total [] = 0 := rfl
theorem total_cons (x : Nat) (l : List Nat) : total (x :: l) = x + total l := by
  unfold total
  rw [List.foldl_cons, foldl_add l (0 + x)]
  lia
theorem total_append (a b : List Nat) : total (a ++ b) = total a + total b := by
  induction a with
  | nil => rw [List.nil_append, total_nil]; lia
  | cons x a ih => rw [List.cons_append, total_cons, total_cons, ih]; lia
theorem sum_total (l : List Nat) : (l.map fun (n : Nat) => (n : Int)).sum = ((total l : Nat) : Int) := by
  induction l with
  | nil => rfl
  | cons x l ih => rw [List.map_cons, List.sum_cons, ih, total_cons]; lia
theorem sum_map_total {α : Type} (f : α → Nat) (l : List α) : (l.map fun (b : α) => (f b : Int)).sum = ((total (l.map f) : Nat) : Int) := by
  rw [← sum_total, List.map_map]; rfl
theorem total_le {α : Type} (f g : α → Nat) (l : List α) (h : ∀ b ∈ l, f b ≤ g b) : total (l.map f) ≤ total (l.map g) := by
  induction l with
  | nil => exact Nat.le_refl _
  | cons x l ih =>
    rw [List.map_cons, List.map_cons, total_cons, total_cons]
    have h1 := h x (List.mem_cons_self ..)
    have h2 := ih fun b hb => h b (List.mem_cons_of_mem _ hb)
    lia
theorem total_sub {α : Type} (f g : α → Nat) (l : List α) (h : ∀ b ∈ l, f b ≤ g b) : total (l.map fun b => g b - f b) = total (l.map g) - total (l.map f) := by
  induction l with
  | nil => rfl
  | cons x l ih =>
    rw [List.map_cons, List.map_cons, List.map_cons, total_cons, total_cons, total_cons, ih fun b hb => h b (List.mem_cons_of_mem _ hb)]
    have h1 := h x (List.mem_cons_self ..)
    have h2 := total_le f g l fun b hb => h b (List.mem_cons_of_mem _ hb)
    lia
theorem total_const_le {α : Type} (f : α → Nat) (m : Nat) (l : List α) (h : ∀ b ∈ l, f b ≤ m) : total (l.map f) ≤ l.length * m := by
  induction l with
  | nil => exact Nat.zero_le _
  | cons x l ih =>
    rw [List.map_cons, total_cons, List.length_cons, Nat.succ_mul]
    have h1 := h x (List.mem_cons_self ..)
    have h2 := ih fun b hb => h b (List.mem_cons_of_mem _ hb)
    lia
theorem total_pos {α : Type} (f : α → Nat) (l : List α) (h : ∀ b ∈ l, 1 ≤ f b) (hl : l ≠ []) : 1 ≤ total (l.map f) := by
  cases l with
  | nil => exact absurd rfl hl
  | cons x l =>
    rw [List.map_cons, total_cons]
    have h1 := h x (List.mem_cons_self ..)
    lia

/-! ### the state in order -/
structure BarOk (b : Bar) : Prop where
  l1 : 1 ≤ b.least
  lw : b.least ≤ b.wish
  w : b.wish ≤ 1000
  h : b.head ≤ 1000
  t : b.turn ≤ 1000
  e : b.ends ≤ 3
structure PapOk (P : Paper) : Prop where
  w1 : 1 ≤ P.width
  w : P.width ≤ 1000
  l1 : 1 ≤ P.lines
  l : P.lines ≤ 6
  st : P.stretch ≤ 1000
  sq : P.squeeze ≤ 1000
  li : P.line ≤ 1000
  pa : P.page ≤ 1000
  em : P.empty_ ≤ 1000
structure Ok (P : Paper) (bs : List Bar) : Prop where
  pap : PapOk P
  len : bs.length ≤ 24
  bars : ∀ b ∈ bs, BarOk b
theorem barOk_iff (b : Bar) : barOk b = true ↔ BarOk b := by
  unfold barOk MOST
  simp only [Bool.and_eq_true, decide_eq_true_eq]
  exact ⟨fun ⟨a, b, c, d, e, f⟩ => ⟨a, b, c, d, e, f⟩, fun ⟨a, b, c, d, e, f⟩ => ⟨a, b, c, d, e, f⟩⟩
theorem paperOk_iff (P : Paper) : paperOk P = true ↔ PapOk P := by
  unfold paperOk MOST LINES
  simp only [Bool.and_eq_true, decide_eq_true_eq, List.all_cons, List.all_nil, and_true]
  exact ⟨fun ⟨a, b, c, d, e, f, g, h, i⟩ => ⟨a, b, c, d, e, f, g, h, i⟩, fun ⟨a, b, c, d, e, f, g, h, i⟩ => ⟨a, b, c, d, e, f, g, h, i⟩⟩
theorem start_ok : Ok start.paper start.bars := ⟨(paperOk_iff _).mp (by decide), by decide, fun b hb => by cases hb⟩

/-! ### bars from i to before j -/
theorem part_length {bs : List Bar} {i j : Nat} (h : j ≤ bs.length) : (part bs i j).length = j - i := by
  unfold part
  rw [List.length_take, List.length_drop]
  lia
theorem part_mem {bs : List Bar} {i j : Nat} {b : Bar} (h : b ∈ part bs i j) : b ∈ bs := List.mem_of_mem_drop (List.mem_of_mem_take h)
theorem barAt_get {bs : List Bar} {i : Nat} {b : Bar} (h : bs[i]? = some b) : barAt bs i = b := by
  unfold barAt
  rw [List.getD_eq_getElem?_getD, h]
  rfl
theorem barAt_some {bs : List Bar} {i : Nat} (h : i < bs.length) : bs[i]? = some (barAt bs i) := by
  have e := List.getElem?_eq_getElem h
  rw [barAt_get e]
  exact e
theorem barAt_mem {bs : List Bar} {i : Nat} (h : i < bs.length) : barAt bs i ∈ bs := List.mem_of_getElem? (barAt_some h)
theorem Ok.barAt {P : Paper} {bs : List Bar} (ok : Ok P bs) {i : Nat} (h : i < bs.length) : BarOk (Sy31.barAt bs i) := ok.bars _ (barAt_mem h)

/-- a line that may be -/
structure Line (P : Paper) (bs : List Bar) (i j : Nat) : Prop where
  lt : i < j
  le : j ≤ bs.length
  goes : Sy31.goes P bs i j = true
section
variable {P : Paper} {bs : List Bar} {i j : Nat}
theorem goes_le (h : Sy31.goes P bs i j = true) : least (part bs i j) + (barAt bs i).head ≤ P.width := of_decide_eq_true h
theorem least_le_wished (ok : Ok P bs) : least (part bs i j) ≤ wished (part bs i j) := total_le _ _ _ fun b hb => (ok.bars b (part_mem hb)).lw
theorem wished_pos (ok : Ok P bs) (h1 : i < j) (h2 : j ≤ bs.length) : 1 ≤ wished (part bs i j) :=
  total_pos _ _ (fun b hb => Nat.le_trans (ok.bars b (part_mem hb)).l1 (ok.bars b (part_mem hb)).lw) fun e => by
    have := part_length (bs := bs) (i := i) h2
    rw [e] at this
    simp at this
    lia
theorem wished_le (ok : Ok P bs) (h2 : j ≤ bs.length) : wished (part bs i j) ≤ 24000 := by
  have h := total_const_le (fun b : Bar => b.wish) 1000 (part bs i j) fun b hb => (ok.bars b (part_mem hb)).w
  have h3 := ok.len
  rw [part_length h2] at h
  unfold wished
  have : (j - i) * 1000 ≤ 24 * 1000 := Nat.mul_le_mul_right _ (by lia)
  lia
theorem sq_nat (n : Nat) : ((n : Int)) ^ 2 = ((n * n : Nat) : Int) := by
  rw [Int.pow_succ, Int.pow_succ, Int.pow_zero, Int.one_mul]
  exact (Int.natCast_mul n n).symm
end

/-- why some bars can't be a line -/
def refI (P : Paper) (bs : List Bar) (i j : Nat) : Int :=
  if j ≤ i ∨ bs.length < j then -2 else if goes P bs i j = false then -7 else if mayEnd bs i j = false then -8 else 0
/-- the bars may be a line -/
def okLine (P : Paper) (bs : List Bar) (i j : Nat) : Bool := decide (i < j) && (decide (j ≤ bs.length) && (goes P bs i j && mayEnd bs i j))
theorem refI_zero {P : Paper} {bs : List Bar} {i j : Nat} : refI P bs i j = 0 ↔ okLine P bs i j = true := by
  unfold refI okLine
  by_cases h1 : j ≤ i ∨ bs.length < j
  · rw [if_pos h1]
    refine ⟨fun h => by lia, fun h => ?_⟩
    rw [Bool.and_eq_true, Bool.and_eq_true, decide_eq_true_eq, decide_eq_true_eq] at h
    lia
  · rw [if_neg h1]
    have a1 : decide (i < j) = true := decide_eq_true (by lia)
    have a2 : decide (j ≤ bs.length) = true := decide_eq_true (by lia)
    rw [a1, a2]
    cases goes P bs i j <;> cases mayEnd bs i j <;> simp
theorem refI_neg {P : Paper} {bs : List Bar} {i j : Nat} : refI P bs i j = 0 ∨ refI P bs i j < 0 := by
  unfold refI
  split
  · right; lia
  · split
    · right; lia
    · split
      · right; lia
      · left; rfl
theorem okLine_iff {P : Paper} {bs : List Bar} {i j : Nat} : okLine P bs i j = true ↔ i < j ∧ j ≤ bs.length ∧ goes P bs i j = true ∧ mayEnd bs i j = true := by
  unfold okLine
  simp only [Bool.and_eq_true, decide_eq_true_eq]
end Bp
end
section
set_option Elab.async false
namespace Bp
open Sy31
/-! ### a stable sort is one alone -/
theorem sort_one {α : Type} (key : α → Int) : ∀ (a b : List α), a.Pairwise (fun x y => key x ≤ key y) → b.Pairwise (fun x y => key x ≤ key y) →
    (∀ z, a.filter (fun x => key x == z) = b.filter (fun x => key x == z)) → a = b
  | [], [], _, _, _ => rfl
  | [], y :: b, _, _, h => by
    have e := h (key y)
    rw [List.filter_nil, List.filter_cons, if_pos (beq_self_eq_true _)] at e
    cases e
  | x :: a, [], _, _, h => by
    have e := h (key x)
    rw [List.filter_nil, List.filter_cons, if_pos (beq_self_eq_true _)] at e
    cases e
  | x :: a, y :: b, ha, hb, h => by
    have hx : x ∈ (y :: b).filter (fun u => key u == key x) := by rw [← h (key x)]; exact List.mem_filter.mpr ⟨List.mem_cons_self .., beq_self_eq_true _⟩
    have hy : y ∈ (x :: a).filter (fun u => key u == key y) := by rw [h (key y)]; exact List.mem_filter.mpr ⟨List.mem_cons_self .., beq_self_eq_true _⟩
    have k1 : key y ≤ key x := by
      rcases List.mem_cons.mp (List.mem_filter.mp hx).1 with e | e
      · rw [e]; exact Int.le_refl _
      · exact (List.pairwise_cons.mp hb).1 x e
    have k2 : key x ≤ key y := by
      rcases List.mem_cons.mp (List.mem_filter.mp hy).1 with e | e
      · rw [e]; exact Int.le_refl _
      · exact (List.pairwise_cons.mp ha).1 y e
    have k : key x = key y := Int.le_antisymm k2 k1
    have e := h (key x)
    rw [List.filter_cons, if_pos (beq_self_eq_true _), List.filter_cons, if_pos (by rw [k]; exact beq_self_eq_true _)] at e
    injection e with e1 e2
    subst e1
    have t : a = b := by
      refine sort_one key a b (List.pairwise_cons.mp ha).2 (List.pairwise_cons.mp hb).2 fun z => ?_
      by_cases hz : key x = z
      · subst hz; exact e2
      · have e3 := h z
        rw [List.filter_cons, if_neg (by simpa using hz), List.filter_cons, if_neg (by simpa using hz)] at e3
        exact e3
    rw [t]
/-! ### putLeft, byLeft -/
theorem putLeft_mem (x : Nat × Nat) : ∀ (m : List (Nat × Nat)) (u : Nat × Nat), u ∈ putLeft x m → u = x ∨ u ∈ m
  | [], u, h => by
    rcases List.mem_cons.mp h with e | e
    · exact .inl e
    · cases e
  | y :: l, u, h => by
    unfold putLeft at h
    split at h
    · rcases List.mem_cons.mp h with e | e
      · exact .inl e
      · exact .inr e
    · rcases List.mem_cons.mp h with e | e
      · exact .inr (e ▸ List.mem_cons_self ..)
      · rcases putLeft_mem x l u e with q | q
        · exact .inl q
        · exact .inr (List.mem_cons_of_mem _ q)
theorem putLeft_sorted (x : Nat × Nat) : ∀ (m : List (Nat × Nat)), m.Pairwise (fun u v => v.1 ≤ u.1) → (putLeft x m).Pairwise (fun u v => v.1 ≤ u.1)
  | [], _ => List.pairwise_singleton _ _
  | y :: l, h => by
    obtain ⟨h1, h2⟩ := List.pairwise_cons.mp h
    unfold putLeft
    split
    · rename_i hlt
      refine List.pairwise_cons.mpr ⟨fun u hu => ?_, h⟩
      rcases List.mem_cons.mp hu with e | e
      · subst e; lia
      · have := h1 u e; lia
    · rename_i hlt
      refine List.pairwise_cons.mpr ⟨fun u hu => ?_, putLeft_sorted x l h2⟩
      rcases putLeft_mem x l u hu with e | e
      · subst e; lia
      · exact h1 u e
theorem putLeft_filter (x : Nat × Nat) (z : Nat) : ∀ (m : List (Nat × Nat)), m.Pairwise (fun u v => v.1 ≤ u.1) →
    (putLeft x m).filter (fun u => u.1 == z) = m.filter (fun u => u.1 == z) ++ (if x.1 = z then [x] else [])
  | [], _ => by
    show ([x] : List (Nat × Nat)).filter (fun u => u.1 == z) = _
    by_cases e : x.1 = z
    · rw [if_pos e, List.filter_cons, if_pos (by simpa using e)]; rfl
    · rw [if_neg e, List.filter_cons, if_neg (by simpa using e)]; rfl
  | y :: l, h => by
    obtain ⟨h1, h2⟩ := List.pairwise_cons.mp h
    unfold putLeft
    split
    · rename_i hlt
      by_cases e : x.1 = z
      · have none_ : (y :: l).filter (fun u => u.1 == z) = [] := by
          refine List.filter_eq_nil_iff.mpr fun u hu => ?_
          have : u.1 ≤ y.1 := by
            rcases List.mem_cons.mp hu with q | q
            · rw [q]; exact Nat.le_refl _
            · exact h1 u q
          simp only [beq_iff_eq]
          lia
        rw [List.filter_cons, if_pos (by simpa using e), none_, if_pos e]; rfl
      · rw [List.filter_cons, if_neg (by simpa using e), if_neg e, List.append_nil]
    · rw [List.filter_cons, putLeft_filter x z l h2, List.filter_cons]
      split
      · rfl
      · rfl
theorem putAll : ∀ (l m : List (Nat × Nat)), m.Pairwise (fun u v => v.1 ≤ u.1) →
    (l.foldl (fun (m : List (Nat × Nat)) (x : Nat × Nat) => putLeft x m) m).Pairwise (fun u v => v.1 ≤ u.1) ∧
    ∀ z, (l.foldl (fun (m : List (Nat × Nat)) (x : Nat × Nat) => putLeft x m) m).filter (fun u => u.1 == z) = m.filter (fun u => u.1 == z) ++ l.filter (fun u => u.1 == z)
  | [], m, h => ⟨h, fun z => by simp⟩
  | x :: l, m, h => by
    obtain ⟨a, b⟩ := putAll l (putLeft x m) (putLeft_sorted x m h)
    refine ⟨a, fun z => ?_⟩
    rw [List.foldl_cons, b z, putLeft_filter x z m h, List.append_assoc]
    congr 1
    rw [List.filter_cons]
    by_cases e : x.1 = z
    · rw [if_pos e, if_pos (by simpa using e)]; rfl
    · rw [if_neg e, if_neg (by simpa using e)]; rfl
/-- places by key, the key of a place read off a list -/
def restKey (rs : List Nat) (n : Int) : Int := 0 - ((rs.getD n.toNat 0 : Nat) : Int)
theorem zip_pair {rs : List Nat} {p : Nat × Nat} (h : p ∈ rs.zipIdx) : rs.getD p.2 0 = p.1 := by
  have h' := List.mem_zipIdx_iff_getElem?.mp h
  rw [List.getD_eq_getElem?_getD, h']; rfl
theorem zipIdx_places : ∀ (rs : List Nat) (k : Nat), (rs.zipIdx k).map (fun p => p.2) = (List.range' k rs.length)
  | [], k => rfl
  | x :: rs, k => by
    rw [List.zipIdx_cons, List.map_cons, zipIdx_places rs (k + 1), List.length_cons, List.range'_succ]
theorem byLeft_is {rs : List Nat} {ns : List Int} (hs : ns.Pairwise (fun x y => restKey rs x ≤ restKey rs y))
    (hf : ∀ z, ns.filter (fun x => restKey rs x == z) = ((List.range rs.length).map fun (i : Nat) => (i : Int)).filter (fun x => restKey rs x == z)) :
    ns = (byLeft rs).map fun (i : Nat) => (i : Int) := by
  obtain ⟨a, b⟩ := putAll rs.zipIdx [] .nil
  have hm : ∀ p ∈ rs.zipIdx.foldl (fun (m : List (Nat × Nat)) (x : Nat × Nat) => putLeft x m) [], rs.getD p.2 0 = p.1 := fun p hp => by
    have h1 : p ∈ (rs.zipIdx.foldl (fun (m : List (Nat × Nat)) (x : Nat × Nat) => putLeft x m) []).filter (fun u => u.1 == p.1) := List.mem_filter.mpr ⟨hp, beq_self_eq_true _⟩
    rw [b p.1, List.filter_nil, List.nil_append] at h1
    exact zip_pair (List.mem_filter.mp h1).1
  refine sort_one (restKey rs) _ _ hs ?_ fun z => ?_
  · unfold byLeft
    rw [List.pairwise_map, List.pairwise_map]
    refine a.imp_of_mem fun {u v} hu hv h => ?_
    unfold restKey
    have e1 := hm u hu
    have e2 := hm v hv
    simp only [Int.toNat_natCast, e1, e2]
    lia
  · rw [hf z]
    unfold byLeft
    have key : ∀ l : List (Nat × Nat), (∀ p ∈ l, rs.getD p.2 0 = p.1) → ((l.map fun (x : Nat × Nat) => x.2).map fun (i : Nat) => (i : Int)).filter (fun x => restKey rs x == z) =
        ((l.filter fun u => u.1 == (0 - z).toNat && decide (z ≤ 0)).map fun (x : Nat × Nat) => x.2).map fun (i : Nat) => (i : Int) := by
      intro l hl
      rw [List.map_map, List.filter_map, List.map_map]
      congr 1
      refine List.filter_congr fun p hp => ?_
      show (restKey rs ((p.2 : Nat) : Int) == z) = _
      unfold restKey
      simp only [Int.toNat_natCast, hl p hp]
      rw [Bool.eq_iff_iff]
      simp only [beq_iff_eq, Bool.and_eq_true, decide_eq_true_eq]
      constructor
      · intro h; lia
      · intro h; lia
    rw [key _ hm]
    have e0 : (List.range rs.length).map (fun (i : Nat) => (i : Int)) = (rs.zipIdx.map fun (x : Nat × Nat) => x.2).map fun (i : Nat) => (i : Int) := by
      rw [zipIdx_places, List.range_eq_range']
    rw [e0, key _ fun p hp => zip_pair hp]
    by_cases hz : z ≤ 0
    · have b' := b ((0 - z).toNat)
      rw [List.filter_nil, List.nil_append] at b'
      have e1 : ∀ l : List (Nat × Nat), l.filter (fun u => u.1 == (0 - z).toNat && decide (z ≤ 0)) = l.filter fun u => u.1 == (0 - z).toNat := fun l => List.filter_congr fun p _ => by rw [decide_eq_true hz, Bool.and_true]
      rw [e1, e1, b']
    · have e1 : ∀ l : List (Nat × Nat), l.filter (fun u => u.1 == (0 - z).toNat && decide (z ≤ 0)) = [] := fun l => List.filter_eq_nil_iff.mpr fun p _ => by rw [decide_eq_false hz, Bool.and_false]; exact Bool.false_ne_true
      rw [e1, e1]
theorem byLeft_perm_nodup {rs : List Nat} {ns : List Int} (hp : ns.Perm ((List.range rs.length).map fun (i : Nat) => (i : Int))) : ns.Nodup := by
  refine hp.nodup_iff.mpr ?_
  refine List.nodup_iff_pairwise_ne.mpr ?_
  rw [List.pairwise_map]
  exact (List.nodup_iff_pairwise_ne.mp List.nodup_range).imp fun {a b} h => by lia
/-- the shares when the first of the places have been served -/
def served (whole : List Nat) (first : List Nat) : List Nat := whole.zipIdx.map fun (y : Nat × Nat) => if first.contains y.2 = true then y.1 + 1 else y.1
theorem served_nil (whole : List Nat) : served whole [] = whole := by
  unfold served
  have : ∀ (l : List Nat) (k : Nat), ((l.zipIdx k).map fun (y : Nat × Nat) => if ([] : List Nat).contains y.2 = true then y.1 + 1 else y.1) = l := by
    intro l
    induction l with
    | nil => intro k; rfl
    | cons x l ih =>
      intro k
      rw [List.zipIdx_cons, List.map_cons, ih (k + 1)]
      simp
  exact this whole 0
theorem served_length (whole first : List Nat) : (served whole first).length = whole.length := by
  unfold served
  rw [List.length_map, List.length_zipIdx]
theorem served_get {whole first : List Nat} {i : Nat} (h : i < whole.length) : (served whole first)[i]? = some (if first.contains i = true then whole.getD i 0 + 1 else whole.getD i 0) := by
  unfold served
  rw [List.getElem?_map, List.getElem?_zipIdx, List.getElem?_eq_getElem h]
  simp [List.getD_eq_getElem?_getD, List.getElem?_eq_getElem h]
theorem served_snoc {whole first : List Nat} {i : Nat} (hi : i < whole.length) (hn : i ∉ first) : served whole (first ++ [i]) = (served whole first).set i ((served whole first).getD i 0 + 1) := by
  refine List.ext_getElem? fun j => ?_
  by_cases hj : j < whole.length
  · rw [served_get hj]
    by_cases e : j = i
    · subst e
      have hg : (served whole first).getD j 0 = if first.contains j = true then whole.getD j 0 + 1 else whole.getD j 0 := by
        rw [List.getD_eq_getElem?_getD, served_get hj]; rfl
      rw [List.getElem?_set_self (by rw [served_length]; exact hj), hg]
      have h1 : (first ++ [j]).contains j = true := by simp
      have h2 : first.contains j = false := by simpa using hn
      rw [if_pos h1, h2]
      simp
    · rw [List.getElem?_set_ne (fun q => e q.symm), served_get hj]
      have h1 : (first ++ [i]).contains j = first.contains j := by
        rw [Bool.eq_iff_iff]
        simp [e]
      rw [h1]
  · rw [List.getElem?_eq_none (by rw [served_length]; lia), List.getElem?_eq_none (by rw [List.length_set, served_length]; lia)]
theorem portion_eq (x : Nat) (parts : List Nat) : portion x parts = served (parts.map fun (p : Nat) => x * p / total parts) ((byLeft (parts.map fun (p : Nat) => x * p % total parts)).take (x - total (parts.map fun (p : Nat) => x * p / total parts))) := rfl
theorem portion_length (x : Nat) (parts : List Nat) : (portion x parts).length = parts.length := by
  rw [portion_eq, served_length, List.length_map]
theorem mul_total (x : Nat) : ∀ l : List Nat, total (l.map fun (p : Nat) => x * p) = x * total l
  | [] => rfl
  | a :: l => by rw [List.map_cons, total_cons, total_cons, mul_total x l, Nat.mul_add]
theorem div_total_le (x d : Nat) (hd : 0 < d) : ∀ l : List Nat, d * total (l.map fun (p : Nat) => x * p / d) ≤ x * total l
  | [] => by simp [total_nil]
  | a :: l => by
    rw [List.map_cons, total_cons, total_cons, Nat.mul_add, Nat.mul_add]
    have h1 := div_total_le x d hd l
    have h2 : d * (x * a / d) ≤ x * a := Nat.mul_div_le _ _
    lia
theorem whole_le (x : Nat) (parts : List Nat) (hd : 0 < total parts) : total (parts.map fun (p : Nat) => x * p / total parts) ≤ x := by
  have h := div_total_le x (total parts) hd parts
  rw [Nat.mul_comm x] at h
  exact Nat.le_of_mul_le_mul_left h hd
theorem portion_le {x : Nat} {parts : List Nat} {i : Nat} {p q : Nat} (hx : x ≤ total parts) (hp : parts[i]? = some p) (hq : (portion x parts)[i]? = some q) : q ≤ p + 1 := by
  have hi : i < parts.length := (List.getElem?_eq_some_iff.mp hp).1
  rw [portion_eq, served_get (by rw [List.length_map]; exact hi)] at hq
  have hg : (parts.map fun (p : Nat) => x * p / total parts).getD i 0 = x * p / total parts := by
    rw [List.getD_eq_getElem?_getD, List.getElem?_map, hp]; rfl
  rw [hg] at hq
  have h1 : x * p / total parts ≤ p := Nat.div_le_of_le_mul (Nat.mul_le_mul_right _ hx)
  have h2 := Option.some.inj hq
  split at h2 <;> lia
end Bp
end
section
set_option Elab.async false
namespace Bp
open Sy31
/-! ### a rest as the program keeps it -/
structure PyR where
  ways : Nat
  cheap : Nat
  cost : Nat
  len : Nat
  ends : Bool
def PyR.zero : PyR := ⟨0, 0, 0, 0, false⟩
/-- how the program adds a step -/
def PyR.add (r : PyR) (len : Nat) (e : Bool) (cost : Nat) (bw bc bch : Nat) : PyR :=
  if bw = 0 then r
  else if r.ways = 0 ∨ cost + bc < r.cost then ⟨r.ways + bw, 0 + bch, cost + bc, len, e⟩
  else if cost + bc = r.cost then ⟨r.ways + bw, r.cheap + bch, r.cost, r.len, r.ends⟩
  else ⟨r.ways + bw, r.cheap, r.cost, r.len, r.ends⟩
abbrev Ent := Sy31.Line × Rest
def esum (e : Ent) : Option Nat := e.2.least.map fun (b : Nat) => e.1.cost + b
def Good (R : Rest) : Prop := (R.least.isSome = true ↔ R.ways ≠ 0) ∧ (R.ways = 0 → R.bests = 0)
def gatherL (es : List Ent) : Rest := gather (es.map fun (e : Ent) => (e.1.cost, e.2))
def PyR.addE (i : Nat) (r : PyR) (e : Ent) : PyR := r.add (e.1.to - i) e.1.over e.1.cost e.2.ways (e.2.least.getD 0) e.2.bests
structure J (i : Nat) (es : List Ent) (r : PyR) : Prop where
  ways : total (es.map fun (e : Ent) => e.2.ways) = r.ways
  none_ : r.ways = 0 → r = .zero ∧ ∀ e ∈ es, esum e = none
  some_ : r.ways ≠ 0 → (∀ e ∈ es, ∀ c, esum e = some c → r.cost ≤ c) ∧ r.cheap = total (es.map fun (e : Ent) => if esum e = some r.cost then e.2.bests else 0) ∧
    ∃ e0, es.find? (fun (e : Ent) => esum e == some r.cost) = some e0 ∧ r.len = e0.1.to - i ∧ r.ends = e0.1.over
theorem total_map_zero {α : Type} (f : α → Nat) (l : List α) (h : ∀ x ∈ l, f x = 0) : total (l.map f) = 0 := by
  induction l with
  | nil => rfl
  | cons x l ih => rw [List.map_cons, total_cons, h x (List.mem_cons_self ..), ih fun y hy => h y (List.mem_cons_of_mem _ hy)]
theorem J.step {i : Nat} {es : List Ent} {r : PyR} {e : Ent} (j : J i es r) (g : Good e.2) : J i (es ++ [e]) (r.addE i e) := by
  have tw : total ((es ++ [e]).map fun (e : Ent) => e.2.ways) = r.ways + e.2.ways := by
    rw [List.map_append, total_append, j.ways, List.map_cons, List.map_nil, total_cons, total_nil]; rfl
  unfold PyR.addE PyR.add
  by_cases h0 : e.2.ways = 0
  · rw [if_pos h0]
    have hn : e.2.least = none := by
      cases q : e.2.least with
      | none => rfl
      | some b => exact absurd h0 (g.1.mp (by rw [q]; rfl))
    have es0 : esum e = none := by unfold esum; rw [hn]; rfl
    refine ⟨by rw [tw, h0]; rfl, fun hz => ⟨(j.none_ hz).1, fun x hx => ?_⟩, fun hz => ?_⟩
    · rcases List.mem_append.mp hx with q | q
      · exact (j.none_ hz).2 x q
      · rw [List.mem_singleton.mp q]; exact es0
    · obtain ⟨a, b, e0, c, d⟩ := j.some_ hz
      refine ⟨fun x hx c hc => ?_, ?_, e0, ?_, d⟩
      · rcases List.mem_append.mp hx with q | q
        · exact a x q c hc
        · rw [List.mem_singleton.mp q, es0] at hc; cases hc
      · rw [List.map_append, total_append, ← b]
        show r.cheap = r.cheap + total [if esum e = some r.cost then e.2.bests else 0]
        rw [if_neg (by rw [es0]; exact fun q => by cases q)]; rfl
      · rw [List.find?_append, c]; rfl
  · rw [if_neg h0]
    obtain ⟨b, hb⟩ : ∃ b, e.2.least = some b := Option.isSome_iff_exists.mp (g.1.mpr h0)
    have hs : esum e = some (e.1.cost + b) := by unfold esum; rw [hb]; rfl
    have gd : e.2.least.getD 0 = b := by rw [hb]; rfl
    rw [gd]
    have one : ∀ c, total [if esum e = some c then e.2.bests else 0] = if e.1.cost + b = c then e.2.bests else 0 := fun c => by
      rw [total_cons, total_nil, hs]
      simp
    by_cases h1 : r.ways = 0 ∨ e.1.cost + b < r.cost
    · rw [if_pos h1]
      have low : ∀ x ∈ es, ∀ c, esum x = some c → e.1.cost + b < c := fun x hx c hc => by
        rcases h1 with q | q
        · rw [(j.none_ q).2 x hx] at hc; cases hc
        · by_cases hz : r.ways = 0
          · rw [(j.none_ hz).2 x hx] at hc; cases hc
          · have := (j.some_ hz).1 x hx c hc; lia
      have none2 : ∀ x ∈ es, ¬ esum x = some (e.1.cost + b) := fun x hx q => by have := low x hx _ q; lia
      refine ⟨tw, fun hz => absurd (show r.ways + e.2.ways = 0 from hz) (by lia), fun _ => ⟨fun x hx c hc => ?_, ?_, e, ?_, rfl, rfl⟩⟩
      · rcases List.mem_append.mp hx with q | q
        · exact Nat.le_of_lt (low x q c hc)
        · rw [List.mem_singleton.mp q, hs] at hc
          exact Nat.le_of_eq (Option.some.inj hc)
      · show 0 + e.2.bests = total ((es ++ [e]).map fun (x : Ent) => if esum x = some (e.1.cost + b) then x.2.bests else 0)
        rw [List.map_append, total_append, total_map_zero _ _ fun x hx => if_neg (none2 x hx)]
        show _ = 0 + total [if esum e = some (e.1.cost + b) then e.2.bests else 0]
        rw [one, if_pos rfl]
      · show (es ++ [e]).find? (fun (x : Ent) => esum x == some (e.1.cost + b)) = some e
        rw [List.find?_append]
        have : es.find? (fun (x : Ent) => esum x == some (e.1.cost + b)) = none := List.find?_eq_none.mpr fun x hx q => none2 x hx (by simpa using q)
        rw [this, List.find?_cons, hs]
        simp
    · rw [if_neg h1]
      have hz : r.ways ≠ 0 := fun q => h1 (.inl q)
      have hle : r.cost ≤ e.1.cost + b := by
        have : ¬ e.1.cost + b < r.cost := fun q => h1 (.inr q)
        lia
      obtain ⟨a, bb, e0, c, d⟩ := j.some_ hz
      have up : ∀ x ∈ es ++ [e], ∀ c, esum x = some c → r.cost ≤ c := fun x hx c hc => by
        rcases List.mem_append.mp hx with q | q
        · exact a x q c hc
        · rw [List.mem_singleton.mp q, hs] at hc
          have := Option.some.inj hc; lia
      have fi : (es ++ [e]).find? (fun (x : Ent) => esum x == some r.cost) = some e0 := by rw [List.find?_append, c]; rfl
      have ch : total ((es ++ [e]).map fun (x : Ent) => if esum x = some r.cost then x.2.bests else 0) = r.cheap + (if e.1.cost + b = r.cost then e.2.bests else 0) := by
        rw [List.map_append, total_append, ← bb]
        show r.cheap + total [if esum e = some r.cost then e.2.bests else 0] = _
        rw [one]
      by_cases h2 : e.1.cost + b = r.cost
      · rw [if_pos h2]
        refine ⟨tw, fun hz => absurd (show r.ways + e.2.ways = 0 from hz) (by lia), fun _ => ⟨up, ?_, e0, fi, d⟩⟩
        show r.cheap + e.2.bests = total ((es ++ [e]).map fun (x : Ent) => if esum x = some r.cost then x.2.bests else 0)
        rw [ch, if_pos h2]
      · rw [if_neg h2]
        refine ⟨tw, fun hz => absurd (show r.ways + e.2.ways = 0 from hz) (by lia), fun _ => ⟨up, ?_, e0, fi, d⟩⟩
        show r.cheap = total ((es ++ [e]).map fun (x : Ent) => if esum x = some r.cost then x.2.bests else 0)
        rw [ch, if_neg h2]; rfl
theorem J.start (i : Nat) : J i [] .zero := ⟨rfl, fun _ => ⟨rfl, fun _ h => by cases h⟩, fun h => absurd rfl h⟩
theorem J.all {i : Nat} : ∀ (es pre : List Ent) (r : PyR), J i pre r → (∀ e ∈ es, Good e.2) → J i (pre ++ es) (es.foldl (PyR.addE i) r)
  | [], pre, r, j, _ => by rw [List.append_nil]; exact j
  | e :: es, pre, r, j, g => by
    have h := J.all es (pre ++ [e]) (r.addE i e) (j.step (g e (List.mem_cons_self ..))) fun x hx => g x (List.mem_cons_of_mem _ hx)
    rw [List.append_assoc] at h
    exact h
/-! ### gather -/
def minOf (es : List Ent) : Option Nat := (es.map esum).foldl (fun (a x : Option Nat) => lesser a x) none
theorem gatherL_eq (es : List Ent) : gatherL es = ⟨minOf es, total (es.map fun (e : Ent) => if esum e = minOf es ∧ (minOf es).isSome = true then e.2.bests else 0), total (es.map fun (e : Ent) => e.2.ways)⟩ := by
  unfold gatherL gather minOf
  simp only [List.map_map, List.foldl_map]
  rfl
theorem min_none : ∀ (l : List (Option Nat)) (a : Option Nat), (∀ x ∈ l, x = none) → l.foldl (fun (a x : Option Nat) => lesser a x) a = a
  | [], _, _ => rfl
  | x :: l, a, h => by
    rw [List.foldl_cons, h x (List.mem_cons_self ..)]
    have : lesser a none = a := by cases a <;> rfl
    rw [this]
    exact min_none l a fun y hy => h y (List.mem_cons_of_mem _ hy)
theorem min_some : ∀ (l : List (Option Nat)) (a : Option Nat) (c : Nat), (∀ x, a = some x → c ≤ x) → (∀ x, some x ∈ l → c ≤ x) → (a = some c ∨ some c ∈ l) →
    l.foldl (fun (a x : Option Nat) => lesser a x) a = some c
  | [], a, c, _, _, h => by
    rcases h with h | h
    · exact h
    · cases h
  | x :: l, a, c, h1, h2, h3 => by
    rw [List.foldl_cons]
    refine min_some l (lesser a x) c (fun y hy => ?_) (fun y hy => h2 y (List.mem_cons_of_mem _ hy)) ?_
    · cases a with
      | none => exact h2 y (by rw [← hy]; exact List.mem_cons_self ..)
      | some u =>
        cases x with
        | none => exact h1 y hy
        | some v =>
          have e : min u v = y := Option.some.inj hy
          have := h1 u rfl
          have := h2 v (List.mem_cons_self ..)
          lia
    · rcases h3 with h3 | h3
      · subst h3
        cases x with
        | none => exact .inl rfl
        | some v =>
          have := h2 v (List.mem_cons_self ..)
          exact .inl (congrArg some (show min c v = c by lia))
      · rcases List.mem_cons.mp h3 with h3 | h3
        · subst h3
          cases a with
          | none => exact .inl rfl
          | some u =>
            have := h1 u rfl
            exact .inl (congrArg some (show min u c = c by lia))
        · exact .inr h3
/-- the first entry by which the rest costs no more -/
def firstE (es : List Ent) : Option Ent := es.find? fun (e : Ent) => esum e == (gatherL es).least && (gatherL es).least.isSome
/-- what the program keeps of a place, by the specification's rest and the first of the best lines -/
def pyOf (i : Nat) (R : Rest) (f : Option Sy31.Line) : PyR := ⟨R.ways, R.bests, R.least.getD 0, (f.map fun (l : Sy31.Line) => l.to - i).getD 0, (f.map fun (l : Sy31.Line) => l.over).getD false⟩
theorem J.end_ {i : Nat} {es : List Ent} {r : PyR} (j : J i es r) : r = pyOf i (gatherL es) ((firstE es).map (·.1)) ∧ Good (gatherL es) := by
  by_cases h : r.ways = 0
  · obtain ⟨rz, hn⟩ := j.none_ h
    have mn : minOf es = none := min_none _ _ fun x hx => by
      obtain ⟨e, he, rfl⟩ := List.mem_map.mp hx
      exact hn e he
    have tb : total (es.map fun (e : Ent) => if esum e = minOf es ∧ (minOf es).isSome = true then e.2.bests else 0) = 0 := total_map_zero _ _ fun x _ => if_neg (by rw [mn]; exact fun q => by cases q.2)
    have ge : gatherL es = ⟨none, 0, 0⟩ := by rw [gatherL_eq, tb, mn, j.ways, h]
    have fe : firstE es = none := by
      unfold firstE
      rw [ge]
      exact List.find?_eq_none.mpr fun x _ => by simp
    rw [fe, ge, rz]
    exact ⟨rfl, ⟨fun q => (nomatch q), fun q => absurd rfl q⟩, fun _ => rfl⟩
  · obtain ⟨a, b, e0, c, d1, d2⟩ := j.some_ h
    have hin : some r.cost ∈ es.map esum := by
      have h1 := List.mem_of_find?_eq_some c
      have h2 := List.find?_some c
      exact List.mem_map.mpr ⟨e0, h1, by simpa using h2⟩
    have mn : minOf es = some r.cost := min_some _ _ _ (fun x q => by cases q) (fun x hx => by
      obtain ⟨e, he, q⟩ := List.mem_map.mp hx
      exact a e he x q) (.inr hin)
    have tb : total (es.map fun (e : Ent) => if esum e = minOf es ∧ (minOf es).isSome = true then e.2.bests else 0) = r.cheap := by
      rw [b, mn]
      congr 1
      refine List.map_congr_left fun x _ => ?_
      by_cases q : esum x = some r.cost
      · rw [if_pos q, if_pos ⟨q, rfl⟩]
      · rw [if_neg q, if_neg fun z => q z.1]
    have ge : gatherL es = ⟨some r.cost, r.cheap, r.ways⟩ := by rw [gatherL_eq, tb, mn, j.ways]
    have fe : firstE es = some e0 := by
      unfold firstE
      rw [ge, ← c]
      congr 1
      funext x
      simp
    rw [fe, ge]
    refine ⟨?_, ⟨fun _ => h, fun _ => rfl⟩, fun q => absurd q h⟩
    show r = ⟨r.ways, r.cheap, r.cost, e0.1.to - i, e0.1.over⟩
    rw [← d1, ← d2]
end Bp
end
section
set_option Elab.async false
namespace Bp
open Sy31
variable {P : Paper} {bs : List Bar} {i j k : Nat} {r : Bool}
/-! ### the lines from a place -/
def ends_ (bs : List Bar) (i : Nat) : List Nat := (List.range (bs.length - i)).map fun (x : Nat) => i + x + 1
theorem ends_mem {j : Nat} : j ∈ ends_ bs i ↔ i < j ∧ j ≤ bs.length := by
  unfold ends_
  rw [List.mem_map]
  constructor
  · rintro ⟨x, hx, rfl⟩
    have := List.mem_range.mp hx
    lia
  · intro h
    exact ⟨j - i - 1, List.mem_range.mpr (by lia), by lia⟩
theorem ends_nodup : (ends_ bs i).Nodup := by
  unfold ends_
  refine List.nodup_iff_pairwise_ne.mpr ?_
  rw [List.pairwise_map]
  exact (List.nodup_iff_pairwise_ne.mp List.nodup_range).imp fun {a b} h => by lia
/-- what a page costs besides its lines -/
def pageCost (P : Paper) (bs : List Bar) (k1 j : Nat) (r : Bool) : Nat :=
  if j = bs.length then P.page else P.page + (P.empty_ * ((P.lines - k1) * (P.lines - k1)) + (if r = true then (barAt bs (j - 1)).turn else 0))
def mayGo (P : Paper) (bs : List Bar) (k1 j : Nat) : Bool := !decide (j = bs.length ∨ k1 = P.lines) && !decide ((barAt bs (j - 1)).ends = 3)
def lineEnts (P : Paper) (bs : List Bar) (r : Bool) (k i j : Nat) : List Sy31.Line :=
  (if mayGo P bs (k + 1) j = true then [⟨j, false, lineCost P bs i j⟩] else []) ++ [⟨j, true, lineCost P bs i j + pageCost P bs (k + 1) j r⟩]
theorem linesFrom_eq (hk : k < P.lines) : linesFrom P bs r k i = ((ends_ bs i).filter (okLine P bs i)).flatMap (lineEnts P bs r k i) := by
  unfold linesFrom
  show (ends_ bs i).flatMap _ = _
  have hm : ∀ j ∈ ends_ bs i, i < j ∧ j ≤ bs.length := fun j hj => ends_mem.mp hj
  generalize ends_ bs i = js at hm
  induction js with
  | nil => rfl
  | cons j js ih =>
    obtain ⟨h1, h2⟩ := hm j (List.mem_cons_self ..)
    have ok : okLine P bs i j = (goes P bs i j && mayEnd bs i j) := by
      unfold okLine
      rw [decide_eq_true h1, decide_eq_true h2]; rfl
    rw [List.flatMap_cons, ih fun x hx => hm x (List.mem_cons_of_mem _ hx), List.filter_cons]
    by_cases q : (goes P bs i j && mayEnd bs i j) = false
    · rw [if_pos q, if_neg (by rw [ok, q]; exact Bool.false_ne_true)]; rfl
    · rw [if_neg q]
      have q2 : okLine P bs i j = true := by rw [ok]; simpa using q
      rw [q2, if_pos rfl, List.flatMap_cons]
      congr 1
      unfold lineEnts mayGo pageCost
      by_cases e : j = bs.length
      · simp [e]
      · rw [if_neg e, if_neg e]
        by_cases e2 : k + 1 < P.lines ∧ (barAt bs (j - 1)).ends ≠ 3
        · have a1 : decide (j = bs.length ∨ k + 1 = P.lines) = false := decide_eq_false (by lia)
          have a2 : decide ((barAt bs (j - 1)).ends = 3) = false := decide_eq_false e2.2
          rw [if_pos e2, a1, a2]; rfl
        · have hn : ¬ (!decide (j = bs.length ∨ k + 1 = P.lines) && !decide ((barAt bs (j - 1)).ends = 3)) = true := fun z => by
            rw [Bool.and_eq_true, Bool.not_eq_true', Bool.not_eq_true', decide_eq_false_iff_not, decide_eq_false_iff_not] at z
            exact e2 ⟨by lia, z.2⟩
          rw [if_neg e2, if_neg hn]
theorem lineEnts_to {l : Sy31.Line} (h : l ∈ lineEnts P bs r k i j) : l.to = j := by
  unfold lineEnts at h
  rcases List.mem_append.mp h with h | h
  · split at h
    · rw [List.mem_singleton.mp h]
    · cases h
  · rw [List.mem_singleton.mp h]
theorem lineEnts_go {l : Sy31.Line} (h : l ∈ lineEnts P bs r k i j) (ho : l.over = false) : mayGo P bs (k + 1) j = true := by
  unfold lineEnts at h
  rcases List.mem_append.mp h with h | h
  · split at h
    · assumption
    · cases h
  · rw [List.mem_singleton.mp h] at ho; cases ho
theorem mayGo_iff : mayGo P bs k j = true ↔ j ≠ bs.length ∧ k ≠ P.lines ∧ (barAt bs (j - 1)).ends ≠ 3 := by
  unfold mayGo
  rw [Bool.and_eq_true, Bool.not_eq_true', Bool.not_eq_true', decide_eq_false_iff_not, decide_eq_false_iff_not]
  constructor
  · intro h; exact ⟨fun q => h.1 (.inl q), fun q => h.1 (.inr q), h.2⟩
  · intro h; exact ⟨fun q => q.elim h.1 h.2.1, h.2.2⟩
theorem lines_mem (hk : k < P.lines) {l : Sy31.Line} (h : l ∈ linesFrom P bs r k i) : i < l.to ∧ l.to ≤ bs.length ∧ okLine P bs i l.to = true ∧ (behind r k l).2 < P.lines ∧ (l.to = bs.length → l.over = true) := by
  rw [linesFrom_eq hk] at h
  obtain ⟨j, hj, hl⟩ := List.mem_flatMap.mp h
  obtain ⟨h1, h2⟩ := List.mem_filter.mp hj
  have e := lineEnts_to hl
  subst e
  obtain ⟨a, b⟩ := ends_mem.mp h1
  refine ⟨a, b, h2, ?_, fun q => ?_⟩
  · unfold behind
    cases ho : l.over with
    | true => show 0 < P.lines; lia
    | false =>
      have := (mayGo_iff.mp (lineEnts_go hl ho)).2.1
      show k + 1 < P.lines
      lia
  · cases ho : l.over with
    | true => rfl
    | false => exact absurd q (mayGo_iff.mp (lineEnts_go hl ho)).1
theorem lines_end : linesFrom P bs r k bs.length = [] := by
  unfold linesFrom
  rw [Nat.sub_self]; rfl
/-! ### what is known -/
theorem known_length : ∀ n, (known P bs n).length = n + 1
  | 0 => rfl
  | n + 1 => by
    show (known P bs n).length + 1 = n + 2
    rw [known_length n]
theorem known_drop : ∀ (d n : Nat), (known P bs (n + d)).drop d = known P bs n
  | 0, _ => rfl
  | d + 1, n => known_drop d n
theorem known_at {i : Nat} (h : i ≤ bs.length) : (known P bs bs.length).drop i = known P bs (bs.length - i) := by
  have e := known_drop (P := P) (bs := bs) i (bs.length - i)
  rw [Nat.sub_add_cancel h] at e
  exact e
def restOf (P : Paper) (bs : List Bar) (i : Nat) (r : Bool) (k : Nat) : Rest := (((known P bs bs.length)[i]?).map fun (x : Known) => lookUp x r k).getD ⟨none, 0, 0⟩
def entries (P : Paper) (bs : List Bar) (r : Bool) (k i : Nat) : List Ent := (linesFrom P bs r k i).map fun (l : Sy31.Line) => (l, restOf P bs l.to (behind r k l).1 (behind r k l).2)
theorem restOf_eq (hi : i < bs.length) (hk : k < P.lines) : restOf P bs i r k = gatherL (entries P bs r k i) := by
  have h1 : (known P bs bs.length)[i]? = (known P bs (bs.length - i)).head? := by
    rw [← known_at (Nat.le_of_lt hi), List.head?_drop]
  obtain ⟨n, hn⟩ : ∃ n, bs.length - i = n + 1 := ⟨bs.length - i - 1, by lia⟩
  have hin : bs.length - (n + 1) = i := by lia
  have hl : known P bs n = (known P bs bs.length).drop (i + 1) := by rw [known_at hi]; congr 1; lia
  have e1 : known P bs (n + 1) = ((List.range P.lines).map (restAt P bs (known P bs n) (bs.length - (n + 1)) false), (List.range P.lines).map (restAt P bs (known P bs n) (bs.length - (n + 1)) true)) :: known P bs n := rfl
  unfold restOf
  rw [h1, hn, e1, hin]
  show lookUp _ r k = _
  have e2 : lookUp ((List.range P.lines).map (restAt P bs (known P bs n) i false), (List.range P.lines).map (restAt P bs (known P bs n) i true)) r k = restAt P bs (known P bs n) i r k := by
    unfold lookUp
    cases r with
    | true =>
      show (((List.range P.lines).map (restAt P bs (known P bs n) i true))[k]?).getD _ = _
      rw [List.getElem?_map, List.getElem?_range hk]; rfl
    | false =>
      show (((List.range P.lines).map (restAt P bs (known P bs n) i false))[k]?).getD _ = _
      rw [List.getElem?_map, List.getElem?_range hk]; rfl
  rw [e2]
  unfold restAt gatherL entries
  rw [List.map_map]
  congr 1
  refine List.map_congr_left fun l hl' => ?_
  obtain ⟨a, _⟩ := lines_mem hk hl'
  show (l.cost, _) = (l.cost, restOf P bs l.to _ _)
  congr 1
  unfold restOf
  rw [hl, List.getElem?_drop]
  have : i + 1 + (l.to - (i + 1)) = l.to := by lia
  rw [this]
theorem restOf_end (hk : k ≤ P.lines) : restOf P bs bs.length r k = ⟨some 0, 1, 1⟩ := by
  have h1 : (known P bs bs.length)[bs.length]? = (known P bs 0).head? := by
    have e := known_at (P := P) (bs := bs) (Nat.le_refl bs.length)
    rw [Nat.sub_self] at e
    rw [← e, List.head?_drop]
  unfold restOf
  rw [h1]
  show lookUp (List.replicate (P.lines + 1) ⟨some 0, 1, 1⟩, List.replicate (P.lines + 1) ⟨some 0, 1, 1⟩) r k = _
  unfold lookUp
  have e : (List.replicate (P.lines + 1) (⟨some 0, 1, 1⟩ : Rest))[k]? = some ⟨some 0, 1, 1⟩ := by
    rw [List.getElem?_replicate, if_pos (by lia)]
  cases r
  · show ((List.replicate (P.lines + 1) (⟨some 0, 1, 1⟩ : Rest))[k]?).getD _ = _
    rw [e]; rfl
  · show ((List.replicate (P.lines + 1) (⟨some 0, 1, 1⟩ : Rest))[k]?).getD _ = _
    rw [e]; rfl
theorem restOf_good : ∀ (n i : Nat) (r : Bool) (k : Nat), bs.length - i = n → i ≤ bs.length → k < P.lines → Good (restOf P bs i r k) := by
  intro n
  induction n using Nat.strongRecOn with
  | ind n ih =>
    intro i r k hn hi hk
    by_cases he : i = bs.length
    · subst he
      rw [restOf_end (Nat.le_of_lt hk)]
      exact ⟨⟨fun _ => Nat.one_ne_zero, fun _ => rfl⟩, fun q => absurd q Nat.one_ne_zero⟩
    · have hlt : i < bs.length := by lia
      rw [restOf_eq hlt hk]
      refine (J.end_ (i := i) (J.all (entries P bs r k i) [] .zero (J.start i) fun e he => ?_)).2
      obtain ⟨l, hl, rfl⟩ := List.mem_map.mp he
      obtain ⟨a, b, _, d, _⟩ := lines_mem hk hl
      exact ih (bs.length - l.to) (by lia) l.to _ _ rfl b d
theorem entries_good (hk : k < P.lines) : ∀ e ∈ entries P bs r k i, Good e.2 := fun e he => by
  obtain ⟨l, hl, rfl⟩ := List.mem_map.mp he
  obtain ⟨a, b, _, d, _⟩ := lines_mem hk hl
  exact restOf_good _ l.to _ _ rfl b d
/-- the first of the lines by which the rest costs no more -/
def firstL (P : Paper) (bs : List Bar) (r : Bool) (k i : Nat) : Option Sy31.Line :=
  (linesFrom P bs r k i).find? fun (l : Sy31.Line) => esum (l, restOf P bs l.to (behind r k l).1 (behind r k l).2) == (restOf P bs i r k).least && (restOf P bs i r k).least.isSome
def pyAt (P : Paper) (bs : List Bar) (r : Bool) (k i : Nat) : PyR := pyOf i (restOf P bs i r k) (firstL P bs r k i)
theorem fold_at (hi : i < bs.length) (hk : k < P.lines) : (entries P bs r k i).foldl (PyR.addE i) .zero = pyAt P bs r k i := by
  have h := (J.end_ (i := i) (J.all (entries P bs r k i) [] .zero (J.start i) (entries_good hk))).1
  rw [List.nil_append] at h
  rw [h]
  unfold pyAt firstL
  rw [restOf_eq hi hk]
  congr 1
  unfold firstE
  have : ∀ p : Ent → Bool, ((entries P bs r k i).find? p).map (·.1) = (linesFrom P bs r k i).find? (fun (l : Sy31.Line) => p (l, restOf P bs l.to (behind r k l).1 (behind r k l).2)) := fun p => by
    unfold entries
    rw [List.find?_map, Option.map_map]
    show Option.map (fun l => l) _ = _
    rw [Option.map_id']; rfl
  rw [this]
theorem pyAt_end (hk : k ≤ P.lines) : pyAt P bs r k bs.length = ⟨1, 1, 0, 0, false⟩ := by
  unfold pyAt firstL
  rw [lines_end, restOf_end hk]; rfl
/-- a turn of the program's loop over the lines -/
def turn (P : Paper) (bs : List Bar) (r : Bool) (k i : Nat) (acc : PyR) (j : Nat) : PyR :=
  (lineEnts P bs r k i j).foldl (fun (a : PyR) (l : Sy31.Line) => a.addE i (l, restOf P bs l.to (behind r k l).1 (behind r k l).2)) acc
theorem turns_all (hi : i < bs.length) (hk : k < P.lines) : ((ends_ bs i).filter (okLine P bs i)).foldl (turn P bs r k i) .zero = pyAt P bs r k i := by
  rw [← fold_at hi hk]
  unfold entries
  rw [linesFrom_eq hk, List.foldl_map]
  generalize (ends_ bs i).filter (okLine P bs i) = js
  generalize PyR.zero = z
  induction js generalizing z with
  | nil => rfl
  | cons j js ih =>
    rw [List.flatMap_cons, List.foldl_append, List.foldl_cons, ih]
    rfl
theorem turn_eq (acc : PyR) : turn P bs r k i acc j =
    (fun a : PyR => a.addE i (⟨j, true, lineCost P bs i j + pageCost P bs (k + 1) j r⟩, restOf P bs j (!r) 0))
      (if mayGo P bs (k + 1) j = true then acc.addE i (⟨j, false, lineCost P bs i j⟩, restOf P bs j r (k + 1)) else acc) := by
  unfold turn lineEnts
  cases mayGo P bs (k + 1) j <;> rfl
/-! ### the first of the best -/
theorem firstL_some (hi : i < bs.length) (hk : k < P.lines) (hs : (restOf P bs i r k).least.isSome = true) :
    ∃ l, firstL P bs r k i = some l ∧ l ∈ linesFrom P bs r k i ∧ (restOf P bs l.to (behind r k l).1 (behind r k l).2).least.isSome = true := by
  have h := J.all (entries P bs r k i) [] .zero (J.start i) (entries_good hk)
  rw [List.nil_append] at h
  obtain ⟨e1, _⟩ := h.end_
  have hw : ((entries P bs r k i).foldl (PyR.addE i) .zero).ways ≠ 0 := by
    rw [fold_at hi hk]
    show (restOf P bs i r k).ways ≠ 0
    exact (restOf_good _ i r k rfl (Nat.le_of_lt hi) hk).1.mp hs
  obtain ⟨_, _, e0, c, _⟩ := h.some_ hw
  have hc : ((entries P bs r k i).foldl (PyR.addE i) .zero).cost = (restOf P bs i r k).least.getD 0 := by rw [fold_at hi hk]; rfl
  obtain ⟨m, hm⟩ := Option.isSome_iff_exists.mp hs
  rw [hc, hm] at c
  have h3 : firstL P bs r k i = some e0.1 := by
    unfold firstL
    rw [hm]
    have : (fun (l : Sy31.Line) => esum (l, restOf P bs l.to (behind r k l).1 (behind r k l).2) == some m && (some m).isSome) = fun (l : Sy31.Line) => esum (l, restOf P bs l.to (behind r k l).1 (behind r k l).2) == some m := by funext l; simp
    rw [this]
    have c2 := c
    unfold entries at c2
    rw [List.find?_map] at c2
    obtain ⟨l, hl, rfl⟩ := Option.map_eq_some_iff.mp c2
    exact hl
  refine ⟨e0.1, h3, List.mem_of_find?_eq_some h3, ?_⟩
  have h4 := List.find?_some h3
  rw [hm, Bool.and_eq_true] at h4
  have h5 := h4.1
  cases q : (restOf P bs e0.1.to (behind r k e0.1).1 (behind r k e0.1).2).least with
  | some _ => rfl
  | none =>
    have : esum (e0.1, restOf P bs e0.1.to (behind r k e0.1).1 (behind r k e0.1).2) = none := by unfold esum; show Option.map _ (restOf _ _ _ _ _).least = none; rw [q]; rfl
    rw [this] at h5
    simp at h5
theorem follow_step (f : Nat) {l : Sy31.Line} (h : firstL P bs r k i = some l) : follow P bs (known P bs bs.length) (f + 1) i r k = l :: follow P bs (known P bs bs.length) f l.to (behind r k l).1 (behind r k l).2 := by
  have hp : (fun (l : Sy31.Line) => esum (l, restOf P bs l.to (behind r k l).1 (behind r k l).2) == (restOf P bs i r k).least && (restOf P bs i r k).least.isSome) =
      fun (l : Sy31.Line) => let q := behind r k l
        ((((known P bs bs.length)[l.to]?).bind fun (x : Known) => (lookUp x q.1 q.2).least).map fun (b : Nat) => l.cost + b) == (restOf P bs i r k).least && (restOf P bs i r k).least.isSome := by
    funext l
    show _ = (((((known P bs bs.length)[l.to]?).bind fun (x : Known) => (lookUp x (behind r k l).1 (behind r k l).2).least).map fun (b : Nat) => l.cost + b) == (restOf P bs i r k).least && (restOf P bs i r k).least.isSome)
    congr 2
    unfold esum
    show Option.map _ (restOf P bs l.to (behind r k l).1 (behind r k l).2).least = _
    congr 1
    show (restOf P bs l.to (behind r k l).1 (behind r k l).2).least = _
    unfold restOf
    cases (known P bs bs.length)[l.to]? <;> rfl
  unfold firstL at h
  rw [hp] at h
  exact congrArg (fun o : Option Sy31.Line => match o with | some l => l :: follow P bs (known P bs bs.length) f l.to (behind r k l).1 (behind r k l).2 | none => []) h
theorem follow_end (f : Nat) : follow P bs (known P bs bs.length) f bs.length r k = [] := by
  cases f with
  | zero => rfl
  | succ f =>
    show (match (linesFrom P bs r k bs.length).find? _ with | some l => _ | none => _) = _
    rw [lines_end]; rfl
theorem all_eq : all_ P bs = restOf P bs 0 P.right 0 := by
  unfold all_ restOf
  rw [List.head?_eq_getElem?]
end Bp
end
section
set_option Elab.async false
namespace Bp
open Sy31
variable {P : Paper} {bs : List Bar} {i j k : Nat} {r : Bool}
/-! ### check -/
/-- lines with so many bars, from bar i on, t of the page's lines being there already -/
def pageOk (P : Paper) (bs : List Bar) : Nat → Nat → List Nat → Bool
  | _, _, [] => true
  | t, i, x :: s => (t == 0 || mayGo P bs t i) && (okLine P bs i (i + x) && pageOk P bs (t + 1) (i + x) s)
def linesCost (P : Paper) (bs : List Bar) : Nat → List Nat → Nat
  | _, [] => 0
  | i, x :: s => lineCost P bs i (i + x) + linesCost P bs (i + x) s
def isPage (P : Paper) (bs : List Bar) (i : Nat) (p : List Nat) : Bool := !(p.isEmpty || decide (P.lines < p.length)) && pageOk P bs 0 i p
def checkI (P : Paper) (bs : List Bar) : Nat → Bool → List (List Nat) → Nat → Int
  | i, _, [], acc => if i = bs.length then (acc : Int) else -3
  | i, r, p :: ps, acc => if isPage P bs i p = true then checkI P bs (i + total p) (!r) ps (acc + (linesCost P bs i p + pageCost P bs p.length (i + total p) r)) else -3
theorem find_flat {f : Nat → List Sy31.Line} {n : Nat} {b : Bool} (hf : ∀ j l, l ∈ f j → l.to = j) : ∀ js : List Nat, js.Nodup →
    (js.flatMap f).find? (fun (l : Sy31.Line) => l.to == n && l.over == b) = if n ∈ js then (f n).find? (fun (l : Sy31.Line) => l.over == b) else none
  | [], _ => by simp
  | j :: js, hn => by
    obtain ⟨h1, h2⟩ := List.nodup_cons.mp hn
    rw [List.flatMap_cons, List.find?_append, find_flat hf js h2]
    by_cases e : n = j
    · subst e
      rw [if_neg h1, if_pos (List.mem_cons_self ..), Option.or_none]
      have : ∀ l : List Sy31.Line, (∀ x ∈ l, x.to = n) → l.find? (fun (l : Sy31.Line) => l.to == n && l.over == b) = l.find? (fun (l : Sy31.Line) => l.over == b) := by
        intro l
        induction l with
        | nil => intro _; rfl
        | cons y l ih =>
          intro hl
          have e1 : (y.to == n) = true := by simpa using hl y (List.mem_cons_self ..)
          rw [List.find?_cons, List.find?_cons, e1, Bool.true_and, ih fun x hx => hl x (List.mem_cons_of_mem _ hx)]
      exact this _ fun x hx => hf n x hx
    · have none_ : (f j).find? (fun (l : Sy31.Line) => l.to == n && l.over == b) = none := List.find?_eq_none.mpr fun l hl q => by
        rw [Bool.and_eq_true, beq_iff_eq] at q
        exact e (q.1.symm.trans (hf j l hl))
      rw [none_, Option.none_or]
      by_cases h : n ∈ js
      · rw [if_pos h, if_pos (List.mem_cons_of_mem _ h)]
      · rw [if_neg h, if_neg fun q => by
          rcases List.mem_cons.mp q with z | z
          · exact e z
          · exact h z]
theorem find_line (hk : k < P.lines) (n : Nat) (b : Bool) : (linesFrom P bs r k i).find? (fun (l : Sy31.Line) => l.to == n && l.over == b) =
    if okLine P bs i n = true then (lineEnts P bs r k i n).find? (fun (l : Sy31.Line) => l.over == b) else none := by
  rw [linesFrom_eq hk, find_flat (fun j l h => lineEnts_to h) _ (List.Nodup.sublist (List.filter_sublist) ends_nodup)]
  by_cases h : okLine P bs i n = true
  · rw [if_pos h, if_pos]
    have := okLine_iff.mp h
    exact List.mem_filter.mpr ⟨ends_mem.mpr ⟨this.1, this.2.1⟩, h⟩
  · rw [if_neg h, if_neg fun q => h (List.mem_filter.mp q).2]
theorem find_over (n : Nat) : (lineEnts P bs r k i n).find? (fun (l : Sy31.Line) => l.over == true) = some ⟨n, true, lineCost P bs i n + pageCost P bs (k + 1) n r⟩ := by
  unfold lineEnts
  cases mayGo P bs (k + 1) n <;> rfl
theorem find_on (n : Nat) : (lineEnts P bs r k i n).find? (fun (l : Sy31.Line) => l.over == false) = if mayGo P bs (k + 1) n = true then some ⟨n, false, lineCost P bs i n⟩ else none := by
  unfold lineEnts
  cases mayGo P bs (k + 1) n <;> rfl
/-- a page's lines behind the first t of n -/
def told1 (n t : Nat) (p : List Nat) : List (Nat × Bool) := (p.zipIdx t).map fun (x : Nat × Nat) => (x.1, x.2 + 1 == n)
theorem flat_cons (p : List Nat) (ps : List (List Nat)) : flat (p :: ps) = told1 p.length 0 p ++ flat ps := rfl
def pgOk (P : Paper) (bs : List Bar) : Nat → Nat → List Nat → Bool
  | _, _, [] => false
  | _, i, [x] => okLine P bs i (i + x)
  | t, i, x :: y :: s => okLine P bs i (i + x) && (mayGo P bs (t + 1) (i + x) && pgOk P bs (t + 1) (i + x) (y :: s))
def pgLines (P : Paper) (bs : List Bar) (r : Bool) : Nat → Nat → List Nat → List Sy31.Line
  | _, _, [] => []
  | t, i, [x] => [⟨i + x, true, lineCost P bs i (i + x) + pageCost P bs (t + 1) (i + x) r⟩]
  | t, i, x :: y :: s => ⟨i + x, false, lineCost P bs i (i + x)⟩ :: pgLines P bs r (t + 1) (i + x) (y :: s)
theorem found_cons (i : Nat) (r : Bool) (k : Nat) (x : Nat × Bool) (rest : List (Nat × Bool)) : found P bs i r k (x :: rest) =
    ((linesFrom P bs r k i).find? fun (l : Sy31.Line) => l.to == i + x.1 && l.over == x.2).bind fun (l : Sy31.Line) => (found P bs l.to (behind r k l).1 (behind r k l).2 rest).map fun (m : List Sy31.Line) => l :: m := rfl
theorem found_page (rest : List (Nat × Bool)) : ∀ (p : List Nat) (t i n : Nat), n = t + p.length → p ≠ [] → t < P.lines →
    found P bs i r t (told1 n t p ++ rest) = if pgOk P bs t i p = true then (found P bs (i + total p) (!r) 0 rest).map fun (m : List Sy31.Line) => pgLines P bs r t i p ++ m else none
  | [], _, _, _, _, h, _ => absurd rfl h
  | [x], t, i, n, hn, _, ht => by
    have e1 : told1 n t [x] ++ rest = (x, true) :: rest := by
      have : (t + 1 == n) = true := by simpa using hn.symm
      show (x, t + 1 == n) :: rest = _
      rw [this]
    rw [e1, found_cons, find_line ht, find_over]
    have ex : total [x] = x := by rw [total_cons, total_nil]; lia
    rw [ex]
    show (if okLine P bs i (i + x) = true then some (⟨i + x, true, lineCost P bs i (i + x) + pageCost P bs (t + 1) (i + x) r⟩ : Sy31.Line) else none).bind _ = if okLine P bs i (i + x) = true then _ else _
    by_cases h : okLine P bs i (i + x) = true
    · rw [if_pos h, if_pos h]; rfl
    · rw [if_neg h, if_neg h]; rfl
  | x :: y :: s, t, i, n, hn, _, ht => by
    have e1 : told1 n t (x :: y :: s) ++ rest = (x, false) :: (told1 n (t + 1) (y :: s) ++ rest) := by
      have : (t + 1 == n) = false := by
        rw [List.length_cons, List.length_cons] at hn
        simp; lia
      show (x, t + 1 == n) :: _ = _
      rw [this]; rfl
    rw [e1, found_cons, find_line ht, find_on]
    show (if okLine P bs i (i + x) = true then (if mayGo P bs (t + 1) (i + x) = true then some (⟨i + x, false, lineCost P bs i (i + x)⟩ : Sy31.Line) else none) else none).bind _ =
      if (okLine P bs i (i + x) && (mayGo P bs (t + 1) (i + x) && pgOk P bs (t + 1) (i + x) (y :: s))) = true then _ else _
    by_cases h : okLine P bs i (i + x) = true
    · rw [if_pos h, h, Bool.true_and]
      by_cases g : mayGo P bs (t + 1) (i + x) = true
      · have ht2 : t + 1 < P.lines := by
          have := (mayGo_iff.mp g).2.1
          lia
        rw [if_pos g, g, Bool.true_and]
        show (found P bs (i + x) r (t + 1) (told1 n (t + 1) (y :: s) ++ rest)).map (fun m => (⟨i + x, false, lineCost P bs i (i + x)⟩ : Sy31.Line) :: m) = _
        rw [found_page rest (y :: s) (t + 1) (i + x) n (by rw [List.length_cons] at hn; lia) (by simp) ht2]
        have ex : i + x + total (y :: s) = i + total (x :: y :: s) := by rw [total_cons x]; lia
        rw [ex]
        by_cases q : pgOk P bs (t + 1) (i + x) (y :: s) = true
        · rw [if_pos q, if_pos q, Option.map_map]; rfl
        · rw [if_neg q, if_neg q]; rfl
      · rw [if_neg g]
        have g' : mayGo P bs (t + 1) (i + x) = false := by simpa using g
        rw [g']; rfl
    · have h' : okLine P bs i (i + x) = false := by simpa using h
      rw [if_neg h, h']; rfl
theorem pgOk_eq : ∀ (s : List Nat) (x t i : Nat), t < P.lines → pgOk P bs t i (x :: s) = (okLine P bs i (i + x) && (pageOk P bs (t + 1) (i + x) s && decide (t + 1 + s.length ≤ P.lines)))
  | [], x, t, i, ht => by
    have : decide (t + 1 + ([] : List Nat).length ≤ P.lines) = true := decide_eq_true (by simp; lia)
    rw [this, Bool.and_true]
    show okLine P bs i (i + x) = (okLine P bs i (i + x) && true)
    rw [Bool.and_true]
  | y :: s, x, t, i, ht => by
    show (okLine P bs i (i + x) && (mayGo P bs (t + 1) (i + x) && pgOk P bs (t + 1) (i + x) (y :: s))) = (okLine P bs i (i + x) && (((t + 1 == 0 || mayGo P bs (t + 1) (i + x)) && (okLine P bs (i + x) (i + x + y) && pageOk P bs (t + 1 + 1) (i + x + y) s)) && decide (t + 1 + (y :: s).length ≤ P.lines)))
    have e0 : (t + 1 == 0) = false := rfl
    rw [e0, Bool.false_or]
    congr 1
    by_cases g : mayGo P bs (t + 1) (i + x) = true
    · have ht2 : t + 1 < P.lines := by
        have := (mayGo_iff.mp g).2.1
        lia
      rw [g, Bool.true_and, Bool.true_and, pgOk_eq s y (t + 1) (i + x) ht2, Bool.and_assoc]
      congr 3
      rw [List.length_cons]
      simp; lia
    · have g' : mayGo P bs (t + 1) (i + x) = false := by simpa using g
      rw [g']; rfl
theorem isPage_eq (hl : 1 ≤ P.lines) : ∀ (p : List Nat) (i : Nat), isPage P bs i p = pgOk P bs 0 i p
  | [], i => rfl
  | x :: s, i => by
    rw [pgOk_eq s x 0 i hl]
    unfold isPage
    show (!(false || decide (P.lines < (x :: s).length)) && ((0 == 0 || mayGo P bs 0 i) && (okLine P bs i (i + x) && pageOk P bs (0 + 1) (i + x) s))) = _
    rw [Bool.false_or]
    have e1 : (0 == 0 || mayGo P bs 0 i) = true := rfl
    have e2 : (!decide (P.lines < (x :: s).length)) = decide (0 + 1 + s.length ≤ P.lines) := by
      rw [List.length_cons, Bool.eq_iff_iff]
      simp; lia
    rw [e1, e2, Bool.true_and, Bool.and_comm, Bool.and_assoc]
theorem costOf_append (a b : List Sy31.Line) : costOf (a ++ b) = costOf a + costOf b := by
  unfold costOf
  rw [List.map_append, total_append]
theorem costOf_cons (a : Sy31.Line) (b : List Sy31.Line) : costOf (a :: b) = a.cost + costOf b := by
  unfold costOf
  rw [List.map_cons, total_cons]
theorem pgLines_cost : ∀ (p : List Nat) (t i : Nat), p ≠ [] → costOf (pgLines P bs r t i p) = linesCost P bs i p + pageCost P bs (t + p.length) (i + total p) r
  | [], _, _, h => absurd rfl h
  | [x], t, i, _ => by
    have ex : total [x] = x := by rw [total_cons, total_nil]; lia
    rw [ex]
    show costOf [(⟨i + x, true, lineCost P bs i (i + x) + pageCost P bs (t + 1) (i + x) r⟩ : Sy31.Line)] = lineCost P bs i (i + x) + 0 + pageCost P bs (t + 1) (i + x) r
    rw [costOf_cons]
    show _ + pageCost P bs (t + 1) (i + x) r + 0 = _
    lia
  | x :: y :: s, t, i, _ => by
    have ih := pgLines_cost (y :: s) (t + 1) (i + x) (by simp)
    show costOf ((⟨i + x, false, lineCost P bs i (i + x)⟩ : Sy31.Line) :: pgLines P bs r (t + 1) (i + x) (y :: s)) = lineCost P bs i (i + x) + linesCost P bs (i + x) (y :: s) + _
    rw [costOf_cons, ih]
    have e1 : t + 1 + (y :: s).length = t + (x :: y :: s).length := by simp only [List.length_cons]; lia
    have e2 : i + x + total (y :: s) = i + total (x :: y :: s) := by rw [total_cons x]; lia
    rw [e1, e2]
    show lineCost P bs i (i + x) + _ = _
    lia
def foundI (o : Option (List Sy31.Line)) (acc : Nat) : Int := match o with
  | none => -3
  | some l => ((acc + costOf l : Nat) : Int)
theorem checkI_found (hl : 1 ≤ P.lines) : ∀ (ps : List (List Nat)) (i : Nat) (r : Bool) (acc : Nat), (∀ p ∈ ps, p ≠ []) → checkI P bs i r ps acc = foundI (found P bs i r 0 (flat ps)) acc
  | [], i, r, acc, _ => by
    show (if i = bs.length then (acc : Int) else -3) = foundI (if i = bs.length then some [] else none) acc
    by_cases h : i = bs.length
    · rw [if_pos h, if_pos h]; rfl
    · rw [if_neg h, if_neg h]; rfl
  | p :: ps, i, r, acc, h => by
    have hp := h p (List.mem_cons_self ..)
    rw [flat_cons, found_page (flat ps) p 0 i p.length (by lia) hp hl]
    show (if isPage P bs i p = true then _ else _) = _
    rw [isPage_eq hl]
    by_cases q : pgOk P bs 0 i p = true
    · rw [if_pos q, if_pos q, checkI_found hl ps _ _ _ fun x hx => h x (List.mem_cons_of_mem _ hx)]
      have hc := pgLines_cost (P := P) (bs := bs) (r := r) p 0 i hp
      rw [Nat.zero_add] at hc
      cases found P bs (i + total p) (!r) 0 (flat ps) with
      | none => rfl
      | some m =>
        show (((acc + (linesCost P bs i p + pageCost P bs p.length (i + total p) r)) + costOf m : Nat) : Int) = ((acc + costOf (pgLines P bs r 0 i p ++ m) : Nat) : Int)
        rw [costOf_append, hc]
        lia
    · rw [if_neg q, if_neg q]; rfl
theorem checkI_empty : ∀ (ps : List (List Nat)) (i : Nat) (r : Bool) (acc : Nat), [] ∈ ps → checkI P bs i r ps acc = -3
  | p :: ps, i, r, acc, h => by
    show (if isPage P bs i p = true then _ else _) = _
    by_cases q : isPage P bs i p = true
    · rw [if_pos q]
      refine checkI_empty ps _ _ _ ?_
      rcases List.mem_cons.mp h with z | z
      · rw [← z] at q; cases q
      · exact z
    · rw [if_neg q]
theorem check_step (s : St) (ok : Ok s.paper s.bars) (ps : List (List Nat)) : step s (.check ps) = (s, Sy31.ok (checkI s.paper s.bars 0 s.paper.right ps 0)) := by
  show (s, _) = _
  congr 1
  by_cases h : (ps.any fun (p : List Nat) => p.isEmpty) = true
  · rw [if_pos h, checkI_empty]
    obtain ⟨p, hp, he⟩ := List.any_eq_true.mp h
    rw [List.isEmpty_iff.mp he] at hp
    exact hp
  · rw [if_neg h, checkI_found ok.pap.l1 ps _ _ _ fun p hp q => h (List.any_eq_true.mpr ⟨p, hp, by rw [q]; rfl⟩)]
    cases found s.paper s.bars 0 s.paper.right 0 (flat ps) with
    | none => rfl
    | some l =>
      show Sy31.ok (costOf l : Nat) = Sy31.ok ((0 + costOf l : Nat) : Int)
      rw [Nat.zero_add]
end Bp
end
section
set_option Elab.async false
namespace Bp
open Sy31
open Sy31Neutral (callOf many_ natIn some_ listIn rowIn barIn paperIn)
/-! ### the calls -/
def encC (r : List Int) : List Int := 0 :: (r.length : Int) :: r
def encAll (rs : List (List Int)) : List Int := rs.flatMap encC
def run : St → List (List Int) → List Int
  | _, [] => []
  | s, r :: rs => (((Sy31Neutral.step s r).2.length : Nat) : Int) :: (Sy31Neutral.step s r).2 ++ run (Sy31Neutral.step s r).1 rs
theorem calls_enc : ∀ (f : Nat) (l : List Int) (cs : List (List (List Int))), PyFlat.calls PySy31.shape f l = some cs → ∃ rs : List (List Int), l = encAll rs ∧ cs = rs.map fun r => [[0], r] := by
  intro f
  induction f with
  | zero =>
    intro l cs h
    cases l with
    | nil => exact ⟨[], rfl, (Option.some.inj h).symm⟩
    | cons p r => cases h
  | succ f ih =>
    intro l cs h
    cases l with
    | nil => exact ⟨[], rfl, (Option.some.inj h).symm⟩
    | cons p r =>
      have h' : (match PyFlat.call PySy31.shape (p :: r) with
        | none => none
        | some (c, t) => match PyFlat.calls PySy31.shape f t with
          | none => none
          | some cs => some (c :: cs)) = some cs := h
      cases e1 : PyFlat.call PySy31.shape (p :: r) with
      | none => rw [e1] at h'; cases h'
      | some ct =>
        obtain ⟨c, t⟩ := ct
        rw [e1] at h'
        cases e2 : PyFlat.calls PySy31.shape f t with
        | none =>
          have h2 : (match PyFlat.calls PySy31.shape f t with
            | none => none
            | some cs => some (c :: cs)) = some cs := h'
          rw [e2] at h2; cases h2
        | some cs' =>
          have h2 : (match PyFlat.calls PySy31.shape f t with
            | none => none
            | some cs => some (c :: cs)) = some cs := h'
          rw [e2] at h2
          have h3 : c :: cs' = cs := Option.some.inj h2
          obtain ⟨rs, ht, hc⟩ := ih t cs' e2
          have e1' : (match PySy31.shape p with
            | none => none
            | some (n, k) => if r.length < n then none else match PyFlat.rows k (r.drop n) with
              | none => none
              | some (xs, t) => some ((p :: r.take n) :: xs, t)) = some (c, t) := e1
          by_cases hp : p = 0
          · subst hp
            have e3 : (match PyFlat.rows 1 r with
              | none => none
              | some (xs, t) => some (([0] : List Int) :: xs, t)) = some (c, t) := e1'
            have e4 : PyFlat.rows 1 r = match PyFlat.row r with
              | none => none
              | some (x, s) => some ([x], s) := by
              show (match PyFlat.row r with
                | none => none
                | some (x, s) => match PyFlat.rows 0 s with
                  | none => none
                  | some (xs, t) => some (x :: xs, t)) = _
              cases PyFlat.row r with
              | none => rfl
              | some q => rfl
            cases r with
            | nil => rw [e4] at e3; cases e3
            | cons n r' =>
              have e5 : PyFlat.row (n :: r') = if 0 ≤ n ∧ n.toNat ≤ r'.length then some (r'.take n.toNat, r'.drop n.toNat) else none := rfl
              by_cases hn : 0 ≤ n ∧ n.toNat ≤ r'.length
              · rw [if_pos hn] at e5
                rw [e4, e5] at e3
                have e6 : (([[0], r'.take n.toNat] : List (List Int)), r'.drop n.toNat) = (c, t) := Option.some.inj e3
                obtain ⟨c1, t1⟩ := Prod.mk.inj e6
                refine ⟨r'.take n.toNat :: rs, ?_, ?_⟩
                · show 0 :: n :: r' = encC (r'.take n.toNat) ++ encAll rs
                  rw [← ht, ← t1]
                  show 0 :: n :: r' = 0 :: ((r'.take n.toNat).length : Int) :: (r'.take n.toNat ++ r'.drop n.toNat)
                  rw [List.take_append_drop, List.length_take]
                  congr 2
                  lia
                · rw [← h3, hc, ← c1]; rfl
              · rw [if_neg hn] at e5
                rw [e4, e5] at e3
                cases e3
          · have : PySy31.shape p = none := if_neg hp
            rw [this] at e1'
            cases e1'
theorem told_run : ∀ (rs : List (List Int)) (s : St), PyFlat.told (PyFlat.played (fun s c => Sy31Neutral.step s (c.headD [])) s (rs.map fun r => [r])) = run s rs
  | [], _ => rfl
  | r :: rs, s => by
    have ih := told_run rs (Sy31Neutral.step s r).1
    show ((((Sy31Neutral.step s r).2.length : Nat) : Int) :: (Sy31Neutral.step s r).2) ++ PyFlat.told (PyFlat.played (fun s c => Sy31Neutral.step s (c.headD [])) (Sy31Neutral.step s r).1 (rs.map fun r => [r])) = _
    rw [ih]; rfl
structure Asked (l : List Int) (rs : List (List Int)) : Prop where
  enc : l = encAll rs
  all : ∀ r ∈ rs, ∃ c, callOf r = some c
  few : rs.length ≤ 60
  many : Sy31Neutral.many start rs ≤ 1000000
  ans : PySy31.answers l = run start rs
theorem asked_of {l : List Int} (h : PySy31.answers_asked l = true) : ∃ rs, Asked l rs := by
  unfold PySy31.answers_asked at h
  cases e : PySy31.calls l with
  | none => rw [e] at h; cases h
  | some cs =>
    rw [e] at h
    have e' := e
    unfold PySy31.calls at e'
    cases q : PyFlat.calls PySy31.shape l.length l with
    | none => rw [q] at e'; cases e'
    | some cs0 =>
      rw [q] at e'
      obtain ⟨rs, h1, h2⟩ := calls_enc _ _ _ q
      have h3 : cs = rs.map fun r => [r] := by
        rw [← Option.some.inj e', h2, List.map_map]
        exact List.map_congr_left fun r _ => rfl
      subst h3
      have h4 : (PyFlat.atMost 60 (rs.map fun r => [r]) && Sy31Neutral.asked ((rs.map fun r => [r]).map fun (c : List (List Int)) => c.headD [])) = true := h
      have h5 : ((rs.map fun r => [r]).map fun (c : List (List Int)) => c.headD []) = rs := by
        rw [List.map_map]
        exact (List.map_congr_left fun r _ => rfl).trans (List.map_id' rs)
      rw [h5, Bool.and_eq_true] at h4
      have h6 := h4.2
      unfold Sy31Neutral.asked at h6
      simp only [Bool.and_eq_true, decide_eq_true_eq] at h6
      refine ⟨rs, h1, fun r hr => Option.isSome_iff_exists.mp (List.all_eq_true.mp h6.1 r hr), h6.2.2.1, h6.2.2.2, ?_⟩
      unfold PySy31.answers
      rw [e]
      exact told_run rs start
theorem run_length : ∀ (rs : List (List Int)) (s : St), (run s rs).length = rs.length + Sy31Neutral.many s rs
  | [], _ => rfl
  | r :: rs, s => by
    show ((((Sy31Neutral.step s r).2.length : Nat) : Int) :: (Sy31Neutral.step s r).2 ++ run (Sy31Neutral.step s r).1 rs).length = _
    rw [List.length_append, List.length_cons, run_length rs, List.length_cons]
    show _ = rs.length + 1 + ((Sy31Neutral.step s r).2.length + Sy31Neutral.many (Sy31Neutral.step s r).1 rs)
    lia
/-! ### one call's numbers -/
def nats (xs : List Nat) : List Int := xs.map fun (n : Nat) => (n : Int)
theorem natIn_of {l : List Int} {n : Nat} {t : List Int} (h : natIn l = some (n, t)) : l = (n : Int) :: t ∧ n < 2 ^ 32 := by
  cases l with
  | nil => cases h
  | cons x l =>
    have h' : (if 0 ≤ x ∧ x < 2 ^ 32 then some (x.toNat, l) else none) = some (n, t) := h
    by_cases q : 0 ≤ x ∧ x < 2 ^ 32
    · rw [if_pos q] at h'
      obtain ⟨a, b⟩ := Prod.mk.inj (Option.some.inj h')
      subst a b
      refine ⟨?_, by lia⟩
      rw [Int.toNat_of_nonneg q.1]
    · rw [if_neg q] at h'; cases h'
theorem many_cons {A : Type} {p : List Int → Option (A × List Int)} {k : Nat} {l : List Int} {xs : List A} {t : List Int} (h : many_ p (k + 1) l = some (xs, t)) :
    ∃ x u ys, p l = some (x, u) ∧ many_ p k u = some (ys, t) ∧ xs = x :: ys := by
  have h' : ((p l).bind fun (x : A × List Int) => (many_ p k x.2).map fun (y : List A × List Int) => (x.1 :: y.1, y.2)) = some (xs, t) := h
  obtain ⟨⟨x, u⟩, h1, h2⟩ := Option.bind_eq_some_iff.mp h'
  obtain ⟨⟨ys, v⟩, h3, h4⟩ := Option.map_eq_some_iff.mp h2
  obtain ⟨a, b⟩ := Prod.mk.inj h4
  subst a
  have b' : v = t := b
  subst b'
  exact ⟨x, u, ys, h1, h3, rfl⟩
theorem many_of {A : Type} {p : List Int → Option (A × List Int)} {g : A → List Int} {C : A → Prop} (hp : ∀ l x t, p l = some (x, t) → l = g x ++ t ∧ C x) : ∀ (k : Nat) (l : List Int) (xs : List A) (t : List Int), many_ p k l = some (xs, t) →
    l = xs.flatMap g ++ t ∧ xs.length = k ∧ ∀ x ∈ xs, C x
  | 0, l, xs, t, h => by
    obtain ⟨a, b⟩ := Prod.mk.inj (Option.some.inj (show some (([] : List A), l) = some (xs, t) from h))
    subst a b
    exact ⟨rfl, rfl, fun _ h => by cases h⟩
  | k + 1, l, xs, t, h => by
    obtain ⟨x, u, ys, h1, h2, rfl⟩ := many_cons h
    obtain ⟨e1, c1⟩ := hp _ _ _ h1
    obtain ⟨e2, l2, c2⟩ := many_of hp k u ys t h2
    refine ⟨by rw [e1, e2, List.flatMap_cons, List.append_assoc], by rw [List.length_cons, l2], fun y hy => ?_⟩
    rcases List.mem_cons.mp hy with z | z
    · rw [z]; exact c1
    · exact c2 y z
theorem nats_flat (xs : List Nat) : xs.flatMap (fun (n : Nat) => [(n : Int)]) = nats xs := by
  induction xs with
  | nil => rfl
  | cons x xs ih => rw [List.flatMap_cons, ih]; rfl
theorem some_of {k : Nat} {l : List Int} {xs : List Nat} {t : List Int} (h : some_ k l = some (xs, t)) : l = nats xs ++ t ∧ xs.length = k ∧ ∀ n ∈ xs, n < 2 ^ 32 := by
  have q := many_of (p := natIn) (g := fun (n : Nat) => [(n : Int)]) (C := fun n => n < 2 ^ 32) (fun l x t h => natIn_of h) k l xs t h
  rw [nats_flat] at q
  exact q
theorem listIn_of {A : Type} {p : List Int → Option (A × List Int)} {g : A → List Int} {C : A → Prop} (hp : ∀ l x t, p l = some (x, t) → l = g x ++ t ∧ C x) {l : List Int} {xs : List A} {t : List Int} (h : listIn p l = some (xs, t)) :
    l = (xs.length : Int) :: (xs.flatMap g ++ t) ∧ xs.length ≤ 60 ∧ ∀ x ∈ xs, C x := by
  cases l with
  | nil => cases h
  | cons n l =>
    have h' : (if 0 ≤ n ∧ n ≤ 60 then many_ p n.toNat l else none) = some (xs, t) := h
    by_cases q : 0 ≤ n ∧ n ≤ 60
    · rw [if_pos q] at h'
      obtain ⟨a, b, c⟩ := many_of hp _ _ _ _ h'
      refine ⟨?_, by lia, c⟩
      rw [← a, b, Int.toNat_of_nonneg q.1]
    · rw [if_neg q] at h'; cases h'
def barNums (b : Bar) : List Nat := [b.least, b.wish, b.head, b.turn, b.ends]
theorem five {xs : List Nat} (h : xs.length = 5) : xs = [xs.getD 0 0, xs.getD 1 0, xs.getD 2 0, xs.getD 3 0, xs.getD 4 0] := by
  match xs, h with
  | [a, b, c, d, e], _ => rfl
theorem barIn_of {l : List Int} {b : Bar} {t : List Int} (h : barIn l = some (b, t)) : l = nats (barNums b) ++ t ∧ ∀ n ∈ barNums b, n < 2 ^ 32 := by
  unfold barIn at h
  obtain ⟨⟨xs, u⟩, h1, h2⟩ := Option.map_eq_some_iff.mp h
  obtain ⟨a, b'⟩ := Prod.mk.inj h2
  have b'' : u = t := b'
  subst b''
  obtain ⟨e1, e2, e3⟩ := some_of h1
  have e4 : barNums b = xs := by rw [← a]; exact (five e2).symm
  rw [e4]
  exact ⟨e1, e3⟩
def rowNums (p : List Nat) : List Int := (p.length : Int) :: nats p
theorem rowIn_of {l : List Int} {p : List Nat} {t : List Int} (h : rowIn l = some (p, t)) : l = rowNums p ++ t ∧ (p.length ≤ 60 ∧ ∀ n ∈ p, n < 2 ^ 32) := by
  have q := listIn_of (p := natIn) (g := fun (n : Nat) => [(n : Int)]) (C := fun n => n < 2 ^ 32) (fun l x t h => natIn_of h) h
  rw [nats_flat] at q
  exact ⟨q.1, q.2.1, q.2.2⟩
def paperOf (xs : List Nat) : Paper := ⟨xs.getD 0 0, xs.getD 1 0, xs.getD 2 0 == 1, xs.getD 3 0, xs.getD 4 0, xs.getD 5 0, xs.getD 6 0, xs.getD 7 0⟩
theorem all_of {A : Type} {o : Option (A × List Int)} {x : A} (h : Sy31Neutral.all_ o = some x) : o = some (x, []) := by
  unfold Sy31Neutral.all_ at h
  obtain ⟨⟨y, t⟩, h1, h2⟩ := Option.bind_eq_some_iff.mp h
  by_cases q : t.isEmpty = true
  · rw [if_pos q] at h2
    rw [h1, ← Option.some.inj h2, List.isEmpty_iff.mp q]
  · rw [if_neg q] at h2; cases h2
/-- which calls there are -/
inductive Told : List Int → Call → Prop
  | begins : Told [0] .begins
  | paper (xs : List Nat) (h : xs.length = 8) (h2 : xs.getD 2 0 ≤ 1) : Told (1 :: nats xs) (.paper (paperOf xs))
  | bars (l : List Bar) (h : l.length ≤ 60) : Told (2 :: (l.length : Int) :: nats (l.flatMap barNums)) (.bars l)
  | line (i j : Nat) : Told [3, (i : Int), (j : Int)] (.line i j)
  | spread (i j : Nat) : Told [4, (i : Int), (j : Int)] (.spread i j)
  | ways : Told [5] .ways
  | best : Told [6] .best
  | check (ps : List (List Nat)) (h : ps.length ≤ 60) (h2 : ∀ p ∈ ps, p.length ≤ 60) : Told (7 :: (ps.length : Int) :: ps.flatMap rowNums) (.check ps)
theorem two {xs : List Nat} (h : xs.length = 2) : xs = [xs.getD 0 0, xs.getD 1 0] := by
  match xs, h with
  | [a, b], _ => rfl
theorem told_of {r : List Int} {c : Call} (h : callOf r = some c) : Told r c := by
  unfold callOf at h
  split at h
  · rw [← Option.some.inj h]; exact .begins
  · rename_i l
    obtain ⟨P, h1, rfl⟩ := Option.map_eq_some_iff.mp h
    have h2 := all_of h1
    unfold paperIn at h2
    obtain ⟨⟨xs, t⟩, h3, h4⟩ := Option.bind_eq_some_iff.mp h2
    by_cases q : xs.getD 2 0 ≤ 1
    · have h5 := Option.some.inj ((if_pos q).symm.trans h4)
      obtain ⟨a, b⟩ := Prod.mk.inj h5
      have b' : t = [] := b
      subst b'
      obtain ⟨e1, e2, _⟩ := some_of h3
      rw [List.append_nil] at e1
      rw [e1, ← a]
      exact .paper xs e2 q
    · have h5 := (if_neg q).symm.trans h4
      cases h5
  · obtain ⟨bs, h1, rfl⟩ := Option.map_eq_some_iff.mp h
    have h2 := all_of h1
    obtain ⟨e1, e2, _⟩ := listIn_of (p := barIn) (g := fun b => nats (barNums b)) (C := fun b => ∀ n ∈ barNums b, n < 2 ^ 32) (fun l x t h => barIn_of h) h2
    rw [List.append_nil] at e1
    have e3 : bs.flatMap (fun b => nats (barNums b)) = nats (bs.flatMap barNums) := by
      unfold nats
      rw [List.map_flatMap]
    rw [e1, e3]
    exact .bars bs e2
  · obtain ⟨xs, h1, rfl⟩ := Option.map_eq_some_iff.mp h
    obtain ⟨e1, e2, _⟩ := some_of (all_of h1)
    rw [List.append_nil, two e2] at e1
    rw [e1]
    exact .line _ _
  · obtain ⟨xs, h1, rfl⟩ := Option.map_eq_some_iff.mp h
    obtain ⟨e1, e2, _⟩ := some_of (all_of h1)
    rw [List.append_nil, two e2] at e1
    rw [e1]
    exact .spread _ _
  · rw [← Option.some.inj h]; exact .ways
  · rw [← Option.some.inj h]; exact .best
  · obtain ⟨ps, h1, rfl⟩ := Option.map_eq_some_iff.mp h
    have h2 := all_of h1
    obtain ⟨e1, e2, e3⟩ := listIn_of (p := rowIn) (g := rowNums) (C := fun p => p.length ≤ 60 ∧ ∀ n ∈ p, n < 2 ^ 32) (fun l x t h => rowIn_of h) h2
    rw [List.append_nil] at e1
    rw [e1]
    exact .check ps e2 fun p hp => (e3 p hp).1
  · cases h
end Bp
end
section
set_option Elab.async false
namespace Bp
open Sy31
theorem putLeft_perm (x : Nat × Nat) : ∀ m : List (Nat × Nat), (putLeft x m).Perm (x :: m)
  | [] => .refl _
  | y :: l => by
    unfold putLeft
    split
    · exact .refl _
    · exact ((putLeft_perm x l).cons y).trans (.swap x y l)
theorem putAll_perm : ∀ (l m : List (Nat × Nat)), (l.foldl (fun (m : List (Nat × Nat)) (x : Nat × Nat) => putLeft x m) m).Perm (l ++ m)
  | [], m => .refl _
  | x :: l, m => by
    rw [List.foldl_cons]
    refine (putAll_perm l (putLeft x m)).trans ?_
    refine ((List.Perm.refl l).append (putLeft_perm x m)).trans ?_
    exact List.perm_middle
theorem byLeft_perm (rs : List Nat) : (byLeft rs).Perm (List.range rs.length) := by
  unfold byLeft
  have h := (putAll_perm rs.zipIdx []).map fun (x : Nat × Nat) => x.2
  rw [List.append_nil, zipIdx_places, ← List.range_eq_range'] at h
  exact h
theorem byLeft_lt {rs : List Nat} {n : Nat} (h : n ∈ byLeft rs) : n < rs.length := List.mem_range.mp ((byLeft_perm rs).mem_iff.mp h)
theorem byLeft_nodup (rs : List Nat) : (byLeft rs).Nodup := (byLeft_perm rs).nodup_iff.mpr List.nodup_range
theorem nodup_take_not {l : List Nat} (h : l.Nodup) {t n : Nat} (hn : l[t]? = some n) : n ∉ l.take t := fun q => by
  obtain ⟨j, hj⟩ := List.mem_iff_getElem?.mp q
  rw [List.getElem?_take] at hj
  by_cases e : j < t
  · rw [if_pos e] at hj
    obtain ⟨h1, e1⟩ := List.getElem?_eq_some_iff.mp hn
    obtain ⟨h2, e2⟩ := List.getElem?_eq_some_iff.mp hj
    have := (List.getElem_inj h).mp (e1.trans e2.symm)
    lia
  · rw [if_neg e] at hj; cases hj
theorem sub_cast {a b : Nat} (h : b ≤ a) : (a : Int) - (b : Int) = ((a - b : Nat) : Int) := by lia
end Bp
end
section
set_option Elab.async false
set_option linter.all false
set_option maxRecDepth 100000
set_option maxHeartbeats 2000000
namespace Bp
open PySem PySem.Spec PyProof.Rows L2
/-! ### the text by places -/
def top (i : Nat) : Stmt := PySem.Challenge.pw_barsandpages_s01_answers.main.body.getD i (.Pass ⟨0, 0, 0, 0⟩)
/-- a def of the text, as it stands behind the top -/
structure D (K : PySem.W.Frag) (mg : Str → Option Value) (x : Str) (st : Stmt) (ps : List Str) where
  f : Addr
  fd : FuncData
  mg : mg x = some (.ref f)
  F : Fun K x x st f fd
  b : Binds K fd ps []
/-- a class of the text with its __init__ -/
structure C (K : PySem.W.Frag) (mg : Str → Option Value) (x q : Str) (st : Stmt) (ps : List Str) where
  c : Addr
  f : Addr
  fd : FuncData
  mg : mg x = some (.ref c)
  cl : Cls K c
  F : Fun K "__init__" q st f fd
  b : Binds K fd ps []
  mkk : Mk K c f
def IntAt (mg : Str → Option Value) (x : Str) (n : Int) : Prop := ∃ t, mg x = some (.int n t)
theorem pe_gint {X : Cx} {x : Str} {n : Int} {pos : Pos} (h : IntAt X.mg x n) (hg : Gl X x := by rfl) (hd : (x == ("__debug__" : Str)) = false := by decide) : PE X (.Name x pos) (tC (.int n)) := by
  obtain ⟨t, e⟩ := h
  exact pe_glob hg e ⟨t, rfl⟩ hd
/-- a call of a def of the text -/
theorem pcall {X : Cx} {x : Str} {st : Stmt} {ps : List Str} {k : Nat} {sp : Sp} {p pos : Pos} {e : Expr} {es : List Expr} {t : TA} (d : D X.K X.mg x st ps) (F : FnOk X.prog X.w X.K X.mg X.base CX0 k d.f d.fd ps sp) (hr : Room k X.A) (ha : PA X (e :: es) t) (hg : Gl X x := by rfl)
    (hdb : (x == ("__debug__" : Str)) = false := by decide) (he : starEach (e :: es) X.env = (false, eval e X.env) :: starEach es X.env := by rfl) (hpl : (backTo pos (starEach es X.env)).any (·.1) = false := by rfl) :
    PE X (.Call (.Name x p) (e :: es) [] pos) (tCall sp [] E0 t) := pe_call F hr hg d.mg d.F.kp d.b .nil pass0 ha hdb he hpl
theorem pcall0 {X : Cx} {x : Str} {st : Stmt} {k : Nat} {sp : Sp} {p pos : Pos} (d : D X.K X.mg x st []) (F : FnOk X.prog X.w X.K X.mg X.base CX0 k d.f d.fd [] sp) (hr : Room k X.A) (hg : Gl X x := by rfl)
    (hdb : (x == ("__debug__" : Str)) = false := by decide) : PE X (.Call (.Name x p) [] [] pos) (tCall sp [] E0 tNil) := pe_call0 F hr hg d.mg d.F.kp d.b .nil pass0 hdb
theorem pmake {X : Cx} {x q : Str} {st : Stmt} {ps : List Str} {k : Nat} {sp : Sp} {p pos : Pos} {e : Expr} {es : List Expr} {t : TA} (d : C X.K X.mg x q st ps) (F : FnOk X.prog X.w X.K X.mg X.base CX0 k d.f d.fd ps sp) (hr : Room (k + 1) X.A) (ha : PA X (e :: es) t) (hg : Gl X x := by rfl)
    (hdb : (x == ("__debug__" : Str)) = false := by decide) (he : starEach (e :: es) X.env = (false, eval e X.env) :: starEach es X.env := by rfl) (hpl : (backTo pos (starEach es X.env)).any (·.1) = false := by rfl) :
    PE X (.Call (.Name x p) (e :: es) [] pos) (tMake d.c sp [] E0 t) := pe_make d.mkk F hr hg d.mg d.b .nil pass0 ha hdb he hpl
theorem pmake0 {X : Cx} {x q : Str} {st : Stmt} {ps : List Str} {k : Nat} {sp : Sp} {p pos : Pos} (d : C X.K X.mg x q st ps) (F : FnOk X.prog X.w X.K X.mg X.base CX0 k d.f d.fd ps sp) (hr : Room (k + 1) X.A) (hg : Gl X x := by rfl)
    (hdb : (x == ("__debug__" : Str)) = false := by decide) : PE X (.Call (.Name x p) [] [] pos) (tMake d.c sp [] E0 tNil) := pe_make0 d.mkk F hr hg d.mg d.b .nil pass0 hdb
/-! ### names -/
set_option genInjectivity false in
set_option genSizeOf false in
structure Txt (K : PySem.W.Frag) (mg : Str → Option Value) where
  Bar : C K mg "Bar" "Bar.__init__" (inClass (top 11) 0) ["self", "numbers"]
  Paper : C K mg "Paper" "Paper.__init__" (inClass (top 12) 0) ["self", "numbers"]
  Score : C K mg "Score" "Score.__init__" (inClass (top 13) 0) ["self"]
  Rest : C K mg "Rest" "Rest.__init__" (inClass (top 36) 0) ["self"]
  nBar : ∀ x ∈ (["least", "wished", "head", "turn", "ends"] : List Str), NoAttr K Bar.c x
  nPaper : ∀ x ∈ (["width", "lines", "right_first", "stretching", "squeezing", "line_price", "page_price", "empty_price"] : List Str), NoAttr K Paper.c x
  nScore : ∀ x ∈ (["paper", "bars"] : List Str), NoAttr K Score.c x
  nRest : ∀ x ∈ (["ways", "cheapest", "cost", "length", "page_ends"] : List Str), NoAttr K Rest.c x
  is_within : D K mg "is_within" (top 14) ["number", "low", "high"]
  is_paper : D K mg "is_paper" (top 15) ["numbers"]
  is_bar : D K mg "is_bar" (top 16) ["numbers"]
  are_bars : D K mg "are_bars" (top 17) ["rows"]
  are_there : D K mg "are_there" (top 22) ["score", "first", "after"]
  is_last_line : D K mg "is_last_line" (top 23) ["score", "after"]
  least_width : D K mg "least_width" (top 24) ["score", "first", "after"]
  wished_width : D K mg "wished_width" (top 25) ["score", "first", "after"]
  room_of : D K mg "room_of" (top 26) ["score", "first"]
  goes : D K mg "goes" (top 27) ["score", "first", "after"]
  ends_well : D K mg "ends_well" (top 28) ["score", "first", "after"]
  refusal_of_line : D K mg "refusal_of_line" (top 29) ["score", "first", "after"]
  cost_of_line : D K mg "cost_of_line" (top 30) ["score", "first", "after"]
  shares_of : D K mg "shares_of" (top 31) ["amount", "weights"]
  widths_of_line : D K mg "widths_of_line" (top 32) ["score", "first", "after"]
  nothing_left : D K mg "nothing_left" (top 37) []
  cost_of_page : D K mg "cost_of_page" (top 38) ["score", "lines", "after", "right"]
  page_may_go_on : D K mg "page_may_go_on" (top 39) ["score", "lines", "after"]
  lines_from : D K mg "lines_from" (top 40) ["score", "first"]
  add_step : D K mg "add_step" (top 41) ["rest", "length", "page_ends", "cost", "behind"]
  rest_from : D K mg "rest_from" (top 42) ["score", "rests", "place", "next_lines"]
  all_rests : D K mg "all_rests" (top 43) ["score"]
  rest_at_beginning : D K mg "rest_at_beginning" (top 44) ["score", "rests"]
  count_ways : D K mg "count_ways" (top 45) ["score"]
  pages_along : D K mg "pages_along" (top 46) ["score", "rests"]
  best_way : D K mg "best_way" (top 47) ["score"]
  is_page : D K mg "is_page" (top 48) ["score", "first", "page"]
  cost_of_lines : D K mg "cost_of_lines" (top 49) ["score", "first", "page"]
  cost_of_pages : D K mg "cost_of_pages" (top 50) ["score", "pages"]
  answer_begins : D K mg "answer_begins" (top 52) ["score", "told"]
  answer_paper : D K mg "answer_paper" (top 53) ["score", "told"]
  read_bars : D K mg "read_bars" (top 54) ["told"]
  answer_bars : D K mg "answer_bars" (top 55) ["score", "told"]
  answer_line : D K mg "answer_line" (top 56) ["score", "told"]
  answer_spread : D K mg "answer_spread" (top 57) ["score", "told"]
  answer_ways : D K mg "answer_ways" (top 58) ["score", "told"]
  answer_best : D K mg "answer_best" (top 59) ["score", "told"]
  read_pages : D K mg "read_pages" (top 60) ["told"]
  answer_check : D K mg "answer_check" (top 61) ["score", "told"]
  answers : D K mg "answers" (top 63) ["calls"]
  MOST_BARS : IntAt mg "MOST_BARS" 24
  MOST_LINES : IntAt mg "MOST_LINES" 6
  MOST : IntAt mg "MOST" 1000
  FREE_END : IntAt mg "FREE_END" 0
  NO_LINE_END : IntAt mg "NO_LINE_END" 1
  LINE_END : IntAt mg "LINE_END" 2
  PAGE_END : IntAt mg "PAGE_END" 3
  NUMBERS_OF_A_BAR : IntAt mg "NUMBERS_OF_A_BAR" 5
  OUT_OF_RANGE : IntAt mg "OUT_OF_RANGE" (-1)
  NO_SUCH_BARS : IntAt mg "NO_SUCH_BARS" (-2)
  DOES_NOT_GO : IntAt mg "DOES_NOT_GO" (-7)
  MAY_NOT_BE : IntAt mg "MAY_NOT_BE" (-8)
  NO_PAGES_OF_A_WAY : IntAt mg "NO_PAGES_OF_A_WAY" (-3)
  NO_WAY : IntAt mg "NO_WAY" (-6)
  tup0 : Addr
  PAPER_AT_BEGINNING : mg "PAPER_AT_BEGINNING" = some (.ref tup0)
  tup0_at : ∀ H : Hp, SqT K H tup0 [.int 100, .int 4, .int 1, .int 100, .int 200, .int 10, .int 50, .int 5]
  tup1 : Addr
  ANSWER_OF_CALL : mg "ANSWER_OF_CALL" = some (.ref tup1)
  tup1_at : ∀ H : Hp, SqT K H tup1 [.ref answer_begins.f, .ref answer_paper.f, .ref answer_bars.f, .ref answer_line.f, .ref answer_spread.f, .ref answer_ways.f, .ref answer_best.f, .ref answer_check.f]
  len : mg "len" = none
  range : mg "range" = none
  sum : mg "sum" = none
  all : mg "all" = none
  sorted : mg "sorted" = none
  zip : mg "zip" = none
  enumerate : mg "enumerate" = none
/-! ### the objects -/
def pap (T : Nat) : Unit := ()
def barF (b : Sy31.Bar) : List (Str × V) := [("least", .int b.least), ("wished", .int b.wish), ("head", .int b.head), ("turn", .int b.turn), ("ends", .int b.ends)]
def bit (b : Bool) : Int := if b = true then 1 else 0
def papF (P : Sy31.Paper) : List (Str × V) := [("width", .int P.width), ("lines", .int P.lines), ("right_first", .int (bit P.right)), ("stretching", .int P.stretch), ("squeezing", .int P.squeeze), ("line_price", .int P.line), ("page_price", .int P.page), ("empty_price", .int P.empty_)]
def scoF (pp lb : Addr) : List (Str × V) := [("paper", .ref pp), ("bars", .ref lb)]
def resF (r : PyR) : List (Str × V) := [("ways", .int r.ways), ("cheapest", .int r.cheap), ("cost", .int r.cost), ("length", .int r.len), ("page_ends", .bl r.ends)]
variable {K : PySem.W.Frag} {mg : Str → Option Value}
/-- bars as objects -/
def BarsAt (c : Addr) (H : Hp) (as : List Addr) (bs : List Sy31.Bar) : Prop := as.length = bs.length ∧ ∀ (j : Nat) (a : Addr), as[j]? = some a → ∃ b dx, bs[j]? = some b ∧ H a = some (.ins c dx (barF b))
/-- the score at sc: its paper, its bars -/
structure ScoreAt (T : Txt K mg) (H : Hp) (sc : Addr) (P : Sy31.Paper) (bs : List Sy31.Bar) where
  ds : Addr
  pp : Addr
  dp : Addr
  lb : Addr
  as : List Addr
  sco : H sc = some (.ins T.Score.c ds (scoF pp lb))
  pap : H pp = some (.ins T.Paper.c dp (papF P))
  lst : H lb = some (.lst (as.map V.ref))
  bars : BarsAt T.Bar.c H as bs
def ResAt (T : Txt K mg) (H : Hp) (a : Addr) (r : PyR) : Prop := ∃ dx, H a = some (.ins T.Rest.c dx (resF r))
theorem BarsAt.same {c : Addr} {H H' : Hp} {as : List Addr} {bs : List Sy31.Bar} (s : Same H H') (b : BarsAt c H as bs) : BarsAt c H' as bs :=
  ⟨b.1, fun j a h => let ⟨x, dx, h1, h2⟩ := b.2 j a h; ⟨x, dx, h1, s _ _ h2⟩⟩
def ScoreAt.same {T : Txt K mg} {H H' : Hp} {sc : Addr} {P : Sy31.Paper} {bs : List Sy31.Bar} (s : Same H H') (S : ScoreAt T H sc P bs) : ScoreAt T H' sc P bs :=
  ⟨S.ds, S.pp, S.dp, S.lb, S.as, s _ _ S.sco, s _ _ S.pap, s _ _ S.lst, S.bars.same s⟩
theorem Same.new {H : Hp} {p : Addr} {o : HO} (h : H p = none) : Same H (upd H p o) := fun b u e => by rw [upd_ne (ne_of_none e h)]; exact e
end Bp
end
section
set_option Elab.async false
set_option linter.all false
set_option maxRecDepth 100000
set_option maxHeartbeats 2000000
namespace Bp
open PySem PySem.Spec PyProof.Rows L2
/-! ### lists in the heap -/
def intsV (xs : List Nat) : List V := xs.map fun (n : Nat) => V.int (n : Int)
theorem intsV_eq (xs : List Nat) : intsV xs = (nats xs).map V.int := by unfold intsV nats; rw [List.map_map]; rfl
theorem intsV_length (xs : List Nat) : (intsV xs).length = xs.length := by unfold intsV; rw [List.length_map]
theorem intsV_get {xs : List Nat} {i : Nat} {n : Nat} (h : xs[i]? = some n) : (intsV xs)[i]? = some (.int (n : Int)) := by unfold intsV; rw [List.getElem?_map, h]; rfl
theorem SqL.keep {K : PySem.W.Frag} {H H' : Hp} {a : Addr} {xs : List V} (h : SqL K H a xs) (k : ∀ o, H a = some o → H' a = some o) : SqL K H' a xs := by
  rcases h with (h | ⟨o, h⟩) | h
  · exact .inl (.inl (k _ h))
  · exact .inl (.inr ⟨o, k _ h⟩)
  · exact .inr h
theorem SqT.keep {K : PySem.W.Frag} {H H' : Hp} {a : Addr} {xs : List V} (h : SqT K H a xs) (k : ∀ o, H a = some o → H' a = some o) : SqT K H' a xs := by
  rcases h with (h | ⟨o, h⟩) | h
  · exact .inl (.inl (k _ h))
  · exact .inl (.inr ⟨o, k _ h⟩)
  · exact .inr h
theorem SqL.ne_ins {K : PySem.W.Frag} {H : Hp} {a p c d : Addr} {xs : List V} {fs : List (Str × V)} {o : HO} (h : SqL K H a xs) (hp : H p = some (.ins c d fs)) : SqL K (upd H p o) a xs := by
  rcases h with (h | ⟨u, h⟩) | h
  · exact .inl (.inl (by rw [upd_ne (ne_of h hp (by intro z; cases z))]; exact h))
  · exact .inl (.inr ⟨u, by rw [upd_ne (ne_of h hp (by intro z; cases z))]; exact h⟩)
  · exact .inr h
theorem SqT.ne_ins {K : PySem.W.Frag} {H : Hp} {a p c d : Addr} {xs : List V} {fs : List (Str × V)} {o : HO} (h : SqT K H a xs) (hp : H p = some (.ins c d fs)) : SqT K (upd H p o) a xs := by
  rcases h with (h | ⟨u, h⟩) | h
  · exact .inl (.inl (by rw [upd_ne (ne_of h hp (by intro z; cases z))]; exact h))
  · exact .inl (.inr ⟨u, by rw [upd_ne (ne_of h hp (by intro z; cases z))]; exact h⟩)
  · exact .inr h
/-- a list or a tuple that is read -/
def Sq (K : PySem.W.Frag) (H : Hp) (a : Addr) (xs : List V) : Prop := SqL K H a xs ∨ SqT K H a xs
theorem Sq.ne_ins {K : PySem.W.Frag} {H : Hp} {a p c d : Addr} {xs : List V} {fs : List (Str × V)} {o : HO} (h : Sq K H a xs) (hp : H p = some (.ins c d fs)) : Sq K (upd H p o) a xs := h.imp (fun h => SqL.ne_ins h hp) fun h => SqT.ne_ins h hp
theorem Sq.ix {K : PySem.W.Frag} {H : Hp} {a : Addr} {xs : List V} {i : Int} {j : Nat} {v : V} {Q : VK} (h : Sq K H a xs) (e : i = (j : Int)) (hv : xs[j]? = some v) (q : Q v H) : rIx K (.ref a) (.int i) H Q :=
  h.elim (fun h => .inl ⟨a, xs, i, v, rfl, rfl, h, at_of e hv, q⟩) fun h => .inr (.inl ⟨a, xs, i, v, rfl, rfl, h, at_of e hv, q⟩)
theorem cutV_nat {xs : List V} {i j : Nat} (hi : i ≤ xs.length) (hj : j ≤ xs.length) : cutV xs (some (i : Int)) (some (j : Int)) = (xs.drop i).take (j - i) := by
  unfold cutV
  have e : ∀ (n d k : Nat), k ≤ n → HT.sIx n d (some (k : Int)) = k := fun n d k h => by
    show (if (k : Int) < 0 then ((k : Int) + (n : Int)).toNat else min ((k : Int)).toNat n) = k
    rw [if_neg (by lia)]
    lia
  rw [e _ _ _ hi, e _ _ _ hj]
theorem cutV_from {xs : List V} {i : Nat} (hi : i ≤ xs.length) : cutV xs (some (i : Int)) none = xs.drop i := by
  unfold cutV
  have e : HT.sIx xs.length 0 (some (i : Int)) = i := by
    show (if (i : Int) < 0 then ((i : Int) + (xs.length : Int)).toNat else min ((i : Int)).toNat xs.length) = i
    rw [if_neg (by lia)]
    lia
  rw [e]
  show (xs.drop i).take (xs.length - i) = xs.drop i
  rw [← List.length_drop]
  exact List.take_length
theorem cutV_to {xs : List V} {j : Nat} : cutV xs none (some (j : Int)) = xs.take j := by
  unfold cutV
  have e : HT.sIx xs.length xs.length (some (j : Int)) = min j xs.length := by
    show (if (j : Int) < 0 then ((j : Int) + (xs.length : Int)).toNat else min ((j : Int)).toNat xs.length) = min j xs.length
    rw [if_neg (by lia)]
    lia
  rw [e]
  show (xs.drop 0).take (min j xs.length - 0) = xs.take j
  rw [List.drop_zero, Nat.sub_zero]
  by_cases h : j ≤ xs.length
  · rw [Nat.min_eq_left h]
  · rw [Nat.min_eq_right (by lia), List.take_length, List.take_of_length_le (by lia)]
theorem small_le {n m : Nat} (h : n ≤ m) (hm : m ≤ 16777216) : n ≤ sizeLine := by rw [sizeLine_eq]; lia
theorem small_lt {n m : Nat} (h : n ≤ m) (hm : m < 16777216) : n < sizeLine := by rw [sizeLine_eq]; lia
/-! ### a comprehension that maps -/
theorem wipe1 (σ : L2.St) (v : Nat) (x : Option V) : wipe ((wipe σ [v]).set v x) [v] = wipe σ [v] := by
  show ((σ.set v none).set v x).set v none = σ.set v none
  rw [List.set_set, List.set_set]
theorem lc_map {K : PySem.W.Frag} {a D : Addr} {xs ys : List V} {v : Nat} {te : TE} {σ : L2.St} {H : Hp} {Qd : Hp → Prop} (hl : SqL K H a xs) (hD : H D = none) (hy : ys.length = xs.length) (hz : xs.length < sizeLine)
    (he : ∀ (i : Nat) (x y : V) (H' : Hp) (Q' : VK), xs[i]? = some x → ys[i]? = some y → Same H H' → (∀ H'', Same H' H'' → Q' y H'') → te ((wipe σ [v]).set v (some x)) H' Q')
    (hQ : ∀ H', Same H H' → H' D = some (.lst ys) → Qd H') :
    ∃ W : Nat → Nat → Hp → Prop, (∃ m, W 0 m (upd H D (.lst []))) ∧ ∀ i m H, W i m H →
      ((Itl K a).stop i H ∧ Qd H) ∨ ((Itl K a).go i H ∧ ∃ Nx : Hp → Prop, (∀ H', Nx H' → ∃ m', m' < m ∧ W (i + 1) m' H') ∧ ∀ x H', (Itl K a).yld i H x H' → gName v x (wipe σ [v]) H' fun σ2 H2 => wipe σ2 [v] = wipe σ [v] ∧ tYes σ2 H2 fun b H3 =>
        if b = true then te σ2 H3 fun y H4 => ∃ acc, H4 D = some (.lst acc) ∧ acc.length < sizeLine ∧ Nx (upd H4 D (.lst (acc ++ [y]))) else Nx H3) := by
  refine lc_list (xs := xs) (Qd := Qd) (fun i H' => Same H H' ∧ H' D = some (.lst (ys.take i))) ⟨Same.new hD, upd_same⟩ (fun i H' _ p => p.1.seq hl) (fun i x H' hx p => ?_) fun H' p => hQ H' p.1 ?_
  · obtain ⟨s, d⟩ := p
    have hi : i < xs.length := (List.getElem?_eq_some_iff.mp hx).1
    obtain ⟨y, hyi⟩ : ∃ y, ys[i]? = some y := ⟨_, List.getElem?_eq_getElem (by lia)⟩
    refine ⟨wipe1 σ v _, ?_⟩
    dsimp only [tYes]
    rw [if_pos rfl]
    refine (he i x y H' _ hx hyi s fun H'' s2 => ?_)
    refine ⟨ys.take i, s2 _ _ d, ?_, ?_, ?_⟩
    · rw [List.length_take]; lia
    · intro b o e
      rw [upd_ne (ne_of_none e hD)]
      exact s2 _ _ (s b o e)
    · rw [upd_same, List.take_add_one, hyi]; rfl
  · have := p.2
    rw [← hy, List.take_length] at this
    exact this
end Bp
end
section
set_option Elab.async false
set_option linter.all false
set_option maxRecDepth 100000
set_option maxHeartbeats 2000000
namespace Bp
open PySem PySem.Spec PyProof.Rows L2
section
variable {P : Program} {w : World} {K : PySem.W.Frag} {mg : Str → Option Value} {base : Heap}
/-! ### is_within -/
def spWithin : Sp := fun vs H Q _ => ∃ n lo hi : Int, vs = [.int n, .int lo, .int hi] ∧ Q (.bl (decide (lo ≤ n) && decide (n ≤ hi))) H
theorem sc14 : FnScope ["number", "low", "high"] ["number", "low", "high"] (defScope (top 14)) := ⟨rfl, rfl, rfl, by decide +kernel, rfl, by decide +kernel, by decide +kernel⟩
theorem ok_within (T : Txt K mg) : FnOk P w K mg base CX0 1 T.is_within.f T.is_within.fd ["number", "low", "high"] spWithin := by
  refine T.is_within.F.ok sc14 (fun vs H Q E h => ?_) (fun cdv A outer s H vs Q E hr h => ?_)
  · obtain ⟨n, lo, hi, rfl, _⟩ := h; rfl
  · obtain ⟨n, lo, hi, rfl, k⟩ := h
    refine ⟨_, pss_one (ps_ret (pe_and (pe_cmpR op_le (pv 1) (pv 0) (nomark _)) (pe_one (pe_cmpR op_le (pv 0) (pv 2) (nomark _))))), ?_⟩
    try dsimp only [cxOf, Cx.nox]
    refine ⟨_, rfl, _, rfl, _, _, rfl, rfl, _, rfl, ?_⟩
    cases e : decide (lo ≤ n) with
    | true =>
      rw [e] at k
      exact iteT ⟨_, rfl, _, rfl, _, _, rfl, rfl, k⟩
    | false =>
      rw [e] at k
      exact iteF k
/-! ### the classes -/
theorem few {f : Str} {v : V} {fs : List (Str × V)} {n : Nat} (h : fs.length ≤ n) : (putF f v fs).length ≤ n + 1 := Nat.le_trans (length_putF f v fs) (Nat.succ_le_succ h)
theorem few0 : ([] : List (Str × V)).length ≤ 0 := Nat.le_refl 0
def barV (b : Sy31.Bar) : List V := intsV (barNums b)
def papV (P : Sy31.Paper) : List V := [.int (P.width : Int), .int (P.lines : Int), .int (bit P.right), .int (P.stretch : Int), .int (P.squeeze : Int), .int (P.line : Int), .int (P.page : Int), .int (P.empty_ : Int)]
def spBar (T : Txt K mg) : Sp := fun vs H Q _ => ∃ (p a dx : Addr) (b : Sy31.Bar), vs = [.ref p, .ref a] ∧ H p = some (.ins T.Bar.c dx []) ∧ Sq K H a (barV b) ∧ Q .non (upd H p (.ins T.Bar.c dx (barF b)))
def spPaper (T : Txt K mg) : Sp := fun vs H Q _ => ∃ (p a dx : Addr) (b : Sy31.Paper), vs = [.ref p, .ref a] ∧ H p = some (.ins T.Paper.c dx []) ∧ Sq K H a (papV b) ∧ Q .non (upd H p (.ins T.Paper.c dx (papF b)))
theorem sc11 : FnScope ["self", "numbers"] ["self", "numbers"] (defScope (inClass (top 11) 0)) := ⟨rfl, rfl, rfl, by decide +kernel, rfl, by decide +kernel, by decide +kernel⟩
theorem ok_bar (T : Txt K mg) : FnOk P w K mg base CX0 1 T.Bar.f T.Bar.fd ["self", "numbers"] (spBar T) := by
  refine T.Bar.F.ok sc11 (fun vs H Q E h => ?_) (fun cdv A outer s H vs Q E hr h => ?_)
  · obtain ⟨p, a, dx, b, rfl, _⟩ := h; rfl
  · refine hide fun G0 g0 => ?_; obtain ⟨p, a, dx, b, rfl, hp, hs, k⟩ := h; refine g0 ?_; clear g0 G0
    refine ⟨_, pss_cons (ps_fld (pv 0) (pe_ix ix_seq (pv 1) pe_int (fun _ _ => rfl)) rfl) (pss_cons (ps_fld (pv 0) (pe_ix ix_seq (pv 1) pe_int (fun _ _ => rfl)) rfl) (pss_cons (ps_fld (pv 0) (pe_ix ix_seq (pv 1) pe_int (fun _ _ => rfl)) rfl) (pss_cons (ps_fld (pv 0) (pe_ix ix_seq (pv 1) pe_int (fun _ _ => rfl)) rfl) (pss_one (ps_fld (pv 0) (pe_ix ix_seq (pv 1) pe_int (fun _ _ => rfl)) rfl))))), ?_⟩
    try dsimp only [cxOf, Cx.nox]
    refine ⟨_, rfl, hs.ix (j := 0) rfl rfl ⟨_, rfl, p, T.Bar.c, dx, _, rfl, hp, T.Bar.cl, T.nBar _ (List.mem_of_getElem? (i := 0) rfl), Nat.lt_of_le_of_lt few0 (by decide), ?_⟩⟩
    refine ⟨_, rfl, (hs.ne_ins hp).ix (j := 1) rfl rfl ⟨_, rfl, p, T.Bar.c, dx, _, rfl, upd_same, T.Bar.cl, T.nBar _ (List.mem_of_getElem? (i := 1) rfl), Nat.lt_of_le_of_lt (few few0) (by decide), ?_⟩⟩
    rw [upd_upd]
    refine ⟨_, rfl, (hs.ne_ins hp).ix (j := 2) rfl rfl ⟨_, rfl, p, T.Bar.c, dx, _, rfl, upd_same, T.Bar.cl, T.nBar _ (List.mem_of_getElem? (i := 2) rfl), Nat.lt_of_le_of_lt (few (few few0)) (by decide), ?_⟩⟩
    rw [upd_upd]
    refine ⟨_, rfl, (hs.ne_ins hp).ix (j := 3) rfl rfl ⟨_, rfl, p, T.Bar.c, dx, _, rfl, upd_same, T.Bar.cl, T.nBar _ (List.mem_of_getElem? (i := 3) rfl), Nat.lt_of_le_of_lt (few (few (few few0))) (by decide), ?_⟩⟩
    rw [upd_upd]
    refine ⟨_, rfl, (hs.ne_ins hp).ix (j := 4) rfl rfl ⟨_, rfl, p, T.Bar.c, dx, _, rfl, upd_same, T.Bar.cl, T.nBar _ (List.mem_of_getElem? (i := 4) rfl), Nat.lt_of_le_of_lt (few (few (few (few few0)))) (by decide), ?_⟩⟩
    rw [upd_upd]
    have e : putF "ends" (.int (b.ends : Int)) (putF "turn" (.int (b.turn : Int)) (putF "head" (.int (b.head : Int)) (putF "wished" (.int (b.wish : Int)) (putF "least" (.int (b.least : Int)) [])))) = barF b := by kernel_rfl
    rw [← e] at k
    exact k
theorem sc12 : FnScope ["self", "numbers"] ["self", "numbers"] (defScope (inClass (top 12) 0)) := ⟨rfl, rfl, rfl, by decide +kernel, rfl, by decide +kernel, by decide +kernel⟩
theorem ok_paper (T : Txt K mg) : FnOk P w K mg base CX0 1 T.Paper.f T.Paper.fd ["self", "numbers"] (spPaper T) := by
  refine T.Paper.F.ok sc12 (fun vs H Q E h => ?_) (fun cdv A outer s H vs Q E hr h => ?_)
  · obtain ⟨p, a, dx, b, rfl, _⟩ := h; rfl
  · refine hide fun G0 g0 => ?_; obtain ⟨p, a, dx, b, rfl, hp, hs, k⟩ := h; refine g0 ?_; clear g0 G0
    refine ⟨_, pss_cons (ps_fld (pv 0) (pe_ix ix_seq (pv 1) pe_int (fun _ _ => rfl)) rfl) (pss_cons (ps_fld (pv 0) (pe_ix ix_seq (pv 1) pe_int (fun _ _ => rfl)) rfl) (pss_cons (ps_fld (pv 0) (pe_ix ix_seq (pv 1) pe_int (fun _ _ => rfl)) rfl) (pss_cons (ps_fld (pv 0) (pe_ix ix_seq (pv 1) pe_int (fun _ _ => rfl)) rfl) (pss_cons (ps_fld (pv 0) (pe_ix ix_seq (pv 1) pe_int (fun _ _ => rfl)) rfl) (pss_cons (ps_fld (pv 0) (pe_ix ix_seq (pv 1) pe_int (fun _ _ => rfl)) rfl) (pss_cons (ps_fld (pv 0) (pe_ix ix_seq (pv 1) pe_int (fun _ _ => rfl)) rfl) (pss_one (ps_fld (pv 0) (pe_ix ix_seq (pv 1) pe_int (fun _ _ => rfl)) rfl)))))))), ?_⟩
    try dsimp only [cxOf, Cx.nox]
    refine ⟨_, rfl, hs.ix (j := 0) rfl rfl ⟨_, rfl, p, T.Paper.c, dx, _, rfl, hp, T.Paper.cl, T.nPaper _ (List.mem_of_getElem? (i := 0) rfl), Nat.lt_of_le_of_lt few0 (by decide), ?_⟩⟩
    refine ⟨_, rfl, (hs.ne_ins hp).ix (j := 1) rfl rfl ⟨_, rfl, p, T.Paper.c, dx, _, rfl, upd_same, T.Paper.cl, T.nPaper _ (List.mem_of_getElem? (i := 1) rfl), Nat.lt_of_le_of_lt (few few0) (by decide), ?_⟩⟩
    rw [upd_upd]
    refine ⟨_, rfl, (hs.ne_ins hp).ix (j := 2) rfl rfl ⟨_, rfl, p, T.Paper.c, dx, _, rfl, upd_same, T.Paper.cl, T.nPaper _ (List.mem_of_getElem? (i := 2) rfl), Nat.lt_of_le_of_lt (few (few few0)) (by decide), ?_⟩⟩
    rw [upd_upd]
    refine ⟨_, rfl, (hs.ne_ins hp).ix (j := 3) rfl rfl ⟨_, rfl, p, T.Paper.c, dx, _, rfl, upd_same, T.Paper.cl, T.nPaper _ (List.mem_of_getElem? (i := 3) rfl), Nat.lt_of_le_of_lt (few (few (few few0))) (by decide), ?_⟩⟩
    rw [upd_upd]
    refine ⟨_, rfl, (hs.ne_ins hp).ix (j := 4) rfl rfl ⟨_, rfl, p, T.Paper.c, dx, _, rfl, upd_same, T.Paper.cl, T.nPaper _ (List.mem_of_getElem? (i := 4) rfl), Nat.lt_of_le_of_lt (few (few (few (few few0)))) (by decide), ?_⟩⟩
    rw [upd_upd]
    refine ⟨_, rfl, (hs.ne_ins hp).ix (j := 5) rfl rfl ⟨_, rfl, p, T.Paper.c, dx, _, rfl, upd_same, T.Paper.cl, T.nPaper _ (List.mem_of_getElem? (i := 5) rfl), Nat.lt_of_le_of_lt (few (few (few (few (few few0))))) (by decide), ?_⟩⟩
    rw [upd_upd]
    refine ⟨_, rfl, (hs.ne_ins hp).ix (j := 6) rfl rfl ⟨_, rfl, p, T.Paper.c, dx, _, rfl, upd_same, T.Paper.cl, T.nPaper _ (List.mem_of_getElem? (i := 6) rfl), Nat.lt_of_le_of_lt (few (few (few (few (few (few few0)))))) (by decide), ?_⟩⟩
    rw [upd_upd]
    refine ⟨_, rfl, (hs.ne_ins hp).ix (j := 7) rfl rfl ⟨_, rfl, p, T.Paper.c, dx, _, rfl, upd_same, T.Paper.cl, T.nPaper _ (List.mem_of_getElem? (i := 7) rfl), Nat.lt_of_le_of_lt (few (few (few (few (few (few (few few0))))))) (by decide), ?_⟩⟩
    rw [upd_upd]
    have e : putF "empty_price" (.int (b.empty_ : Int)) (putF "page_price" (.int (b.page : Int)) (putF "line_price" (.int (b.line : Int)) (putF "squeezing" (.int (b.squeeze : Int)) (putF "stretching" (.int (b.stretch : Int)) (putF "right_first" (.int (bit b.right)) (putF "lines" (.int (b.lines : Int)) (putF "width" (.int (b.width : Int)) []))))))) = papF b := by kernel_rfl
    rw [← e] at k
    exact k
/-- a new paper -/
theorem mk_paper {T : Txt K mg} {H : Hp} {a x dx : Addr} {b : Sy31.Paper} {Q : Hp → Prop} (nx : H x = none) (nd : H dx = none) (ne : dx ≠ x) (hs : Sq K H a (papV b)) (k : ∀ (H' : Hp), Same H H' → H' x = some (.ins T.Paper.c dx (papF b)) → Q H') :
    spPaper T [.ref x, .ref a] (upd (upd H dx (.own x)) x (.ins T.Paper.c dx [])) (fun v H2 => v = .non ∧ Q H2) E0 := by
  have s1 : Same H (upd H dx (.own x)) := Same.new nd
  have n2 : upd H dx (.own x) x = none := by rw [upd_ne (Ne.symm ne)]; exact nx
  have s2 : ∀ o, Same H (upd (upd H dx (.own x)) x o) := fun o => s1.trans (Same.new n2)
  refine ⟨x, a, dx, b, rfl, upd_same, ?_, rfl, ?_⟩
  · exact hs.imp (fun h => SqL.keep h fun o e => s2 _ _ _ e) fun h => SqT.keep h fun o e => s2 _ _ _ e
  · rw [upd_upd]
    exact k _ (s2 _) upd_same
theorem mk_bar {T : Txt K mg} {H : Hp} {a x dx : Addr} {b : Sy31.Bar} {Q : Hp → Prop} (nx : H x = none) (nd : H dx = none) (ne : dx ≠ x) (hs : Sq K H a (barV b)) (k : ∀ (H' : Hp), Same H H' → H' x = some (.ins T.Bar.c dx (barF b)) → Q H') :
    spBar T [.ref x, .ref a] (upd (upd H dx (.own x)) x (.ins T.Bar.c dx [])) (fun v H2 => v = .non ∧ Q H2) E0 := by
  have s1 : Same H (upd H dx (.own x)) := Same.new nd
  have n2 : upd H dx (.own x) x = none := by rw [upd_ne (Ne.symm ne)]; exact nx
  have s2 : ∀ o, Same H (upd (upd H dx (.own x)) x o) := fun o => s1.trans (Same.new n2)
  refine ⟨x, a, dx, b, rfl, upd_same, ?_, rfl, ?_⟩
  · exact hs.imp (fun h => SqL.keep h fun o e => s2 _ _ _ e) fun h => SqT.keep h fun o e => s2 _ _ _ e
  · rw [upd_upd]
    exact k _ (s2 _) upd_same
/-- everything but p stays -/
def But (p : Addr) (H H' : Hp) : Prop := ∀ b o, H b = some o → b ≠ p → H' b = some o
def spScore (T : Txt K mg) : Sp := fun vs H Q _ => ∃ (p dx : Addr), vs = [.ref p] ∧ H p = some (.ins T.Score.c dx []) ∧ ∀ H' : Hp, ScoreAt T H' p Sy31.start.paper Sy31.start.bars → But p H H' → Q .non H'
theorem sc13 : FnScope ["self"] ["self"] (defScope (inClass (top 13) 0)) := ⟨rfl, rfl, rfl, by decide +kernel, rfl, by decide +kernel, by decide +kernel⟩
theorem ok_score (T : Txt K mg) : FnOk P w K mg base CX0 3 T.Score.f T.Score.fd ["self"] (spScore T) := by
  refine T.Score.F.ok sc13 (fun vs H Q E h => ?_) (fun cdv A outer s H vs Q E hr h => ?_)
  · obtain ⟨p, dx, rfl, _⟩ := h; rfl
  · obtain ⟨p, dx, rfl, hp, k⟩ := h
    refine ⟨_, pss_cons (ps_fld (pv 0) (pmake T.Paper (ok_paper T) hr (pa_cons (pe_glob (v := .ref T.tup0) rfl T.PAPER_AT_BEGINNING rfl) pa_nil)) rfl) (pss_one (ps_fld (pv 0) (pe_lst pa_nil) rfl)), ?_⟩
    try dsimp only [cxOf, Cx.nox]
    intro pp dp npp ndp nep
    refine mk_paper (b := Sy31.start.paper) npp ndp nep (.inr (T.tup0_at _)) fun H1 s1 hpp => ?_
    refine ⟨_, rfl, p, T.Score.c, dx, _, rfl, s1 _ _ hp, T.Score.cl, T.nScore _ (List.mem_of_getElem? (i := 0) rfl), Nat.lt_of_le_of_lt few0 (by decide), ?_⟩
    refine ⟨Nat.zero_le _, fun lb hlb => ?_⟩
    have ppp : pp ≠ p := fun q => by rw [q, hp] at npp; cases npp
    have lbp : lb ≠ p := fun q => by rw [q, upd_same] at hlb; cases hlb
    have lbpp : lb ≠ pp := fun q => by rw [q, upd_ne ppp, hpp] at hlb; cases hlb
    refine ⟨_, rfl, p, T.Score.c, dx, _, rfl, (upd_ne (Ne.symm lbp)).trans upd_same, T.Score.cl, T.nScore _ (List.mem_of_getElem? (i := 1) rfl), Nat.lt_of_le_of_lt (few few0) (by decide), ?_⟩
    have e : putF "bars" (.ref lb) (putF "paper" (.ref pp) []) = scoF pp lb := by kernel_rfl
    rw [e]
    refine k _ ⟨dx, pp, dp, lb, [], upd_same, ?_, ?_, ⟨rfl, fun j a h => by simp at h⟩⟩ fun b o hb ne => ?_
    · rw [upd_ne ppp, upd_ne (Ne.symm lbpp), upd_ne ppp]; exact hpp
    · rw [upd_ne lbp]; exact upd_same
    · have n1 : H1 lb = none := by rw [upd_ne lbp] at hlb; exact hlb
      have hb1 := s1 _ _ hb
      rw [upd_ne ne, upd_ne (ne_of_none hb1 n1), upd_ne ne]; exact hb1
end
end Bp
end
section
set_option Elab.async false
set_option linter.all false
set_option maxRecDepth 100000
set_option maxHeartbeats 2000000
namespace Bp
open PySem PySem.Spec PyProof.Rows L2
theorem boot_all1 : bootBuiltins "all" = some (.builtin "all") := by decide +kernel
theorem boot_sum1 : bootBuiltins "sum" = some (.builtin "sum") := by decide +kernel
section
variable {P : Program} {w : World} {K : PySem.W.Frag} {mg : Str → Option Value} {base : Heap}
/-! ### is_bar, is_paper, are_bars -/
def barOkP (b : Sy31.Bar) : Bool :=
  bif !(decide ((1 : Int) ≤ (b.least : Int)) && decide ((b.least : Int) ≤ (b.wish : Int))) then false else bif decide ((1000 : Int) < (b.wish : Int)) then false else
  bif !(decide ((0 : Int) ≤ (b.head : Int)) && decide ((b.head : Int) ≤ 1000)) then false else bif !(decide ((0 : Int) ≤ (b.turn : Int)) && decide ((b.turn : Int) ≤ 1000)) then false else
  (decide ((0 : Int) ≤ (b.ends : Int)) && decide ((b.ends : Int) ≤ 3))
theorem barOkP_eq (b : Sy31.Bar) : Sy31.barOk b = barOkP b := by
  rw [Bool.eq_iff_iff, barOk_iff]
  unfold barOkP
  simp only [Bool.cond_eq_ite]
  constructor
  · intro h
    have h1 := h.l1; have h2 := h.lw; have h3 := h.w; have h4 := h.h; have h5 := h.t; have h6 := h.e
    simp [show ¬ (1000 : Int) < (b.wish : Int) by lia, show (1 : Int) ≤ (b.least : Int) by lia, show (b.least : Int) ≤ (b.wish : Int) by lia, show (b.head : Int) ≤ 1000 by lia, show (b.turn : Int) ≤ 1000 by lia, show (b.ends : Int) ≤ 3 by lia]
    all_goals lia
  · intro h
    simp at h
    constructor <;> lia
def spIsBar (K : PySem.W.Frag) : Sp := fun vs H Q _ => ∃ (a : Addr) (b : Sy31.Bar), vs = [.ref a] ∧ Sq K H a (barV b) ∧ Q (.bl (Sy31.barOk b)) H
theorem sc16 : FnScope ["numbers", "least", "wished"] ["numbers"] (defScope (top 16)) := ⟨rfl, rfl, rfl, by decide +kernel, rfl, by decide +kernel, by decide +kernel⟩
theorem ok_is_bar (T : Txt K mg) : FnOk P w K mg base CX0 2 T.is_bar.f T.is_bar.fd ["numbers"] (spIsBar K) := by
  refine T.is_bar.F.ok sc16 (fun vs H Q E h => ?_) (fun cdv A outer s H vs Q E hr h => ?_)
  · obtain ⟨a, b, rfl, _⟩ := h; rfl
  · obtain ⟨a, b, rfl, hs, k⟩ := h
    rw [barOkP_eq] at k
    unfold barOkP at k
    refine ⟨_, pss_cons (ps_set (i := 1) sc16.nd rfl (Or.inl rfl) (pe_ix ix_seq (pv 0) pe_int (fun _ _ => rfl))) (pss_cons (ps_set (i := 2) sc16.nd rfl (Or.inl rfl) (pe_ix ix_seq (pv 0) pe_int (fun _ _ => rfl)))
      (pss_cons (ps_if (PW.pt (pw_or (pt_not (pt_val (pcall T.is_within (ok_within T) hr (pa_cons (pv 1) (pa_cons pe_int (pa_cons (pv 2) pa_nil)))))) (pw_or1 (pt_cmpR op_gt (pv 2) (pe_gint T.MOST) (nomark _))))) (pss_one (ps_ret pe_bl)) pss_nil)
      (pss_cons (ps_if (PW.pt (pw_or (pt_not (pt_val (pcall T.is_within (ok_within T) hr (pa_cons (pe_ix ix_seq (pv 0) pe_int (fun _ _ => rfl)) (pa_cons pe_int (pa_cons (pe_gint T.MOST) pa_nil))))))
        (pw_or1 (pt_not (pt_val (pcall T.is_within (ok_within T) hr (pa_cons (pe_ix ix_seq (pv 0) pe_int (fun _ _ => rfl)) (pa_cons pe_int (pa_cons (pe_gint T.MOST) pa_nil))))))))) (pss_one (ps_ret pe_bl)) pss_nil)
      (pss_one (ps_ret (pcall T.is_within (ok_within T) hr (pa_cons (pe_ix ix_seq (pv 0) pe_int (fun _ _ => rfl)) (pa_cons (pe_gint T.FREE_END) (pa_cons (pe_gint T.PAGE_END) pa_nil))))))))), ?_⟩
    try dsimp only [cxOf, Cx.nox]
    refine ⟨_, rfl, hs.ix (j := 0) rfl rfl ⟨_, rfl, hs.ix (j := 1) rfl rfl ?_⟩⟩
    refine ⟨_, rfl, _, rfl, (b.least : Int), 1, (b.wish : Int), rfl, _, rfl, ?_⟩
    cases e1 : (decide ((1 : Int) ≤ (b.least : Int)) && decide ((b.least : Int) ≤ (b.wish : Int))) with
    | false => rw [e1] at k; exact iteT (iteT k)
    | true =>
      rw [e1] at k
      refine iteF ⟨_, rfl, _, _, rfl, rfl, _, rfl, ?_⟩
      cases e2 : decide ((1000 : Int) < (b.wish : Int)) with
      | true => rw [e2] at k; exact iteT k
      | false =>
        rw [e2] at k
        refine iteF ?_
        refine ⟨_, rfl, hs.ix (j := 2) rfl rfl ⟨(b.head : Int), 0, 1000, rfl, _, rfl, ?_⟩⟩
        cases e3 : (decide ((0 : Int) ≤ (b.head : Int)) && decide ((b.head : Int) ≤ 1000)) with
        | false => rw [e3] at k; exact iteT (iteT k)
        | true =>
          rw [e3] at k
          refine iteF ⟨_, rfl, hs.ix (j := 3) rfl rfl ⟨(b.turn : Int), 0, 1000, rfl, _, rfl, ?_⟩⟩
          cases e4 : (decide ((0 : Int) ≤ (b.turn : Int)) && decide ((b.turn : Int) ≤ 1000)) with
          | false => rw [e4] at k; exact iteT k
          | true =>
            rw [e4] at k
            refine iteF ⟨_, rfl, hs.ix (j := 4) rfl rfl ⟨(b.ends : Int), 0, 3, rfl, k⟩⟩
def okP (n : Nat) : Bool := decide ((0 : Int) ≤ (n : Int)) && decide ((n : Int) ≤ 1000)
def pr (P : Sy31.Paper) : List Nat := [P.stretch, P.squeeze, P.line, P.page, P.empty_]
def papOkP (P : Sy31.Paper) : Bool :=
  bif !(decide ((1 : Int) ≤ (P.width : Int)) && decide ((P.width : Int) ≤ 1000)) then false else bif !(decide ((1 : Int) ≤ (P.lines : Int)) && decide ((P.lines : Int) ≤ 6)) then false else
  bif (decide ((0 : Int) ≤ bit P.right) && decide (bit P.right ≤ 1)) then ((pr P).map okP).all id else false
theorem papOkP_eq (P : Sy31.Paper) : Sy31.paperOk P = papOkP P := by
  rw [Bool.eq_iff_iff, paperOk_iff]
  have hb : (decide ((0 : Int) ≤ bit P.right) && decide (bit P.right ≤ 1)) = true := by unfold bit; cases P.right <;> rfl
  unfold papOkP
  rw [hb]
  simp only [Bool.cond_eq_ite, pr, okP]
  constructor
  · intro h
    have h1 := h.w1; have h2 := h.w; have h3 := h.l1; have h4 := h.l; have h5 := h.st; have h6 := h.sq; have h7 := h.li; have h8 := h.pa; have h9 := h.em
    simp [okP]
    lia
  · intro h
    simp [okP] at h
    constructor <;> lia
def spIsPaper (K : PySem.W.Frag) : Sp := fun vs H Q _ => ∃ (a : Addr) (b : Sy31.Paper), vs = [.ref a] ∧ H a = some (.lst (papV b)) ∧ ∀ H' : Hp, Same H H' → Q (.bl (Sy31.paperOk b)) H'
theorem sc15 : FnScope ["numbers", "price"] ["numbers"] (defScope (top 15)) := ⟨rfl, rfl, rfl, by decide +kernel, rfl, by decide +kernel, by decide +kernel⟩
theorem ok_is_paper (T : Txt K mg) : FnOk P w K mg base CX0 2 T.is_paper.f T.is_paper.fd ["numbers"] (spIsPaper K) := by
  refine T.is_paper.F.ok sc15 (fun vs H Q E h => ?_) (fun cdv A outer s H vs Q E hr h => ?_)
  · obtain ⟨a, b, rfl, _⟩ := h; rfl
  · obtain ⟨a, b, rfl, hs, k⟩ := h
    have hq : Sq K H a (papV b) := .inl (SqL.of hs)
    rw [papOkP_eq] at k
    unfold papOkP at k
    refine ⟨_, pss_cons (ps_if (PW.pt (pw_or (pt_not (pt_val (pcall T.is_within (ok_within T) hr (pa_cons (pe_ix ix_seq (pv 0) pe_int (fun _ _ => rfl)) (pa_cons pe_int (pa_cons (pe_gint T.MOST) pa_nil))))))
        (pw_or1 (pt_not (pt_val (pcall T.is_within (ok_within T) hr (pa_cons (pe_ix ix_seq (pv 0) pe_int (fun _ _ => rfl)) (pa_cons pe_int (pa_cons (pe_gint T.MOST_LINES) pa_nil))))))))) (pss_one (ps_ret pe_bl)) pss_nil)
      (pss_one (ps_ret (pe_and (pcall T.is_within (ok_within T) hr (pa_cons (pe_ix ix_seq (pv 0) pe_int (fun _ _ => rfl)) (pa_cons pe_int (pa_cons pe_int pa_nil))))
        (pe_one (pe_callB (cr_all rfl) rfl T.all boot_all1 (pa_cons (pe_lc (own := [("price", 1)]) rfl sc15.nd (pi_list (pe_slice sl_list (pv 0) (po_some pe_int) po_none)) (blkOk_by (by kernel_rfl)) (fun _ _ _ _ _ => pg_name (i := 1) sc15.nd rfl (Or.inl rfl)) (fun _ _ _ _ _ => pts_nil)
          (fun _ _ _ _ _ => pcall T.is_within (ok_within T) hr (pa_cons (pv 1) (pa_cons pe_int (pa_cons (pe_gint T.MOST) pa_nil))))) pa_nil)))))), ?_⟩
    try dsimp only [cxOf, Cx.nox]
    refine ⟨_, rfl, hq.ix (j := 0) rfl rfl ⟨(b.width : Int), 1, 1000, rfl, _, rfl, ?_⟩⟩
    cases e1 : (decide ((1 : Int) ≤ (b.width : Int)) && decide ((b.width : Int) ≤ 1000)) with
    | false => rw [e1] at k; exact iteT (iteT (k H (Same.refl H)))
    | true =>
      rw [e1] at k
      refine iteF ⟨_, rfl, hq.ix (j := 1) rfl rfl ⟨(b.lines : Int), 1, 6, rfl, _, rfl, ?_⟩⟩
      cases e2 : (decide ((1 : Int) ≤ (b.lines : Int)) && decide ((b.lines : Int) ≤ 6)) with
      | false => rw [e2] at k; exact iteT (k H (Same.refl H))
      | true =>
        rw [e2] at k
        refine iteF ⟨_, rfl, hq.ix (j := 2) rfl rfl ⟨bit b.right, 0, 1, rfl, _, rfl, ?_⟩⟩
        have hb : (decide ((0 : Int) ≤ bit b.right) && decide (bit b.right ≤ 1)) = true := by unfold bit; cases b.right <;> rfl
        rw [hb] at k ⊢
        refine iteT ⟨_, rfl, _, rfl, a, _, rfl, SqL.of hs, fun p hp => ?_⟩
        refine ⟨p, rfl, ⟨_, SqL.of upd_same⟩, fun D hD => ?_⟩
        have e3 : cutV (papV b) (some 3) none = intsV (pr b) := rfl
        rw [e3] at hD ⊢
        refine lc_map (ys := ((pr b).map okP).map V.bl) (SqL.of upd_same) hD rfl (by show 5 < sizeLine; rw [sizeLine_eq]; decide) (fun i x y H' Q' hx hy s k2 => ?_) fun H' s hD' => ⟨D, (pr b).map okP, rfl, SqL.of hD', k H' ((Same.new hp).trans s)⟩
        unfold intsV at hx
        rw [List.getElem?_map] at hx
        obtain ⟨n, hn, rfl⟩ := Option.map_eq_some_iff.mp hx
        rw [List.getElem?_map, List.getElem?_map, hn] at hy
        have hy' := Option.some.inj hy
        subst hy'
        exact ⟨_, rfl, (n : Int), 0, 1000, rfl, k2 H' (Same.refl H')⟩
def RowsAt (H : Hp) (rs : List Addr) (bs : List Sy31.Bar) : Prop := rs.length = bs.length ∧ ∀ (j : Nat) (a : Addr), rs[j]? = some a → ∃ b, bs[j]? = some b ∧ H a = some (.lst (barV b))
theorem RowsAt.same {H H' : Hp} {rs : List Addr} {bs : List Sy31.Bar} (s : Same H H') (r : RowsAt H rs bs) : RowsAt H' rs bs := ⟨r.1, fun j a h => let ⟨b, h1, h2⟩ := r.2 j a h; ⟨b, h1, s _ _ h2⟩⟩
def spAreBars (K : PySem.W.Frag) : Sp := fun vs H Q _ => ∃ (a : Addr) (rs : List Addr) (bs : List Sy31.Bar), vs = [.ref a] ∧ H a = some (.lst (rs.map V.ref)) ∧ RowsAt H rs bs ∧ bs.length ≤ 60 ∧ ∀ H' : Hp, Same H H' → Q (.bl (decide (bs.length ≤ 24) && bs.all Sy31.barOk)) H'
theorem sc17 : FnScope ["rows", "row"] ["rows"] (defScope (top 17)) := ⟨rfl, rfl, rfl, by decide +kernel, rfl, by decide +kernel, by decide +kernel⟩
theorem ok_are_bars (T : Txt K mg) : FnOk P w K mg base CX0 3 T.are_bars.f T.are_bars.fd ["rows"] (spAreBars K) := by
  refine T.are_bars.F.ok sc17 (fun vs H Q E h => ?_) (fun cdv A outer s H vs Q E hr h => ?_)
  · obtain ⟨a, rs, bs, rfl, _⟩ := h; rfl
  · refine hide fun G0 g0 => ?_; obtain ⟨a, rs, bs, rfl, hs, hR, h60, k⟩ := h; refine g0 ?_; clear g0 G0
    refine ⟨_, pss_one (ps_ret (pe_and (pe_cmpR op_le (pe_callB call_len_seq rfl T.len PySem.boot_len (pa_cons (pv 0) pa_nil)) (pe_gint T.MOST_BARS) (nomark _))
      (pe_one (pe_callB (cr_all rfl) rfl T.all boot_all1 (pa_cons (pe_lc (own := [("row", 1)]) rfl sc17.nd (pi_list (pv 0)) (blkOk_by (by kernel_rfl)) (fun _ _ _ _ _ => pg_name (i := 1) sc17.nd rfl (Or.inl rfl)) (fun _ _ _ _ _ => pts_nil)
          (fun _ _ _ _ _ => pcall T.is_bar (ok_is_bar T) hr (pa_cons (pv 1) pa_nil))) pa_nil))))), ?_⟩
    try dsimp only [cxOf, Cx.nox]
    refine ⟨_, rfl, a, _, rfl, .inl (SqL.of hs), _, _, rfl, rfl, _, rfl, ?_⟩
    have e : decide (((rs.map V.ref).length : Int) ≤ 24) = decide (bs.length ≤ 24) := by
      rw [List.length_map, hR.1, Bool.eq_iff_iff, decide_eq_true_eq, decide_eq_true_eq]; lia
    rw [e]
    cases e1 : decide (bs.length ≤ 24) with
    | false => rw [e1] at k; exact iteF (k H (Same.refl H))
    | true =>
      rw [e1] at k
      refine iteT ⟨_, rfl, a, rfl, ⟨_, SqL.of hs⟩, fun D hD => ?_⟩
      refine lc_map (ys := (bs.map Sy31.barOk).map V.bl) (SqL.of hs) hD (by rw [List.length_map, List.length_map, List.length_map]; exact hR.1.symm) (by rw [List.length_map, hR.1]; exact small_lt h60 (by decide)) (fun i x y H' Q' hx hy s k2 => ?_) fun H' s hD' => ⟨D, bs.map Sy31.barOk, rfl, SqL.of hD', ?_⟩
      · rw [List.getElem?_map] at hx
        obtain ⟨r, hr', rfl⟩ := Option.map_eq_some_iff.mp hx
        obtain ⟨b, hb, hrow⟩ := hR.2 i r hr'
        rw [List.getElem?_map, List.getElem?_map, hb] at hy
        have hy' := Option.some.inj hy
        subst hy'
        exact ⟨_, rfl, r, b, rfl, .inl (SqL.of (s _ _ hrow)), k2 H' (Same.refl H')⟩
      · have e2 : (bs.map Sy31.barOk).all id = (true && bs.all Sy31.barOk) := by rw [List.all_map]; rfl
        rw [e2]
        exact k H' s
end
end Bp
end
section
set_option Elab.async false
set_option linter.all false
set_option maxRecDepth 100000
set_option maxHeartbeats 2000000
namespace Bp
open PySem PySem.Spec PyProof.Rows L2
theorem dec_nat (a b : Nat) : decide (V.int (a : Int) = V.int (b : Int)) = decide (a = b) := by
  rw [Bool.eq_iff_iff, decide_eq_true_eq, decide_eq_true_eq]
  constructor
  · intro h
    have := V.int.inj h
    lia
  · intro h; rw [h]
section
variable {P : Program} {w : World} {K : PySem.W.Frag} {mg : Str → Option Value} {base : Heap}
/-! ### reading the score -/
section
variable {T : Txt K mg} {H : Hp} {sc : Addr} {Pa : Sy31.Paper} {bs : List Sy31.Bar}
theorem bars_of (S : ScoreAt T H sc Pa bs) : (scoF S.pp S.lb).lookup ("bars" : Str) = some (.ref S.lb) := by kernel_rfl
theorem paper_of (S : ScoreAt T H sc Pa bs) : (scoF S.pp S.lb).lookup ("paper" : Str) = some (.ref S.pp) := by kernel_rfl
theorem ScoreAt.len (S : ScoreAt T H sc Pa bs) : (S.as.map V.ref).length = bs.length := by rw [List.length_map]; exact S.bars.1
/-- score.bars -/
theorem rd_bars {Q : V → Prop} (S : ScoreAt T H sc Pa bs) (k : Q (.ref S.lb)) : ∃ a C dx fs v, V.ref sc = .ref a ∧ H a = some (.ins C dx fs) ∧ Cls K C ∧ NoAttr K C "bars" ∧ fs.lookup ("bars" : Str) = some v ∧ Q v :=
  ⟨sc, _, S.ds, _, _, rfl, S.sco, T.Score.cl, T.nScore _ (List.mem_of_getElem? (i := 1) rfl), bars_of S, k⟩
/-- score.paper -/
theorem rd_paper {Q : V → Prop} (S : ScoreAt T H sc Pa bs) (k : Q (.ref S.pp)) : ∃ a C dx fs v, V.ref sc = .ref a ∧ H a = some (.ins C dx fs) ∧ Cls K C ∧ NoAttr K C "paper" ∧ fs.lookup ("paper" : Str) = some v ∧ Q v :=
  ⟨sc, _, S.ds, _, _, rfl, S.sco, T.Score.cl, T.nScore _ (List.mem_of_getElem? (i := 0) rfl), paper_of S, k⟩
/-- a field of the paper at p -/
theorem rd_pf {p d : Addr} {x : Str} {v : V} {Q : V → Prop} (h : H p = some (.ins T.Paper.c d (papF Pa))) (hx : x ∈ (["width", "lines", "right_first", "stretching", "squeezing", "line_price", "page_price", "empty_price"] : List Str)) (hv : (papF Pa).lookup x = some v) (k : Q v) :
    ∃ a C dx fs v, V.ref p = .ref a ∧ H a = some (.ins C dx fs) ∧ Cls K C ∧ NoAttr K C x ∧ fs.lookup x = some v ∧ Q v := ⟨p, _, d, _, v, rfl, h, T.Paper.cl, T.nPaper x hx, hv, k⟩
theorem rd_bf {p d : Addr} {b : Sy31.Bar} {x : Str} {v : V} {Q : V → Prop} (h : H p = some (.ins T.Bar.c d (barF b))) (hx : x ∈ (["least", "wished", "head", "turn", "ends"] : List Str)) (hv : (barF b).lookup x = some v) (k : Q v) :
    ∃ a C dx fs v, V.ref p = .ref a ∧ H a = some (.ins C dx fs) ∧ Cls K C ∧ NoAttr K C x ∧ fs.lookup x = some v ∧ Q v := ⟨p, _, d, _, v, rfl, h, T.Bar.cl, T.nBar x hx, hv, k⟩
theorem bar_least (b : Sy31.Bar) : (barF b).lookup ("least" : Str) = some (.int b.least) := by kernel_rfl
theorem bar_wished (b : Sy31.Bar) : (barF b).lookup ("wished" : Str) = some (.int b.wish) := by kernel_rfl
theorem bar_head (b : Sy31.Bar) : (barF b).lookup ("head" : Str) = some (.int b.head) := by kernel_rfl
theorem bar_turn (b : Sy31.Bar) : (barF b).lookup ("turn" : Str) = some (.int b.turn) := by kernel_rfl
theorem bar_ends (b : Sy31.Bar) : (barF b).lookup ("ends" : Str) = some (.int b.ends) := by kernel_rfl
theorem pap_width (Pa : Sy31.Paper) : (papF Pa).lookup ("width" : Str) = some (.int Pa.width) := by kernel_rfl
theorem pap_lines (Pa : Sy31.Paper) : (papF Pa).lookup ("lines" : Str) = some (.int Pa.lines) := by kernel_rfl
theorem pap_right (Pa : Sy31.Paper) : (papF Pa).lookup ("right_first" : Str) = some (.int (bit Pa.right)) := by kernel_rfl
theorem pap_stretch (Pa : Sy31.Paper) : (papF Pa).lookup ("stretching" : Str) = some (.int Pa.stretch) := by kernel_rfl
theorem pap_squeeze (Pa : Sy31.Paper) : (papF Pa).lookup ("squeezing" : Str) = some (.int Pa.squeeze) := by kernel_rfl
theorem pap_line (Pa : Sy31.Paper) : (papF Pa).lookup ("line_price" : Str) = some (.int Pa.line) := by kernel_rfl
theorem pap_page (Pa : Sy31.Paper) : (papF Pa).lookup ("page_price" : Str) = some (.int Pa.page) := by kernel_rfl
theorem pap_empty (Pa : Sy31.Paper) : (papF Pa).lookup ("empty_price" : Str) = some (.int Pa.empty_) := by kernel_rfl
/-- the bar at a place -/
theorem bar_at (S : ScoreAt T H sc Pa bs) {i : Nat} (h : i < bs.length) : ∃ a d, (S.as.map V.ref)[i]? = some (.ref a) ∧ H a = some (.ins T.Bar.c d (barF (Sy31.barAt bs i))) := by
  have h1 : i < S.as.length := by rw [S.bars.1]; exact h
  obtain ⟨b, d, hb, ha⟩ := S.bars.2 i S.as[i] (List.getElem?_eq_getElem h1)
  refine ⟨S.as[i], d, by rw [List.getElem?_map, List.getElem?_eq_getElem h1]; rfl, ?_⟩
  rw [barAt_get hb]; exact ha
theorem cut_bars (S : ScoreAt T H sc Pa bs) {i j : Nat} (h1 : i ≤ bs.length) (h2 : j ≤ bs.length) : cutV (S.as.map V.ref) (some (i : Int)) (some (j : Int)) = ((S.as.drop i).take (j - i)).map V.ref := by
  rw [cutV_nat (by rw [S.len]; exact h1) (by rw [S.len]; exact h2), ← List.map_drop, ← List.map_take]
theorem cut_len (S : ScoreAt T H sc Pa bs) {i j : Nat} (h2 : j ≤ bs.length) : (((S.as.drop i).take (j - i)).map V.ref).length = (Sy31.part bs i j).length := by
  rw [part_length h2, List.length_map, List.length_take, List.length_drop, S.bars.1]; lia
theorem cut_at (S : ScoreAt T H sc Pa bs) {i j t : Nat} {x : V} (h : (((S.as.drop i).take (j - i)).map V.ref)[t]? = some x) : ∃ a b d, x = .ref a ∧ (Sy31.part bs i j)[t]? = some b ∧ H a = some (.ins T.Bar.c d (barF b)) := by
  rw [List.getElem?_map] at h
  obtain ⟨a, ha, rfl⟩ := Option.map_eq_some_iff.mp h
  rw [List.getElem?_take] at ha
  by_cases ht : t < j - i
  · rw [if_pos ht, List.getElem?_drop] at ha
    obtain ⟨b, d, hb, hh⟩ := S.bars.2 (i + t) a ha
    exact ⟨a, b, d, rfl, by unfold Sy31.part; rw [List.getElem?_take, if_pos ht, List.getElem?_drop]; exact hb, hh⟩
  · rw [if_neg ht] at ha; cases ha
end
/-! ### one line -/
def spLast (T : Txt K mg) : Sp := fun vs H Q _ => ∃ (sc : Addr) (Pa : Sy31.Paper) (bs : List Sy31.Bar) (j : Nat), vs = [.ref sc, .int (j : Int)] ∧ ∃ _ : ScoreAt T H sc Pa bs, Q (.bl (decide (j = bs.length))) H
theorem sc23 : FnScope ["score", "after"] ["score", "after"] (defScope (top 23)) := ⟨rfl, rfl, rfl, by decide +kernel, rfl, by decide +kernel, by decide +kernel⟩
theorem ok_last (T : Txt K mg) : FnOk P w K mg base CX0 1 T.is_last_line.f T.is_last_line.fd ["score", "after"] (spLast T) := by
  refine T.is_last_line.F.ok sc23 (fun vs H Q E h => ?_) (fun cdv A outer s H vs Q E hr h => ?_)
  · obtain ⟨sc, Pa, bs, j, rfl, _⟩ := h; rfl
  · refine hide fun G0 g0 => ?_; obtain ⟨sc, Pa, bs, j, rfl, S, k⟩ := h; refine g0 ?_; clear g0 G0
    refine ⟨_, pss_one (ps_ret (pe_cmpR op_eq (pv 1) (pe_callB call_len_seq rfl T.len PySem.boot_len (pa_cons (pe_fld (pv 0) rfl) pa_nil)) (nomark _))), ?_⟩
    try dsimp only [cxOf, Cx.nox]
    refine ⟨_, rfl, _, rfl, rd_bars S ⟨S.lb, _, rfl, .inl (SqL.of S.lst), rfl, ?_⟩⟩
    rw [S.len, dec_nat]
    exact k
def spThere (T : Txt K mg) : Sp := fun vs H Q _ => ∃ (sc : Addr) (Pa : Sy31.Paper) (bs : List Sy31.Bar) (i j : Nat), vs = [.ref sc, .int (i : Int), .int (j : Int)] ∧ ∃ _ : ScoreAt T H sc Pa bs, Q (.bl (!decide (j ≤ i ∨ bs.length < j))) H
theorem sc22 : FnScope ["score", "first", "after"] ["score", "first", "after"] (defScope (top 22)) := ⟨rfl, rfl, rfl, by decide +kernel, rfl, by decide +kernel, by decide +kernel⟩
theorem ok_there (T : Txt K mg) : FnOk P w K mg base CX0 1 T.are_there.f T.are_there.fd ["score", "first", "after"] (spThere T) := by
  refine T.are_there.F.ok sc22 (fun vs H Q E h => ?_) (fun cdv A outer s H vs Q E hr h => ?_)
  · refine hide fun G0 g0 => ?_; obtain ⟨sc, Pa, bs, i, j, rfl, _⟩ := h; refine g0 ?_; clear g0 G0; rfl
  · refine hide fun G0 g0 => ?_; obtain ⟨sc, Pa, bs, i, j, rfl, S, k⟩ := h; refine g0 ?_; clear g0 G0
    refine ⟨_, pss_one (ps_ret (pe_and (pe_cmpR op_lt (pv 1) (pv 2) (nomark _)) (pe_one (pe_cmpR op_le (pv 2) (pe_callB call_len_seq rfl T.len PySem.boot_len (pa_cons (pe_fld (pv 0) rfl) pa_nil)) (nomark _))))), ?_⟩
    try dsimp only [cxOf, Cx.nox]
    refine ⟨_, rfl, _, rfl, _, _, rfl, rfl, _, rfl, ?_⟩
    by_cases h1 : i < j
    · have e1 : decide ((i : Int) < (j : Int)) = true := decide_eq_true (by lia)
      rw [e1]
      refine iteT ⟨_, rfl, _, rfl, rd_bars S ⟨S.lb, _, rfl, .inl (SqL.of S.lst), _, _, rfl, rfl, ?_⟩⟩
      rw [S.len]
      have e2 : decide ((j : Int) ≤ (bs.length : Int)) = !decide (j ≤ i ∨ bs.length < j) := by
        rw [Bool.eq_iff_iff, decide_eq_true_eq, Bool.not_eq_true', decide_eq_false_iff_not]; lia
      show Q (V.bl (decide ((j : Int) ≤ (bs.length : Int)))) H
      rw [e2]; exact k
    · have e1 : decide ((i : Int) < (j : Int)) = false := decide_eq_false (by lia)
      rw [e1]
      have e2 : (!decide (j ≤ i ∨ bs.length < j)) = false := by rw [decide_eq_true (show j ≤ i ∨ bs.length < j by lia)]; rfl
      rw [e2] at k
      exact iteF k
def spWidth (T : Txt K mg) (f : List Sy31.Bar → Nat) : Sp := fun vs H Q _ => ∃ (sc : Addr) (Pa : Sy31.Paper) (bs : List Sy31.Bar) (i j : Nat), vs = [.ref sc, .int (i : Int), .int (j : Int)] ∧ i ≤ j ∧ j ≤ bs.length ∧ bs.length ≤ 24 ∧ ∃ _ : ScoreAt T H sc Pa bs, ∀ H' : Hp, Same H H' → Q (.int ((f (Sy31.part bs i j) : Nat) : Int)) H'
theorem sc24 : FnScope ["score", "first", "after", "bar"] ["score", "first", "after"] (defScope (top 24)) := ⟨rfl, rfl, rfl, by decide +kernel, rfl, by decide +kernel, by decide +kernel⟩
theorem ok_least (T : Txt K mg) : FnOk P w K mg base CX0 1 T.least_width.f T.least_width.fd ["score", "first", "after"] (spWidth T Sy31.least) := by
  refine T.least_width.F.ok sc24 (fun vs H Q E h => ?_) (fun cdv A outer s H vs Q E hr h => ?_)
  · refine hide fun G0 g0 => ?_; obtain ⟨sc, Pa, bs, i, j, rfl, _⟩ := h; refine g0 ?_; clear g0 G0; rfl
  · refine hide fun G0 g0 => ?_; obtain ⟨sc, Pa, bs, i, j, rfl, h1, h2, h3, S, k⟩ := h; refine g0 ?_; clear g0 G0
    refine ⟨_, pss_one (ps_ret (pe_callB (cr_sum rfl) rfl T.sum boot_sum1 (pa_cons (pe_lc (own := [("bar", 3)]) (te := tFld K (tVar 3) "least") rfl sc24.nd (pi_list (pe_slice sl_list (pe_fld (pv 0) rfl) (po_some (pv 1)) (po_some (pv 2)))) (blkOk_by (by kernel_rfl)) (fun _ _ _ _ _ => pg_name (i := 3) sc24.nd rfl (Or.inl rfl)) (fun _ _ _ _ _ => pts_nil)
          (fun _ _ _ _ _ => pe_fld (pv 3) (by rfl))) pa_nil))), ?_⟩
    try dsimp only [cxOf, Cx.nox]
    refine ⟨_, rfl, rd_bars S ⟨_, rfl, _, rfl, _, rfl, _, rfl, S.lb, _, rfl, SqL.of S.lst, fun p hp => ?_⟩⟩
    rw [cut_bars S (Nat.le_trans h1 h2) h2]
    refine ⟨p, rfl, ⟨_, SqL.of upd_same⟩, fun D hD => ?_⟩
    refine lc_map (ys := ((Sy31.part bs i j).map fun b => (b.least : Int)).map V.int) (SqL.of upd_same) hD (by rw [cut_len S h2, List.length_map, List.length_map]) (by rw [cut_len S h2, part_length h2]; exact small_lt (Nat.le_trans (Nat.sub_le _ _) (Nat.le_trans h2 h3)) (by decide)) (fun t x y H' Q' hx hy s k2 => ?_) fun H' s hD' => ⟨D, _, rfl, SqL.of hD', ?_⟩
    · obtain ⟨a, b, d, rfl, hb, ha⟩ := cut_at S hx
      rw [List.getElem?_map, List.getElem?_map, hb] at hy
      have hy' := Option.some.inj hy
      subst hy'
      exact ⟨_, rfl, rd_bf (s _ _ (Same.new hp _ _ ha)) (List.mem_of_getElem? (i := 0) rfl) (bar_least b) (k2 H' (Same.refl H'))⟩
    · rw [sum_map_total]
      exact k H' ((Same.new hp).trans s)
theorem sc25 : FnScope ["score", "first", "after", "bar"] ["score", "first", "after"] (defScope (top 25)) := ⟨rfl, rfl, rfl, by decide +kernel, rfl, by decide +kernel, by decide +kernel⟩
theorem ok_wished (T : Txt K mg) : FnOk P w K mg base CX0 1 T.wished_width.f T.wished_width.fd ["score", "first", "after"] (spWidth T Sy31.wished) := by
  refine T.wished_width.F.ok sc25 (fun vs H Q E h => ?_) (fun cdv A outer s H vs Q E hr h => ?_)
  · refine hide fun G0 g0 => ?_; obtain ⟨sc, Pa, bs, i, j, rfl, _⟩ := h; refine g0 ?_; clear g0 G0; rfl
  · refine hide fun G0 g0 => ?_; obtain ⟨sc, Pa, bs, i, j, rfl, h1, h2, h3, S, k⟩ := h; refine g0 ?_; clear g0 G0
    refine ⟨_, pss_one (ps_ret (pe_callB (cr_sum rfl) rfl T.sum boot_sum1 (pa_cons (pe_lc (own := [("bar", 3)]) (te := tFld K (tVar 3) "wished") rfl sc25.nd (pi_list (pe_slice sl_list (pe_fld (pv 0) rfl) (po_some (pv 1)) (po_some (pv 2)))) (blkOk_by (by kernel_rfl)) (fun _ _ _ _ _ => pg_name (i := 3) sc25.nd rfl (Or.inl rfl)) (fun _ _ _ _ _ => pts_nil)
          (fun _ _ _ _ _ => pe_fld (pv 3) (by rfl))) pa_nil))), ?_⟩
    try dsimp only [cxOf, Cx.nox]
    refine ⟨_, rfl, rd_bars S ⟨_, rfl, _, rfl, _, rfl, _, rfl, S.lb, _, rfl, SqL.of S.lst, fun p hp => ?_⟩⟩
    rw [cut_bars S (Nat.le_trans h1 h2) h2]
    refine ⟨p, rfl, ⟨_, SqL.of upd_same⟩, fun D hD => ?_⟩
    refine lc_map (ys := ((Sy31.part bs i j).map fun b => (b.wish : Int)).map V.int) (SqL.of upd_same) hD (by rw [cut_len S h2, List.length_map, List.length_map]) (by rw [cut_len S h2, part_length h2]; exact small_lt (Nat.le_trans (Nat.sub_le _ _) (Nat.le_trans h2 h3)) (by decide)) (fun t x y H' Q' hx hy s k2 => ?_) fun H' s hD' => ⟨D, _, rfl, SqL.of hD', ?_⟩
    · obtain ⟨a, b, d, rfl, hb, ha⟩ := cut_at S hx
      rw [List.getElem?_map, List.getElem?_map, hb] at hy
      have hy' := Option.some.inj hy
      subst hy'
      exact ⟨_, rfl, rd_bf (s _ _ (Same.new hp _ _ ha)) (List.mem_of_getElem? (i := 1) rfl) (bar_wished b) (k2 H' (Same.refl H'))⟩
    · rw [sum_map_total]
      exact k H' ((Same.new hp).trans s)
def spRoom (T : Txt K mg) : Sp := fun vs H Q _ => ∃ (sc : Addr) (Pa : Sy31.Paper) (bs : List Sy31.Bar) (i : Nat), vs = [.ref sc, .int (i : Int)] ∧ i < bs.length ∧ ∃ _ : ScoreAt T H sc Pa bs, Q (.int ((Pa.width : Int) - ((Sy31.barAt bs i).head : Int))) H
theorem sc26 : FnScope ["score", "first"] ["score", "first"] (defScope (top 26)) := ⟨rfl, rfl, rfl, by decide +kernel, rfl, by decide +kernel, by decide +kernel⟩
theorem ok_room (T : Txt K mg) : FnOk P w K mg base CX0 1 T.room_of.f T.room_of.fd ["score", "first"] (spRoom T) := by
  refine T.room_of.F.ok sc26 (fun vs H Q E h => ?_) (fun cdv A outer s H vs Q E hr h => ?_)
  · obtain ⟨sc, Pa, bs, i, rfl, _⟩ := h; rfl
  · refine hide fun G0 g0 => ?_; obtain ⟨sc, Pa, bs, i, rfl, hi, S, k⟩ := h; refine g0 ?_; clear g0 G0
    obtain ⟨a, d, hat, ha⟩ := bar_at S hi
    refine ⟨_, pss_one (ps_ret (pe_op op_sub (pe_fld (pe_fld (pv 0) rfl) rfl) (pe_fld (pe_ix ix_list (pe_fld (pv 0) rfl) (pv 1) (fun _ _ => rfl)) rfl))), ?_⟩
    try dsimp only [cxOf, Cx.nox]
    refine ⟨_, rfl, rd_paper S (rd_pf S.pap (List.mem_of_getElem? (i := 0) rfl) (pap_width Pa) ?_)⟩
    refine ⟨_, rfl, rd_bars S ⟨_, rfl, S.lb, _, _, _, rfl, rfl, SqL.of S.lst, atI_nat hat, ?_⟩⟩
    exact rd_bf ha (List.mem_of_getElem? (i := 2) rfl) (bar_head _) ⟨_, _, rfl, rfl, k⟩
end
end Bp
end
section
set_option Elab.async false
set_option linter.all false
set_option maxRecDepth 100000
set_option maxHeartbeats 2000000
namespace Bp
open PySem PySem.Spec PyProof.Rows L2
section
variable {P : Program} {w : World} {K : PySem.W.Frag} {mg : Str → Option Value} {base : Heap}
def spGoes (T : Txt K mg) : Sp := fun vs H Q _ => ∃ (sc : Addr) (Pa : Sy31.Paper) (bs : List Sy31.Bar) (i j : Nat), vs = [.ref sc, .int (i : Int), .int (j : Int)] ∧ i < j ∧ j ≤ bs.length ∧ bs.length ≤ 24 ∧ ∃ _ : ScoreAt T H sc Pa bs, ∀ H' : Hp, Same H H' → Q (.bl (Sy31.goes Pa bs i j)) H'
theorem sc27 : FnScope ["score", "first", "after"] ["score", "first", "after"] (defScope (top 27)) := ⟨rfl, rfl, rfl, by decide +kernel, rfl, by decide +kernel, by decide +kernel⟩
theorem ok_goes (T : Txt K mg) : FnOk P w K mg base CX0 2 T.goes.f T.goes.fd ["score", "first", "after"] (spGoes T) := by
  refine T.goes.F.ok sc27 (fun vs H Q E h => ?_) (fun cdv A outer s H vs Q E hr h => ?_)
  · refine hide fun G0 g0 => ?_; obtain ⟨sc, Pa, bs, i, j, rfl, _⟩ := h; refine g0 ?_; clear g0 G0; rfl
  · refine hide fun G0 g0 => ?_; obtain ⟨sc, Pa, bs, i, j, rfl, h1, h2, h3, S, k⟩ := h; refine g0 ?_; clear g0 G0
    refine ⟨_, pss_one (ps_ret (pe_cmpR op_le (pcall T.least_width (ok_least T) hr (pa_cons (pv 0) (pa_cons (pv 1) (pa_cons (pv 2) pa_nil)))) (pcall T.room_of (ok_room T) hr (pa_cons (pv 0) (pa_cons (pv 1) pa_nil))) (nomark _))), ?_⟩
    try dsimp only [cxOf, Cx.nox]
    refine ⟨_, rfl, _, rfl, _, rfl, sc, Pa, bs, i, j, rfl, Nat.le_of_lt h1, h2, h3, S, fun H1 s1 => ?_⟩
    refine ⟨_, rfl, _, rfl, sc, Pa, bs, i, rfl, Nat.lt_of_lt_of_le h1 h2, S.same s1, _, _, rfl, rfl, ?_⟩
    have e : decide (((Sy31.least (Sy31.part bs i j) : Nat) : Int) ≤ (Pa.width : Int) - ((Sy31.barAt bs i).head : Int)) = Sy31.goes Pa bs i j := by
      unfold Sy31.goes
      rw [Bool.eq_iff_iff, decide_eq_true_eq, decide_eq_true_eq]; lia
    have k' := k H1 s1
    rw [← e] at k'
    exact k'
def spEnds (T : Txt K mg) : Sp := fun vs H Q _ => ∃ (sc : Addr) (Pa : Sy31.Paper) (bs : List Sy31.Bar) (i j : Nat), vs = [.ref sc, .int (i : Int), .int (j : Int)] ∧ i < j ∧ j ≤ bs.length ∧ Ok Pa bs ∧ ∃ _ : ScoreAt T H sc Pa bs, ∀ H' : Hp, Same H H' → Q (.bl (Sy31.mayEnd bs i j)) H'
theorem sc28 : FnScope ["score", "first", "after", "bar"] ["score", "first", "after"] (defScope (top 28)) := ⟨rfl, rfl, rfl, by decide +kernel, rfl, by decide +kernel, by decide +kernel⟩
theorem ok_ends (T : Txt K mg) : FnOk P w K mg base CX0 2 T.ends_well.f T.ends_well.fd ["score", "first", "after"] (spEnds T) := by
  refine T.ends_well.F.ok sc28 (fun vs H Q E h => ?_) (fun cdv A outer s H vs Q E hr h => ?_)
  · refine hide fun G0 g0 => ?_; obtain ⟨sc, Pa, bs, i, j, rfl, _⟩ := h; refine g0 ?_; clear g0 G0; rfl
  · refine hide fun G0 g0 => ?_; obtain ⟨sc, Pa, bs, i, j, rfl, h1, h2, ok, S, k⟩ := h; refine g0 ?_; clear g0 G0
    refine ⟨_, pss_cons (ps_for PassesOwn.never rfl (pi_list (pe_slice sl_list (pe_fld (pv 0) rfl) (po_some (pv 1)) (po_some (pe_op op_sub (pv 2) pe_int)))) (pg_name (i := 3) sc28.nd rfl (Or.inl rfl))
        (pss_one (ps_if (PW.pt (pw_or (pt_cmpR op_eq (pe_fld (pv 3) rfl) (pe_gint T.LINE_END) (nomark _)) (pw_or1 (pt_cmpR op_eq (pe_fld (pv 3) rfl) (pe_gint T.PAGE_END) (nomark _))))) (pss_one (ps_ret pe_bl)) pss_nil)))
      (pss_one (ps_ret (pe_or (pcall T.is_last_line (ok_last T) hr (pa_cons (pv 0) (pa_cons (pv 2) pa_nil)))
        (pe_one (pe_cmpR op_ne (pe_fld (pe_ix ix_list (pe_fld (pv 0) rfl) (pe_op op_sub (pv 2) pe_int) (fun _ _ => rfl)) rfl) (pe_gint T.NO_LINE_END) (nomark _)))))), ?_⟩
    try dsimp only [cxOf, Cx.nox]
    refine ⟨_, rfl, rd_bars S ⟨_, rfl, _, rfl, _, rfl, _, _, rfl, rfl, _, rfl, S.lb, _, rfl, SqL.of S.lst, fun p hp => ?_⟩⟩
    have ej : ((j : Int) - 1) = ((j - 1 : Nat) : Int) := by lia
    have s1 : Same H (upd H p (.lst (((S.as.drop i).take (j - 1 - i)).map V.ref))) := Same.new hp
    rw [ej, cut_bars S (by lia) (by lia)]
    refine ⟨p, rfl, ⟨_, SqL.of upd_same⟩, ?_⟩
    refine for_list (K := K) (a := p) (xs := ((S.as.drop i).take (j - 1 - i)).map V.ref) (fun t σ H' => H' = upd H p (.lst (((S.as.drop i).take (j - 1 - i)).map V.ref)) ∧ (∃ v, σ = [some (.ref sc), some (.int (i : Int)), some (.int (j : Int)), v]) ∧ ∀ b ∈ (Sy31.part bs i (j - 1)).take t, b.ends ≤ 1)
      ⟨rfl, ⟨none, rfl⟩, fun b hb => by simp at hb⟩ (fun t σ H' _ q => by rw [q.1]; exact SqL.of upd_same) ?_ ?_
    · rintro t x σ H' hx ⟨rfl, ⟨v, rfl⟩, hb⟩
      obtain ⟨a, b, d, rfl, hbt, ha⟩ := cut_at S hx
      have ha' := s1 _ _ ha
      have hm : b ∈ Sy31.part bs i (j - 1) := List.mem_of_getElem? hbt
      have bo := ok.bars b (part_mem hm)
      have bad : 1 < b.ends → Sy31.mayEnd bs i j = false := fun h => by
        unfold Sy31.mayEnd
        rw [Bool.and_eq_false_iff]
        left
        rw [List.all_eq_false]
        exact ⟨b, hm, by simp; lia⟩
      refine ⟨_, rfl, rd_bf ha' (List.mem_of_getElem? (i := 4) rfl) (bar_ends b) ⟨rfl, _, rfl, ?_⟩⟩
      have e2 : decide (V.int (b.ends : Int) = V.int 2) = decide (b.ends = 2) := dec_nat b.ends 2
      have e3 : decide (V.int (b.ends : Int) = V.int 3) = decide (b.ends = 3) := dec_nat b.ends 3
      rw [e2]
      by_cases q2 : b.ends = 2
      · rw [decide_eq_true q2]
        have k' := k _ s1
        rw [bad (by lia)] at k'
        exact iteT (iteT k')
      · rw [decide_eq_false q2]
        refine iteF ⟨_, rfl, rd_bf ha' (List.mem_of_getElem? (i := 4) rfl) (bar_ends b) ⟨rfl, _, rfl, ?_⟩⟩
        rw [e3]
        by_cases q3 : b.ends = 3
        · rw [decide_eq_true q3]
          have k' := k _ s1
          rw [bad (by lia)] at k'
          exact iteT k'
        · rw [decide_eq_false q3]
          refine iteF ⟨rfl, ⟨_, rfl⟩, fun b' hb' => ?_⟩
          rw [List.take_add_one, hbt] at hb'
          rcases List.mem_append.mp hb' with z | z
          · exact hb b' z
          · have z' : b' = b := by simpa using z
            have := bo.e
            rw [z']; lia
    · rintro σ H' ⟨rfl, ⟨v, rfl⟩, hb⟩
      have S1 := S.same s1
      have all1 : ((Sy31.part bs i (j - 1)).all fun (b : Sy31.Bar) => decide (b.ends ≤ 1)) = true := by
        rw [List.all_eq_true]
        intro b hm
        refine decide_eq_true (hb b ?_)
        rw [cut_len S (by lia), List.take_length]
        exact hm
      have em : Sy31.mayEnd bs i j = (j == bs.length || (Sy31.barAt bs (j - 1)).ends != 1) := by unfold Sy31.mayEnd; rw [all1]; rfl
      have k' := k _ s1
      rw [em] at k'
      refine ⟨_, rfl, _, rfl, sc, Pa, bs, j, rfl, S1, _, rfl, ?_⟩
      by_cases hj : j = bs.length
      · rw [decide_eq_true hj]
        have : (j == bs.length) = true := by simpa using hj
        rw [this] at k'
        exact iteT k'
      · rw [decide_eq_false hj]
        have : (j == bs.length) = false := by simpa using hj
        rw [this, Bool.false_or] at k'
        obtain ⟨a, d, hat, ha⟩ := bar_at S1 (show j - 1 < bs.length by lia)
        refine iteF ⟨_, rfl, rd_bars S1 ⟨_, rfl, _, _, rfl, rfl, S1.lb, _, _, _, rfl, rfl, SqL.of S1.lst, at_of ej hat, ?_⟩⟩
        refine rd_bf ha (List.mem_of_getElem? (i := 4) rfl) (bar_ends _) ⟨rfl, ?_⟩
        have e4 : (!decide (V.int ((Sy31.barAt bs (j - 1)).ends : Int) = V.int 1)) = ((Sy31.barAt bs (j - 1)).ends != 1) := by
          have := dec_nat (Sy31.barAt bs (j - 1)).ends 1
          rw [show V.int 1 = V.int ((1 : Nat) : Int) from rfl, this]
          rfl
        show Q (.bl (!decide (V.int ((Sy31.barAt bs (j - 1)).ends : Int) = V.int 1))) _
        rw [e4]
        exact k'
def spRefusal (T : Txt K mg) : Sp := fun vs H Q _ => ∃ (sc : Addr) (Pa : Sy31.Paper) (bs : List Sy31.Bar) (i j : Nat), vs = [.ref sc, .int (i : Int), .int (j : Int)] ∧ Ok Pa bs ∧ ∃ _ : ScoreAt T H sc Pa bs, ∀ H' : Hp, Same H H' → Q (.int (refI Pa bs i j)) H'
theorem sc29 : FnScope ["score", "first", "after"] ["score", "first", "after"] (defScope (top 29)) := ⟨rfl, rfl, rfl, by decide +kernel, rfl, by decide +kernel, by decide +kernel⟩
theorem ok_refusal (T : Txt K mg) : FnOk P w K mg base CX0 3 T.refusal_of_line.f T.refusal_of_line.fd ["score", "first", "after"] (spRefusal T) := by
  refine T.refusal_of_line.F.ok sc29 (fun vs H Q E h => ?_) (fun cdv A outer s H vs Q E hr h => ?_)
  · refine hide fun G0 g0 => ?_; obtain ⟨sc, Pa, bs, i, j, rfl, _⟩ := h; refine g0 ?_; clear g0 G0; rfl
  · refine hide fun G0 g0 => ?_; obtain ⟨sc, Pa, bs, i, j, rfl, ok, S, k⟩ := h; refine g0 ?_; clear g0 G0
    unfold refI at k
    refine ⟨_, pss_cons (ps_if (pt_not (pt_val (pcall T.are_there (ok_there T) (hr.mono (by decide)) (pa_cons (pv 0) (pa_cons (pv 1) (pa_cons (pv 2) pa_nil)))))) (pss_one (ps_ret (pe_gint T.NO_SUCH_BARS))) pss_nil)
      (pss_cons (ps_if (pt_not (pt_val (pcall T.goes (ok_goes T) hr (pa_cons (pv 0) (pa_cons (pv 1) (pa_cons (pv 2) pa_nil)))))) (pss_one (ps_ret (pe_gint T.DOES_NOT_GO))) pss_nil)
      (pss_cons (ps_if (pt_not (pt_val (pcall T.ends_well (ok_ends T) hr (pa_cons (pv 0) (pa_cons (pv 1) (pa_cons (pv 2) pa_nil)))))) (pss_one (ps_ret (pe_gint T.MAY_NOT_BE))) pss_nil)
      (pss_one (ps_ret pe_int)))), ?_⟩
    try dsimp only [cxOf, Cx.nox]
    refine ⟨_, rfl, _, rfl, _, rfl, sc, Pa, bs, i, j, rfl, S, _, rfl, ?_⟩
    by_cases c1 : j ≤ i ∨ bs.length < j
    · rw [decide_eq_true c1]
      rw [if_pos c1] at k
      exact iteT (k H (Same.refl H))
    · rw [decide_eq_false c1]
      rw [if_neg c1] at k
      refine iteF ⟨_, rfl, _, rfl, _, rfl, sc, Pa, bs, i, j, rfl, by lia, by lia, ok.len, S, fun H1 s1 => ⟨_, rfl, ?_⟩⟩
      cases c2 : Sy31.goes Pa bs i j with
      | false =>
        rw [if_pos c2] at k
        exact iteT (k H1 s1)
      | true =>
        rw [if_neg (by rw [c2]; simp)] at k
        refine iteF ⟨_, rfl, _, rfl, _, rfl, sc, Pa, bs, i, j, rfl, by lia, by lia, ok, S.same s1, fun H2 s2 => ⟨_, rfl, ?_⟩⟩
        cases c3 : Sy31.mayEnd bs i j with
        | false =>
          rw [if_pos c3] at k
          exact iteT (k H2 (s1.trans s2))
        | true =>
          rw [if_neg (by rw [c3]; simp)] at k
          exact iteF (k H2 (s1.trans s2))
end
end Bp
end
section
set_option Elab.async false
set_option linter.all false
set_option maxRecDepth 100000
set_option maxHeartbeats 2000000
namespace Bp
open PySem PySem.Spec PyProof.Rows L2
section
variable {P : Program} {w : World} {K : PySem.W.Frag} {mg : Str → Option Value} {base : Heap}
/-! ### cost_of_line -/
def spCost (T : Txt K mg) : Sp := fun vs H Q _ => ∃ (sc : Addr) (Pa : Sy31.Paper) (bs : List Sy31.Bar) (i j : Nat), vs = [.ref sc, .int (i : Int), .int (j : Int)] ∧ i < j ∧ j ≤ bs.length ∧ Sy31.goes Pa bs i j = true ∧ Ok Pa bs ∧ ∃ _ : ScoreAt T H sc Pa bs, ∀ H' : Hp, Same H H' → Q (.int ((Sy31.lineCost Pa bs i j : Nat) : Int)) H'
theorem sc30 : FnScope ["score", "first", "after", "paper", "wished", "room", "slack"] ["score", "first", "after"] (defScope (top 30)) := ⟨rfl, rfl, rfl, by decide +kernel, rfl, by decide +kernel, by decide +kernel⟩
theorem mulB {a b : Nat} (h : a ≤ 1000) : CMul (a : Int) (b : Int) := .inl ⟨by lia, by lia⟩
theorem quot {a b c : Nat} : ((a : Int) * (b : Int)) / (c : Int) = ((a * b / c : Nat) : Int) := by
  rw [← Int.natCast_mul]; exact (Int.natCast_ediv _ _).symm
theorem ok_cost (T : Txt K mg) : FnOk P w K mg base CX0 2 T.cost_of_line.f T.cost_of_line.fd ["score", "first", "after"] (spCost T) := by
  refine T.cost_of_line.F.ok sc30 (fun vs H Q E h => ?_) (fun cdv A outer s H vs Q E hr h => ?_)
  · refine hide fun G0 g0 => ?_; obtain ⟨sc, Pa, bs, i, j, rfl, _⟩ := h; refine g0 ?_; clear g0 G0; rfl
  · refine hide fun G0 g0 => ?_; obtain ⟨sc, Pa, bs, i, j, rfl, h1, h2, hg, ok, S, k⟩ := h; refine g0 ?_; clear g0 G0
    refine ⟨_, pss_cons (ps_set (i := 3) sc30.nd rfl (Or.inl rfl) (pe_fld (pv 0) rfl))
      (pss_cons (ps_set (i := 4) sc30.nd rfl (Or.inl rfl) (pcall T.wished_width (ok_wished T) hr (pa_cons (pv 0) (pa_cons (pv 1) (pa_cons (pv 2) pa_nil)))))
      (pss_cons (ps_set (i := 5) sc30.nd rfl (Or.inl rfl) (pcall T.room_of (ok_room T) hr (pa_cons (pv 0) (pa_cons (pv 1) pa_nil))))
      (pss_cons (ps_if (pt_cmpR op_gt (pv 4) (pv 5) (nomark _))
        (pss_cons (ps_set (i := 6) sc30.nd rfl (Or.inl rfl) (pe_op op_sub (pv 4) (pcall T.least_width (ok_least T) hr (pa_cons (pv 0) (pa_cons (pv 1) (pa_cons (pv 2) pa_nil))))))
        (pss_one (ps_ret (pe_op op_add (pe_fld (pv 3) rfl) (pe_op op_fdiv (pe_op op_mul (pe_fld (pv 3) rfl) (pe_op op_pow (pe_op op_sub (pv 4) (pv 5)) pe_int)) (pv 6)))))) pss_nil)
      (pss_cons (ps_if (pt_val (pcall T.is_last_line (ok_last T) hr (pa_cons (pv 0) (pa_cons (pv 2) pa_nil)))) (pss_one (ps_ret (pe_fld (pv 3) rfl))) pss_nil)
      (pss_one (ps_ret (pe_op op_add (pe_fld (pv 3) rfl) (pe_op op_fdiv (pe_op op_mul (pe_fld (pv 3) rfl) (pe_op op_pow (pe_op op_sub (pv 5) (pv 4)) pe_int)) (pv 4))))))))), ?_⟩
    try dsimp only [cxOf, Cx.nox]
    have hle := goes_le hg
    have hlw := least_le_wished (i := i) (j := j) ok
    have hwp := wished_pos ok h1 h2
    have hwl := wished_le (i := i) ok h2
    have hst := ok.pap.st
    have hsq := ok.pap.sq
    have hwd := ok.pap.w
    have hrm : (Pa.width : Int) - ((Sy31.barAt bs i).head : Int) = ((Sy31.room Pa bs i : Nat) : Int) := by unfold Sy31.room; lia
    have hr1 : Sy31.room Pa bs i ≤ 1000 := by unfold Sy31.room; lia
    have hlr : Sy31.least (Sy31.part bs i j) ≤ Sy31.room Pa bs i := by unfold Sy31.room; lia
    refine ⟨_, rfl, rd_paper S ?_⟩
    refine ⟨_, rfl, _, rfl, _, rfl, sc, Pa, bs, i, j, rfl, Nat.le_of_lt h1, h2, ok.len, S, fun H1 s1 => ?_⟩
    have S1 := S.same s1
    have p1 := s1 _ _ S.pap
    refine ⟨_, rfl, _, rfl, sc, Pa, bs, i, rfl, Nat.lt_of_lt_of_le h1 h2, S1, ?_⟩
    rw [hrm]
    refine ⟨_, rfl, _, rfl, _, _, rfl, rfl, _, rfl, ?_⟩
    have k' := k H1 s1
    by_cases c : Sy31.wished (Sy31.part bs i j) ≤ Sy31.room Pa bs i
    · have e1 : decide (((Sy31.room Pa bs i : Nat) : Int) < ((Sy31.wished (Sy31.part bs i j) : Nat) : Int)) = false := decide_eq_false (by lia)
      rw [e1]
      refine iteF ⟨_, rfl, _, rfl, sc, Pa, bs, j, rfl, S1, _, rfl, ?_⟩
      by_cases cj : j = bs.length
      · rw [decide_eq_true cj]
        have e2 : Sy31.lineCost Pa bs i j = Pa.line := by
          unfold Sy31.lineCost
          dsimp only
          rw [if_pos c, if_pos cj]; lia
        rw [e2] at k'
        refine iteT ⟨_, rfl, rd_pf p1 (List.mem_of_getElem? (i := 5) rfl) (pap_line Pa) k'⟩
      · rw [decide_eq_false cj]
        have e2 : Sy31.lineCost Pa bs i j = Pa.line + Pa.stretch * ((Sy31.room Pa bs i - Sy31.wished (Sy31.part bs i j)) * (Sy31.room Pa bs i - Sy31.wished (Sy31.part bs i j))) / Sy31.wished (Sy31.part bs i j) := by
          unfold Sy31.lineCost
          dsimp only
          rw [if_pos c, if_neg cj, Nat.max_eq_right hwp]
        rw [e2] at k'
        refine iteF ⟨_, rfl, rd_pf p1 (List.mem_of_getElem? (i := 5) rfl) (pap_line Pa) ?_⟩
        refine ⟨_, rfl, rd_pf p1 (List.mem_of_getElem? (i := 3) rfl) (pap_stretch Pa) ?_⟩
        have ed : ((Sy31.room Pa bs i : Nat) : Int) - ((Sy31.wished (Sy31.part bs i j) : Nat) : Int) = ((Sy31.room Pa bs i - Sy31.wished (Sy31.part bs i j) : Nat) : Int) := by lia
        refine ⟨_, rfl, _, rfl, _, _, rfl, rfl, _, _, rfl, rfl, ⟨by decide, by decide, by lia⟩, ?_⟩
        have ep : (((Sy31.room Pa bs i : Nat) : Int) - ((Sy31.wished (Sy31.part bs i j) : Nat) : Int)) ^ (2 : Int).toNat = (((Sy31.room Pa bs i - Sy31.wished (Sy31.part bs i j)) * (Sy31.room Pa bs i - Sy31.wished (Sy31.part bs i j)) : Nat) : Int) := by
          rw [ed]; exact sq_nat _
        refine ⟨_, _, rfl, rfl, by rw [ep]; exact mulB hst, ?_⟩
        refine ⟨_, rfl, _, _, rfl, rfl, ⟨by lia, by lia⟩, ?_⟩
        refine ⟨_, _, rfl, rfl, ?_⟩
        rw [ep, quot]
        exact k'
    · have e1 : decide (((Sy31.room Pa bs i : Nat) : Int) < ((Sy31.wished (Sy31.part bs i j) : Nat) : Int)) = true := decide_eq_true (by lia)
      rw [e1]
      refine iteT ⟨_, rfl, _, rfl, _, rfl, _, rfl, sc, Pa, bs, i, j, rfl, Nat.le_of_lt h1, h2, ok.len, S1, fun H2 s2 => ?_⟩
      have p2 := s2 _ _ p1
      have k2 := k H2 (s1.trans s2)
      have e2 : Sy31.lineCost Pa bs i j = Pa.line + Pa.squeeze * ((Sy31.wished (Sy31.part bs i j) - Sy31.room Pa bs i) * (Sy31.wished (Sy31.part bs i j) - Sy31.room Pa bs i)) / (Sy31.wished (Sy31.part bs i j) - Sy31.least (Sy31.part bs i j)) := by
        unfold Sy31.lineCost
        dsimp only
        rw [if_neg c, Nat.max_eq_right (by lia)]
      rw [e2] at k2
      have es : ((Sy31.wished (Sy31.part bs i j) : Nat) : Int) - ((Sy31.least (Sy31.part bs i j) : Nat) : Int) = ((Sy31.wished (Sy31.part bs i j) - Sy31.least (Sy31.part bs i j) : Nat) : Int) := by lia
      refine ⟨_, _, rfl, rfl, ?_⟩
      refine ⟨_, rfl, rd_pf p2 (List.mem_of_getElem? (i := 5) rfl) (pap_line Pa) ?_⟩
      refine ⟨_, rfl, rd_pf p2 (List.mem_of_getElem? (i := 4) rfl) (pap_squeeze Pa) ?_⟩
      have ed : ((Sy31.wished (Sy31.part bs i j) : Nat) : Int) - ((Sy31.room Pa bs i : Nat) : Int) = ((Sy31.wished (Sy31.part bs i j) - Sy31.room Pa bs i : Nat) : Int) := by lia
      refine ⟨_, rfl, _, rfl, _, _, rfl, rfl, _, _, rfl, rfl, ⟨by decide, by decide, by lia⟩, ?_⟩
      have ep : (((Sy31.wished (Sy31.part bs i j) : Nat) : Int) - ((Sy31.room Pa bs i : Nat) : Int)) ^ (2 : Int).toNat = (((Sy31.wished (Sy31.part bs i j) - Sy31.room Pa bs i) * (Sy31.wished (Sy31.part bs i j) - Sy31.room Pa bs i) : Nat) : Int) := by
        rw [ed]; exact sq_nat _
      refine ⟨_, _, rfl, rfl, by rw [ep]; exact mulB hsq, ?_⟩
      refine ⟨_, rfl, _, _, rfl, rfl, ⟨by lia, by lia⟩, ?_⟩
      refine ⟨_, _, rfl, rfl, ?_⟩
      rw [ep, es, quot]
      exact k2
end
end Bp
end
section
set_option Elab.async false
set_option linter.all false
set_option maxRecDepth 100000
set_option maxHeartbeats 2000000
namespace Bp
open PySem PySem.Spec PyProof.Rows L2
section
variable {P : Program} {w : World} {K : PySem.W.Frag} {mg : Str → Option Value} {base : Heap}
/-! ### Rest -/
theorem res_ways (r : PyR) : (resF r).lookup ("ways" : Str) = some (.int r.ways) := by kernel_rfl
theorem res_cheap (r : PyR) : (resF r).lookup ("cheapest" : Str) = some (.int r.cheap) := by kernel_rfl
theorem res_cost (r : PyR) : (resF r).lookup ("cost" : Str) = some (.int r.cost) := by kernel_rfl
theorem res_len (r : PyR) : (resF r).lookup ("length" : Str) = some (.int r.len) := by kernel_rfl
theorem res_ends (r : PyR) : (resF r).lookup ("page_ends" : Str) = some (.bl r.ends) := by kernel_rfl
theorem rd_rf {T : Txt K mg} {H : Hp} {p d : Addr} {r : PyR} {x : Str} {v : V} {Q : V → Prop} (h : H p = some (.ins T.Rest.c d (resF r))) (hx : x ∈ (["ways", "cheapest", "cost", "length", "page_ends"] : List Str)) (hv : (resF r).lookup x = some v) (k : Q v) :
    ∃ a C dx fs v, V.ref p = .ref a ∧ H a = some (.ins C dx fs) ∧ Cls K C ∧ NoAttr K C x ∧ fs.lookup x = some v ∧ Q v := ⟨p, _, d, _, v, rfl, h, T.Rest.cl, T.nRest x hx, hv, k⟩
theorem aug_rf {T : Txt K mg} {H : Hp} {p d : Addr} {r : PyR} {x : Str} {v : V} {R : Addr → Addr → V → Prop} (h : H p = some (.ins T.Rest.c d (resF r))) (hx : x ∈ (["ways", "cheapest", "cost", "length", "page_ends"] : List Str)) (hv : (resF r).lookup x = some v) (k : R p T.Rest.c v) :
    ∃ a C dx fs v, V.ref p = .ref a ∧ H a = some (.ins C dx fs) ∧ Cls K C ∧ NoAttr K C x ∧ fs.lookup x = some v ∧ R a C v := ⟨p, _, d, _, v, rfl, h, T.Rest.cl, T.nRest x hx, hv, k⟩
theorem res5 (r : PyR) : (resF r).length < 1000 := by show 5 < 1000; decide
theorem put_ways (r : PyR) (n : Nat) : putF "ways" (.int (n : Int)) (resF r) = resF { r with ways := n } := by kernel_rfl
theorem put_cheap (r : PyR) (n : Nat) : putF "cheapest" (.int (n : Int)) (resF r) = resF { r with cheap := n } := by kernel_rfl
theorem put_cost (r : PyR) (n : Nat) : putF "cost" (.int (n : Int)) (resF r) = resF { r with cost := n } := by kernel_rfl
theorem put_len (r : PyR) (n : Nat) : putF "length" (.int (n : Int)) (resF r) = resF { r with len := n } := by kernel_rfl
theorem put_ends (r : PyR) (b : Bool) : putF "page_ends" (.bl b) (resF r) = resF { r with ends := b } := by kernel_rfl
def spRest (T : Txt K mg) : Sp := fun vs H Q _ => ∃ (p dx : Addr), vs = [.ref p] ∧ H p = some (.ins T.Rest.c dx []) ∧ Q .non (upd H p (.ins T.Rest.c dx (resF .zero)))
theorem sc36 : FnScope ["self"] ["self"] (defScope (inClass (top 36) 0)) := ⟨rfl, rfl, rfl, by decide +kernel, rfl, by decide +kernel, by decide +kernel⟩
theorem ok_rest (T : Txt K mg) : FnOk P w K mg base CX0 1 T.Rest.f T.Rest.fd ["self"] (spRest T) := by
  refine T.Rest.F.ok sc36 (fun vs H Q E h => ?_) (fun cdv A outer s H vs Q E hr h => ?_)
  · obtain ⟨p, dx, rfl, _⟩ := h; rfl
  · obtain ⟨p, dx, rfl, hp, k⟩ := h
    refine ⟨_, pss_cons (ps_fld (pv 0) pe_int rfl) (pss_cons (ps_fld (pv 0) pe_int rfl) (pss_cons (ps_fld (pv 0) pe_int rfl) (pss_cons (ps_fld (pv 0) pe_int rfl) (pss_one (ps_fld (pv 0) pe_bl rfl))))), ?_⟩
    try dsimp only [cxOf, Cx.nox]
    refine ⟨_, rfl, p, T.Rest.c, dx, _, rfl, hp, T.Rest.cl, T.nRest _ (List.mem_of_getElem? (i := 0) rfl), Nat.lt_of_le_of_lt few0 (by decide), ?_⟩
    refine ⟨_, rfl, p, T.Rest.c, dx, _, rfl, upd_same, T.Rest.cl, T.nRest _ (List.mem_of_getElem? (i := 1) rfl), Nat.lt_of_le_of_lt (few few0) (by decide), ?_⟩
    rw [upd_upd]
    refine ⟨_, rfl, p, T.Rest.c, dx, _, rfl, upd_same, T.Rest.cl, T.nRest _ (List.mem_of_getElem? (i := 2) rfl), Nat.lt_of_le_of_lt (few (few few0)) (by decide), ?_⟩
    rw [upd_upd]
    refine ⟨_, rfl, p, T.Rest.c, dx, _, rfl, upd_same, T.Rest.cl, T.nRest _ (List.mem_of_getElem? (i := 3) rfl), Nat.lt_of_le_of_lt (few (few (few few0))) (by decide), ?_⟩
    rw [upd_upd]
    refine ⟨_, rfl, p, T.Rest.c, dx, _, rfl, upd_same, T.Rest.cl, T.nRest _ (List.mem_of_getElem? (i := 4) rfl), Nat.lt_of_le_of_lt (few (few (few (few few0)))) (by decide), ?_⟩
    rw [upd_upd]
    have e : putF "page_ends" (.bl false) (putF "length" (.int 0) (putF "cost" (.int 0) (putF "cheapest" (.int 0) (putF "ways" (.int 0) [])))) = resF .zero := by kernel_rfl
    rw [← e] at k
    exact k
theorem mk_rest {T : Txt K mg} {H : Hp} {x dx : Addr} {Q : Hp → Prop} (nx : H x = none) (nd : H dx = none) (ne : dx ≠ x) (k : ∀ (H' : Hp), Same H H' → H' x = some (.ins T.Rest.c dx (resF .zero)) → Q H') :
    spRest T [.ref x] (upd (upd H dx (.own x)) x (.ins T.Rest.c dx [])) (fun v H2 => v = .non ∧ Q H2) E0 := by
  have s1 : Same H (upd H dx (.own x)) := Same.new nd
  have n2 : upd H dx (.own x) x = none := by rw [upd_ne (Ne.symm ne)]; exact nx
  have s2 : ∀ o, Same H (upd (upd H dx (.own x)) x o) := fun o => s1.trans (Same.new n2)
  refine ⟨x, dx, rfl, upd_same, rfl, ?_⟩
  rw [upd_upd]
  exact k _ (s2 _) upd_same
def spNothing (T : Txt K mg) : Sp := fun vs H Q _ => vs = [] ∧ ∀ (H' : Hp) (x : Addr), H x = none → Same H H' → ResAt T H' x ⟨1, 1, 0, 0, false⟩ → Q (.ref x) H'
theorem sc37 : FnScope ["rest"] [] (defScope (top 37)) := ⟨rfl, rfl, rfl, by decide +kernel, rfl, by decide +kernel, by decide +kernel⟩
theorem Same.upd {H H' : Hp} {x : Addr} {o : HO} (s : Same H H') (h : H x = none) : Same H (upd H' x o) := fun b u e => by rw [upd_ne (ne_of_none e h)]; exact s b u e
theorem ok_nothing (T : Txt K mg) : FnOk P w K mg base CX0 3 T.nothing_left.f T.nothing_left.fd [] (spNothing T) := by
  refine T.nothing_left.F.ok sc37 (fun vs H Q E h => ?_) (fun cdv A outer s H vs Q E hr h => ?_)
  · obtain ⟨rfl, _⟩ := h; rfl
  · obtain ⟨rfl, k⟩ := h
    refine ⟨_, pss_cons (ps_set (i := 0) sc37.nd rfl (Or.inl rfl) (pmake0 T.Rest (ok_rest T) hr)) (pss_cons (ps_fld (pv 0) pe_int rfl) (pss_cons (ps_fld (pv 0) pe_int rfl) (pss_one (ps_ret (pv 0))))), ?_⟩
    try dsimp only [cxOf, Cx.nox]
    intro x dx nx nd ne
    refine mk_rest nx nd ne fun H1 s1 h1 => ?_
    refine ⟨_, rfl, x, T.Rest.c, dx, _, rfl, h1, T.Rest.cl, T.nRest _ (List.mem_of_getElem? (i := 0) rfl), res5 _, ?_⟩
    rw [show V.int 1 = V.int ((1 : Nat) : Int) from rfl, put_ways]
    refine ⟨_, rfl, x, T.Rest.c, dx, _, rfl, upd_same, T.Rest.cl, T.nRest _ (List.mem_of_getElem? (i := 1) rfl), res5 _, ?_⟩
    rw [put_cheap, upd_upd]
    exact ⟨_, rfl, k _ x nx (Same.upd s1 nx) ⟨dx, upd_same⟩⟩
/-! ### pages -/
theorem bit_one (r : Bool) : decide (V.int (bit r) = V.int 1) = r := by cases r <;> rfl
theorem bit_not (r : Bool) : (1 : Int) - bit r = bit (!r) := by cases r <;> rfl
def spPage (T : Txt K mg) : Sp := fun vs H Q _ => ∃ (sc : Addr) (Pa : Sy31.Paper) (bs : List Sy31.Bar) (k1 j : Nat) (r : Bool), vs = [.ref sc, .int (k1 : Int), .int (j : Int), .int (bit r)] ∧ 1 ≤ j ∧ j ≤ bs.length ∧ k1 ≤ Pa.lines ∧ Ok Pa bs ∧ ∃ _ : ScoreAt T H sc Pa bs, Q (.int ((pageCost Pa bs k1 j r : Nat) : Int)) H
theorem sc38 : FnScope ["score", "lines", "after", "right", "paper", "cost"] ["score", "lines", "after", "right"] (defScope (top 38)) := ⟨rfl, rfl, rfl, by decide +kernel, rfl, by decide +kernel, by decide +kernel⟩
theorem ok_page (T : Txt K mg) : FnOk P w K mg base CX0 1 T.cost_of_page.f T.cost_of_page.fd ["score", "lines", "after", "right"] (spPage T) := by
  refine T.cost_of_page.F.ok sc38 (fun vs H Q E h => ?_) (fun cdv A outer s H vs Q E hr h => ?_)
  · refine hide fun G0 g0 => ?_; obtain ⟨sc, Pa, bs, k1, j, r, rfl, _⟩ := h; refine g0 ?_; clear g0 G0; rfl
  · refine hide fun G0 g0 => ?_; obtain ⟨sc, Pa, bs, k1, j, r, rfl, h1, h2, h3, ok, S, k⟩ := h; refine g0 ?_; clear g0 G0
    unfold pageCost at k
    have hl := ok.pap.l
    have he := ok.pap.em
    refine ⟨_, pss_cons (ps_set (i := 4) sc38.nd rfl (Or.inl rfl) (pe_fld (pv 0) rfl))
      (pss_cons (ps_if (pt_cmpR op_eq (pv 2) (pe_callB call_len_seq rfl T.len PySem.boot_len (pa_cons (pe_fld (pv 0) rfl) pa_nil)) (nomark _)) (pss_one (ps_ret (pe_fld (pv 4) rfl))) pss_nil)
      (pss_cons (ps_set (i := 5) sc38.nd rfl (Or.inl rfl) (pe_op op_add (pe_fld (pv 4) rfl) (pe_op op_mul (pe_fld (pv 4) rfl) (pe_op op_pow (pe_op op_sub (pe_fld (pv 4) rfl) (pv 1)) pe_int))))
      (pss_cons (ps_if (pt_cmpR op_eq (pv 3) pe_int (nomark _)) (pss_one (ps_aug (i := 5) sc38.nd rfl (Or.inl rfl) (pe_fld (pe_ix ix_list (pe_fld (pv 0) rfl) (pe_op op_sub (pv 2) pe_int) (fun _ _ => rfl)) rfl) ip_add)) pss_nil)
      (pss_one (ps_ret (pv 5)))))), ?_⟩
    try dsimp only [cxOf, Cx.nox]
    refine ⟨_, rfl, rd_paper S ?_⟩
    refine ⟨_, rfl, _, rfl, rd_bars S ⟨S.lb, _, rfl, .inl (SqL.of S.lst), rfl, _, rfl, ?_⟩⟩
    rw [S.len, dec_nat]
    by_cases c : j = bs.length
    · rw [decide_eq_true c]
      rw [if_pos c] at k
      exact iteT ⟨_, rfl, rd_pf S.pap (List.mem_of_getElem? (i := 6) rfl) (pap_page Pa) k⟩
    · rw [decide_eq_false c]
      rw [if_neg c] at k
      refine iteF ⟨_, rfl, rd_pf S.pap (List.mem_of_getElem? (i := 6) rfl) (pap_page Pa) ?_⟩
      refine ⟨_, rfl, rd_pf S.pap (List.mem_of_getElem? (i := 7) rfl) (pap_empty Pa) ?_⟩
      refine ⟨_, rfl, rd_pf S.pap (List.mem_of_getElem? (i := 1) rfl) (pap_lines Pa) ?_⟩
      have ep : ((Pa.lines : Int) - (k1 : Int)) ^ (2 : Int).toNat = (((Pa.lines - k1) * (Pa.lines - k1) : Nat) : Int) := by
        rw [show (Pa.lines : Int) - (k1 : Int) = ((Pa.lines - k1 : Nat) : Int) by lia]; exact sq_nat _
      refine ⟨_, rfl, _, _, rfl, rfl, _, _, rfl, rfl, ⟨by decide, by decide, by lia⟩, ?_⟩
      refine ⟨_, _, rfl, rfl, by rw [ep]; exact mulB he, ?_⟩
      refine ⟨_, _, rfl, rfl, ?_⟩
      refine ⟨_, rfl, rfl, _, rfl, ?_⟩
      rw [bit_one]
      cases r with
      | true =>
        obtain ⟨a, d, hat, ha⟩ := bar_at S (show j - 1 < bs.length by lia)
        have ej : ((j : Int) - 1) = ((j - 1 : Nat) : Int) := by lia
        refine iteT ⟨_, rfl, _, rfl, rd_bars S ⟨_, rfl, _, _, rfl, rfl, S.lb, _, _, _, rfl, rfl, SqL.of S.lst, at_of ej hat, ?_⟩⟩
        refine rd_bf ha (List.mem_of_getElem? (i := 3) rfl) (bar_turn _) ⟨_, _, rfl, rfl, _, rfl, ?_⟩
        have e : (Pa.page : Int) + (Pa.empty_ : Int) * ((Pa.lines : Int) - (k1 : Int)) ^ (2 : Int).toNat + ((Sy31.barAt bs (j - 1)).turn : Int) = ((Pa.page + (Pa.empty_ * ((Pa.lines - k1) * (Pa.lines - k1)) + (if true = true then (Sy31.barAt bs (j - 1)).turn else 0)) : Nat) : Int) := by
          rw [ep, ← Int.natCast_mul, if_pos rfl]; lia
        show Q (.int ((Pa.page : Int) + (Pa.empty_ : Int) * ((Pa.lines : Int) - (k1 : Int)) ^ (2 : Int).toNat + ((Sy31.barAt bs (j - 1)).turn : Int))) H
        rw [e]; exact k
      | false =>
        refine iteF ⟨_, rfl, ?_⟩
        have e : (Pa.page : Int) + (Pa.empty_ : Int) * ((Pa.lines : Int) - (k1 : Int)) ^ (2 : Int).toNat = ((Pa.page + (Pa.empty_ * ((Pa.lines - k1) * (Pa.lines - k1)) + (if false = true then (Sy31.barAt bs (j - 1)).turn else 0)) : Nat) : Int) := by
          rw [ep, ← Int.natCast_mul, if_neg (by simp)]; lia
        show Q (.int ((Pa.page : Int) + (Pa.empty_ : Int) * ((Pa.lines : Int) - (k1 : Int)) ^ (2 : Int).toNat)) H
        rw [e]; exact k
def spMayGo (T : Txt K mg) : Sp := fun vs H Q _ => ∃ (sc : Addr) (Pa : Sy31.Paper) (bs : List Sy31.Bar) (k1 j : Nat), vs = [.ref sc, .int (k1 : Int), .int (j : Int)] ∧ 1 ≤ j ∧ j ≤ bs.length ∧ ∃ _ : ScoreAt T H sc Pa bs, Q (.bl (mayGo Pa bs k1 j)) H
theorem sc39 : FnScope ["score", "lines", "after"] ["score", "lines", "after"] (defScope (top 39)) := ⟨rfl, rfl, rfl, by decide +kernel, rfl, by decide +kernel, by decide +kernel⟩
theorem ok_maygo (T : Txt K mg) : FnOk P w K mg base CX0 1 T.page_may_go_on.f T.page_may_go_on.fd ["score", "lines", "after"] (spMayGo T) := by
  refine T.page_may_go_on.F.ok sc39 (fun vs H Q E h => ?_) (fun cdv A outer s H vs Q E hr h => ?_)
  · refine hide fun G0 g0 => ?_; obtain ⟨sc, Pa, bs, k1, j, rfl, _⟩ := h; refine g0 ?_; clear g0 G0; rfl
  · refine hide fun G0 g0 => ?_; obtain ⟨sc, Pa, bs, k1, j, rfl, h1, h2, S, k⟩ := h; refine g0 ?_; clear g0 G0
    unfold mayGo at k
    refine ⟨_, pss_cons (ps_if (PW.pt (pw_or (pt_cmpR op_eq (pv 2) (pe_callB call_len_seq rfl T.len PySem.boot_len (pa_cons (pe_fld (pv 0) rfl) pa_nil)) (nomark _)) (pw_or1 (pt_cmpR op_eq (pv 1) (pe_fld (pe_fld (pv 0) rfl) rfl) (nomark _))))) (pss_one (ps_ret pe_bl)) pss_nil)
      (pss_one (ps_ret (pe_cmpR op_ne (pe_fld (pe_ix ix_list (pe_fld (pv 0) rfl) (pe_op op_sub (pv 2) pe_int) (fun _ _ => rfl)) rfl) (pe_gint T.PAGE_END) (nomark _)))), ?_⟩
    try dsimp only [cxOf, Cx.nox]
    refine ⟨_, rfl, _, rfl, rd_bars S ⟨S.lb, _, rfl, .inl (SqL.of S.lst), rfl, _, rfl, ?_⟩⟩
    rw [S.len, dec_nat]
    by_cases c : j = bs.length
    · rw [decide_eq_true c]
      rw [decide_eq_true (show j = bs.length ∨ k1 = Pa.lines from .inl c)] at k
      exact iteT (iteT k)
    · rw [decide_eq_false c]
      refine iteF ⟨_, rfl, _, rfl, rd_paper S (rd_pf S.pap (List.mem_of_getElem? (i := 1) rfl) (pap_lines Pa) ⟨rfl, _, rfl, ?_⟩)⟩
      rw [dec_nat]
      by_cases c2 : k1 = Pa.lines
      · rw [decide_eq_true c2]
        rw [decide_eq_true (show j = bs.length ∨ k1 = Pa.lines from .inr c2)] at k
        exact iteT k
      · rw [decide_eq_false c2]
        rw [decide_eq_false (show ¬ (j = bs.length ∨ k1 = Pa.lines) from fun q => q.elim c c2)] at k
        obtain ⟨a, d, hat, ha⟩ := bar_at S (show j - 1 < bs.length by lia)
        have ej : ((j : Int) - 1) = ((j - 1 : Nat) : Int) := by lia
        refine iteF ⟨_, rfl, rd_bars S ⟨_, rfl, _, _, rfl, rfl, S.lb, _, _, _, rfl, rfl, SqL.of S.lst, at_of ej hat, ?_⟩⟩
        refine rd_bf ha (List.mem_of_getElem? (i := 4) rfl) (bar_ends _) ⟨rfl, ?_⟩
        have e4 : decide (V.int ((Sy31.barAt bs (j - 1)).ends : Int) = V.int 3) = decide ((Sy31.barAt bs (j - 1)).ends = 3) := dec_nat _ 3
        show Q (.bl (!decide (V.int ((Sy31.barAt bs (j - 1)).ends : Int) = V.int 3))) _
        rw [e4]
        exact k
/-! ### add_step -/
def spAdd (T : Txt K mg) : Sp := fun vs H Q _ => ∃ (a b : Addr) (r rb : PyR) (n c : Nat) (e : Bool), vs = [.ref a, .int (n : Int), .bl e, .int (c : Int), .ref b] ∧ a ≠ b ∧ ResAt T H a r ∧ ResAt T H b rb ∧ ∀ H' : Hp, ResAt T H' a (r.add n e c rb.ways rb.cost rb.cheap) → But a H H' → Q .non H'
theorem sc41 : FnScope ["rest", "length", "page_ends", "cost", "behind", "total"] ["rest", "length", "page_ends", "cost", "behind"] (defScope (top 41)) := ⟨rfl, rfl, rfl, by decide +kernel, rfl, by decide +kernel, by decide +kernel⟩
theorem dec_lt (a b : Nat) : decide ((a : Int) < (b : Int)) = decide (a < b) := by rw [Bool.eq_iff_iff, decide_eq_true_eq, decide_eq_true_eq]; lia
theorem ok_add (T : Txt K mg) : FnOk P w K mg base CX0 1 T.add_step.f T.add_step.fd ["rest", "length", "page_ends", "cost", "behind"] (spAdd T) := by
  refine T.add_step.F.ok sc41 (fun vs H Q E h => ?_) (fun cdv A outer s H vs Q E hr h => ?_)
  · refine hide fun G0 g0 => ?_; obtain ⟨a, b, r, rb, n, c, e, rfl, _⟩ := h; refine g0 ?_; clear g0 G0; rfl
  · refine hide fun G0 g0 => ?_; obtain ⟨a, b, r, rb, n, c, e, rfl, hab, ⟨da, ha⟩, ⟨db, hb⟩, k⟩ := h; refine g0 ?_; clear g0 G0
    unfold PyR.add at k
    have n0 := T.nRest _ (List.mem_of_getElem? (i := 0) rfl)
    have n1 := T.nRest _ (List.mem_of_getElem? (i := 1) rfl)
    have n2 := T.nRest _ (List.mem_of_getElem? (i := 2) rfl)
    have n3 := T.nRest _ (List.mem_of_getElem? (i := 3) rfl)
    have n4 := T.nRest _ (List.mem_of_getElem? (i := 4) rfl)
    have bt : ∀ o, But a H (upd H a o) := fun o x u hx ne => by rw [upd_ne ne]; exact hx
    have hbu : ∀ o, upd H a o b = some (.ins T.Rest.c db (resF rb)) := fun o => by rw [upd_ne (Ne.symm hab)]; exact hb
    refine ⟨_, pss_cons (ps_if (pt_cmpR op_eq (pe_fld (pv 4) rfl) pe_int (nomark _)) (pss_one ps_retN) pss_nil)
      (pss_cons (ps_set (i := 5) sc41.nd rfl (Or.inl rfl) (pe_op op_add (pv 3) (pe_fld (pv 4) rfl)))
      (pss_cons (ps_if (PW.pt (pw_or (pt_cmpR op_eq (pe_fld (pv 0) rfl) pe_int (nomark _)) (pw_or1 (pt_cmpR op_lt (pv 5) (pe_fld (pv 0) rfl) (nomark _)))))
        (pss_cons (ps_fld (pv 0) (pv 5) rfl) (pss_cons (ps_fld (pv 0) pe_int rfl) (pss_cons (ps_fld (pv 0) (pv 1) rfl) (pss_one (ps_fld (pv 0) (pv 2) rfl))))) pss_nil)
      (pss_cons (ps_if (pt_cmpR op_eq (pv 5) (pe_fld (pv 0) rfl) (nomark _)) (pss_one (ps_fldaug (pv 0) (pe_fld (pv 4) rfl) in_add)) pss_nil)
      (pss_one (ps_fldaug (pv 0) (pe_fld (pv 4) rfl) in_add))))), ?_⟩
    try dsimp only [cxOf, Cx.nox]
    refine ⟨_, rfl, rd_rf hb (List.mem_of_getElem? (i := 0) rfl) (res_ways rb) ⟨rfl, _, rfl, ?_⟩⟩
    have e0 : ∀ m : Nat, decide (V.int (m : Int) = V.int 0) = decide (m = 0) := fun m => dec_nat m 0
    rw [e0]
    by_cases c0 : rb.ways = 0
    · rw [decide_eq_true c0]
      rw [if_pos c0] at k
      exact iteT (k H ⟨da, ha⟩ fun _ _ hx _ => hx)
    · rw [decide_eq_false c0]
      rw [if_neg c0] at k
      refine iteF ⟨_, rfl, _, rfl, rd_rf hb (List.mem_of_getElem? (i := 2) rfl) (res_cost rb) ⟨_, _, rfl, rfl, ?_⟩⟩
      have et : (c : Int) + (rb.cost : Int) = ((c + rb.cost : Nat) : Int) := by lia
      dsimp only [rI0, gName]
      rw [et]
      refine ⟨_, rfl, rd_rf ha (List.mem_of_getElem? (i := 0) rfl) (res_ways r) ⟨rfl, _, rfl, ?_⟩⟩
      rw [e0]
      -- the last two rows, the rest being r1 and total its cost or not
      by_cases c1 : r.ways = 0 ∨ c + rb.cost < r.cost
      · rw [if_pos c1] at k
        cases cw : decide (r.ways = 0) with
        | true =>
          refine iteT (iteT ?_)
          refine ⟨_, rfl, _, rfl, a, T.Rest.c, da, _, rfl, ha, T.Rest.cl, n2, res5 _, ?_⟩
          rw [put_cost]
          refine ⟨_, rfl, a, T.Rest.c, da, _, rfl, upd_same, T.Rest.cl, n1, res5 _, ?_⟩
          rw [upd_upd, show V.int 0 = V.int ((0 : Nat) : Int) from rfl, put_cheap]
          refine ⟨_, rfl, _, rfl, a, T.Rest.c, da, _, rfl, upd_same, T.Rest.cl, n3, res5 _, ?_⟩
          rw [upd_upd, put_len]
          refine ⟨_, rfl, _, rfl, a, T.Rest.c, da, _, rfl, upd_same, T.Rest.cl, n4, res5 _, ?_⟩
          rw [upd_upd, put_ends]
          refine ⟨_, rfl, _, rfl, rd_rf upd_same (List.mem_of_getElem? (i := 2) rfl) (res_cost _) ⟨rfl, _, rfl, ?_⟩⟩
          rw [decide_eq_true rfl]
          refine iteT ⟨_, rfl, aug_rf upd_same (List.mem_of_getElem? (i := 1) rfl) (res_cheap _) ⟨_, rfl, rd_rf (hbu _) (List.mem_of_getElem? (i := 1) rfl) (res_cheap rb) ⟨_, _, rfl, rfl, da, _, upd_same, res5 _, ?_⟩⟩⟩
          rw [upd_upd, ← Int.natCast_add, put_cheap]
          refine ⟨_, rfl, aug_rf upd_same (List.mem_of_getElem? (i := 0) rfl) (res_ways _) ⟨_, rfl, rd_rf (hbu _) (List.mem_of_getElem? (i := 0) rfl) (res_ways rb) ⟨_, _, rfl, rfl, da, _, upd_same, res5 _, ?_⟩⟩⟩
          rw [upd_upd, ← Int.natCast_add, put_ways]
          exact k _ ⟨da, upd_same⟩ (bt _)
        | false =>
          have cw' : ¬ r.ways = 0 := of_decide_eq_false cw
          have cl : c + rb.cost < r.cost := c1.resolve_left cw'
          refine iteF ⟨_, rfl, _, rfl, rd_rf ha (List.mem_of_getElem? (i := 2) rfl) (res_cost r) ⟨_, _, rfl, rfl, _, rfl, ?_⟩⟩
          rw [dec_lt, decide_eq_true cl]
          refine iteT ?_
          refine ⟨_, rfl, _, rfl, a, T.Rest.c, da, _, rfl, ha, T.Rest.cl, n2, res5 _, ?_⟩
          rw [put_cost]
          refine ⟨_, rfl, a, T.Rest.c, da, _, rfl, upd_same, T.Rest.cl, n1, res5 _, ?_⟩
          rw [upd_upd, show V.int 0 = V.int ((0 : Nat) : Int) from rfl, put_cheap]
          refine ⟨_, rfl, _, rfl, a, T.Rest.c, da, _, rfl, upd_same, T.Rest.cl, n3, res5 _, ?_⟩
          rw [upd_upd, put_len]
          refine ⟨_, rfl, _, rfl, a, T.Rest.c, da, _, rfl, upd_same, T.Rest.cl, n4, res5 _, ?_⟩
          rw [upd_upd, put_ends]
          refine ⟨_, rfl, _, rfl, rd_rf upd_same (List.mem_of_getElem? (i := 2) rfl) (res_cost _) ⟨rfl, _, rfl, ?_⟩⟩
          rw [decide_eq_true rfl]
          refine iteT ⟨_, rfl, aug_rf upd_same (List.mem_of_getElem? (i := 1) rfl) (res_cheap _) ⟨_, rfl, rd_rf (hbu _) (List.mem_of_getElem? (i := 1) rfl) (res_cheap rb) ⟨_, _, rfl, rfl, da, _, upd_same, res5 _, ?_⟩⟩⟩
          rw [upd_upd, ← Int.natCast_add, put_cheap]
          refine ⟨_, rfl, aug_rf upd_same (List.mem_of_getElem? (i := 0) rfl) (res_ways _) ⟨_, rfl, rd_rf (hbu _) (List.mem_of_getElem? (i := 0) rfl) (res_ways rb) ⟨_, _, rfl, rfl, da, _, upd_same, res5 _, ?_⟩⟩⟩
          rw [upd_upd, ← Int.natCast_add, put_ways]
          exact k _ ⟨da, upd_same⟩ (bt _)
      · rw [if_neg c1] at k
        have cw : ¬ r.ways = 0 := fun q => c1 (.inl q)
        have cl : ¬ c + rb.cost < r.cost := fun q => c1 (.inr q)
        rw [decide_eq_false cw]
        refine iteF ⟨_, rfl, _, rfl, rd_rf ha (List.mem_of_getElem? (i := 2) rfl) (res_cost r) ⟨_, _, rfl, rfl, _, rfl, ?_⟩⟩
        rw [dec_lt, decide_eq_false cl]
        refine iteF ?_
        refine ⟨_, rfl, _, rfl, rd_rf ha (List.mem_of_getElem? (i := 2) rfl) (res_cost r) ⟨rfl, _, rfl, ?_⟩⟩
        rw [dec_nat]
        by_cases c2 : c + rb.cost = r.cost
        · rw [decide_eq_true c2]
          rw [if_pos c2] at k
          refine iteT ⟨_, rfl, aug_rf ha (List.mem_of_getElem? (i := 1) rfl) (res_cheap _) ⟨_, rfl, rd_rf hb (List.mem_of_getElem? (i := 1) rfl) (res_cheap rb) ⟨_, _, rfl, rfl, da, _, ha, res5 _, ?_⟩⟩⟩
          rw [← Int.natCast_add, put_cheap]
          refine ⟨_, rfl, aug_rf upd_same (List.mem_of_getElem? (i := 0) rfl) (res_ways _) ⟨_, rfl, rd_rf (hbu _) (List.mem_of_getElem? (i := 0) rfl) (res_ways rb) ⟨_, _, rfl, rfl, da, _, upd_same, res5 _, ?_⟩⟩⟩
          rw [upd_upd, ← Int.natCast_add, put_ways]
          exact k _ ⟨da, upd_same⟩ (bt _)
        · rw [decide_eq_false c2]
          rw [if_neg c2] at k
          refine iteF ⟨_, rfl, aug_rf ha (List.mem_of_getElem? (i := 0) rfl) (res_ways _) ⟨_, rfl, rd_rf hb (List.mem_of_getElem? (i := 0) rfl) (res_ways rb) ⟨_, _, rfl, rfl, da, _, ha, res5 _, ?_⟩⟩⟩
          rw [← Int.natCast_add, put_ways]
          exact k _ ⟨da, upd_same⟩ (bt _)
end
end Bp
end
section
set_option Elab.async false
set_option linter.all false
set_option maxRecDepth 100000
set_option maxHeartbeats 4000000
namespace Bp
open PySem PySem.Spec PyProof.Rows L2
section
variable {P : Program} {w : World} {K : PySem.W.Frag} {mg : Str → Option Value} {base : Heap}
/-! ### lines_from -/
/-- pairs of numbers as tuples in the list at l -/
def NextAt (H : Hp) (l : Addr) (xs : List (Nat × Nat)) : Prop := ∃ ts : List Addr, H l = some (.lst (ts.map V.ref)) ∧ ts.length = xs.length ∧ ∀ (t : Nat) (a : Addr), ts[t]? = some a → ∃ x, xs[t]? = some x ∧ H a = some (.tup [.int (x.1 : Int), .int (x.2 : Int)])
theorem NextAt.same {H H' : Hp} {l : Addr} {xs : List (Nat × Nat)} (s : Same H H') (n : NextAt H l xs) : NextAt H' l xs :=
  let ⟨ts, h1, h2, h3⟩ := n
  ⟨ts, s _ _ h1, h2, fun t a h => let ⟨x, e, q⟩ := h3 t a h; ⟨x, e, s _ _ q⟩⟩
def nexts (Pa : Sy31.Paper) (bs : List Sy31.Bar) (i : Nat) (js : List Nat) : List (Nat × Nat) := (js.filter (okLine Pa bs i)).map fun j => (j, Sy31.lineCost Pa bs i j)
def spLines (T : Txt K mg) : Sp := fun vs H Q _ => ∃ (sc : Addr) (Pa : Sy31.Paper) (bs : List Sy31.Bar) (i : Nat), vs = [.ref sc, .int (i : Int)] ∧ i ≤ bs.length ∧ Ok Pa bs ∧ ∃ _ : ScoreAt T H sc Pa bs, ∀ (H' : Hp) (l : Addr), Same H H' → NextAt H' l (nexts Pa bs i (ends_ bs i)) → Q (.ref l) H'
theorem sc40 : FnScope ["score", "first", "found", "after"] ["score", "first"] (defScope (top 40)) := ⟨rfl, rfl, rfl, by decide +kernel, rfl, by decide +kernel, by decide +kernel⟩
theorem ends_get {bs : List Sy31.Bar} {i t : Nat} (h : t < bs.length - i) : (ends_ bs i)[t]? = some (i + t + 1) := by
  unfold ends_
  rw [List.getElem?_map, List.getElem?_range h]; rfl
theorem ends_length (bs : List Sy31.Bar) (i : Nat) : (ends_ bs i).length = bs.length - i := by unfold ends_; rw [List.length_map, List.length_range]
theorem ok_lines (T : Txt K mg) : FnOk P w K mg base CX0 4 T.lines_from.f T.lines_from.fd ["score", "first"] (spLines T) := by
  refine T.lines_from.F.ok sc40 (fun vs H Q E h => ?_) (fun cdv A outer s H vs Q E hr h => ?_)
  · obtain ⟨sc, Pa, bs, i, rfl, _⟩ := h; rfl
  · refine hide fun G0 g0 => ?_; obtain ⟨sc, Pa, bs, i, rfl, hi, ok, S, k⟩ := h; refine g0 ?_; clear g0 G0
    have hlen := ok.len
    refine ⟨_, pss_cons (ps_set (i := 2) sc40.nd rfl (Or.inl rfl) (pe_lst pa_nil))
      (pss_cons (ps_for PassesOwn.never rfl (pi_range2 rfl T.range (pa_cons (pe_op op_add (pv 1) pe_int) (pa_cons (pe_op op_add (pe_callB call_len_seq rfl T.len PySem.boot_len (pa_cons (pe_fld (pv 0) rfl) pa_nil)) pe_int) pa_nil))) (pg_name (i := 3) sc40.nd rfl (Or.inl rfl))
        (pss_one (ps_if (pt_cmpR op_eq (pcall T.refusal_of_line (ok_refusal T) hr (pa_cons (pv 0) (pa_cons (pv 1) (pa_cons (pv 3) pa_nil)))) pe_int (nomark _))
          (pss_one (ps_expr (pe_bm PySem.F.plainAttrs_list PySem.F.slot_list_append PySem.F.type_list_append mt_append (pv 2) (pa_cons (pe_tup (pa_cons (pv 3) (pa_cons (pcall T.cost_of_line (ok_cost T) (hr.mono (by decide)) (pa_cons (pv 0) (pa_cons (pv 1) (pa_cons (pv 3) pa_nil)))) pa_nil))) pa_nil)))) pss_nil)))
      (pss_one (ps_ret (pv 2)))), ?_⟩
    try dsimp only [cxOf, Cx.nox]
    refine ⟨Nat.zero_le _, fun l hl => ?_⟩
    have s1 : Same H (upd H l (.lst [])) := Same.new hl
    have S1 := S.same s1
    refine ⟨_, rfl, _, _, rfl, rfl, _, rfl, rd_bars S1 ⟨S1.lb, _, rfl, .inl (SqL.of S1.lst), _, _, rfl, rfl, _, _, rfl, ?_⟩⟩
    rw [S1.len]
    have en : ((bs.length : Int) + 1 - ((i : Int) + 1)).toNat = bs.length - i := by lia
    refine ⟨⟨by lia, by lia, by lia, by lia⟩, ?_⟩
    rw [en]
    refine for_range (lo := (i : Int) + 1) (n := bs.length - i) (fun t σ H' => (∃ v, σ = [some (.ref sc), some (.int (i : Int)), some (.ref l), v]) ∧ Same H H' ∧ NextAt H' l (nexts Pa bs i ((ends_ bs i).take t)))
      ⟨⟨none, rfl⟩, s1, [], upd_same, rfl, fun t a h => by simp at h⟩ ?_ ?_
    · rintro t σ H' ht ⟨⟨v, rfl⟩, s2, hN⟩
      have ej : ((i : Int) + 1 + (t : Int)) = ((i + t + 1 : Nat) : Int) := by lia
      rw [ej]
      have hj2 : i + t + 1 ≤ bs.length := by lia
      have ht2 : (ends_ bs i).take (t + 1) = (ends_ bs i).take t ++ [i + t + 1] := by rw [List.take_add_one, ends_get ht]; rfl
      refine ⟨_, rfl, _, rfl, _, rfl, sc, Pa, bs, i, i + t + 1, rfl, ok, S.same s2, fun H2 s3 => ?_⟩
      refine ⟨rfl, _, rfl, ?_⟩
      have N2 := hN.same s3
      by_cases c : okLine Pa bs i (i + t + 1) = true
      · have c0 : decide (V.int (refI Pa bs i (i + t + 1)) = V.int 0) = true := decide_eq_true (by rw [refI_zero.mpr c])
        rw [c0]
        obtain ⟨o1, o2, o3, o4⟩ := okLine_iff.mp c
        obtain ⟨ts, n1, n2, n3⟩ := N2
        refine iteT ⟨_, rfl, .inl ⟨rfl, _, SqL.of n1⟩, ?_⟩
        refine ⟨_, rfl, _, rfl, _, rfl, _, rfl, sc, Pa, bs, i, i + t + 1, rfl, o1, o2, o3, ok, S.same (s2.trans s3), fun H3 s4 => ?_⟩
        refine ⟨by show 2 ≤ sizeLine; decide, fun p hp => ?_⟩
        have n1' := s4 _ _ n1
        have lp : l ≠ p := ne_of_none n1' hp
        have htl : ts.length ≤ 24 := by
          have : (nexts Pa bs i ((ends_ bs i).take t)).length ≤ t := by
            unfold nexts
            rw [List.length_map]
            refine Nat.le_trans (List.length_filter_le _ _) ?_
            rw [List.length_take]; lia
          lia
        refine ⟨l, _, _, rfl, rfl, (upd_ne lp).trans n1', by rw [List.length_map]; exact small_lt htl (by decide), ?_⟩
        have keep : ∀ (b : Addr) (u : HO), b ≠ l → H3 b = some u → upd (upd H3 p (.tup [.int ((i + t + 1 : Nat) : Int), .int ((Sy31.lineCost Pa bs i (i + t + 1) : Nat) : Int)])) l (.lst (ts.map V.ref ++ [.ref p])) b = some u := fun b u ne e => by
          rw [upd_ne ne, upd_ne (ne_of_none e hp)]; exact e
        refine ⟨⟨_, rfl⟩, fun b u e => keep b u (ne_of_none e hl) (s4 _ _ (s3 _ _ (s2 _ _ e))), ?_⟩
        have en2 : nexts Pa bs i ((ends_ bs i).take (t + 1)) = nexts Pa bs i ((ends_ bs i).take t) ++ [(i + t + 1, Sy31.lineCost Pa bs i (i + t + 1))] := by
          unfold nexts
          rw [ht2, List.filter_append, List.map_append, List.filter_cons, if_pos c]; rfl
        rw [en2]
        refine ⟨ts ++ [p], by rw [upd_same, List.map_append]; rfl, by rw [List.length_append, List.length_append, n2]; rfl, fun t' a' h' => ?_⟩
        by_cases q : t' < ts.length
        · rw [List.getElem?_append_left q] at h'
          obtain ⟨x, e1, e2⟩ := n3 t' a' h'
          have e2' := s4 _ _ e2
          refine ⟨x, by rw [List.getElem?_append_left (by lia)]; exact e1, keep _ _ (ne_of e2' n1' (by intro z; cases z)) e2'⟩
        · rw [List.getElem?_append_right (by lia)] at h'
          have q2 : t' = ts.length := by
            have := (List.getElem?_eq_some_iff.mp h').1
            simp at this
            lia
          subst q2
          rw [Nat.sub_self] at h'
          have h2 : p = a' := Option.some.inj h'
          subst h2
          refine ⟨(i + t + 1, Sy31.lineCost Pa bs i (i + t + 1)), by rw [n2, List.getElem?_append_right (Nat.le_refl _), Nat.sub_self]; rfl, ?_⟩
          rw [upd_ne (Ne.symm lp)]; exact upd_same
      · have c0 : decide (V.int (refI Pa bs i (i + t + 1)) = V.int 0) = false := decide_eq_false fun q => c (refI_zero.mp (V.int.inj q))
        rw [c0]
        refine iteF ⟨⟨_, rfl⟩, s2.trans s3, ?_⟩
        have en2 : nexts Pa bs i ((ends_ bs i).take (t + 1)) = nexts Pa bs i ((ends_ bs i).take t) := by
          unfold nexts
          rw [ht2, List.filter_append, List.filter_cons, if_neg c, List.filter_nil, List.append_nil]
        rw [en2]
        exact N2
    · rintro σ H' ⟨⟨v, rfl⟩, s2, hN⟩
      have e : (ends_ bs i).take (bs.length - i) = ends_ bs i := by rw [← ends_length]; exact List.take_length
      rw [e] at hN
      exact ⟨_, rfl, k H' l s2 hN⟩
/-! ### the table of rests -/
def key3 (i k : Nat) (r : Bool) : List Key := [Sum.inl (i : Int), Sum.inl (k : Int), Sum.inl (bit r)]
theorem key3_inj {i k i' k' : Nat} {r r' : Bool} (h : key3 i k r = key3 i' k' r') : i = i' ∧ k = k' ∧ r = r' := by
  unfold key3 at h
  injection h with h1 h2
  injection h2 with h2 h3
  injection h3 with h3 _
  have a := Sum.inl.inj h1
  have b := Sum.inl.inj h2
  have c := Sum.inl.inj h3
  refine ⟨by lia, by lia, ?_⟩
  cases r <;> cases r' <;> first | rfl | (exfalso; revert c; decide)
/-- the dict at d has the rests of the places W -/
def Tabl (T : Txt K mg) (H : Hp) (d : Addr) (Pa : Sy31.Paper) (bs : List Sy31.Bar) (W : Nat → Nat → Bool → Prop) (c : Nat) : Prop :=
  ∃ kvs, H d = some (.dT kvs) ∧ kvs.length ≤ c ∧ ∀ i k r, W i k r → ∃ a, valV kvs (key3 i k r) = some (.ref a) ∧ ResAt T H a (pyAt Pa bs r k i)
theorem Tabl.same {T : Txt K mg} {H H' : Hp} {d : Addr} {Pa : Sy31.Paper} {bs : List Sy31.Bar} {W : Nat → Nat → Bool → Prop} {c : Nat} (s : Same H H') (t : Tabl T H d Pa bs W c) : Tabl T H' d Pa bs W c :=
  let ⟨kvs, h1, h2, h3⟩ := t
  ⟨kvs, s _ _ h1, h2, fun i k r h => let ⟨a, e, dx, q⟩ := h3 i k r h; ⟨a, e, dx, s _ _ q⟩⟩
theorem Tabl.mono {T : Txt K mg} {H : Hp} {d : Addr} {Pa : Sy31.Paper} {bs : List Sy31.Bar} {W W' : Nat → Nat → Bool → Prop} {c c' : Nat} (t : Tabl T H d Pa bs W c) (hW : ∀ i k r, W' i k r → W i k r) (hc : c ≤ c') : Tabl T H d Pa bs W' c' :=
  let ⟨kvs, h1, h2, h3⟩ := t
  ⟨kvs, h1, Nat.le_trans h2 hc, fun i k r h => h3 i k r (hW i k r h)⟩
theorem dgetT {H : Hp} {d b a : Addr} {kvs : List (List Key × V)} {i k : Nat} {r : Bool} (hd : H d = some (.dT kvs)) (hv : valV kvs (key3 i k r) = some (.ref a)) (hb : H b = some (.tup [.int (i : Int), .int (k : Int), .int (bit r)])) : DGet H d (.ref b) (some (.ref a)) := by
  have g := DGet.t (k := key3 i k r) hd hb
  rw [hv] at g
  exact g
/-- d[(i, k, r)] -/
theorem Tabl.get {T : Txt K mg} {H : Hp} {d b : Addr} {Pa : Sy31.Paper} {bs : List Sy31.Bar} {W : Nat → Nat → Bool → Prop} {c i k : Nat} {r : Bool} (t : Tabl T H d Pa bs W c) (h : W i k r) (hb : H b = some (.tup [.int (i : Int), .int (k : Int), .int (bit r)])) :
    ∃ a, DGet H d (.ref b) (some (.ref a)) ∧ ResAt T H a (pyAt Pa bs r k i) := by
  obtain ⟨kvs, h1, h2, h3⟩ := t
  obtain ⟨a, e, q⟩ := h3 i k r h
  have g := DGet.t (k := key3 i k r) h1 hb
  rw [e] at g
  exact ⟨a, g, q⟩
/-- d[(i, k, r)] = x -/
theorem Tabl.put {T : Txt K mg} {H : Hp} {d b x : Addr} {Pa : Sy31.Paper} {bs : List Sy31.Bar} {W : Nat → Nat → Bool → Prop} {c i k : Nat} {r : Bool} (t : Tabl T H d Pa bs W c) (hc : c < 1000) (hb : H b = some (.tup [.int (i : Int), .int (k : Int), .int (bit r)])) (hx : ResAt T H x (pyAt Pa bs r k i)) :
    ∃ H', DPut H d (.ref b) (.ref x) H' ∧ But d H H' ∧ Tabl T H' d Pa bs (fun i' k' r' => W i' k' r' ∨ (i' = i ∧ k' = k ∧ r' = r)) (c + 1) := by
  obtain ⟨kvs, h1, h2, h3⟩ := t
  refine ⟨_, DPut.t (k := key3 i k r) (v := .ref x) h1 hb (Nat.lt_of_le_of_lt h2 (small_lt (Nat.le_of_lt hc) (by decide))), fun y u e ne => by rw [upd_ne ne]; exact e, ?_⟩
  have keep : ∀ a r', ResAt T H a r' → ResAt T (upd H d (.dT (putK kvs (key3 i k r) (.ref x)))) a r' := fun a r' ⟨dx, q⟩ => ⟨dx, by rw [upd_ne (ne_of q h1 (by intro z; cases z))]; exact q⟩
  refine ⟨_, upd_same, Nat.le_trans (length_putK _ _ _) (Nat.succ_le_succ h2), fun i' k' r' h => ?_⟩
  rw [valV_put]
  by_cases e : key3 i' k' r' = key3 i k r
  · rw [if_pos e]
    obtain ⟨e1, e2, e3⟩ := key3_inj e
    subst e1 e2 e3
    exact ⟨x, rfl, keep _ _ hx⟩
  · rw [if_neg e]
    rcases h with h | ⟨e1, e2, e3⟩
    · obtain ⟨a, q1, q2⟩ := h3 i' k' r' h
      exact ⟨a, q1, keep _ _ q2⟩
    · subst e1 e2 e3; exact absurd rfl e
def Wo (Pa : Sy31.Paper) (bs : List Sy31.Bar) (i0 : Nat) (i k : Nat) (_ : Bool) : Prop := (i = bs.length ∧ k = 0) ∨ (i0 ≤ i ∧ i < bs.length ∧ k < Pa.lines)
/-! ### rest_from -/
def spFrom (T : Txt K mg) : Sp := fun vs H Q _ => ∃ (sc d pl nl : Addr) (Pa : Sy31.Paper) (bs : List Sy31.Bar) (i k : Nat) (r : Bool), vs = [.ref sc, .ref d, .ref pl, .ref nl] ∧ i < bs.length ∧ k < Pa.lines ∧ Ok Pa bs ∧
  H pl = some (.tup [.int (i : Int), .int (k : Int), .int (bit r)]) ∧ NextAt H nl (nexts Pa bs i (ends_ bs i)) ∧ Tabl T H d Pa bs (Wo Pa bs (i + 1)) 1000 ∧ ∃ _ : ScoreAt T H sc Pa bs, ∀ (H' : Hp) (x : Addr), H x = none → Same H H' → ResAt T H' x (pyAt Pa bs r k i) → Q (.ref x) H'
theorem sc42 : FnScope ["score", "rests", "place", "next_lines", "first", "lines", "right", "rest", "after", "cost", "page"] ["score", "rests", "place", "next_lines"] (defScope (top 42)) := ⟨rfl, rfl, rfl, by decide +kernel, rfl, by decide +kernel, by decide +kernel⟩
theorem ok_from (T : Txt K mg) : FnOk P w K mg base CX0 3 T.rest_from.f T.rest_from.fd ["score", "rests", "place", "next_lines"] (spFrom T) := by
  refine T.rest_from.F.ok sc42 (fun vs H Q E h => ?_) (fun cdv A outer s H vs Q E hr h => ?_)
  · refine hide fun G0 g0 => ?_; obtain ⟨sc, d, pl, nl, Pa, bs, i, k, r, rfl, _⟩ := h; refine g0 ?_; clear g0 G0; rfl
  · refine hide fun G0 g0 => ?_; obtain ⟨sc, d, pl, nl, Pa, bs, i, k, r, rfl, hi, hk, ok, hpl, hN, hT, S, kk⟩ := h; refine g0 ?_; clear g0 G0
    have hr1 := hr.mono (show 1 ≤ 2 by decide)
    have hlen := ok.len
    refine ⟨_, pss_cons (ps_set (i := 4) sc42.nd rfl (Or.inl rfl) (pe_ix ix_seq (pv 2) pe_int (fun _ _ => rfl)))
      (pss_cons (ps_set (i := 5) sc42.nd rfl (Or.inl rfl) (pe_op op_add (pe_ix ix_seq (pv 2) pe_int (fun _ _ => rfl)) pe_int))
      (pss_cons (ps_set (i := 6) sc42.nd rfl (Or.inl rfl) (pe_ix ix_seq (pv 2) pe_int (fun _ _ => rfl)))
      (pss_cons (ps_set (i := 7) sc42.nd rfl (Or.inl rfl) (pmake0 T.Rest (ok_rest T) hr))
      (pss_cons (ps_for PassesOwn.never rfl (pi_list (pv 3)) (pg_tup (n := 2) rfl (pgs_cons (pg_name (i := 8) sc42.nd rfl (Or.inl rfl)) (pgs_cons (pg_name (i := 9) sc42.nd rfl (Or.inl rfl)) pgs_nil)))
        (pss_cons (ps_if (pt_val (pcall T.page_may_go_on (ok_maygo T) hr1 (pa_cons (pv 0) (pa_cons (pv 5) (pa_cons (pv 8) pa_nil)))))
          (pss_one (ps_expr (pcall T.add_step (ok_add T) hr1 (pa_cons (pv 7) (pa_cons (pe_op op_sub (pv 8) (pv 4)) (pa_cons pe_bl (pa_cons (pv 9) (pa_cons (pe_dget (hu_of hr) (pv 1) (pe_tup (pa_cons (pv 8) (pa_cons (pv 5) (pa_cons (pv 6) pa_nil)))) (fun _ _ => rfl)) pa_nil)))))))) pss_nil)
        (pss_cons (ps_set (i := 10) sc42.nd rfl (Or.inl rfl) (pcall T.cost_of_page (ok_page T) hr1 (pa_cons (pv 0) (pa_cons (pv 5) (pa_cons (pv 8) (pa_cons (pv 6) pa_nil))))))
        (pss_one (ps_expr (pcall T.add_step (ok_add T) hr1 (pa_cons (pv 7) (pa_cons (pe_op op_sub (pv 8) (pv 4)) (pa_cons pe_bl (pa_cons (pe_op op_add (pv 9) (pv 10)) (pa_cons (pe_dget (hu_of hr) (pv 1) (pe_tup (pa_cons (pv 8) (pa_cons pe_int (pa_cons (pe_op op_sub pe_int (pv 6)) pa_nil)))) (fun _ _ => rfl)) pa_nil)))))))))))
      (pss_one (ps_ret (pv 7))))))), ?_⟩
    try dsimp only [cxOf, Cx.nox]
    have hq : Sq K H pl [.int (i : Int), .int (k : Int), .int (bit r)] := .inr (SqT.of hpl)
    refine ⟨_, rfl, hq.ix (j := 0) rfl rfl ⟨_, rfl, hq.ix (j := 1) rfl rfl ⟨_, _, rfl, rfl, ⟨_, rfl, hq.ix (j := 2) rfl rfl ?_⟩⟩⟩⟩
    intro x dx nx nd ne
    refine mk_rest nx nd ne fun H1 s1 h1 => ?_
    obtain ⟨ts, n1, n2, n3⟩ := hN
    obtain ⟨kvs, hd, hcc, hget⟩ := hT
    refine ⟨_, rfl, nl, rfl, ⟨_, SqL.of (s1 _ _ n1)⟩, ?_⟩
    refine for_list (K := K) (a := nl) (xs := ts.map V.ref) (fun t σ H' => (∃ v8 v9 v10, σ = [some (.ref sc), some (.ref d), some (.ref pl), some (.ref nl), some (.int (i : Int)), some (.int ((k : Int) + 1)), some (.int (bit r)), some (.ref x), v8, v9, v10]) ∧ Same H H' ∧
        ResAt T H' x ((((ends_ bs i).filter (okLine Pa bs i)).take t).foldl (turn Pa bs r k i) .zero))
      ⟨⟨none, none, none, rfl⟩, s1, dx, h1⟩ (fun t σ H' _ q => SqL.of (q.2.1 _ _ n1)) ?_ ?_
    · rintro t y σ H' hy ⟨⟨v8, v9, v10, rfl⟩, s2, hx⟩
      rw [List.getElem?_map] at hy
      obtain ⟨tp, htp, rfl⟩ := Option.map_eq_some_iff.mp hy
      obtain ⟨⟨j, c⟩, hjc, htup⟩ := n3 t tp htp
      have hjc' := hjc
      unfold nexts at hjc
      rw [List.getElem?_map] at hjc
      obtain ⟨j', hj', e'⟩ := Option.map_eq_some_iff.mp hjc
      obtain ⟨e1, e2⟩ := Prod.mk.inj e'
      subst e1
      have e2' := e2
      subst e2'
      have okl : okLine Pa bs i j' = true := (List.mem_filter.mp (List.mem_of_getElem? hj')).2
      obtain ⟨o1, o2, o3, o4⟩ := okLine_iff.mp okl
      have S2 := S.same s2
      refine ⟨tp, _, rfl, SqT.of (s2 _ _ htup), rfl, ?_⟩
      refine ⟨_, _, rfl, _, _, rfl, rfl, ?_⟩
      have ek : (k : Int) + 1 = ((k + 1 : Nat) : Int) := by lia
      have ed : ((j' : Int) - (i : Int)) = ((j' - i : Nat) : Int) := by lia
      have et : (((ends_ bs i).filter (okLine Pa bs i)).take (t + 1)).foldl (turn Pa bs r k i) .zero = turn Pa bs r k i ((((ends_ bs i).filter (okLine Pa bs i)).take t).foldl (turn Pa bs r k i) .zero) j' := by
        rw [List.take_add_one, hj', List.foldl_append]; rfl
      rw [et, turn_eq]
      generalize (((ends_ bs i).filter (okLine Pa bs i)).take t).foldl (turn Pa bs r k i) .zero = acc at hx
      have hW0 : Wo Pa bs (i + 1) j' 0 (!r) := by
        unfold Wo
        by_cases q : j' = bs.length
        · exact .inl ⟨q, rfl⟩
        · exact .inr ⟨by lia, by lia, by lia⟩
      refine ⟨_, rfl, _, rfl, _, rfl, sc, Pa, bs, k + 1, j', rfl, by lia, o2, S2, _, rfl, ?_⟩
      cases g : mayGo Pa bs (k + 1) j' with
      | true =>
        have g' := mayGo_iff.mp g
        have hW1 : Wo Pa bs (i + 1) j' (k + 1) r := .inr ⟨by lia, by lia, by lia⟩
        refine iteT ⟨_, rfl, _, rfl, _, rfl, _, _, rfl, rfl, _, rfl, _, rfl, _, rfl, _, rfl, _, rfl, by show 3 ≤ sizeLine; decide, fun tp1 hn1 => ?_⟩
        have s5 : Same H' (upd H' tp1 (.tup [.int (j' : Int), .int ((k : Int) + 1), .int (bit r)])) := Same.new hn1
        obtain ⟨a1, v1, d1, q1⟩ := hget j' (k + 1) r hW1
        obtain ⟨dx5, hx5⟩ := hx
        refine ⟨d, _, rfl, dgetT (i := j') (k := k + 1) (r := r) (s5 _ _ (s2 _ _ hd)) v1 (by rw [upd_same]; rfl), ?_⟩
        refine ⟨x, a1, acc, _, j' - i, Sy31.lineCost Pa bs i j', false, ?_, fun q => (by rw [← q, nx] at q1; cases q1), ⟨dx5, s5 _ _ hx5⟩, ⟨d1, s5 _ _ (s2 _ _ q1)⟩, fun H6 hx6 b6 => ?_⟩
        · show [V.ref x, V.int ((j' : Int) - (i : Int)), V.bl false, V.int ((Sy31.lineCost Pa bs i j' : Nat) : Int), V.ref a1] = _
          rw [ed]
        · have s6 : Same H H6 := fun b u e => b6 b u (s5 _ _ (s2 _ _ e)) (fun q => by rw [q, nx] at e; cases e)
          refine ⟨_, rfl, _, rfl, _, rfl, _, rfl, sc, Pa, bs, k + 1, j', r, rfl, by lia, o2, by lia, ok, S.same s6, ?_⟩
          refine ⟨_, rfl, _, rfl, _, rfl, _, _, rfl, rfl, _, rfl, _, rfl, _, _, rfl, rfl, _, rfl, _, rfl, _, rfl, _, _, rfl, rfl, by show 3 ≤ sizeLine; decide, fun tp2 hn2 => ?_⟩
          have s9 : Same H6 (upd H6 tp2 (.tup [.int (j' : Int), .int 0, .int (1 - bit r)])) := Same.new hn2
          obtain ⟨a2, v2, d2, q2⟩ := hget j' 0 (!r) hW0
          obtain ⟨dxx, hxx⟩ := hx6
          refine ⟨d, _, rfl, dgetT (i := j') (k := 0) (r := !r) (s9 _ _ (s6 _ _ hd)) v2 (by rw [upd_same]; show some (HO.tup [V.int (j' : Int), V.int 0, V.int (1 - bit r)]) = _; rw [bit_not]; rfl), ?_⟩
          refine ⟨x, a2, (acc.addE i (⟨j', false, Sy31.lineCost Pa bs i j'⟩, restOf Pa bs j' r (k + 1))), _, j' - i, Sy31.lineCost Pa bs i j' + pageCost Pa bs (k + 1) j' r, true, ?_, fun q => (by rw [← q, nx] at q2; cases q2), ⟨dxx, s9 _ _ hxx⟩, ⟨d2, s9 _ _ (s6 _ _ q2)⟩, fun H9 hx9 b9 => ?_⟩
          · show [V.ref x, V.int ((j' : Int) - (i : Int)), V.bl true, V.int (((Sy31.lineCost Pa bs i j' : Nat) : Int) + ((pageCost Pa bs (k + 1) j' r : Nat) : Int)), V.ref a2] = _
            rw [ed]; rfl
          · exact ⟨⟨_, _, _, rfl⟩, fun b u e => b9 b u (s9 _ _ (s6 _ _ e)) (fun q => by rw [q, nx] at e; cases e), hx9⟩
      | false =>
        refine iteF ?_
        refine ⟨_, rfl, _, rfl, _, rfl, _, rfl, sc, Pa, bs, k + 1, j', r, rfl, by lia, o2, by lia, ok, S.same s2, ?_⟩
        refine ⟨_, rfl, _, rfl, _, rfl, _, _, rfl, rfl, _, rfl, _, rfl, _, _, rfl, rfl, _, rfl, _, rfl, _, rfl, _, _, rfl, rfl, by show 3 ≤ sizeLine; decide, fun tp2 hn2 => ?_⟩
        have s9 : Same H' (upd H' tp2 (.tup [.int (j' : Int), .int 0, .int (1 - bit r)])) := Same.new hn2
        obtain ⟨a2, v2, d2, q2⟩ := hget j' 0 (!r) hW0
        obtain ⟨dxx, hxx⟩ := hx
        refine ⟨d, _, rfl, dgetT (i := j') (k := 0) (r := !r) (s9 _ _ (s2 _ _ hd)) v2 (by rw [upd_same]; show some (HO.tup [V.int (j' : Int), V.int 0, V.int (1 - bit r)]) = _; rw [bit_not]; rfl), ?_⟩
        refine ⟨x, a2, acc, _, j' - i, Sy31.lineCost Pa bs i j' + pageCost Pa bs (k + 1) j' r, true, ?_, fun q => (by rw [← q, nx] at q2; cases q2), ⟨dxx, s9 _ _ hxx⟩, ⟨d2, s9 _ _ (s2 _ _ q2)⟩, fun H9 hx9 b9 => ?_⟩
        · show [V.ref x, V.int ((j' : Int) - (i : Int)), V.bl true, V.int (((Sy31.lineCost Pa bs i j' : Nat) : Int) + ((pageCost Pa bs (k + 1) j' r : Nat) : Int)), V.ref a2] = _
          rw [ed]; rfl
        · exact ⟨⟨_, _, _, rfl⟩, fun b u e => b9 b u (s9 _ _ (s2 _ _ e)) (fun q => by rw [q, nx] at e; cases e), hx9⟩
    · rintro σ H' ⟨⟨v8, v9, v10, rfl⟩, s2, hx⟩
      have e : (ts.map V.ref).length = ((ends_ bs i).filter (okLine Pa bs i)).length := by
        rw [List.length_map, n2]; unfold nexts; rw [List.length_map]
      rw [e, List.take_length, turns_all hi hk] at hx
      exact ⟨_, rfl, kk H' x nx s2 hx⟩
end
end Bp
end
section
set_option Elab.async false
set_option linter.all false
set_option maxRecDepth 100000
set_option maxHeartbeats 4000000
namespace Bp
open PySem PySem.Spec PyProof.Rows L2
section
variable {P : Program} {w : World} {K : PySem.W.Frag} {mg : Str → Option Value} {base : Heap}
theorem NextAt.but {H H' : Hp} {l d : Addr} {xs : List (Nat × Nat)} {kvs : List (List Key × V)} (n : NextAt H l xs) (b : But d H H') (hd : H d = some (.dT kvs)) : NextAt H' l xs :=
  let ⟨ts, h1, h2, h3⟩ := n
  ⟨ts, b _ _ h1 (ne_of h1 hd (by intro z; cases z)), h2, fun t a h => let ⟨x, e, q⟩ := h3 t a h; ⟨x, e, b _ _ q (ne_of q hd (by intro z; cases z))⟩⟩
theorem two_bits {t : Nat} {x : V} (h : ([.int 0, .int 1] : List V)[t]? = some x) : ∃ r : Bool, x = .int (bit r) ∧ (t : Int) = bit r := by
  match t, h with
  | 0, h => exact ⟨false, (Option.some.inj h).symm, rfl⟩
  | 1, h => exact ⟨true, (Option.some.inj h).symm, rfl⟩
  | t + 2, h => simp at h
theorem bit_lt (r : Bool) : bit r < 2 := by cases r <;> decide
theorem bit_inj {r r' : Bool} (h : bit r = bit r') : r = r' := by cases r <;> cases r' <;> first | rfl | (exfalso; revert h; decide)
theorem Same.but {H H1 H2 : Hp} {d : Addr} (s : Same H H1) (b : But d H1 H2) (h : H d = none) : Same H H2 := fun x u e => b x u (s x u e) (ne_of_none e h)
def spAll (T : Txt K mg) : Sp := fun vs H Q _ => ∃ (sc : Addr) (Pa : Sy31.Paper) (bs : List Sy31.Bar), vs = [.ref sc] ∧ Ok Pa bs ∧ ∃ _ : ScoreAt T H sc Pa bs, ∀ (H' : Hp) (d : Addr), Same H H' → Tabl T H' d Pa bs (Wo Pa bs 0) 1000 → Q (.ref d) H'
theorem sc43 : FnScope ["score", "bars", "rests", "right", "first", "next_lines", "lines", "place"] ["score"] (defScope (top 43)) := ⟨rfl, rfl, rfl, by decide +kernel, rfl, by decide +kernel, by decide +kernel⟩
theorem ok_all (T : Txt K mg) : FnOk P w K mg base CX0 5 T.all_rests.f T.all_rests.fd ["score"] (spAll T) := by
  refine T.all_rests.F.ok sc43 (fun vs H Q E h => ?_) (fun cdv A outer s H vs Q E hr h => ?_)
  · obtain ⟨sc, Pa, bs, rfl, _⟩ := h; rfl
  · refine hide fun G0 g0 => ?_; obtain ⟨sc, Pa, bs, rfl, ok, S, k⟩ := h; refine g0 ?_; clear g0 G0
    have hlen := ok.len
    have hli := ok.pap.l
    have hr3 := hr.mono (show 3 ≤ 4 by decide)
    refine ⟨_, pss_cons (ps_set (i := 1) sc43.nd rfl (Or.inl rfl) (pe_callB call_len_seq rfl T.len PySem.boot_len (pa_cons (pe_fld (pv 0) rfl) pa_nil)))
      (pss_cons (ps_set (i := 2) sc43.nd rfl (Or.inl rfl) pe_dnewT)
      (pss_cons (ps_for PassesOwn.never rfl (pi_tup (pe_tup (pa_cons pe_int (pa_cons pe_int pa_nil)))) (pg_name (i := 3) sc43.nd rfl (Or.inl rfl))
        (pss_one (ps_dput (hu_of hr) (pv 2) (pe_tup (pa_cons (pv 1) (pa_cons pe_int (pa_cons (pv 3) pa_nil)))) (pcall0 T.nothing_left (ok_nothing T) hr3) rfl)))
      (pss_cons (ps_for PassesOwn.never rfl (pi_range3 rfl T.range (pa_cons (pe_op op_sub (pv 1) pe_int) (pa_cons (pe_un un_neg pe_int) (pa_cons (pe_un un_neg pe_int) pa_nil)))) (pg_name (i := 4) sc43.nd rfl (Or.inl rfl))
        (pss_cons (ps_set (i := 5) sc43.nd rfl (Or.inl rfl) (pcall T.lines_from (ok_lines T) hr (pa_cons (pv 0) (pa_cons (pv 4) pa_nil))))
        (pss_one (ps_for PassesOwn.never rfl (pi_range1 rfl T.range (pa_cons (pe_fld (pe_fld (pv 0) rfl) rfl) pa_nil)) (pg_name (i := 6) sc43.nd rfl (Or.inl rfl))
          (pss_one (ps_for PassesOwn.never rfl (pi_tup (pe_tup (pa_cons pe_int (pa_cons pe_int pa_nil)))) (pg_name (i := 3) sc43.nd rfl (Or.inl rfl))
            (pss_cons (ps_set (i := 7) sc43.nd rfl (Or.inl rfl) (pe_tup (pa_cons (pv 4) (pa_cons (pv 6) (pa_cons (pv 3) pa_nil)))))
            (pss_one (ps_dput (hu_of hr) (pv 2) (pv 7) (pcall T.rest_from (ok_from T) hr3 (pa_cons (pv 0) (pa_cons (pv 2) (pa_cons (pv 7) (pa_cons (pv 5) pa_nil))))) rfl)))))))))
      (pss_one (ps_ret (pv 2)))))), ?_⟩
    try dsimp only [cxOf, Cx.nox]
    refine ⟨_, rfl, rd_bars S ⟨S.lb, _, rfl, .inl (SqL.of S.lst), ?_⟩⟩
    rw [S.len]
    intro d hd
    refine ⟨by show 2 ≤ sizeLine; decide, fun q hq => ⟨q, rfl, ⟨_, SqT.of upd_same⟩, ?_⟩⟩
    have dq : d ≠ q := fun z => by rw [← z, upd_same] at hq; cases hq
    have s0 : Same H (upd (upd H d (.dT [])) q (.tup [.int 0, .int 1])) := (Same.new hd).trans (Same.new hq)
    refine for_tup (K := K) (a := q) (xs := [.int 0, .int 1]) (fun t σ H' => (∃ v3, σ = [some (.ref sc), some (.int (bs.length : Int)), some (.ref d), v3, none, none, none, none]) ∧ Same H H' ∧ H' q = some (.tup [.int 0, .int 1]) ∧
        Tabl T H' d Pa bs (fun i k r => i = bs.length ∧ k = 0 ∧ bit r < (t : Int)) t)
      ⟨⟨none, rfl⟩, s0, upd_same, [], (upd_ne dq).trans upd_same, Nat.le_refl _, fun i k r h => absurd h.2.2 (by unfold bit; cases r <;> simp)⟩ (fun t σ H' _ h => SqT.of h.2.2.1) ?_ ?_
    · rintro t x σ H' hx ⟨⟨v3, rfl⟩, s1, hq1, hT⟩
      obtain ⟨r, rfl, hr'⟩ := two_bits hx
      refine ⟨rfl, fun H2 y ny s2 hy => ?_⟩
      refine ⟨_, rfl, _, rfl, _, rfl, by show 3 ≤ sizeLine; decide, fun b hb => ?_⟩
      have s3 : Same H2 (upd H2 b (.tup [.int (bs.length : Int), .int 0, .int (bit r)])) := Same.new hb
      have hT3 := (hT.same s2).same s3
      have hy3 : ResAt T (upd H2 b (.tup [.int (bs.length : Int), .int 0, .int (bit r)])) y (pyAt Pa bs r 0 bs.length) := by
        rw [pyAt_end (Nat.zero_le _)]
        obtain ⟨dy, hy⟩ := hy
        exact ⟨dy, s3 _ _ hy⟩
      obtain ⟨kvs, hdk, _⟩ := id hT3
      obtain ⟨H4, p4, b4, t4⟩ := hT3.put (b := b) (i := bs.length) (k := 0) (r := r) (by have := bit_lt r; lia) upd_same hy3
      refine ⟨d, H4, rfl, p4, ⟨_, rfl⟩, Same.but (s1.trans (s2.trans s3)) b4 hd, b4 _ _ (s3 _ _ (s2 _ _ hq1)) (Ne.symm dq), t4.mono (fun i k r0 h => ?_) (Nat.le_refl _)⟩
      by_cases e : r0 = r
      · exact .inr ⟨h.1, h.2.1, e⟩
      · refine .inl ⟨h.1, h.2.1, ?_⟩
        have h1 := h.2.2
        have h2 : bit r0 ≠ bit r := fun z => e (bit_inj z)
        lia
    · rintro σ H' ⟨⟨v3, rfl⟩, s1, _, hT⟩
      have hT0 : Tabl T H' d Pa bs (Wo Pa bs bs.length) 2 := hT.mono (fun i k r h => by
        rcases h with h | h
        · exact ⟨h.1, h.2, bit_lt r⟩
        · lia) (Nat.le_refl _)
      refine ⟨_, rfl, _, _, rfl, rfl, _, rfl, _, rfl, _, _, _, bs.length, rfl, ?_, ?_⟩
      · have := RgC.neg (i := (bs.length : Int) - 1) (j := -1) (by lia) (by lia) (by lia) (by lia)
        rw [show ((bs.length : Int) - 1 - -1).toNat = bs.length by lia] at this
        exact this
      refine for_rangeC (lo := (bs.length : Int) - 1) (c := -1) (n := bs.length) (fun t σ H' => (∃ v3 v4 v5 v6 v7, σ = [some (.ref sc), some (.int (bs.length : Int)), some (.ref d), v3, v4, v5, v6, v7]) ∧ Same H H' ∧ Tabl T H' d Pa bs (Wo Pa bs (bs.length - t)) (2 + 12 * t))
        ⟨⟨_, _, _, _, _, rfl⟩, s1, hT0⟩ ?_ ?_
      · intro t σ H1 ht qq4; refine hide fun G0 g0 => ?_; obtain ⟨⟨v3, v4, v5, v6, v7, rfl⟩, s2, hT1⟩ := qq4; refine g0 ?_; clear g0 G0
        obtain ⟨i, hi, ei, ei2⟩ : ∃ i, i < bs.length ∧ ((bs.length : Int) - 1 + ((t : Nat) : Int) * -1) = (i : Int) ∧ bs.length - t = i + 1 := ⟨bs.length - 1 - t, by lia, by lia, by lia⟩
        rw [ei]
        rw [ei2] at hT1
        refine ⟨_, rfl, _, rfl, sc, Pa, bs, i, rfl, Nat.le_of_lt hi, ok, S.same s2, fun H2 nl s3 hN => ?_⟩
        have S2 := S.same (s2.trans s3)
        refine ⟨_, rfl, rd_paper S2 (rd_pf S2.pap (List.mem_of_getElem? (i := 1) rfl) (pap_lines Pa) ⟨(Pa.lines : Int), rfl, by lia, by lia, ?_⟩)⟩
        rw [Int.toNat_natCast]
        refine for_range (lo := 0) (n := Pa.lines) (fun kk σ H' => (∃ v3 v6 v7, σ = [some (.ref sc), some (.int (bs.length : Int)), some (.ref d), v3, some (.int (i : Int)), some (.ref nl), v6, v7]) ∧ Same H H' ∧ NextAt H' nl (nexts Pa bs i (ends_ bs i)) ∧
            Tabl T H' d Pa bs (fun i' k' r' => Wo Pa bs (i + 1) i' k' r' ∨ (i' = i ∧ k' < kk)) (2 + 12 * t + 2 * kk))
          ⟨⟨_, _, _, rfl⟩, s2.trans s3, hN, (hT1.same s3).mono (fun i' k' r' h => h.elim (fun h => h) fun h => absurd h.2 (by lia)) (by lia)⟩ ?_ ?_
        · intro kk σ H3 hkk qq4; refine hide fun G0 g0 => ?_; obtain ⟨⟨v3, v6, v7, rfl⟩, s4, hN3, hT3⟩ := qq4; refine g0 ?_; clear g0 G0
          have ek : (0 : Int) + (kk : Int) = (kk : Int) := by lia
          rw [ek]
          refine ⟨by show 2 ≤ sizeLine; decide, fun q2 hq2 => ⟨q2, rfl, ⟨_, SqT.of upd_same⟩, ?_⟩⟩
          have s5 : Same H3 (upd H3 q2 (.tup [.int 0, .int 1])) := Same.new hq2
          refine for_tup (K := K) (a := q2) (xs := [.int 0, .int 1]) (fun rr σ H' => (∃ v3 v7, σ = [some (.ref sc), some (.int (bs.length : Int)), some (.ref d), v3, some (.int (i : Int)), some (.ref nl), some (.int (kk : Int)), v7]) ∧ Same H H' ∧ H' q2 = some (.tup [.int 0, .int 1]) ∧ NextAt H' nl (nexts Pa bs i (ends_ bs i)) ∧
              Tabl T H' d Pa bs (fun i' k' r' => (Wo Pa bs (i + 1) i' k' r' ∨ (i' = i ∧ k' < kk)) ∨ (i' = i ∧ k' = kk ∧ bit r' < (rr : Int))) (2 + 12 * t + 2 * kk + rr))
            ⟨⟨_, _, rfl⟩, s4.trans s5, upd_same, hN3.same s5, (hT3.same s5).mono (fun i' k' r' h => h.elim (fun h => h) fun h => absurd h.2.2 (by unfold bit; cases r' <;> simp)) (by lia)⟩ (fun rr σ H' _ h => SqT.of h.2.2.1) ?_ ?_
          · intro rr x σ H4 hx qq5; refine hide fun G0 g0 => ?_; obtain ⟨⟨v3, v7, rfl⟩, s6, hq4, hN4, hT4⟩ := qq5; refine g0 ?_; clear g0 G0
            obtain ⟨r, rfl, hrr⟩ := two_bits hx
            refine ⟨_, rfl, _, rfl, _, rfl, by show 3 ≤ sizeLine; decide, fun pl hpl => ?_⟩
            have s7 : Same H4 (upd H4 pl (.tup [.int (i : Int), .int (kk : Int), .int (bit r)])) := Same.new hpl
            have hrl := bit_lt r
            refine ⟨_, rfl, _, rfl, _, rfl, _, rfl, sc, d, pl, nl, Pa, bs, i, kk, r, rfl, hi, hkk, ok, upd_same, hN4.same s7, (hT4.same s7).mono (fun i' k' r' h => .inl (.inl h)) (by lia), S.same (s6.trans s7), fun H5 y ny s8 hy => ?_⟩
            have hT5 := (hT4.same s7).same s8
            obtain ⟨kvs, hdk, _⟩ := id hT5
            obtain ⟨H6, p6, b6, t6⟩ := hT5.put (b := pl) (i := i) (k := kk) (r := r) (by lia) (s8 _ _ upd_same) hy
            refine ⟨_, rfl, _, rfl, d, H6, rfl, p6, ⟨_, _, rfl⟩, Same.but (s6.trans (s7.trans s8)) b6 hd, b6 _ _ (s8 _ _ (s7 _ _ hq4)) (ne_of (s8 _ _ (s7 _ _ hq4)) hdk (by intro z; cases z)), ((hN4.same s7).same s8).but b6 hdk, t6.mono (fun i' k' r' h => ?_) (by lia)⟩
            rcases h with h | ⟨h1, h2, h3⟩
            · exact .inl (.inl h)
            · by_cases e : r' = r
              · exact .inr ⟨h1, h2, e⟩
              · refine .inl (.inr ⟨h1, h2, ?_⟩)
                have h4 : bit r' ≠ bit r := fun z => e (bit_inj z)
                lia
          · intro σ H4 qq2; refine hide fun G0 g0 => ?_; obtain ⟨⟨v3, v7, rfl⟩, s6, _, hN4, hT4⟩ := qq2; refine g0 ?_; clear g0 G0
            refine ⟨⟨_, _, _, rfl⟩, s6, hN4, hT4.mono (fun i' k' r' h => ?_) (by show _ ≤ _; simp; lia)⟩
            rcases h with h | ⟨h1, h2⟩
            · exact .inl (.inl h)
            · by_cases e : k' = kk
              · exact .inr ⟨h1, e, bit_lt r'⟩
              · exact .inl (.inr ⟨h1, by lia⟩)
        · intro σ H3 qq2; refine hide fun G0 g0 => ?_; obtain ⟨⟨v3, v6, v7, rfl⟩, s4, hN3, hT3⟩ := qq2; refine g0 ?_; clear g0 G0
          refine ⟨⟨_, _, _, _, _, rfl⟩, s4, hT3.mono (fun i' k' r' h => ?_) (by lia)⟩
          rcases h with h | ⟨h1, h2, h3⟩
          · exact .inl (.inl h)
          · by_cases e : i' = i
            · exact .inr ⟨e, h3⟩
            · exact .inl (.inr ⟨by lia, h2, h3⟩)
      · intro σ H1 qq2; refine hide fun G0 g0 => ?_; obtain ⟨⟨v3, v4, v5, v6, v7, rfl⟩, s2, hT1⟩ := qq2; refine g0 ?_; clear g0 G0
        rw [Nat.sub_self] at hT1
        exact ⟨_, rfl, k H1 d s2 (hT1.mono (fun _ _ _ h => h) (by lia))⟩
/-! ### rest_at_beginning, count_ways -/
def spBegin (T : Txt K mg) : Sp := fun vs H Q _ => ∃ (sc d : Addr) (Pa : Sy31.Paper) (bs : List Sy31.Bar), vs = [.ref sc, .ref d] ∧ Ok Pa bs ∧ Tabl T H d Pa bs (Wo Pa bs 0) 1000 ∧ ∃ _ : ScoreAt T H sc Pa bs, ∀ (H' : Hp) (a : Addr), Same H H' → ResAt T H' a (pyAt Pa bs Pa.right 0 0) → Q (.ref a) H'
theorem sc44 : FnScope ["score", "rests"] ["score", "rests"] (defScope (top 44)) := ⟨rfl, rfl, rfl, by decide +kernel, rfl, by decide +kernel, by decide +kernel⟩
theorem Wo_zero {Pa : Sy31.Paper} {bs : List Sy31.Bar} (ok : Ok Pa bs) (r : Bool) : Wo Pa bs 0 0 0 r := by
  have := ok.pap.l1
  unfold Wo
  by_cases e : (0 : Nat) = bs.length
  · exact .inl ⟨e, rfl⟩
  · exact .inr ⟨Nat.le_refl _, by lia, by lia⟩
theorem ok_begin (T : Txt K mg) : FnOk P w K mg base CX0 1 T.rest_at_beginning.f T.rest_at_beginning.fd ["score", "rests"] (spBegin T) := by
  refine T.rest_at_beginning.F.ok sc44 (fun vs H Q E h => ?_) (fun cdv A outer s H vs Q E hr h => ?_)
  · obtain ⟨sc, d, Pa, bs, rfl, _⟩ := h; rfl
  · refine hide fun G0 g0 => ?_; obtain ⟨sc, d, Pa, bs, rfl, ok, hT, S, k⟩ := h; refine g0 ?_; clear g0 G0
    refine ⟨_, pss_one (ps_ret (pe_dget (hu_of hr) (pv 1) (pe_tup (pa_cons pe_int (pa_cons pe_int (pa_cons (pe_fld (pe_fld (pv 0) rfl) rfl) pa_nil)))) (fun _ _ => rfl))), ?_⟩
    try dsimp only [cxOf, Cx.nox]
    refine ⟨_, rfl, _, rfl, rd_paper S (rd_pf S.pap (List.mem_of_getElem? (i := 2) rfl) (pap_right Pa) ⟨by show 3 ≤ sizeLine; decide, fun b hb => ?_⟩)⟩
    have s1 : Same H (upd H b (.tup [.int 0, .int 0, .int (bit Pa.right)])) := Same.new hb
    obtain ⟨a, g, q⟩ := (hT.same s1).get (b := b) (i := 0) (k := 0) (r := Pa.right) (Wo_zero ok _) upd_same
    exact ⟨d, _, rfl, g, k _ a s1 q⟩
def spWays (T : Txt K mg) : Sp := fun vs H Q _ => ∃ (sc : Addr) (Pa : Sy31.Paper) (bs : List Sy31.Bar), vs = [.ref sc] ∧ Ok Pa bs ∧ ∃ _ : ScoreAt T H sc Pa bs, ∀ (H' : Hp) (l : Addr), Same H H' → H' l = some (.lst (intsV [(Sy31.all_ Pa bs).ways, (Sy31.all_ Pa bs).bests])) → Q (.ref l) H'
theorem sc45 : FnScope ["score", "rest"] ["score"] (defScope (top 45)) := ⟨rfl, rfl, rfl, by decide +kernel, rfl, by decide +kernel, by decide +kernel⟩
theorem ok_ways (T : Txt K mg) : FnOk P w K mg base CX0 6 T.count_ways.f T.count_ways.fd ["score"] (spWays T) := by
  refine T.count_ways.F.ok sc45 (fun vs H Q E h => ?_) (fun cdv A outer s H vs Q E hr h => ?_)
  · obtain ⟨sc, Pa, bs, rfl, _⟩ := h; rfl
  · refine hide fun G0 g0 => ?_; obtain ⟨sc, Pa, bs, rfl, ok, S, k⟩ := h; refine g0 ?_; clear g0 G0
    refine ⟨_, pss_cons (ps_set (i := 1) sc45.nd rfl (Or.inl rfl) (pcall T.rest_at_beginning (ok_begin T) (hr.mono (by decide)) (pa_cons (pv 0) (pa_cons (pcall T.all_rests (ok_all T) hr (pa_cons (pv 0) pa_nil)) pa_nil))))
      (pss_one (ps_ret (pe_lst (pa_cons (pe_fld (pv 1) rfl) (pa_cons (pe_fld (pv 1) rfl) pa_nil))))), ?_⟩
    try dsimp only [cxOf, Cx.nox]
    refine ⟨_, rfl, _, rfl, sc, Pa, bs, rfl, ok, S, fun H1 d s1 hT => ?_⟩
    refine ⟨sc, d, Pa, bs, rfl, ok, hT, S.same s1, fun H2 a s2 ⟨da, ha⟩ => ?_⟩
    refine ⟨_, rfl, rd_rf ha (List.mem_of_getElem? (i := 0) rfl) (res_ways _) ⟨_, rfl, rd_rf ha (List.mem_of_getElem? (i := 1) rfl) (res_cheap _) ⟨by show 2 ≤ sizeLine; decide, fun l hl => ?_⟩⟩⟩
    refine k _ l ((s1.trans s2).trans (Same.new hl)) ?_
    rw [upd_same, all_eq]
    rfl
end
end Bp
end
section
set_option Elab.async false
set_option linter.all false
set_option maxRecDepth 100000
set_option maxHeartbeats 4000000
namespace Bp
open PySem PySem.Spec PyProof.Rows L2
section
variable {P : Program} {w : World} {K : PySem.W.Frag} {mg : Str → Option Value} {base : Heap}
theorem intsV_snoc (xs : List Nat) (n : Nat) : intsV xs ++ [.int (n : Int)] = intsV (xs ++ [n]) := by unfold intsV; rw [List.map_append]; rfl
/-- pages told as lists of numbers, the lists at ls, in the list at l -/
structure PagesAt (H : Hp) (l : Addr) (ls : List Addr) (ps : List (List Nat)) : Prop where
  lst : H l = some (.lst (ls.map V.ref))
  len : ls.length = ps.length
  at_ : ∀ (t : Nat) (a : Addr), ls[t]? = some a → ∃ p, ps[t]? = some p ∧ H a = some (.lst (intsV p))
theorem PagesAt.same {H H' : Hp} {l : Addr} {ls : List Addr} {ps : List (List Nat)} (s : Same H H') (h : PagesAt H l ls ps) : PagesAt H' l ls ps :=
  ⟨s _ _ h.lst, h.len, fun t a e => let ⟨p, e1, e2⟩ := h.at_ t a e; ⟨p, e1, s _ _ e2⟩⟩
theorem PagesAt.but {H : Hp} {l x : Addr} {ls : List Addr} {ps : List (List Nat)} {o : HO} (h : PagesAt H l ls ps) (hl : l ≠ x) (hx : x ∉ ls) : PagesAt (upd H x o) l ls ps :=
  ⟨by rw [upd_ne hl]; exact h.lst, h.len, fun t a e => let ⟨p, e1, e2⟩ := h.at_ t a e; ⟨p, e1, by rw [upd_ne (show a ≠ x from fun q => hx (by rw [← q]; exact List.mem_of_getElem? e))]; exact e2⟩⟩
theorem PagesAt.snoc {H : Hp} {l x : Addr} {ls : List Addr} {ps : List (List Nat)} {p : List Nat} (h : PagesAt H l ls ps) (hx : H x = some (.lst (intsV p))) (hl : l ∉ ls) (hlx : l ≠ x) : PagesAt (upd H l (.lst (ls.map V.ref ++ [.ref x]))) l (ls ++ [x]) (ps ++ [p]) := by
  refine ⟨by rw [upd_same, List.map_append]; rfl, by rw [List.length_append, List.length_append, h.len]; rfl, fun t a e => ?_⟩
  by_cases q : t < ls.length
  · rw [List.getElem?_append_left q] at e
    obtain ⟨p', e1, e2⟩ := h.at_ t a e
    exact ⟨p', by rw [List.getElem?_append_left (by rw [← h.len]; exact q)]; exact e1, by rw [upd_ne (show a ≠ l from fun z => hl (by rw [← z]; exact List.mem_of_getElem? e))]; exact e2⟩
  · rw [List.getElem?_append_right (by lia)] at e
    have q2 : t = ls.length := by
      have := (List.getElem?_eq_some_iff.mp e).1
      simp at this
      lia
    subst q2
    rw [Nat.sub_self] at e
    have e' : x = a := Option.some.inj e
    subst e'
    exact ⟨p, by rw [h.len, List.getElem?_append_right (Nat.le_refl _), Nat.sub_self]; rfl, by rw [upd_ne (Ne.symm hlx)]; exact hx⟩
def spAlong (T : Txt K mg) : Sp := fun vs H Q _ => ∃ (sc d : Addr) (Pa : Sy31.Paper) (bs : List Sy31.Bar), vs = [.ref sc, .ref d] ∧ Ok Pa bs ∧ Tabl T H d Pa bs (Wo Pa bs 0) 1000 ∧ (restOf Pa bs 0 Pa.right 0).least.isSome = true ∧ ∃ _ : ScoreAt T H sc Pa bs,
  ∀ (H' : Hp) (l : Addr) (ls : List Addr), Same H H' → PagesAt H' l ls (Sy31.pagesOf 0 [] (Sy31.best Pa bs)) → Q (.ref l) H'
theorem sc46 : FnScope ["score", "rests", "pages", "page", "first", "right", "rest"] ["score", "rests"] (defScope (top 46)) := ⟨rfl, rfl, rfl, by decide +kernel, rfl, by decide +kernel, by decide +kernel⟩
/-- where the loop stands -/
structure Along (T : Txt K mg) (H : Hp) (sc d l : Addr) (Pa : Sy31.Paper) (bs : List Sy31.Bar) (σ : L2.St) (H' : Hp) (i : Nat) (r : Bool) (cur : List Nat) (pg : Addr) (ls : List Addr) (ps : List (List Nat)) (f : Nat) : Prop where
  st : ∃ v, σ = [some (.ref sc), some (.ref d), some (.ref l), some (.ref pg), some (.int (i : Int)), some (.int (bit r)), v]
  sm : Same H H'
  il : i ≤ bs.length
  pgs : PagesAt H' l ls ps
  pgl : H' pg = some (.lst (intsV cur))
  kl : cur.length < Pa.lines
  lsm : (restOf Pa bs i r cur.length).least.isSome = true
  fin : i = bs.length → cur = []
  fu : bs.length - i ≤ f
  eq : Sy31.pagesOf 0 [] (Sy31.best Pa bs) = ps ++ Sy31.pagesOf i cur (Sy31.follow Pa bs (Sy31.known Pa bs bs.length) f i r cur.length)
  nl : l ∉ ls
  np : pg ∉ ls
  nlp : l ≠ pg
  hp : H pg = none
  few : ls.length ≤ i
def slot4 (n : Nat) (σ : L2.St) : Nat := match (σ[4]? : Option (Option V)) with
  | some (some (V.int i)) => n - i.toNat
  | _ => 0
theorem ok_along (T : Txt K mg) : FnOk P w K mg base CX0 1 T.pages_along.f T.pages_along.fd ["score", "rests"] (spAlong T) := by
  refine T.pages_along.F.ok sc46 (fun vs H Q E h => ?_) (fun cdv A outer s H vs Q E hr h => ?_)
  · obtain ⟨sc, d, Pa, bs, rfl, _⟩ := h; rfl
  · refine hide fun G0 g0 => ?_; obtain ⟨sc, d, Pa, bs, rfl, ok, hT, hsome, S, k⟩ := h; refine g0 ?_; clear g0 G0
    have hlen := ok.len
    have hli := ok.pap.l
    refine ⟨_, pss_cons (ps_set (i := 2) sc46.nd rfl (Or.inl rfl) (pe_lst pa_nil)) (pss_cons (ps_set (i := 3) sc46.nd rfl (Or.inl rfl) (pe_lst pa_nil)) (pss_cons (ps_set (i := 4) sc46.nd rfl (Or.inl rfl) pe_int)
      (pss_cons (ps_set (i := 5) sc46.nd rfl (Or.inl rfl) (pe_fld (pe_fld (pv 0) rfl) rfl))
      (pss_cons (ps_while PassesOwn.never (pt_cmpR op_lt (pv 4) (pe_callB call_len_seq rfl T.len PySem.boot_len (pa_cons (pe_fld (pv 0) rfl) pa_nil)) (nomark _))
        (pss_cons (ps_set (i := 6) sc46.nd rfl (Or.inl rfl) (pe_dget (hu_of hr) (pv 1) (pe_tup (pa_cons (pv 4) (pa_cons (pe_callB call_len_seq rfl T.len PySem.boot_len (pa_cons (pv 3) pa_nil)) (pa_cons (pv 5) pa_nil)))) (fun _ _ => rfl)))
        (pss_cons (ps_expr (pe_bm PySem.F.plainAttrs_list PySem.F.slot_list_append PySem.F.type_list_append mt_append (pv 3) (pa_cons (pe_fld (pv 6) rfl) pa_nil)))
        (pss_cons (ps_aug (i := 4) sc46.nd rfl (Or.inl rfl) (pe_fld (pv 6) rfl) ip_add)
        (pss_one (ps_if (pt_val (pe_fld (pv 6) rfl))
          (pss_cons (ps_expr (pe_bm PySem.F.plainAttrs_list PySem.F.slot_list_append PySem.F.type_list_append mt_append (pv 2) (pa_cons (pv 3) pa_nil)))
          (pss_cons (ps_set (i := 3) sc46.nd rfl (Or.inl rfl) (pe_lst pa_nil))
          (pss_one (ps_set (i := 5) sc46.nd rfl (Or.inl rfl) (pe_op op_sub pe_int (pv 5)))))) pss_nil))))))
      (pss_one (ps_ret (pv 2))))))), ?_⟩
    try dsimp only [cxOf, Cx.nox]
    refine ⟨Nat.zero_le _, fun l hl => ⟨Nat.zero_le _, fun pg hpg => ?_⟩⟩
    have lp : l ≠ pg := fun q => by rw [← q, upd_same] at hpg; cases hpg
    have s1 : Same H (upd (upd H l (.lst [])) pg (.lst [])) := (Same.new hl).trans (Same.new hpg)
    have hpg0 : H pg = none := by rw [upd_ne (Ne.symm lp)] at hpg; exact hpg
    have S1 := S.same s1
    refine ⟨_, rfl, rd_paper S1 (rd_pf S1.pap (List.mem_of_getElem? (i := 2) rfl) (pap_right Pa) ?_)⟩
    refine while_by (fun σ H' => ∃ i r cur pg ls ps f, Along T H sc d l Pa bs σ H' i r cur pg ls ps f) (fun σ _ => slot4 bs.length σ) ?_ ?_ ?_
    · refine ⟨0, Pa.right, [], pg, [], [], bs.length, ⟨none, rfl⟩, s1, Nat.zero_le _, ⟨(upd_ne lp).trans upd_same, rfl, fun t a h => by simp at h⟩, upd_same, ok.pap.l1, hsome, fun _ => rfl, by lia, rfl, by simp, by simp, lp, hpg0, Nat.zero_le _⟩
    · intro σ H1 qq2; refine hide fun G0 g0 => ?_; obtain ⟨i, r, cur, pg, ls, ps, f, I⟩ := qq2; refine g0 ?_; clear g0 G0
      obtain ⟨v, rfl⟩ := I.st
      have S2 := S.same I.sm
      refine ⟨_, rfl, _, rfl, rd_bars S2 ⟨S2.lb, _, rfl, .inl (SqL.of S2.lst), _, _, rfl, rfl, _, rfl, ?_⟩⟩
      rw [S2.len, dec_lt]
      by_cases c : i < bs.length
      · rw [decide_eq_true c]
        obtain ⟨L, hL, hLm, hLs⟩ := firstL_some c I.kl I.lsm
        obtain ⟨m1, m2, m3, m4, m5⟩ := lines_mem I.kl hLm
        have hkl := I.kl
        refine iteT ⟨_, rfl, _, rfl, _, rfl, pg, _, rfl, .inl (SqL.of I.pgl), _, rfl, by show 3 ≤ sizeLine; decide, fun b hb => ?_⟩
        have s3 : Same H1 (upd H1 b (.tup [.int (i : Int), .int ((intsV cur).length : Int), .int (bit r)])) := Same.new hb
        obtain ⟨a, g, da, ha⟩ := ((hT.same I.sm).same s3).get (b := b) (i := i) (k := cur.length) (r := r) (.inr ⟨Nat.zero_le _, c, I.kl⟩) (by rw [upd_same, intsV_length])
        have e1 : (pyAt Pa bs r cur.length i).len = L.to - i := by unfold pyAt; rw [hL]; rfl
        have e2 : (pyAt Pa bs r cur.length i).ends = L.over := by unfold pyAt; rw [hL]; rfl
        refine ⟨d, _, rfl, g, ?_⟩
        have hpg3 := s3 _ _ I.pgl
        refine ⟨_, rfl, .inl ⟨rfl, _, SqL.of hpg3⟩, _, rfl, rd_rf ha (List.mem_of_getElem? (i := 3) rfl) (res_len _) ⟨pg, _, _, rfl, rfl, hpg3, by rw [intsV_length]; exact small_lt (Nat.le_of_lt hkl) (by lia), ?_⟩⟩
        rw [e1, intsV_snoc]
        have apg : a ≠ pg := ne_of ha hpg3 (by intro z; cases z)
        have ha4 : ∀ o, upd (upd H1 b (.tup [.int (i : Int), .int ((intsV cur).length : Int), .int (bit r)])) pg o a = some (.ins T.Rest.c da (resF (pyAt Pa bs r cur.length i))) := fun o => by rw [upd_ne apg]; exact ha
        refine ⟨_, rfl, _, rfl, rd_rf (ha4 _) (List.mem_of_getElem? (i := 3) rfl) (res_len _) ⟨_, _, rfl, rfl, ?_⟩⟩
        rw [e1]
        have ei : (i : Int) + ((L.to - i : Nat) : Int) = (L.to : Int) := by lia
        dsimp only
        rw [ei]
        refine ⟨_, rfl, rd_rf (ha4 _) (List.mem_of_getElem? (i := 4) rfl) (res_ends _) ⟨_, rfl, ?_⟩⟩
        rw [e2]
        have P4 : PagesAt (upd (upd H1 b (.tup [.int (i : Int), .int ((intsV cur).length : Int), .int (bit r)])) pg (.lst (intsV (cur ++ [L.to - i])))) l ls ps := (I.pgs.same s3).but I.nlp I.np
        have s4 : Same H (upd (upd H1 b (.tup [.int (i : Int), .int ((intsV cur).length : Int), .int (bit r)])) pg (.lst (intsV (cur ++ [L.to - i])))) := Same.upd (I.sm.trans s3) I.hp
        obtain ⟨f', rfl⟩ : ∃ f', f = f' + 1 := ⟨f - 1, by have := I.fu; lia⟩
        have eq := I.eq
        rw [follow_step f' hL] at eq
        have hln : H l = none := hl
        have hfu := I.fu
        have hfew := I.few
        have mu : ∀ v3 v5 v6, slot4 bs.length [some (.ref sc), some (.ref d), some (.ref l), v3, some (.int (L.to : Int)), v5, v6] < slot4 bs.length [some (.ref sc), some (.ref d), some (.ref l), some (.ref pg), some (.int (i : Int)), some (.int (bit r)), v] := fun _ _ _ => by
          show bs.length - ((L.to : Int)).toNat < bs.length - ((i : Int)).toNat
          rw [Int.toNat_natCast, Int.toNat_natCast]; lia
        cases ho : L.over with
        | true =>
          have eb : Sy31.behind r cur.length L = (!r, 0) := by unfold Sy31.behind; rw [ho]; rfl
          rw [eb] at eq hLs
          refine iteT ⟨_, rfl, .inl ⟨rfl, _, SqL.of P4.lst⟩, _, rfl, l, _, _, rfl, rfl, P4.lst, by rw [List.length_map]; exact small_lt (Nat.le_trans I.few I.il) (by lia), ?_⟩
          have P5 := P4.snoc (x := pg) (p := cur ++ [L.to - i]) upd_same I.nl I.nlp
          refine ⟨Nat.zero_le _, fun pg2 hpg2 => ?_⟩
          have s5 := Same.upd (o := .lst (ls.map V.ref ++ [.ref pg])) s4 hln
          have l2 : l ≠ pg2 := ne_of_none P5.lst hpg2
          refine ⟨_, rfl, _, _, rfl, rfl, ?_⟩
          refine ⟨⟨L.to, !r, [], pg2, ls ++ [pg], ps ++ [cur ++ [L.to - i]], f', ⟨_, by rw [← bit_not]; rfl⟩, s5.trans (Same.new hpg2), m2, P5.same (Same.new hpg2), upd_same, ok.pap.l1, hLs, fun _ => rfl, by lia, ?_, ?_, ?_, l2, ?_, ?_⟩, mu _ _ _⟩
          · rw [eq, List.append_assoc]
            congr 1
            show (if L.over = true then _ else _) = _
            rw [ho, if_pos rfl]; rfl
          · intro q
            rcases List.mem_append.mp q with z | z
            · exact I.nl z
            · exact I.nlp (by simpa using z)
          · intro q
            obtain ⟨t, ht⟩ := List.mem_iff_getElem?.mp q
            obtain ⟨p, _, hh⟩ := P5.at_ t pg2 ht
            rw [hpg2] at hh; cases hh
          · exact s5.free hpg2
          · rw [List.length_append]
            show ls.length + 1 ≤ L.to
            lia
        | false =>
          have eb : Sy31.behind r cur.length L = (r, cur.length + 1) := by unfold Sy31.behind; rw [ho]; rfl
          rw [eb] at eq hLs m4
          have el : (cur ++ [L.to - i]).length = cur.length + 1 := by rw [List.length_append]; rfl
          refine iteF ⟨⟨L.to, r, cur ++ [L.to - i], pg, ls, ps, f', ⟨_, rfl⟩, s4, m2, P4, upd_same, by rw [el]; exact m4, by rw [el]; exact hLs, fun q => (by rw [m5 q] at ho; cases ho), by lia, ?_, I.nl, I.np, I.nlp, I.hp, by lia⟩, mu _ _ _⟩
          rw [eq, el]
          congr 1
          show (if L.over = true then _ else _) = _
          rw [ho, if_neg (by simp)]
      · rw [decide_eq_false c]
        have hi := I.il
        have ie : i = bs.length := by lia
        subst ie
        have eq := I.eq
        have hc := I.fin rfl
        subst hc
        rw [follow_end] at eq
        refine iteF ⟨_, rfl, k H1 l ls I.sm ?_⟩
        rw [eq]
        have : Sy31.pagesOf bs.length [] [] = [] := rfl
        rw [this, List.append_nil]
        exact I.pgs
    · intro σ H0 Q0 Q1 hQ h
      refine hide fun G0 g0 => ?_; obtain ⟨v, hv, v0, h0, a, C, dx, fs, v1, e1, e2, e3, e4, e5, p, ys, e6, e7, i, j, e8, e9, kb, e10, q⟩ := h; refine g0 ?_; clear g0 G0
      exact ⟨v, hv, v0, h0, a, C, dx, fs, v1, e1, e2, e3, e4, e5, p, ys, e6, e7, i, j, e8, e9, kb, e10, hQ _ _ q⟩
/-! ### best_way -/
def bestV (Pa : Sy31.Paper) (bs : List Sy31.Bar) : Int := match (Sy31.all_ Pa bs).least with
  | none => -6
  | some m => ((m : Nat) : Int)
def bestP (Pa : Sy31.Paper) (bs : List Sy31.Bar) : List (List Nat) := match (Sy31.all_ Pa bs).least with
  | none => []
  | some _ => Sy31.pagesOf 0 [] (Sy31.best Pa bs)
def spBest (T : Txt K mg) : Sp := fun vs H Q _ => ∃ (sc : Addr) (Pa : Sy31.Paper) (bs : List Sy31.Bar), vs = [.ref sc] ∧ Ok Pa bs ∧ ∃ _ : ScoreAt T H sc Pa bs, ∀ (H' : Hp) (t l : Addr) (ls : List Addr), Same H H' → H' t = some (.tup [.int (bestV Pa bs), .ref l]) → PagesAt H' l ls (bestP Pa bs) → Q (.ref t) H'
theorem sc47 : FnScope ["score", "rests", "rest"] ["score"] (defScope (top 47)) := ⟨rfl, rfl, rfl, by decide +kernel, rfl, by decide +kernel, by decide +kernel⟩
theorem ok_best (T : Txt K mg) : FnOk P w K mg base CX0 6 T.best_way.f T.best_way.fd ["score"] (spBest T) := by
  refine T.best_way.F.ok sc47 (fun vs H Q E h => ?_) (fun cdv A outer s H vs Q E hr h => ?_)
  · obtain ⟨sc, Pa, bs, rfl, _⟩ := h; rfl
  · refine hide fun G0 g0 => ?_; obtain ⟨sc, Pa, bs, rfl, ok, S, k⟩ := h; refine g0 ?_; clear g0 G0
    have good : Good (restOf Pa bs 0 Pa.right 0) := restOf_good _ 0 Pa.right 0 rfl (Nat.zero_le _) ok.pap.l1
    refine ⟨_, pss_cons (ps_set (i := 1) sc47.nd rfl (Or.inl rfl) (pcall T.all_rests (ok_all T) hr (pa_cons (pv 0) pa_nil)))
      (pss_cons (ps_set (i := 2) sc47.nd rfl (Or.inl rfl) (pcall T.rest_at_beginning (ok_begin T) (hr.mono (by decide)) (pa_cons (pv 0) (pa_cons (pv 1) pa_nil))))
      (pss_cons (ps_if (pt_cmpR op_eq (pe_fld (pv 2) rfl) pe_int (nomark _)) (pss_one (ps_ret (pe_tup (pa_cons (pe_gint T.NO_WAY) (pa_cons (pe_lst pa_nil) pa_nil))))) pss_nil)
      (pss_one (ps_ret (pe_tup (pa_cons (pe_fld (pv 2) rfl) (pa_cons (pcall T.pages_along (ok_along T) (hr.mono (by decide)) (pa_cons (pv 0) (pa_cons (pv 1) pa_nil))) pa_nil))))))), ?_⟩
    try dsimp only [cxOf, Cx.nox]
    refine ⟨_, rfl, sc, Pa, bs, rfl, ok, S, fun H1 d s1 hT => ?_⟩
    refine ⟨_, rfl, _, rfl, sc, d, Pa, bs, rfl, ok, hT, S.same s1, fun H2 a s2 ⟨da, ha⟩ => ?_⟩
    refine ⟨_, rfl, rd_rf ha (List.mem_of_getElem? (i := 0) rfl) (res_ways _) ⟨rfl, _, rfl, ?_⟩⟩
    have e0 : decide (V.int ((pyAt Pa bs Pa.right 0 0).ways : Int) = V.int 0) = decide ((restOf Pa bs 0 Pa.right 0).ways = 0) := dec_nat _ 0
    rw [e0]
    have ea := all_eq (P := Pa) (bs := bs)
    by_cases c : (restOf Pa bs 0 Pa.right 0).ways = 0
    · rw [decide_eq_true c]
      have hn : (Sy31.all_ Pa bs).least = none := by
        rw [ea]
        cases q : (restOf Pa bs 0 Pa.right 0).least with
        | none => rfl
        | some m => exact absurd c (good.1.mp (by rw [q]; rfl))
      refine iteT ⟨Nat.zero_le _, fun l hl => ⟨by show 2 ≤ sizeLine; decide, fun t ht => ?_⟩⟩
      have lt : l ≠ t := fun q => by rw [← q, upd_same] at ht; cases ht
      refine k _ t l [] (((s1.trans s2).trans (Same.new hl)).trans (Same.new ht)) ?_ ?_
      · unfold bestV; rw [hn, upd_same]
      · unfold bestP; rw [hn]
        exact ⟨(upd_ne lt).trans upd_same, rfl, fun t a h => by simp at h⟩
    · rw [decide_eq_false c]
      have hsome : (restOf Pa bs 0 Pa.right 0).least.isSome = true := good.1.mpr c
      obtain ⟨m, hm⟩ := Option.isSome_iff_exists.mp hsome
      have hn : (Sy31.all_ Pa bs).least = some m := by rw [ea]; exact hm
      refine iteF ⟨_, rfl, rd_rf ha (List.mem_of_getElem? (i := 2) rfl) (res_cost _) ⟨_, rfl, _, rfl, sc, d, Pa, bs, rfl, ok, hT.same s2, hsome, S.same (s1.trans s2), fun H3 l ls s3 hP => ⟨by show 2 ≤ sizeLine; decide, fun t ht => ?_⟩⟩⟩
      refine k _ t l ls ((s1.trans (s2.trans s3)).trans (Same.new ht)) ?_ ?_
      · unfold bestV; rw [hn, upd_same]
        show some (HO.tup [V.int (((restOf Pa bs 0 Pa.right 0).least.getD 0 : Nat) : Int), V.ref l]) = _
        rw [hm]; rfl
      · unfold bestP; rw [hn]
        exact hP.same (Same.new ht)
end
end Bp
end
section
set_option Elab.async false
set_option linter.all false
set_option maxRecDepth 100000
set_option maxHeartbeats 4000000
namespace Bp
open PySem PySem.Spec PyProof.Rows L2
/-- over enumerate of a list that the body leaves as it is -/
theorem for_enum {K : PySem.W.Frag} {a : Addr} {xs : List V} {g : TG} {tb : TS} {D : Ends} {σ : L2.St} {H : Hp} (Pv : Nat → L2.St → Hp → Prop) (h0 : Pv 0 σ H) (hl : ∀ i σ H, i ≤ xs.length → Pv i σ H → SqL K H a xs)
    (hs : ∀ i x σ H Tp, xs[i]? = some x → Pv i σ H → H Tp = none → g (.ref Tp) σ (upd H Tp (.tup [.int ((i : Nat) : Int), x])) fun σ2 H2 => tb { D with nx := Pv (i + 1), ct := Pv (i + 1), bk := D.nx } σ2 H2) (hd : ∀ σ H, Pv xs.length σ H → D.nx σ H) :
    ∃ W : Nat → Nat → L2.St → Hp → Prop, (∃ m, W 0 m σ H) ∧ ∀ i m σ H, W i m σ H →
      ((Ite K a).stop i H ∧ D.nx σ H) ∨ ((Ite K a).go i H ∧ ∃ N : L2.St → Hp → Prop, (∀ σ' H', N σ' H' → ∃ m', m' < m ∧ W (i + 1) m' σ' H') ∧ ∀ x H', (Ite K a).yld i H x H' → g x σ H' fun σ2 H2 => tb { D with nx := N, ct := N, bk := D.nx } σ2 H2) := by
  refine ⟨fun i m σ H => m = xs.length - i ∧ i ≤ xs.length ∧ Pv i σ H, ⟨xs.length, by simp, Nat.zero_le _, h0⟩, ?_⟩
  rintro i m σ H ⟨rfl, hi, p⟩
  have q := hl i σ H hi p
  by_cases hlt : i < xs.length
  · refine .inr ⟨⟨xs, xs[i], q, by simp [hlt]⟩, Pv (i + 1), fun σ' H' p' => ⟨xs.length - (i + 1), by lia, rfl, hlt, p'⟩, fun x H' y => ?_⟩
    obtain ⟨Tp, z, rfl, hn, rfl, y⟩ := y
    exact hs i z σ _ Tp (y xs q) p hn
  · have e : i = xs.length := by lia
    subst e
    exact .inl ⟨⟨xs, q, Nat.le_refl _⟩, hd σ H p⟩
section
variable {P : Program} {w : World} {K : PySem.W.Frag} {mg : Str → Option Value} {base : Heap}
theorem total_take {p : List Nat} {t x : Nat} (h : p[t]? = some x) : Sy31.total (p.take (t + 1)) = Sy31.total (p.take t) + x := by
  rw [List.take_add_one, h, total_append]
  show _ + Sy31.total [x] = _
  rw [total_cons, total_nil]; lia
theorem drop_cons {p : List Nat} {t x : Nat} (h : p[t]? = some x) : p.drop t = x :: p.drop (t + 1) := by
  obtain ⟨h1, h2⟩ := List.getElem?_eq_some_iff.mp h
  rw [List.drop_eq_getElem_cons h1, h2]
theorem pageOk_step {Pa : Sy31.Paper} {bs : List Sy31.Bar} {t i x : Nat} {s : List Nat} : pageOk Pa bs t i (x :: s) = ((t == 0 || mayGo Pa bs t i) && (okLine Pa bs i (i + x) && pageOk Pa bs (t + 1) (i + x) s)) := rfl
theorem intsV_at {p : List Nat} {t : Nat} {x : V} (h : (intsV p)[t]? = some x) : ∃ n, p[t]? = some n ∧ x = .int (n : Int) := by
  unfold intsV at h
  rw [List.getElem?_map] at h
  obtain ⟨n, h1, h2⟩ := Option.map_eq_some_iff.mp h
  exact ⟨n, h1, h2.symm⟩
/-! ### is_page -/
def spIsPage (T : Txt K mg) : Sp := fun vs H Q _ => ∃ (sc pg : Addr) (Pa : Sy31.Paper) (bs : List Sy31.Bar) (i : Nat) (p : List Nat), vs = [.ref sc, .int (i : Int), .ref pg] ∧ i ≤ bs.length ∧ Ok Pa bs ∧ H pg = some (.lst (intsV p)) ∧ ∃ _ : ScoreAt T H sc Pa bs, ∀ H' : Hp, Same H H' → Q (.bl (isPage Pa bs i p)) H'
theorem sc48 : FnScope ["score", "first", "page", "after", "place", "length"] ["score", "first", "page"] (defScope (top 48)) := ⟨rfl, rfl, rfl, by decide +kernel, rfl, by decide +kernel, by decide +kernel⟩
theorem ok_ispage (T : Txt K mg) : FnOk P w K mg base CX0 4 T.is_page.f T.is_page.fd ["score", "first", "page"] (spIsPage T) := by
  refine T.is_page.F.ok sc48 (fun vs H Q E h => ?_) (fun cdv A outer s H vs Q E hr h => ?_)
  · refine hide fun G0 g0 => ?_; obtain ⟨sc, pg, Pa, bs, i, p, rfl, _⟩ := h; refine g0 ?_; clear g0 G0; rfl
  · refine hide fun G0 g0 => ?_; obtain ⟨sc, pg, Pa, bs, i, p, rfl, hi, ok, hp, S, k⟩ := h; refine g0 ?_; clear g0 G0
    have hr1 := hr.mono (show 1 ≤ 3 by decide)
    refine ⟨_, pss_cons (ps_if (PW.pt (pw_or (pt_cmpR op_eq (pe_callB call_len_seq rfl T.len PySem.boot_len (pa_cons (pv 2) pa_nil)) pe_int (nomark _)) (pw_or1 (pt_cmpR op_gt (pe_callB call_len_seq rfl T.len PySem.boot_len (pa_cons (pv 2) pa_nil)) (pe_fld (pe_fld (pv 0) rfl) rfl) (nomark _))))) (pss_one (ps_ret pe_bl)) pss_nil)
      (pss_cons (ps_set (i := 3) sc48.nd rfl (Or.inl rfl) (pv 1))
      (pss_cons (ps_for PassesOwn.never rfl (pi_enum rfl T.enumerate (pa_cons (pv 2) pa_nil)) (pg_tup (n := 2) rfl (pgs_cons (pg_name (i := 4) sc48.nd rfl (Or.inl rfl)) (pgs_cons (pg_name (i := 5) sc48.nd rfl (Or.inl rfl)) pgs_nil)))
        (pss_cons (ps_if (PW.pt (pw_and (pt_cmpR op_gt (pv 4) pe_int (nomark _)) (pw_and1 (pt_not (pt_val (pcall T.page_may_go_on (ok_maygo T) hr1 (pa_cons (pv 0) (pa_cons (pv 4) (pa_cons (pv 3) pa_nil))))))))) (pss_one (ps_ret pe_bl)) pss_nil)
        (pss_cons (ps_if (pt_cmpR op_ne (pcall T.refusal_of_line (ok_refusal T) hr (pa_cons (pv 0) (pa_cons (pv 3) (pa_cons (pe_op op_add (pv 3) (pv 5)) pa_nil)))) pe_int (nomark _)) (pss_one (ps_ret pe_bl)) pss_nil)
        (pss_one (ps_aug (i := 3) sc48.nd rfl (Or.inl rfl) (pv 5) ip_add)))))
      (pss_one (ps_ret pe_bl)))), ?_⟩
    try dsimp only [cxOf, Cx.nox]
    unfold isPage at k
    have e0 : decide (V.int ((intsV p).length : Int) = V.int 0) = p.isEmpty := by
      rw [intsV_length]
      rw [show decide (V.int (p.length : Int) = V.int 0) = decide (p.length = 0) from dec_nat _ 0]
      cases p <;> rfl
    refine ⟨_, rfl, pg, _, rfl, .inl (SqL.of hp), rfl, _, rfl, ?_⟩
    rw [e0]
    cases c1 : p.isEmpty with
    | true =>
      rw [c1] at k
      exact iteT (iteT (k H (Same.refl H)))
    | false =>
      rw [c1] at k
      refine iteF ⟨_, rfl, pg, _, rfl, .inl (SqL.of hp), _, rfl, rd_paper S (rd_pf S.pap (List.mem_of_getElem? (i := 1) rfl) (pap_lines Pa) ⟨_, _, rfl, rfl, _, rfl, ?_⟩)⟩
      rw [intsV_length, dec_lt]
      cases c2 : decide (Pa.lines < p.length) with
      | true =>
        rw [c2] at k
        exact iteT (k H (Same.refl H))
      | false =>
        rw [c2] at k
        refine iteF ⟨_, rfl, _, rfl, pg, _, rfl, SqL.of hp, ?_⟩
        refine for_enum (K := K) (a := pg) (xs := intsV p) (fun t σ H' => (∃ v4 v5, σ = [some (.ref sc), some (.int (i : Int)), some (.ref pg), some (.int ((i + Sy31.total (p.take t) : Nat) : Int)), v4, v5]) ∧ Same H H' ∧ i + Sy31.total (p.take t) ≤ bs.length ∧ (0 < t → 1 ≤ i + Sy31.total (p.take t)) ∧
            pageOk Pa bs 0 i p = pageOk Pa bs t (i + Sy31.total (p.take t)) (p.drop t))
          ⟨⟨none, none, rfl⟩, Same.refl H, hi, fun h => absurd h (Nat.lt_irrefl _), rfl⟩ (fun t σ H' _ q => SqL.of (q.2.1 _ _ hp)) ?_ ?_
        · intro t x σ H1 Tp hx qq6 hTp; refine hide fun G0 g0 => ?_; obtain ⟨⟨v4, v5, rfl⟩, s1, hle, h1, heq⟩ := qq6; refine g0 ?_; clear g0 G0
          obtain ⟨n, hn, rfl⟩ := intsV_at hx
          have s2 : Same H1 (upd H1 Tp (.tup [.int ((t : Nat) : Int), .int (n : Int)])) := Same.new hTp
          have s3 := s1.trans s2
          have S3 := S.same s3
          rw [drop_cons hn, pageOk_step] at heq
          rw [heq] at k
          generalize hj : i + Sy31.total (p.take t) = j at *
          have ej : i + Sy31.total (p.take (t + 1)) = j + n := by rw [total_take hn]; lia
          refine ⟨Tp, _, rfl, SqT.of upd_same, rfl, _, _, rfl, _, _, rfl, rfl, ?_⟩
          refine ⟨_, rfl, _, _, rfl, rfl, _, rfl, ?_⟩
          -- the second test and what follows
          have ez : decide ((0 : Int) < (t : Int)) = !(t == 0) := by
            cases t with
            | zero => rfl
            | succ m =>
              rw [decide_eq_true (by lia)]; rfl
          rw [ez]
          by_cases c3 : (t == 0 || mayGo Pa bs t j) = true
          · rw [c3, Bool.true_and] at k
            cases c4 : (t == 0) with
            | true =>
              refine iteF (iteF ?_)
              refine ⟨_, rfl, _, rfl, _, rfl, _, rfl, _, _, rfl, rfl, sc, Pa, bs, j, j + n, rfl, ok, S3, fun H4 s4 => ⟨rfl, _, rfl, ?_⟩⟩
              by_cases c5 : okLine Pa bs j (j + n) = true
              · have c0 : decide (V.int (refI Pa bs j (j + n)) = V.int 0) = true := decide_eq_true (by rw [refI_zero.mpr c5])
                rw [c0]
                obtain ⟨o1, o2, _, _⟩ := okLine_iff.mp c5
                refine iteF ⟨_, rfl, _, rfl, _, _, rfl, rfl, ⟨some (.int ((t : Nat) : Int)), some (.int (n : Int)), ?_⟩, s3.trans s4, by rw [ej]; exact o2, fun _ => by rw [ej]; lia, ?_⟩
                · rw [ej]; rfl
                · rw [ej]
                  have c4' : t = 0 := by simpa using c4
                  rw [heq, c3, c5, Bool.true_and, Bool.true_and]
              · have c0 : decide (V.int (refI Pa bs j (j + n)) = V.int 0) = false := decide_eq_false fun q => c5 (refI_zero.mp (V.int.inj q))
                rw [c0]
                have c5' : okLine Pa bs j (j + n) = false := by simpa using c5
                rw [c5'] at k
                exact iteT (k H4 (s3.trans s4))
            | false =>
              rw [c4, Bool.false_or] at c3
              refine iteT ⟨_, rfl, _, rfl, _, rfl, sc, Pa, bs, t, j, rfl, h1 (by simp at c4; lia), hle, S3, _, rfl, ?_⟩
              rw [c3]
              refine iteF ?_
              refine ⟨_, rfl, _, rfl, _, rfl, _, rfl, _, _, rfl, rfl, sc, Pa, bs, j, j + n, rfl, ok, S3, fun H4 s4 => ⟨rfl, _, rfl, ?_⟩⟩
              by_cases c5 : okLine Pa bs j (j + n) = true
              · have c0 : decide (V.int (refI Pa bs j (j + n)) = V.int 0) = true := decide_eq_true (by rw [refI_zero.mpr c5])
                rw [c0]
                obtain ⟨o1, o2, _, _⟩ := okLine_iff.mp c5
                refine iteF ⟨_, rfl, _, rfl, _, _, rfl, rfl, ⟨some (.int ((t : Nat) : Int)), some (.int (n : Int)), ?_⟩, s3.trans s4, by rw [ej]; exact o2, fun _ => by rw [ej]; lia, ?_⟩
                · rw [ej]; rfl
                · rw [ej, heq, c3, c5]
                  simp
              · have c0 : decide (V.int (refI Pa bs j (j + n)) = V.int 0) = false := decide_eq_false fun q => c5 (refI_zero.mp (V.int.inj q))
                rw [c0]
                have c5' : okLine Pa bs j (j + n) = false := by simpa using c5
                rw [c5'] at k
                exact iteT (k H4 (s3.trans s4))
          · have c3' : (t == 0 || mayGo Pa bs t j) = false := by simpa using c3
            rw [c3'] at k
            rw [Bool.or_eq_false_iff] at c3'
            rw [c3'.1]
            refine iteT ⟨_, rfl, _, rfl, _, rfl, sc, Pa, bs, t, j, rfl, h1 (by have := c3'.1; simp at this; lia), hle, S3, _, rfl, ?_⟩
            rw [c3'.2]
            exact iteT (k _ s3)
        · intro σ H1 qq2; refine hide fun G0 g0 => ?_; obtain ⟨⟨v4, v5, rfl⟩, s1, hle, h1, heq⟩ := qq2; refine g0 ?_; clear g0 G0
          rw [intsV_length, List.drop_length] at heq
          rw [heq] at k
          exact k H1 s1
/-! ### cost_of_lines -/
def spCostLines (T : Txt K mg) : Sp := fun vs H Q _ => ∃ (sc pg : Addr) (Pa : Sy31.Paper) (bs : List Sy31.Bar) (i : Nat) (p : List Nat), vs = [.ref sc, .int (i : Int), .ref pg] ∧ pageOk Pa bs 0 i p = true ∧ Ok Pa bs ∧ H pg = some (.lst (intsV p)) ∧ ∃ _ : ScoreAt T H sc Pa bs, ∀ H' : Hp, Same H H' → Q (.int ((linesCost Pa bs i p : Nat) : Int)) H'
theorem sc49 : FnScope ["score", "first", "page", "cost", "after", "length"] ["score", "first", "page"] (defScope (top 49)) := ⟨rfl, rfl, rfl, by decide +kernel, rfl, by decide +kernel, by decide +kernel⟩
theorem ok_costlines (T : Txt K mg) : FnOk P w K mg base CX0 3 T.cost_of_lines.f T.cost_of_lines.fd ["score", "first", "page"] (spCostLines T) := by
  refine T.cost_of_lines.F.ok sc49 (fun vs H Q E h => ?_) (fun cdv A outer s H vs Q E hr h => ?_)
  · refine hide fun G0 g0 => ?_; obtain ⟨sc, pg, Pa, bs, i, p, rfl, _⟩ := h; refine g0 ?_; clear g0 G0; rfl
  · refine hide fun G0 g0 => ?_; obtain ⟨sc, pg, Pa, bs, i, p, rfl, hok, ok, hp, S, k⟩ := h; refine g0 ?_; clear g0 G0
    refine ⟨_, pss_cons (ps_set (i := 3) sc49.nd rfl (Or.inl rfl) pe_int) (pss_cons (ps_set (i := 4) sc49.nd rfl (Or.inl rfl) (pv 1))
      (pss_cons (ps_for PassesOwn.never rfl (pi_list (pv 2)) (pg_name (i := 5) sc49.nd rfl (Or.inl rfl))
        (pss_cons (ps_aug (i := 3) sc49.nd rfl (Or.inl rfl) (pcall T.cost_of_line (ok_cost T) hr (pa_cons (pv 0) (pa_cons (pv 4) (pa_cons (pe_op op_add (pv 4) (pv 5)) pa_nil)))) ip_add)
        (pss_one (ps_aug (i := 4) sc49.nd rfl (Or.inl rfl) (pv 5) ip_add))))
      (pss_one (ps_ret (pv 3))))), ?_⟩
    try dsimp only [cxOf, Cx.nox]
    refine ⟨_, rfl, _, rfl, pg, rfl, ⟨_, SqL.of hp⟩, ?_⟩
    refine for_list (K := K) (a := pg) (xs := intsV p) (fun t σ H' => ∃ c : Nat, (∃ v5, σ = [some (.ref sc), some (.int (i : Int)), some (.ref pg), some (.int (c : Int)), some (.int ((i + Sy31.total (p.take t) : Nat) : Int)), v5]) ∧ Same H H' ∧
        pageOk Pa bs t (i + Sy31.total (p.take t)) (p.drop t) = true ∧ linesCost Pa bs i p = c + linesCost Pa bs (i + Sy31.total (p.take t)) (p.drop t))
      ⟨0, ⟨none, rfl⟩, Same.refl H, hok, by rw [Nat.zero_add]; rfl⟩ (fun t σ H' _ ⟨_, q⟩ => SqL.of (q.2.1 _ _ hp)) ?_ ?_
    · rintro t x σ H1 hx ⟨c, ⟨v5, rfl⟩, s1, hpk, hc⟩
      obtain ⟨n, hn, rfl⟩ := intsV_at hx
      rw [drop_cons hn] at hpk hc
      rw [pageOk_step, Bool.and_eq_true, Bool.and_eq_true] at hpk
      generalize hj : i + Sy31.total (p.take t) = j at *
      have ej : i + Sy31.total (p.take (t + 1)) = j + n := by rw [total_take hn]; lia
      obtain ⟨_, c5, h6⟩ := hpk
      obtain ⟨o1, o2, o3, _⟩ := okLine_iff.mp c5
      refine ⟨_, rfl, _, rfl, _, rfl, _, rfl, _, rfl, _, _, rfl, rfl, sc, Pa, bs, j, j + n, rfl, o1, o2, o3, ok, S.same s1, fun H2 s2 => ?_⟩
      refine ⟨_, _, rfl, rfl, ?_⟩
      refine ⟨_, rfl, _, rfl, _, _, rfl, rfl, c + Sy31.lineCost Pa bs j (j + n), ⟨some (.int (n : Int)), ?_⟩, s1.trans s2, by rw [ej]; exact h6, ?_⟩
      · rw [ej]; rfl
      · rw [ej, hc]
        show c + (Sy31.lineCost Pa bs j (j + n) + linesCost Pa bs (j + n) (p.drop (t + 1))) = _
        lia
    · rintro σ H1 ⟨c, ⟨v5, rfl⟩, s1, _, hc⟩
      rw [intsV_length, List.drop_length] at hc
      have : linesCost Pa bs i p = c := hc
      rw [this] at k
      exact ⟨_, rfl, k H1 s1⟩
/-! ### cost_of_pages -/
theorem pageOk_le {Pa : Sy31.Paper} {bs : List Sy31.Bar} : ∀ (p : List Nat) (t i : Nat), i ≤ bs.length → pageOk Pa bs t i p = true → i + Sy31.total p ≤ bs.length ∧ (p ≠ [] → 1 ≤ i + Sy31.total p)
  | [], t, i, h, _ => ⟨h, fun q => absurd rfl q⟩
  | x :: s, t, i, h, hp => by
    rw [pageOk_step, Bool.and_eq_true, Bool.and_eq_true] at hp
    obtain ⟨o1, o2, _, _⟩ := okLine_iff.mp hp.2.1
    have := pageOk_le s (t + 1) (i + x) o2 hp.2.2
    rw [total_cons]
    exact ⟨by lia, fun _ => by lia⟩
def spCostPages (T : Txt K mg) : Sp := fun vs H Q _ => ∃ (sc l : Addr) (ls : List Addr) (Pa : Sy31.Paper) (bs : List Sy31.Bar) (ps : List (List Nat)), vs = [.ref sc, .ref l] ∧ Ok Pa bs ∧ PagesAt H l ls ps ∧ ∃ _ : ScoreAt T H sc Pa bs, ∀ H' : Hp, Same H H' → Q (.int (checkI Pa bs 0 Pa.right ps 0)) H'
theorem sc50 : FnScope ["score", "pages", "cost", "first", "right", "page", "after"] ["score", "pages"] (defScope (top 50)) := ⟨rfl, rfl, rfl, by decide +kernel, rfl, by decide +kernel, by decide +kernel⟩
theorem ok_costpages (T : Txt K mg) : FnOk P w K mg base CX0 5 T.cost_of_pages.f T.cost_of_pages.fd ["score", "pages"] (spCostPages T) := by
  refine T.cost_of_pages.F.ok sc50 (fun vs H Q E h => ?_) (fun cdv A outer s H vs Q E hr h => ?_)
  · refine hide fun G0 g0 => ?_; obtain ⟨sc, l, ls, Pa, bs, ps, rfl, _⟩ := h; refine g0 ?_; clear g0 G0; rfl
  · refine hide fun G0 g0 => ?_; obtain ⟨sc, l, ls, Pa, bs, ps, rfl, ok, hP, S, k⟩ := h; refine g0 ?_; clear g0 G0
    refine ⟨_, pss_cons (ps_set (i := 2) sc50.nd rfl (Or.inl rfl) pe_int) (pss_cons (ps_set (i := 3) sc50.nd rfl (Or.inl rfl) pe_int) (pss_cons (ps_set (i := 4) sc50.nd rfl (Or.inl rfl) (pe_fld (pe_fld (pv 0) rfl) rfl))
      (pss_cons (ps_for PassesOwn.never rfl (pi_list (pv 1)) (pg_name (i := 5) sc50.nd rfl (Or.inl rfl))
        (pss_cons (ps_if (pt_not (pt_val (pcall T.is_page (ok_ispage T) hr (pa_cons (pv 0) (pa_cons (pv 3) (pa_cons (pv 5) pa_nil)))))) (pss_one (ps_ret (pe_gint T.NO_PAGES_OF_A_WAY))) pss_nil)
        (pss_cons (ps_set (i := 6) sc50.nd rfl (Or.inl rfl) (pe_op op_add (pv 3) (pe_callB (cr_sum rfl) rfl T.sum boot_sum1 (pa_cons (pv 5) pa_nil))))
        (pss_cons (ps_aug (i := 2) sc50.nd rfl (Or.inl rfl) (pe_op op_add (pcall T.cost_of_lines (ok_costlines T) (hr.mono (by decide)) (pa_cons (pv 0) (pa_cons (pv 3) (pa_cons (pv 5) pa_nil)))) (pcall T.cost_of_page (ok_page T) (hr.mono (by decide)) (pa_cons (pv 0) (pa_cons (pe_callB call_len_seq rfl T.len PySem.boot_len (pa_cons (pv 5) pa_nil)) (pa_cons (pv 6) (pa_cons (pv 4) pa_nil)))))) ip_add)
        (pss_cons (ps_set (i := 3) sc50.nd rfl (Or.inl rfl) (pv 6))
        (pss_one (ps_set (i := 4) sc50.nd rfl (Or.inl rfl) (pe_op op_sub pe_int (pv 4)))))))))
      (pss_cons (ps_if (pt_cmpR op_ne (pv 3) (pe_callB call_len_seq rfl T.len PySem.boot_len (pa_cons (pe_fld (pv 0) rfl) pa_nil)) (nomark _)) (pss_one (ps_ret (pe_gint T.NO_PAGES_OF_A_WAY))) pss_nil)
      (pss_one (ps_ret (pv 2))))))), ?_⟩
    try dsimp only [cxOf, Cx.nox]
    refine ⟨_, rfl, rd_paper S (rd_pf S.pap (List.mem_of_getElem? (i := 2) rfl) (pap_right Pa) ?_)⟩
    refine ⟨_, rfl, l, rfl, ⟨_, SqL.of hP.lst⟩, ?_⟩
    refine for_list (K := K) (a := l) (xs := ls.map V.ref) (fun t σ H' => ∃ (i c : Nat) (r : Bool), (∃ v5 v6, σ = [some (.ref sc), some (.ref l), some (.int (c : Int)), some (.int (i : Int)), some (.int (bit r)), v5, v6]) ∧ Same H H' ∧ i ≤ bs.length ∧
        checkI Pa bs 0 Pa.right ps 0 = checkI Pa bs i r (ps.drop t) c)
      ⟨0, 0, Pa.right, ⟨none, none, rfl⟩, Same.refl H, Nat.zero_le _, rfl⟩ (fun t σ H' _ ⟨_, _, _, q⟩ => SqL.of (q.2.1 _ _ hP.lst)) ?_ ?_
    · intro t x σ H1 hx qq5; refine hide fun G0 g0 => ?_; obtain ⟨i, c, r, ⟨v5, v6, rfl⟩, s1, hi, hc⟩ := qq5; refine g0 ?_; clear g0 G0
      rw [List.getElem?_map] at hx
      obtain ⟨pg, hpg, rfl⟩ := Option.map_eq_some_iff.mp hx
      obtain ⟨p, hpp, hpl⟩ := hP.at_ t pg hpg
      have hd : ps.drop t = p :: ps.drop (t + 1) := by
        obtain ⟨h1, h2⟩ := List.getElem?_eq_some_iff.mp hpp
        rw [List.drop_eq_getElem_cons h1, h2]
      rw [hd] at hc
      have hc2 : checkI Pa bs i r (p :: ps.drop (t + 1)) c = if isPage Pa bs i p = true then checkI Pa bs (i + Sy31.total p) (!r) (ps.drop (t + 1)) (c + (linesCost Pa bs i p + pageCost Pa bs p.length (i + Sy31.total p) r)) else -3 := rfl
      rw [hc2] at hc
      have hpl1 := s1 _ _ hpl
      refine ⟨_, rfl, _, rfl, _, rfl, sc, pg, Pa, bs, i, p, rfl, hi, ok, hpl1, S.same s1, fun H2 s2 => ⟨_, rfl, ?_⟩⟩
      cases c1 : isPage Pa bs i p with
      | false =>
        rw [if_neg (by rw [c1]; simp)] at hc
        rw [hc] at k
        exact iteT (k H2 (s1.trans s2))
      | true =>
        rw [if_pos c1] at hc
        have c1' := c1
        unfold isPage at c1'
        rw [Bool.and_eq_true, Bool.not_eq_true', Bool.or_eq_false_iff, decide_eq_false_iff_not] at c1'
        obtain ⟨⟨n1, n2⟩, n3⟩ := c1'
        obtain ⟨l1, l2⟩ := pageOk_le p 0 i hi n3
        have hne : p ≠ [] := fun q => by rw [q] at n1; cases n1
        have hpl2 := s2 _ _ hpl1
        refine iteF ⟨_, rfl, _, rfl, pg, nats p, rfl, by rw [← intsV_eq]; exact SqL.of hpl2, _, _, rfl, rfl, ?_⟩
        have es : (nats p).sum = ((Sy31.total p : Nat) : Int) := sum_total p
        rw [es]
        refine ⟨_, rfl, _, rfl, _, rfl, _, rfl, sc, pg, Pa, bs, i, p, rfl, n3, ok, hpl2, S.same (s1.trans s2), fun H3 s3 => ?_⟩
        refine ⟨_, rfl, _, rfl, pg, _, rfl, .inl (SqL.of (s3 _ _ hpl2)), _, rfl, _, rfl, sc, Pa, bs, p.length, i + Sy31.total p, r, ?_, l2 hne, l1, by lia, ok, S.same (s1.trans (s2.trans s3)), ?_⟩
        · rw [intsV_length]; rfl
        refine ⟨_, _, rfl, rfl, _, _, rfl, rfl, ?_⟩
        refine ⟨_, rfl, _, rfl, _, _, rfl, rfl, ?_⟩
        exact ⟨i + Sy31.total p, c + (linesCost Pa bs i p + pageCost Pa bs p.length (i + Sy31.total p) r), !r, ⟨_, _, by rw [← bit_not]; rfl⟩, s1.trans (s2.trans s3), l1, hc⟩
    · intro σ H1 qq2; refine hide fun G0 g0 => ?_; obtain ⟨i, c, r, ⟨v5, v6, rfl⟩, s1, hi, hc⟩ := qq2; refine g0 ?_; clear g0 G0
      rw [List.length_map, hP.len, List.drop_length] at hc
      have hc2 : checkI Pa bs i r [] c = if i = bs.length then (c : Int) else -3 := rfl
      rw [hc2] at hc
      have S1 := S.same s1
      refine ⟨_, rfl, _, rfl, rd_bars S1 ⟨S1.lb, _, rfl, .inl (SqL.of S1.lst), rfl, _, rfl, ?_⟩⟩
      rw [S1.len, dec_nat]
      by_cases e : i = bs.length
      · rw [decide_eq_true e]
        rw [if_pos e] at hc
        rw [hc] at k
        exact iteF ⟨_, rfl, k H1 s1⟩
      · rw [decide_eq_false e]
        rw [if_neg e] at hc
        rw [hc] at k
        exact iteT (k H1 s1)
end
end Bp
end
section
set_option Elab.async false
set_option linter.all false
set_option maxRecDepth 100000
set_option maxHeartbeats 4000000
namespace Bp
open PySem PySem.Spec PyProof.Rows L2 PySem.W
section
variable {prog : Program} {w : World} {A : Around} {E : Value → Shared → Prop} {s : Shared}
theorem collect_range {r : Addr} {a b c : Int} {t u v : Tok} {n : Nat} {Q : List Value → Shared → Prop} (hh : A.handled = none) (hr : IsRange s.heap r a b c t u v) (hsmall : Builtin.Range.small a b c = true)
    (hn : Builtin.Range.rangeSize a b c = n) (hlen : n ≤ 2 ^ 24)
    (hQ : ∀ (h' : Heap) (tk : Nat) (acc : Array Value), (∀ b o, s.heap.get? b = some o → h'.get? b = some o) → s.heap.objs.size < h'.objs.size → ItemsOf (fun i v => ∃ t, v = .int (a + i * c) t) acc n → Q acc.toList { s with heap := h', toks := tk }) :
    wpAny (model prog w) A (collect (.ref r)) Q E s := by
  have start : codeAny (model prog w) A (.builtin "proto.collect" ⟨[.ref r], []⟩) (fun res s' => res = .ok (.ret (.ref s.heap.objs.size)) ∧ ∃ (h' : Heap) (tk : Nat) (acc : Array Value) (c' : Nat), s' = { s with heap := h', toks := tk } ∧ (∀ b o, s.heap.get? b = some o → h'.get? b = some o) ∧
      h'.get? s.heap.objs.size = some { cls := .type "list", dict := none, data := .seq acc c', slots := #[] } ∧ ItemsOf (fun i v => ∃ t, v = .int (a + i * c) t) acc n) s := by
    refine codeAny_builtin PySem.F.entry_proto_collect ?_
    rw [Around.under_plainId PySem.F.plain_proto_collect _]
    show wpAny _ A.in1 (newList [] >>= fun l => again (.builtin "list.__iadd__" ⟨[l, .ref r], []⟩)) _ _ s
    refine wpAny_bind (wpAny_newObj_type ?_)
    refine wpAny_pure ⟨plainId_quiet PySem.F.plain_list_iadd _, codeAny_builtin PySem.F.entry_list_iadd ?_⟩
    rw [Around.under_plainId PySem.F.plain_list_iadd _]
    have hS : (s.heap.push { cls := .type "list", data := .seq ([] : List Value).toArray }).get? s.heap.objs.size = some { cls := .type "list", data := .seq ([] : List Value).toArray } := Heap.get?_push_size _ rfl
    show wpAny _ A.in1 (Builtin.List.listExtendWith (.ref s.heap.objs.size) (.ref r) (.ref s.heap.objs.size)) _ _ _
    refine wpAny_extend_range (A := A) (s := { s with heap := s.heap.push { cls := .type "list", data := .seq ([] : List Value).toArray } }) hh (Heap.get?_push_of_some _ hr) hsmall hn hlen _ _ 0 hS (R := fun res s' => res = .ok (.ret (.ref s.heap.objs.size)) ∧ ∃ (h' : Heap) (tk : Nat) (acc : Array Value) (c' : Nat), s' = { s with heap := h', toks := tk } ∧ (∀ b o, s.heap.get? b = some o → h'.get? b = some o) ∧
      h'.get? s.heap.objs.size = some { cls := .type "list", dict := none, data := .seq acc c', slots := #[] } ∧ ItemsOf (fun i v => ∃ t, v = .int (a + i * c) t) acc n) fun h' tk acc c' hk hS' hacc => ?_
    exact ⟨rfl, h', tk, acc, c', rfl, fun b o e => hk b o (Nat.ne_of_lt (Heap.lt_size e)) (Heap.get?_push_of_some _ e), hS', hacc⟩
  unfold collect
  refine wpAny_bind (wpAny_runValue (codeAny_mono start fun res s' h => ?_))
  refine hide fun G0 g0 => ?_; obtain ⟨rfl, h', tk, acc, c', rfl, hk, hS', hacc⟩ := h; refine g0 ?_; clear g0 G0
  show wpAny _ A (load s.heap.objs.size >>= _) _ _ _
  refine wpAny_bind (wpAny_load hS' ?_)
  exact wpAny_pure (hQ h' tk acc hk (Heap.lt_size hS') hacc)
theorem items_ints {n : Nat} {acc : Array Value} (h : ItemsOf (fun i v => ∃ t, v = .int (0 + (i : Int) * 1) t) acc n) : IntsAre acc.toList ((List.range n).map fun (i : Nat) => (i : Int)) := by
  have key : ∀ (l : List Value) (k : Nat), (∀ j v, l[j]? = some v → ∃ t, v = Value.int ((k + j : Nat) : Int) t) → IntsAre l ((List.range' k l.length).map fun (i : Nat) => (i : Int)) := by
    intro l
    induction l with
    | nil => intro k _; exact .nil
    | cons x l ih =>
      intro k hk
      obtain ⟨t, rfl⟩ := hk 0 x rfl
      rw [List.length_cons, List.range'_succ, List.map_cons]
      refine .cons _ _ (ih (k + 1) fun j v hj => ?_)
      obtain ⟨t', e⟩ := hk (j + 1) v hj
      exact ⟨t', by rw [e]; congr 1; lia⟩
  have h2 := key acc.toList 0 fun j v hj => by
    obtain ⟨t, e⟩ := h.2 j v (by simpa using hj)
    exact ⟨t, by rw [e]; congr 1; lia⟩
  rw [Array.length_toList, h.1, ← List.range_eq_range'] at h2
  exact h2
end
section
variable {prog : Program} {w : World} {A : Around} {E : Value → Shared → Prop} {s : Shared} {h₀ : Heap} {L l : Addr} {m : Str → Option Value} {news : List (Addr × Obj)} {Q : Value → Shared → Prop}
/-- sorted(range(n), key = f) -/
theorem sorted_range {n : Nat} {t u v : Tok} {f : Value} {kw : List (Str × Value)} (g : Int → Int) (hh : A.handled = none) (F : Fr h₀ L s.heap m) (N : News h₀ L s.heap news) (hr : IsRange s.heap l 0 (n : Int) 1 t u v) (hlen : n ≤ 1000)
    (ha1 : argsOk "sorted" ⟨[.ref l], kw⟩) (ha2 : ∀ x, argsOk "list.sort" ⟨[.ref x], kw⟩) (ht : ∀ x, Builtin.«list.sort» ⟨[.ref x], kw⟩ = ksk_tree x f false)
    (turn : ∀ (i : Nat) (t : Tok) (h : Heap) (tk : Nat) (own : List (Addr × Obj)), i < n → Fr h₀ L h m → News h₀ L h (news ++ own) →
      wpAny (model prog w) A.in1.in1 (call f [.int (i : Int) t]) (KskEnd h₀ L m (news ++ own) (g (i : Int)) { s with heap := h, toks := tk }) (fun _ _ => False) { s with heap := h, toks := tk })
    (done : ∀ D (vs' : List Value) (ns' : List Int) c h' tk, Fr h₀ L h' m → News h₀ L h' ((D, PySem.W.listOf (List.toArray vs') c) :: news) → s.heap.objs.size ≤ D → IntsAre vs' ns' → ns'.Perm ((List.range n).map fun (i : Nat) => (i : Int)) →
      ns'.Pairwise (fun x y => g x ≤ g y) → (∀ z, ns'.filter (fun x => g x == z) = ((List.range n).map fun (i : Nat) => (i : Int)).filter (fun x => g x == z)) → Q (.ref D) { s with heap := h', toks := tk }) :
    wpAny (model prog w) A (call (.builtin "sorted") [.ref l] kw) Q E s := by
  refine call_function_entry_kw kind_sorted plain_sorted entry_sorted ha1 ?_
  unfold Builtin.«sorted»
  refine wpAny_bind (m := checkCount "sorted" 1 1 _) (wpAny_pure ?_)
  have hsize : Builtin.Range.rangeSize 0 (n : Int) 1 = (n : Int) := by rw [rangeSize_one]; split <;> lia
  refine wpAny_bind (collect_range (A := A.in1) hh hr (small_one (by lia) (by lia) (by lia) (by lia)) hsize (by lia) fun h1 tk1 acc keep1 hsz hacc => ?_)
  have hI := items_ints hacc
  have hZ : acc.toList.length = n := by rw [hI.length, List.length_map, List.length_range]
  refine wpAny_bind (wpAny_newList ?_ (by rw [hZ, sizeLine_eq]; lia))
  have hoL : (h1.push (seqObj "list" acc.toList.toArray 0)).get? h1.objs.size = some (seqObj "list" acc.toList.toArray 0) := Heap.get?_push_size _ rfl
  have keep : ∀ b o, s.heap.get? b = some o → (h1.push (seqObj "list" acc.toList.toArray 0)).get? b = some o := fun b o q => Heap.get?_push_of_some _ (keep1 b o q)
  have hL : L < s.heap.objs.size := F.ns.lt
  refine wpAny_bind (wpAny_holding (wpAny_call_entry_kw slot_list_sort ⟨_, hoL, rfl⟩ entry_list_sort ?body (ha2 _)))
  case body =>
    have ht' := ht h1.objs.size
    show wpAny (model prog w) A.in1.in1 (Builtin.«list.sort» ⟨[.ref h1.objs.size], kw⟩) _ _ _
    rw [ht']
    refine ksk_sortSt (kz := ((List.range n).map fun (i : Nat) => (i : Int)).map g) (vs := acc.toList) (s := { s with heap := h1.push (seqObj "list" acc.toList.toArray 0), toks := tk1 })
      (F.kept keep) (N.grown keep) hoL (Nat.ne_of_gt (Nat.lt_trans hL hsz)) (Heap.get?_none_of_le (Nat.le_trans F.above (Nat.le_of_lt (Nat.lt_trans hL hsz))))
      (fun p hp => Nat.ne_of_lt (Nat.lt_trans (Heap.lt_size (N p hp).1) hsz)) (by rw [List.length_map, List.length_map, List.length_range, hZ]) (by rw [hZ, sizeLine_eq]; lia) (fun i v k hv hk h tk own F' N' => ?_) fun h' tk out c F' N' ko => ⟨_, rfl, ?_⟩
    · rw [List.getElem?_map] at hk
      obtain ⟨z, hz, rfl⟩ := Option.map_eq_some_iff.mp hk
      rw [List.getElem?_map] at hz
      obtain ⟨i', hi', rfl⟩ := Option.map_eq_some_iff.mp hz
      obtain ⟨t, ht2⟩ := hI.get i (i' : Int) (by rw [List.getElem?_map, hi']; rfl)
      rw [ht2] at hv
      cases hv
      have hlt : i' < n := List.mem_range.mp (List.mem_of_getElem? hi')
      exact turn i' t h tk own hlt F' N'
    · refine wpAny_pure ⟨_, rfl, ?_⟩
      obtain ⟨ps, hp, ho, hs, hst⟩ := ko
      have hrel : ∀ p, p ∈ (((List.range n).map fun (i : Nat) => (i : Int)).map g).zip acc.toList → p.1 = g (numOf p.2) ∧ p.2 ∈ acc.toList := by
        rw [← hI.nums, List.map_map, List.zip_map_left]
        intro p hp
        obtain ⟨⟨u, v⟩, hq, rfl⟩ := List.mem_map.mp hp
        have h1 : u = v ∧ u ∈ acc.toList := mem_zip_self hq
        refine ⟨?_, ?_⟩
        · show g (numOf u) = g (numOf v)
          rw [h1.1]
        · show v ∈ acc.toList
          rw [← h1.1]
          exact h1.2
      have hI2 : IntsAre (ps.map Prod.snd) ((ps.map Prod.snd).map numOf) := intsAre_map _ fun v hv => by
        obtain ⟨p, hp', rfl⟩ := List.mem_map.mp hv
        exact hI.all _ (hrel p (hp.mem_iff.mp hp')).2
      have hlen2 : (((List.range n).map fun (i : Nat) => (i : Int)).map g).length = acc.toList.length := by rw [List.length_map, List.length_map, List.length_range, hZ]
      have hP : ((ps.map Prod.snd).map numOf).Perm ((List.range n).map fun (i : Nat) => (i : Int)) := by
        have h1 := (hp.map Prod.snd).map numOf
        rw [List.map_snd_zip (Nat.le_of_eq hlen2.symm), hI.nums] at h1
        exact h1
      have hO : ((ps.map Prod.snd).map numOf).Pairwise (fun x y => g x ≤ g y) := by
        rw [List.pairwise_map, List.pairwise_map]
        refine hs.imp_of_mem fun {p q} hp' hq' hr => ?_
        have hr' : p.1 ≤ q.1 := by simpa using hr
        rw [(hrel p (hp.mem_iff.mp hp')).1, (hrel q (hp.mem_iff.mp hq')).1] at hr'
        exact hr'
      have hSt : ∀ z, ((ps.map Prod.snd).map numOf).filter (fun x => g x == z) = ((List.range n).map fun (i : Nat) => (i : Int)).filter (fun x => g x == z) := by
        intro z
        have e1 : ∀ l : List (Int × Value), (∀ p, p ∈ l → p.1 = g (numOf p.2)) →
            ((l.map Prod.snd).map numOf).filter (fun x => g x == z) = ((l.filter (fun p => p.1 == z)).map Prod.snd).map numOf := by
          intro l hl
          rw [List.map_map, List.filter_map, List.map_map]
          congr 1
          refine List.filter_congr fun p hp' => ?_
          show (g (numOf p.2) == z) = (p.1 == z)
          rw [hl p hp']
        rw [e1 ps (fun p hp' => (hrel p (hp.mem_iff.mp hp')).1), hst z, ← e1 _ (fun p hp' => (hrel p hp').1), List.map_snd_zip (Nat.le_of_eq hlen2.symm), hI.nums]
      rw [← ho] at hI2 hP hO hSt
      exact done h1.objs.size out.toList _ c h' tk F' N' (Nat.le_of_lt hsz) hI2 hP hO hSt
end
end Bp
end
section
set_option Elab.async false
set_option linter.all false
set_option maxRecDepth 100000
set_option maxHeartbeats 4000000
namespace Bp
open PySem PySem.Spec PyProof.Rows L2 PySem.W
/-! ### lambda place: 0 - rests[place] -/
/-- the lambda's own function object -/
abbrev lamObj (qual : Str) (params : Arguments) (body : Expr) (scope : Scope) (clos : List (Str × Addr)) (pm : Value) (c' : Addr) (ctv : Value) : Obj := kla_obj "<lambda>" qual params body scope clos pm c' ctv
theorem lam_call {prog : Program} {w : World} {A : Around} {s : Shared} {qual : Str} {params : Arguments} {body : Expr} {scope : Scope} {c R f c' : Addr} {pm ctv : Value} {its : List Value} {rs : List Int} {i : Nat} {t : Tok} {k : Int} {q0 q1 q2 q3 q4 : Pos} {j0 : Nat} {E : Value → Shared → Prop}
    (hbody : body = .BinOp (.Constant (.int 0) j0 q0) .Sub (.Subscript (.Name "rests" q1) (.Name "place" q2) q3) q4)
    (hroom : A.depth < recursionLimit) (hlim : s.heap.NoLimit) (ho : s.heap.get? f = some (lamObj qual params body scope [(("rests" : Str), c)] pm c' ctv)) (hcd : s.heap.CodeRec (.ref c') qual)
    (hcell : s.heap.IsCell c (some (.ref R))) (hl : s.heap.IsList R its.toArray) (hi : IntsAre its rs) (hk : rs[i]? = some k) (hz : rs.length ≤ 1000)
    (hbind : ∀ pm cd ct u, bindArgs (kla_fn "<lambda>" qual params body scope [(("rests" : Str), c)] pm cd ct) ⟨[u], []⟩ = pure [(("place" : Str), u)])
    (hco : scope.isCoroutine = false) (hgen : scope.isGenerator = false) (hkd : scope.kind = .function) (hnc : ∀ x ∈ scope.names, x.2 ≠ .cell) (hpl : scope.names.lookup ("place" : Str) = some .local) (hre : scope.names.lookup ("rests" : Str) = some .free) :
    wpAny (model prog w) A (call (.ref f) [.int (i : Int) t]) (fun v s' => ∃ h' tk' t', s' = { s with heap := h', toks := tk' } ∧ v = .int (0 - k) t' ∧ ∀ b o, s.heap.get? b = some o → h'.get? b = some o) E s := by
  refine wpAny_call (kla_callFunE hroom ho rfl hco hgen rfl hcd ?_)
  rw [hbind]
  refine wpAny_pure (wpAny_newFunctionEnv hnc (fun x hx => by rw [List.mem_singleton.mp hx]; exact hpl) (fun h₁ hns hsb => ⟨hlim.fresh _ hsb, ?_⟩) hkd)
  have hk₁ : ∀ b o, s.heap.get? b = some o → h₁.get? b = some o := fun b o e => hsb.extBut b o (Nat.ne_of_lt (Heap.lt_size e)) (Heap.get?_push_of_some _ e)
  show codeAny _ _ (.expr body (envX qual scope s.heap.objs.size f (.ref c') [(("rests" : Str), c)])) _ _
  refine kla_codeExpr ?_
  rw [hbody]
  refine wpAny_BinOp (wpAny_Constant_int ?_)
  refine Subscript_ (wpAny_Name (wpAny_loadName_free hkd hre rfl (hcell.keeps hk₁) ?_) (by decide))
  refine wpAny_Name (wpAny_loadName_local hkd hpl hns rfl ?_) (by decide)
  have hlen := hi.length
  obtain ⟨tu, hu⟩ := hi.get i k hk
  have hil : i < rs.length := (List.getElem?_eq_some_iff.mp hk).1
  have hl' : h₁.IsList R its.toArray := let ⟨o, e, c⟩ := hl; ⟨o, hk₁ _ _ e, c⟩
  refine item_listR hl' (by lia) (by lia) (by simpa using hu) ?_ rfl
  refine sub_int ?_
  exact ⟨_, _, _, rfl, rfl, hk₁⟩
end Bp
end
section
set_option Elab.async false
set_option linter.all false
set_option maxRecDepth 100000
set_option maxHeartbeats 4000000
namespace Bp
open PySem PySem.Spec PyProof.Rows L2 PySem.W
/-! ### range(n) as a value -/
def tRng (ta : TA) : TE := fun σ H Q => ta σ H fun vs H1 => ∃ n : Nat, vs = [.int (n : Int)] ∧ n ≤ 1000 ∧ ∀ q, H1 q = none → Q (.ref q) (upd H1 q (.rng 0 (n : Int)))
theorem pe_rangeV {X : Cx} {a : Expr} {ta : TA} {p pos : Pos} (hg : Gl X "range") (hm : X.mg "range" = none) (ha : PA X [a] ta) (hs : starEach [a] X.env = [(false, eval a X.env)] := by rfl) : PE X (.Call (.Name "range" p) [a] [] pos) (tRng ta) := by
  intro pins s σ H Q I h
  refine Call_ (ld_blt I hg hm boot_range (PyProof.Rows.callWith_type1 (thn (ha pos pins s σ H _ I h) fun us s1 ⟨vs, H1, I1, r1, q1⟩ => ?_) hs rfl))
  obtain ⟨n, e, hn, q⟩ := q1
  subst e
  cases r1 with
  | cons r rr =>
    cases rr
    obtain ⟨t, rfl⟩ := r
    exact call_range_1 ⟨.ref s1.heap.objs.size, _, I1.laid (a := s1.heap.objs.size) (o := .rng 0 (n : Int)) (fun _ _ e => Heap.get?_push_of_some _ e) (Nat.le_refl _) ⟨_, _, _, Heap.get?_push_size _ rfl⟩, rfl, q _ (I1.hok.fresh (Nat.le_refl _))⟩
/-! ### the lambda -/
/-- what of the module the making of a function within a def asks: the def's code, its table of codes -/
structure TabK (mg : Str → Option Value) (base : Heap) (cd Pt : Addr) : Prop where
  hd : PySem.W.CodeHd base cd Pt
  bm : base.BuiltinsAt mg Pt
  gP : mainGlobals ≠ Pt
def CodeX (c' : Addr) (qual : Str) : HO := .ext (fun h => h.CodeRec (.ref c') qual)
/-- the table: nothing yet, or the lambda's code -/
def Tab (pos : Pos) (qual : Str) (Pt : Addr) (H : Hp) : Prop := H Pt = some (.tbl #[]) ∨ ∃ c', H Pt = some (.tbl #[rawInt pos.line, rawInt pos.col, .ref c']) ∧ H c' = some (CodeX c' qual)
def LamX (f : Addr) (qual : Str) (params : Arguments) (body : Expr) (scope : Scope) (clos : List (Str × Addr)) (c' : Addr) : HO := .ext (fun h => ∃ pm ctv, h.get? f = some (lamObj qual params body scope clos pm c' ctv))
theorem codeX_stay {c' : Addr} {qual : Str} : ∀ h1 h2 : Heap, h1.CodeRec (.ref c') qual → (∀ o, h1.get? c' = some o → h2.get? c' = some o) → h2.CodeRec (.ref c') qual := by
  intro h1 h2 qq2 k; refine hide fun G0 g0 => ?_; obtain ⟨c, o, vs, t, e, e1, e2, e3⟩ := qq2; refine g0 ?_; clear g0 G0
  cases e
  exact ⟨c', o, vs, t, rfl, k _ e1, e2, e3⟩
theorem lamX_stay {f : Addr} {qual : Str} {params : Arguments} {body : Expr} {scope : Scope} {clos : List (Str × Addr)} {c' : Addr} : ∀ h1 h2 : Heap, (∃ pm ctv, h1.get? f = some (lamObj qual params body scope clos pm c' ctv)) → (∀ o, h1.get? f = some o → h2.get? f = some o) → ∃ pm ctv, h2.get? f = some (lamObj qual params body scope clos pm c' ctv) :=
  fun h1 h2 ⟨pm, ctv, e⟩ k => ⟨pm, ctv, k _ e⟩
def tLam (pos : Pos) (qual : Str) (params : Arguments) (body : Expr) (scope : Scope) (clos : List (Str × Addr)) (Pt : Addr) : TE := fun _ H Q => Tab pos qual Pt H ∧
  ∀ (H' : Hp) (f c' : Addr), H f = none → But Pt H H' → Tab pos qual Pt H' → H' f = some (LamX f qual params body scope clos c') → H' c' = some (CodeX c' qual) → Q (.ref f) H'
theorem pe_lam {X : Cx} {params : Arguments} {body : Expr} {scope : Scope} {pos : Pos} {clos : List (Str × Addr)} {cd Pt : Addr} (hK : TabK X.mg X.base cd Pt) (hcode : X.env.code = .ref cd) (hdef : defaultsOf params X.env = ([], [])) (hcl : closureFor scope X.env = pure clos) :
    PE X (.Lambda params body scope pos) (tLam pos (X.env.qual ++ "<lambda>") params body scope clos Pt) := by
  intro pins s σ H Q I h
  obtain ⟨hT, k⟩ := h
  refine kla_eval hdef ?_
  have C := hK.hd.keeps I.bk
  have hg := I.mod.glob.keeps I.bk
  have hb : s.heap.BuiltinsAt X.mg Pt := hK.bm.keeps I.bk
  rcases hT with hT | ⟨c', hT, hc⟩
  · have hP : s.heap.get? Pt = some (tabObj #[]) := I.hok Pt _ hT
    refine kla_makeFunction (mg := X.mg) hcl I.ok.glob hg hcode C hP trivial rfl hK.gP hb fun c' ctv h' tk hx hge hlt hrec htb => ?_
    have hPlt : Pt < s.heap.objs.size := Heap.lt_size hP
    have hfn : s.heap.objs.size ≤ h'.objs.size := Nat.le_of_lt (Nat.lt_of_le_of_lt hge hlt)
    have nc : H c' = none := I.hok.fresh hge
    have nf : H h'.objs.size = none := I.hok.fresh hfn
    have cP : c' ≠ Pt := fun q => Nat.lt_irrefl _ (Nat.lt_of_lt_of_le hPlt (q ▸ hge))
    have fP : h'.objs.size ≠ Pt := fun q => Nat.lt_irrefl _ (Nat.lt_of_lt_of_le hPlt (q ▸ hfn))
    have fc : h'.objs.size ≠ c' := fun q => by rw [q] at hlt; exact Nat.lt_irrefl _ hlt
    have old : ∀ b o, b ≠ Pt → s.heap.get? b = some o → (h'.push (kla_obj "<lambda>" (X.env.qual ++ "<lambda>") params body scope clos ((X.mg "__name__").getD .none) c' ctv)).get? b = some o := fun b o hb e => Heap.get?_push_of_some _ (hx b o hb e)
    have eH : ∀ b u, H b = some u → b ≠ Pt → upd (upd (upd H Pt (.tbl #[rawInt pos.line, rawInt pos.col, .ref c'])) c' (CodeX c' (X.env.qual ++ "<lambda>"))) h'.objs.size (LamX h'.objs.size (X.env.qual ++ "<lambda>") params body scope clos c') b = some u := fun b u e hb => by
      rw [upd_ne (ne_of_none e nf), upd_ne (ne_of_none e nc), upd_ne hb]; exact e
    have eP : upd (upd (upd H Pt (.tbl #[rawInt pos.line, rawInt pos.col, .ref c'])) c' (CodeX c' (X.env.qual ++ "<lambda>"))) h'.objs.size (LamX h'.objs.size (X.env.qual ++ "<lambda>") params body scope clos c') Pt = some (.tbl #[rawInt pos.line, rawInt pos.col, .ref c']) := by
      rw [upd_ne (Ne.symm fP), upd_ne (Ne.symm cP), upd_same]
    have eC : upd (upd (upd H Pt (.tbl #[rawInt pos.line, rawInt pos.col, .ref c'])) c' (CodeX c' (X.env.qual ++ "<lambda>"))) h'.objs.size (LamX h'.objs.size (X.env.qual ++ "<lambda>") params body scope clos c') c' = some (CodeX c' (X.env.qual ++ "<lambda>")) := by
      rw [upd_ne (Ne.symm fc), upd_same]
    have htb' : (h'.push (kla_obj "<lambda>" (X.env.qual ++ "<lambda>") params body scope clos ((X.mg "__name__").getD .none) c' ctv)).get? Pt = some (tabObj #[rawInt pos.line, rawInt pos.col, .ref c']) := by
      refine Heap.get?_push_of_some _ ?_
      rw [htb]
      rfl
    have bne : ∀ b, H b = none → b ≠ Pt := fun b n q => by rw [q, hT] at n; cases n
    refine ⟨.ref h'.objs.size, _, I.un (h' := h'.push (kla_obj "<lambda>" (X.env.qual ++ "<lambda>") params body scope clos ((X.mg "__name__").getD .none) c' ctv)) ⟨?_, ?_, ?_, ?_, ?_, ?_, ?_⟩ (fun b u e => ?_), rfl, k _ h'.objs.size c' nf (fun b u e hb => eH b u e hb) (.inr ⟨c', eP, eC⟩) upd_same eC⟩
    · exact fun b o e n _ _ => old b o (bne b n) e
    · exact fun b o e n _ _ => ⟨o.slots, old b o (bne b n) e⟩
    · intro b o e n _
      have hb := Heap.lt_size e
      rw [upd_ne (Nat.ne_of_lt (Nat.lt_of_lt_of_le hb hfn)), upd_ne (Nat.ne_of_lt (Nat.lt_of_lt_of_le hb hge)), upd_ne (bne b n)]
      exact n
    · intro b o e _
      by_cases q : b = Pt
      · exact ⟨_, by rw [q]; exact htb'⟩
      · exact ⟨o, old b o q e⟩
    · exact fun b xs e => eH b _ e (ne_of e hT (by intro z; cases z))
    · exact fun b o u e => eH b _ e (ne_of e hT (by intro z; cases z))
    · intro b ps e
      by_cases q : b = Pt
      · subst q
        rw [hT] at e
        cases e
        exact ⟨#[rawInt pos.line, rawInt pos.col, .ref c'], by rw [eP]; simp⟩
      · exact ⟨#[], by rw [eH b _ e q]; simp⟩
    · by_cases q1 : b = h'.objs.size
      · subst q1
        rw [upd_same] at e
        cases e
        exact ⟨⟨_, _, Heap.get?_push_size _ rfl⟩, ⟨_, Heap.get?_push_size _ rfl⟩, lamX_stay⟩
      · by_cases q2 : b = c'
        · subst q2
          rw [eC] at e
          cases e
          have hr2 : (h'.push (kla_obj "<lambda>" (X.env.qual ++ "<lambda>") params body scope clos ((X.mg "__name__").getD .none) b ctv)).CodeRec (.ref b) (X.env.qual ++ "<lambda>") := codeX_stay _ _ hrec fun o e => Heap.get?_push_of_some _ e
          refine hide fun G0 g0 => ?_; obtain ⟨c2, o2, vs2, t2, e2, e3, _⟩ := id hr2; refine g0 ?_; clear g0 G0
          cases e2
          exact ⟨hr2, ⟨o2, e3⟩, codeX_stay⟩
        · by_cases q3 : b = Pt
          · subst q3
            rw [eP] at e
            cases e
            exact htb'
          · have e0 : H b = some u := by
              rw [upd_ne q1, upd_ne q2, upd_ne q3] at e; exact e
            refine (I.hok b u e0).stay (fun c v hc q => old c v ?_ q) (fun c q => eH c _ q (ne_of q hT (by intro z; cases z))) fun c xs q => eH c _ q (ne_of q hT (by intro z; cases z))
            rcases hc with z | z
            · rw [z]; exact q3
            · exact ne_of z hT (by intro z; cases z)
  · have hP : s.heap.get? Pt = some (tabObj #[rawInt pos.line, rawInt pos.col, .ref c']) := I.hok Pt _ hT
    have hf : codeAmong pos (#[rawInt pos.line, rawInt pos.col, Value.ref c'] : Array Value).toList = some (.ref c') := by
      show (if ((pos.line : Int) == (pos.line : Int) && (pos.col : Int) == (pos.col : Int)) = true then some (Value.ref c') else _) = _
      simp
    refine kla_makeFunctionHit (mg := X.mg) (cv := .ref c') hcl I.ok.glob hg hcode C hP trivial hf hb fun ctv h' tk hk hsz => ?_
    have nf : H h'.objs.size = none := I.hok.fresh hsz
    refine ⟨.ref h'.objs.size, _, I.laid (a := h'.objs.size) (o := LamX h'.objs.size (X.env.qual ++ "<lambda>") params body scope clos c') (fun b o e => Heap.get?_push_of_some _ (hk b o e)) hsz ⟨⟨_, _, Heap.get?_push_size _ rfl⟩, ⟨_, Heap.get?_push_size _ rfl⟩, lamX_stay⟩, rfl, k _ h'.objs.size c' nf (fun b u e _ => ?_) (.inr ⟨c', ?_, ?_⟩) upd_same ?_⟩
    · rw [upd_ne (ne_of_none e nf)]; exact e
    · rw [upd_ne (ne_of_none hT nf)]; exact hT
    · rw [upd_ne (ne_of_none hc nf)]; exact hc
    · rw [upd_ne (ne_of_none hc nf)]; exact hc
end Bp
end
section
set_option Elab.async false
set_option linter.all false
set_option maxRecDepth 100000
set_option maxHeartbeats 4000000
namespace Bp
open PySem PySem.Spec PyProof.Rows L2 PySem.W
theorem boot_sorted1 : bootBuiltins "sorted" = some (.builtin "sorted") := by decide +kernel
/-! ### sorted(range(n), key = lambda place: 0 - rests[place]) -/
def sortRest (pos : Pos) (qual : Str) (Pt : Addr) (ri : Nat) (σ : L2.St) (Q : VK) (v : V) (H2 : Hp) : Prop := ∃ (qd : Addr) (R : Addr) (rs : List Nat), v = .ref qd ∧ H2 qd = some (.rng 0 (rs.length : Int)) ∧ rs.length ≤ 1000 ∧ σ[ri]? = some (some (.ref R)) ∧ H2 R = some (.lst (intsV rs)) ∧ Tab pos qual Pt H2 ∧
  ∀ (H3 : Hp) (D : Addr), H2 D = none → But Pt H2 H3 → Tab pos qual Pt H3 → H3 D = some (.lst (intsV (Sy31.byLeft rs))) → Q (.ref D) H3
def tSort (pos : Pos) (qual : Str) (Pt : Addr) (ri : Nat) (ta : TA) : TE := fun σ H Q => tRng ta σ H fun v H2 => sortRest pos qual Pt ri σ Q v H2
theorem pe_sort {X : Cx} {a : Expr} {ta : TA} {p p2 p3 pos lpos kpos q0 q1 q2 q3 q4 : Pos} {j0 : Nat} {params : Arguments} {scope : Scope} {c cd Pt : Addr} {ri : Nat} (hK : TabK X.mg X.base cd Pt) (hcode : X.env.code = .ref cd) (hdef : defaultsOf params X.env = ([], []))
    (hcl : closureFor scope X.env = pure [(("rests" : Str), c)]) (hc : X.env.cells.lookup ("rests" : Str) = some c) (hN : X.N[ri]? = some ("rests" : Str)) (hkc : X.env.kindOf ("rests" : Str) = some .cell) (hcalm : X.calm = true) (hr : Room 2 X.A)
    (hg : Gl X "range") (hm : X.mg "range" = none) (hgs : Gl X "sorted") (hms : X.mg "sorted" = none) (ha : PA X [a] ta)
    (hbind : ∀ qual pm cd ct u, bindArgs (kla_fn "<lambda>" qual params (.BinOp (.Constant (.int 0) j0 q0) .Sub (.Subscript (.Name "rests" q1) (.Name "place" q2) q3) q4) scope [(("rests" : Str), c)] pm cd ct) ⟨[u], []⟩ = pure [(("place" : Str), u)])
    (hco : scope.isCoroutine = false) (hgen : scope.isGenerator = false) (hkd : scope.kind = .function) (hnc : ∀ x ∈ scope.names, x.2 ≠ .cell) (hpl : scope.names.lookup ("place" : Str) = some .local) (hre : scope.names.lookup ("rests" : Str) = some .free)
    (hs : starEach [a] X.env = [(false, eval a X.env)] := by rfl)
    (he : backTo pos (starEach [(.Call (.Name "range" p2) [a] [] p3)] X.env) = (false, eval (.Call (.Name "range" p2) [a] [] p3) X.env) :: backTo pos (starEach [] X.env) := by rfl)
    (he2 : starEach [(.Call (.Name "range" p2) [a] [] p3)] X.env = (false, eval (.Call (.Name "range" p2) [a] [] p3) X.env) :: starEach [] X.env := by rfl)
    (hplain : (backTo pos (starEach [(.Call (.Name "range" p2) [a] [] p3)] X.env)).any (·.1) = false := by rfl) :
    PE X (.Call (.Name "sorted" p) [.Call (.Name "range" p2) [a] [] p3] [⟨some "key", .Lambda params (.BinOp (.Constant (.int 0) j0 q0) .Sub (.Subscript (.Name "rests" q1) (.Name "place" q2) q3) q4) scope lpos, kpos⟩] pos)
      (tSort lpos (X.env.qual ++ "<lambda>") Pt ri ta) := by
  intro pins s σ H Q I h
  refine wpAny_Call_Name_kw (ld_blt I hgs hms boot_sorted1 ?_)
  refine callWith_kw (env := X.env) ?_ he hplain
  have PAr := pa_cons (pe_rangeV (p := p2) (pos := p3) hg hm ha hs) (pa_nil (X := X)) he2
  refine thn (PAr pos pins s σ H (fun vs H2 => match vs with | [v] => sortRest lpos (X.env.qual ++ "<lambda>") Pt ri σ Q v H2 | _ => False) I h) fun us s1 ⟨vs, H2, I2, r2, q2⟩ => ?_
  obtain ⟨v, rfl⟩ : ∃ v, vs = [v] := by
    match vs, q2 with
    | [v], _ => exact ⟨v, rfl⟩
  refine hide fun G0 g0 => ?_; obtain ⟨qd, R, rs, rfl, hqd, hlen, hσ, hR, hT, k⟩ : sortRest lpos (X.env.qual ++ "<lambda>") Pt ri σ Q v H2 := q2; refine g0 ?_; clear g0 G0
  rw [Vals.ref1 r2]
  -- the lambda
  refine kws_cons (thn (pe_lam (body := .BinOp (.Constant (.int 0) j0 q0) .Sub (.Subscript (.Name "rests" q1) (.Name "place" q2) q3) q4) (scope := scope) (pos := lpos) hK hcode hdef hcl pins s1 σ H2
    (fun v H3 => ∃ f c', v = .ref f ∧ But Pt H2 H3 ∧ Tab lpos (X.env.qual ++ "<lambda>") Pt H3 ∧ H3 f = some (LamX f (X.env.qual ++ "<lambda>") params (.BinOp (.Constant (.int 0) j0 q0) .Sub (.Subscript (.Name "rests" q1) (.Name "place" q2) q3) q4) scope [(("rests" : Str), c)] c') ∧ H3 c' = some (CodeX c' (X.env.qual ++ "<lambda>")))
    I2 ⟨hT, fun H3 f c' _ b3 t3 l3 c3 => ⟨f, c', rfl, b3, t3, l3, c3⟩⟩) fun fv s2 ⟨fV, H3, I3, r3, q3⟩ => kws_nil ?_)
  refine hide fun G0 g0 => ?_; obtain ⟨f, c', rfl, b3, t3, l3, c3⟩ := q3; refine g0 ?_; clear g0 G0
  cases r3
  have hqP : qd ≠ Pt := by
    rcases hT with e | ⟨_, e, _⟩
    · exact ne_of hqd e (by intro z; cases z)
    · exact ne_of hqd e (by intro z; cases z)
  have hRP : R ≠ Pt := by
    rcases hT with e | ⟨_, e, _⟩
    · exact ne_of hR e (by intro z; cases z)
    · exact ne_of hR e (by intro z; cases z)
  have hqd3 := b3 _ _ hqd hqP
  have hR3 := b3 _ _ hR hRP
  obtain ⟨t0, u0, v0, hrange⟩ := I3.hok qd _ hqd3
  obtain ⟨m, F⟩ := I3.fr
  have N := news_all (g := X.base) (h := s2.heap) (L := X.env.locals)
  -- what is kept while the sort runs
  have kept : ∀ {h : Heap} {own : List (Addr × Obj)}, Fr X.base X.env.locals h m → News X.base X.env.locals h (allNews X.base s2.heap X.env.locals ++ own) → ∀ b o, b ≠ X.env.locals → s2.heap.get? b = some o → h.get? b = some o := fun {h own} F' N' b o hb e => by
    cases q : X.base.get? b with
    | some u =>
      have e2 := I3.bk b u q
      rw [e] at e2
      cases e2
      exact F'.keep b _ q
    | none => exact (N' (b, o) (List.mem_append_left _ (mem_allNews hb q e))).1
  have nl : ∀ b u, H3 b = some u → b ≠ X.env.locals := fun b u e z => by rw [z, I3.free] at e; cases e
  show wpAny (model X.prog X.w) X.A (call (.builtin "sorted") [.ref qd] [(Str.ofString "key", .ref f)]) _ _ s2
  refine sorted_range (n := rs.length) (f := .ref f) (restKey rs) (I3.ok.hd hcalm) F N hrange hlen (ksk_s1 _ _) (fun x => ksk_l1 _ _) (fun x => ksk_t1 f x) (fun i t h tk own hi F' N' => ?_) fun D vs' ns' cc h' tk F' N' hD hI hP hPw hSt => ?_
  · have kp := kept F' N'
    obtain ⟨pm, ctv, hfo⟩ : ∃ pm ctv, s2.heap.get? f = some (lamObj (X.env.qual ++ "<lambda>") params (.BinOp (.Constant (.int 0) j0 q0) .Sub (.Subscript (.Name "rests" q1) (.Name "place" q2) q3) q4) scope [(("rests" : Str), c)] pm c' ctv) := (I3.hok f _ l3).1
    have hcr : s2.heap.CodeRec (.ref c') (X.env.qual ++ "<lambda>") := (I3.hok c' _ c3).1
    obtain ⟨its, nn, rv, hl, _⟩ := I3.lst hR3
    have hi2 : IntsAre its (nats rs) := by
      rw [intsV_eq] at rv
      exact rv.ints
    obtain ⟨m2, hn2, hloc⟩ := I3.loc
    obtain ⟨u, ru, hlook⟩ := hloc ri ("rests" : Str) (.ref R) hN hσ (.inr (.inl hkc))
    cases ru
    have hcell : s2.heap.IsCell c (some (.ref R)) := by
      rcases hlook with ⟨hk, _⟩ | ⟨_, c2, hc2, hce⟩
      · rw [hkc] at hk; cases hk
      · rw [hc] at hc2; cases hc2; exact hce
    have hcl2 : c ≠ X.env.locals := I3.cne _ c hc
    obtain ⟨kk, hkk⟩ : ∃ kk, rs[i]? = some kk := ⟨_, List.getElem?_eq_getElem hi⟩
    have ek : restKey rs (i : Int) = 0 - (kk : Int) := by
      unfold restKey
      rw [Int.toNat_natCast, List.getD_eq_getElem?_getD, hkk]; rfl
    rw [ek]
    have hrr : Room 0 X.A.in1.in1 := hr.in1.in1
    refine wpAny_mono (lam_call (s := { s2 with heap := h, toks := tk }) (k := (kk : Int)) (its := its) (rs := nats rs) (R := R) (c' := c') (pm := pm) (ctv := ctv) rfl hrr.depth (I3.mod.nolimit.keeps F'.keep) (kp f _ (nl f _ l3) hfo) ?_ ?_ ?_ hi2 ?_ ?_ (hbind _) hco hgen hkd hnc hpl hre) (fun v s' hq => ?_) fun _ _ z => z
    · exact codeX_stay _ _ hcr fun o e => kp c' o (nl c' _ c3) e
    · obtain ⟨oc, e1, e2⟩ := hcell
      exact ⟨oc, kp c oc hcl2 e1, e2⟩
    · exact ⟨_, kp R _ (nl R _ hR3) hl, rfl, _, rfl⟩
    · unfold nats; rw [List.getElem?_map, hkk]; rfl
    · unfold nats; rw [List.length_map]; exact hlen
    · obtain ⟨h2, tk2, t2, rfl, rfl, kp2⟩ := hq
      exact ⟨h2, tk2, t2, rfl, rfl, F'.kept kp2, N'.grown kp2⟩
  · have e1 := byLeft_is hPw hSt
    have kp : ∀ b o, b ≠ X.env.locals → s2.heap.get? b = some o → h'.get? b = some o := fun b o hb e => by
      cases q : X.base.get? b with
      | some u =>
        have e2 := I3.bk b u q
        rw [e] at e2
        cases e2
        exact F'.keep b _ q
      | none => exact (N' (b, o) (List.mem_cons_of_mem _ (mem_allNews hb q e))).1
    have hDo := (N' _ (List.mem_cons_self ..)).1
    have nD : H3 D = none := I3.hok.fresh hD
    have dl : ∀ b o, s2.heap.get? b = some o → b ≠ D := fun b o e => Nat.ne_of_lt (Nat.lt_of_lt_of_le (Heap.lt_size e) hD)
    have eD : ns'.map V.int = intsV (Sy31.byLeft rs) := by rw [e1, intsV_eq]; rfl
    have hlD : (intsV (Sy31.byLeft rs)).length ≤ sizeLine := by
      rw [← eD, List.length_map, hP.length_eq, List.length_map, List.length_range]
      exact small_le hlen (by decide)
    have hok' : HOk X.prog X.w (upd H3 D (.lst (intsV (Sy31.byLeft rs)))) h' := fun b u e => by
      by_cases hb : b = D
      · subst hb
        rw [upd_same] at e
        cases e
        refine ⟨hlD, vs', cc, ?_, hDo⟩
        rw [← eD]
        exact vals_of_ints hI
      · rw [upd_ne hb] at e
        refine (I3.hok b u e).stay (fun c2 v hc2 q => kp c2 v ?_ q) (fun c2 q => by rw [upd_ne (ne_of_none q nD)]; exact q) fun c2 xs q => by rw [upd_ne (ne_of_none q nD)]; exact q
        rcases hc2 with z | z
        · rw [z]; exact nl b u e
        · exact nl c2 _ z
    refine ⟨.ref D, upd H3 D (.lst (intsV (Sy31.byLeft rs))), ?_, rfl, k _ D ?_ (fun b u e hb => ?_) ?_ upd_same⟩
    · refine hide fun G0 g0 => ?_; obtain ⟨m2, ⟨oL, esL, epL, hoL, rL⟩, _⟩ := id I3.loc; refine g0 ?_; clear g0 G0
      obtain ⟨oL', esL', epL', hoL', rL'⟩ := id F'.ns
      refine I3.step (g' := s2.gens) (d' := s2.drawn) (ch := []) (fun _ z => nomatch z) (fun b o hb _ _ e _ => kp b o hb e) (fun b o hb _ _ e _ => ⟨o.slots, kp b o hb e⟩) (fun b o _ e n => by rw [upd_ne (dl b o e)]; exact n) (fun b o _ e => ?_)
        (fun b xs e => by rw [upd_ne (ne_of_none e nD)]; exact e) (fun b o u e => by rw [upd_ne (ne_of_none e nD)]; exact e) (fun b ps e => ⟨#[], by rw [upd_ne (ne_of_none e nD), e]; simp⟩) (fun m' hm => ?_) hok' I3.bare
      · by_cases q : b = X.env.locals
        · exact ⟨oL', by rw [q]; exact hoL'⟩
        · exact ⟨o, kp b o q e⟩
      · have : m' = m := funext fun x => Heap.Ns.agree hm F.ns x
        rw [this]
        exact F'.ns
    · cases q : H2 D with
      | none => rfl
      | some u =>
        by_cases hz : D = Pt
        · rcases t3 with e | ⟨_, e, _⟩
          · rw [← hz, nD] at e; cases e
          · rw [← hz, nD] at e; cases e
        · have e := b3 D u q hz
          rw [nD] at e; cases e
    · have e3 := b3 b u e hb
      rw [upd_ne (ne_of_none e3 nD)]
      exact e3
    · rcases t3 with e | ⟨cx, e, e'⟩
      · exact .inl (by rw [upd_ne (ne_of_none e nD)]; exact e)
      · exact .inr ⟨cx, by rw [upd_ne (ne_of_none e nD)]; exact e, by rw [upd_ne (ne_of_none e' nD)]; exact e'⟩
end Bp
end
section
set_option Elab.async false
set_option linter.all false
set_option maxRecDepth 100000
set_option maxHeartbeats 4000000
namespace Bp
open PySem PySem.Spec PyProof.Rows L2
/-- o[i] of a list, by values -/
theorem get_list {X : Cx} : PGet X (fun o i H Q => ∃ p xs k v, o = .ref p ∧ i = .int ((k : Nat) : Int) ∧ H p = some (.lst xs) ∧ xs[k]? = some v ∧ Q v H) := by
  intro pins s σ H o i ov iv Q I ro ri h
  refine hide fun G0 g0 => ?_; obtain ⟨p, xs, k, v, rfl, rfl, hp, hv, q⟩ := h; refine g0 ?_; clear g0 G0
  cases ro
  obtain ⟨t, rfl⟩ := ri
  obtain ⟨its, n, r, hl, hz⟩ := I.lst hp
  obtain ⟨u, hu, ru⟩ := r.get hv
  have hk : k < xs.length := (List.getElem?_eq_some_iff.mp hv).1
  have hn := line63
  exact wpAny_getItem_list (x := u) ⟨_, hl, rfl, _, rfl⟩ (by lia) (by lia) (by simpa using hu) ⟨v, H, I, ru, q⟩
section
variable {P : Program} {w : World} {K : PySem.W.Frag} {mg : Str → Option Value} {base : Heap}
/-- a def whose code is known -/
theorem okC {x qual : Str} {st : Stmt} {f : Addr} {fd : FuncData} {N ps : List Str} {k : Nat} {sp : Sp} {cd0 : Value} (F : Fun K x qual st f fd) (hc : fd.code = cd0) (S : FnScope N ps (defScope st)) (len : ∀ vs H Q E, sp vs H Q E → vs.length = ps.length)
    (hbody : ∀ (A : Around) (outer : List Env) (s : Shared) (H : Hp) (vs : List V) (Q : VK) (E : XK), Room k (A.deeper (envOfC qual (defScope st) s.heap.objs.size f cd0)) → sp vs H Q E →
      ∃ t, PSs (cxOf CX0 P w K mg base N qual (defScope st) f cd0 A outer s H E).nox (defBody st) t ∧ t { nx := fun _ H' => Q .non H', rt := Q } (L2.start N vs) H) : FnOk P w K mg base CX0 (k + 1) f fd ps sp := by
  refine hide fun G0 g0 => ?_; obtain ⟨oc, od, kV, doc, pm, an, cdv, ct, osl, rfl, lk, hcd⟩ := F.ex; refine g0 ?_; clear g0 G0
  have e : cdv = cd0 := hc
  subst e
  refine fn_of lk hcd S len fun A outer s H vs Q E hr hsp => ?_
  obtain ⟨t, h, q⟩ := hbody A outer s H vs Q E hr hsp
  exact ⟨t, h.nox, q⟩
def lamPos : Pos := ⟨95, 46, 95, 76⟩
def lamQ : Str := (("shares_of" : Str) ++ ".<locals>.") ++ "<lambda>"
/-- the def shares_of's code and its table -/
structure Shr (T : Txt K mg) (base : Heap) where
  cd : Addr
  Pt : Addr
  code : T.shares_of.fd.code = .ref cd
  tab : TabK mg base cd Pt
def spShares (T : Txt K mg) (Pt : Addr) : Sp := fun vs H Q _ => ∃ (lw : Addr) (x : Nat) (ps : List Nat), vs = [.int (x : Int), .ref lw] ∧ H lw = some (.lst (intsV ps)) ∧ 0 < Sy31.total ps ∧ Sy31.total ps ≤ 100000 ∧ x ≤ 100000 ∧ ps.length ≤ 1000 ∧ Tab lamPos lamQ Pt H ∧
  ∀ (H' : Hp) (l : Addr), H l = none → But Pt H H' → Tab lamPos lamQ Pt H' → H' l = some (.lst (intsV (Sy31.portion x ps))) → Q (.ref l) H'
theorem sc31 : FnScope ["amount", "weights", "whole", "shares", "rests", "by_rest", "place", "weight"] ["amount", "weights"] (defScope (top 31)) := ⟨rfl, rfl, rfl, by decide +kernel, rfl, by decide +kernel, by decide +kernel⟩
theorem mulX {a b : Nat} (h : a ≤ 100000) : CMul (a : Int) (b : Int) := .inl ⟨by lia, by lia⟩
theorem rem_cast (a b c : Nat) : ((a : Int) * (b : Int)) % (c : Int) = ((a * b % c : Nat) : Int) := by rw [← Int.natCast_mul]; exact (Int.natCast_emod _ _).symm
theorem Tab.ne {H : Hp} {b Pt : Addr} {o : HO} {pos : Pos} {q : Str} (t : Tab pos q Pt H) (h : H b = some o) (ho : ∀ ps, o ≠ .tbl ps) : b ≠ Pt := by
  rcases t with e | ⟨_, e, _⟩
  · exact ne_of h e (ho _)
  · exact ne_of h e (ho _)
theorem Tab.same {H H' : Hp} {Pt : Addr} {pos : Pos} {q : Str} (t : Tab pos q Pt H) (s : Same H H') : Tab pos q Pt H' := by
  rcases t with e | ⟨c, e, e2⟩
  · exact .inl (s _ _ e)
  · exact .inr ⟨c, s _ _ e, s _ _ e2⟩
theorem Tab.upd_lst {H : Hp} {Pt l : Addr} {pos : Pos} {q : Str} {xs ys : List V} (t : Tab pos q Pt H) (h : H l = some (.lst xs)) : Tab pos q Pt (upd H l (.lst ys)) := by
  rcases t with e | ⟨c, e, e2⟩
  · exact .inl (by rw [upd_ne (ne_of e h (by intro z; cases z))]; exact e)
  · exact .inr ⟨c, by rw [upd_ne (ne_of e h (by intro z; cases z))]; exact e, by rw [upd_ne (ne_of e2 h (by unfold CodeX; intro z; cases z))]; exact e2⟩
theorem Tab.but {H H' : Hp} {Pt l : Addr} {pos : Pos} {q : Str} {xs : List V} (t : Tab pos q Pt H) (b : But l H H') (h : H l = some (.lst xs)) : Tab pos q Pt H' := by
  rcases t with e | ⟨c, e, e2⟩
  · exact .inl (b _ _ e (ne_of e h (by intro z; cases z)))
  · exact .inr ⟨c, b _ _ e (ne_of e h (by intro z; cases z)), b _ _ e2 (ne_of e2 h (by unfold CodeX; intro z; cases z))⟩
theorem ixN_nat {n k : Nat} (h : k < n) : ixN n (k : Int) = some k := by
  unfold ixN
  rw [if_pos (by lia), if_pos (by lia), Int.toNat_natCast]
theorem intsV_set (xs : List Nat) (k n : Nat) : (intsV xs).set k (.int (n : Int)) = intsV (xs.set k n) := by unfold intsV; rw [List.map_set]
theorem intsV_take (xs : List Nat) (n : Nat) : (intsV xs).take n = intsV (xs.take n) := by unfold intsV; rw [List.map_take]
theorem ok_shares (T : Txt K mg) (Z : Shr T base) : FnOk P w K mg base CX0 3 T.shares_of.f T.shares_of.fd ["amount", "weights"] (spShares T Z.Pt) := by
  refine okC T.shares_of.F Z.code sc31 (fun vs H Q E h => ?_) (fun A outer s H vs Q E hr h => ?_)
  · obtain ⟨lw, x, ps, rfl, _⟩ := h; rfl
  · refine hide fun G0 g0 => ?_; obtain ⟨lw, x, ps, rfl, hlw, ht0, ht1, hx, hps, hT, k⟩ := h; refine g0 ?_; clear g0 G0
    refine ⟨_, pss_cons (ps_set (i := 2) sc31.nd rfl (Or.inr rfl) (pe_callB (cr_sum rfl) rfl T.sum boot_sum1 (pa_cons (pv 1) pa_nil)))
      (pss_cons (ps_setLc (i := 3) (own := [("weight", 7)]) (te := tOp (rI CDiv fun i j => .int (i / j)) (tOp (rI CMul fun i j => .int (i * j)) (tVar 0) (tVar 7)) (tVar 2)) rfl sc31.nd rfl rfl (sw_true rfl rfl rfl (by kernel_rfl)) (pi_list (pv 1)) (blkOk_by (by kernel_rfl)) (fun _ _ _ _ _ => pg_name (i := 7) sc31.nd rfl (Or.inl rfl)) (fun _ _ _ _ _ => pts_nil)
        (fun _ _ _ _ _ => pe_op op_fdiv (pe_op op_mul (pv 0) (pv 7)) (pv 2)))
      (pss_cons (ps_set (i := 4) sc31.nd rfl (Or.inr rfl) (pe_lc (own := [("weight", 7)]) (te := tOp (rI (fun _ j => 0 < j) fun i j => .int (i % j)) (tOp (rI CMul fun i j => .int (i * j)) (tVar 0) (tVar 7)) (tVar 2)) rfl sc31.nd (pi_list (pv 1)) (blkOk_by (by kernel_rfl)) (fun _ _ _ _ _ => pg_name (i := 7) sc31.nd rfl (Or.inl rfl)) (fun _ _ _ _ _ => pts_nil)
        (fun _ _ _ _ _ => pe_op op_mod (pe_op op_mul (pv 0) (pv 7)) (pv 2))))
      (pss_cons (ps_set (i := 5) sc31.nd rfl (Or.inl rfl) (pe_sort (ri := 4) Z.tab rfl rfl rfl rfl rfl rfl rfl hr rfl T.range rfl T.sorted (pa_cons (pe_callB call_len_seq rfl T.len PySem.boot_len (pa_cons (pv 1) pa_nil)) pa_nil) (fun _ _ _ _ _ => rfl) rfl rfl rfl (by decide) rfl rfl))
      (pss_cons (ps_for PassesOwn.never rfl (pi_list (pe_slice sl_list (pv 5) po_none (po_some (pe_op op_sub (pv 0) (pe_callB (cr_sum rfl) rfl T.sum boot_sum1 (pa_cons (pv 3) pa_nil)))))) (pg_name (i := 6) sc31.nd rfl (Or.inl rfl))
        (pss_one (ps_augS (pv 3) (pv 6) get_list pe_int ip_add set_list)))
      (pss_one (ps_ret (pv 3))))))), ?_⟩
    try dsimp only [cxOf, Cx.nox]
    have es : ∀ l : List Nat, (nats l).sum = ((Sy31.total l : Nat) : Int) := fun l => sum_total l
    have hwl := whole_le x ps ht0
    have hlen16 : ps.length < sizeLine := small_lt hps (by decide)
    refine ⟨_, rfl, lw, nats ps, rfl, by rw [← intsV_eq]; exact SqL.of hlw, ?_⟩
    rw [es]
    -- shares
    refine ⟨_, rfl, lw, rfl, ⟨_, SqL.of hlw⟩, fun l1 hl1 => ?_⟩
    refine lc_map (ys := intsV (ps.map fun p => x * p / Sy31.total ps)) (SqL.of hlw) hl1 (by rw [intsV_length, intsV_length, List.length_map]) (by rw [intsV_length]; exact hlen16) (fun i z y H' Q' hz hy s1 k2 => ?_) fun H1 s1 h1 => ?_
    · obtain ⟨n, hn, rfl⟩ := intsV_at hz
      have hy2 := intsV_get (xs := ps.map fun p => x * p / Sy31.total ps) (i := i) (n := x * n / Sy31.total ps) (by rw [List.getElem?_map, hn]; rfl)
      rw [hy2] at hy
      have hy3 := Option.some.inj hy
      subst hy3
      refine ⟨_, rfl, _, rfl, _, _, rfl, rfl, mulX hx, _, rfl, _, _, rfl, rfl, ⟨by lia, by lia⟩, ?_⟩
      have k3 := k2 H' (Same.refl H')
      rw [← quot] at k3
      exact k3
    -- rests
    have hlw1 := s1 _ _ hlw
    refine ⟨_, rfl, lw, rfl, ⟨_, SqL.of hlw1⟩, fun l2 hl2 => ?_⟩
    refine lc_map (ys := intsV (ps.map fun p => x * p % Sy31.total ps)) (SqL.of hlw1) hl2 (by rw [intsV_length, intsV_length, List.length_map]) (by rw [intsV_length]; exact hlen16) (fun i z y H' Q' hz hy s2 k2 => ?_) fun H2 s2 h2 => ?_
    · obtain ⟨n, hn, rfl⟩ := intsV_at hz
      have hy2 := intsV_get (xs := ps.map fun p => x * p % Sy31.total ps) (i := i) (n := x * n % Sy31.total ps) (by rw [List.getElem?_map, hn]; rfl)
      rw [hy2] at hy
      have hy3 := Option.some.inj hy
      subst hy3
      refine ⟨_, rfl, _, rfl, _, _, rfl, rfl, mulX hx, _, rfl, _, _, rfl, rfl, (by show (0 : Int) < _; lia), ?_⟩
      have k3 := k2 H' (Same.refl H')
      rw [← rem_cast] at k3
      exact k3
    -- by_rest
    have s12 := s1.trans s2
    have hlw2 := s12 _ _ hlw
    have h12 := s2 _ _ h1
    refine ⟨_, rfl, lw, _, rfl, .inl (SqL.of hlw2), ps.length, by rw [intsV_length], hps, fun qd hqd => ?_⟩
    have s3 : Same H2 (upd H2 qd (.rng 0 (ps.length : Int))) := Same.new hqd
    refine ⟨qd, l2, ps.map (fun p => x * p % Sy31.total ps), rfl, by rw [upd_same, List.length_map], by rw [List.length_map]; exact hps, rfl, s3 _ _ h2, (hT.same s12).same s3, fun H3 D nD b3 t3 hD => ?_⟩
    have h13 : H3 l1 = some (.lst (intsV (ps.map fun p => x * p / Sy31.total ps))) := b3 _ _ (s3 _ _ h12) (((hT.same s12).same s3).ne (s3 _ _ h12) (by intro _ z; cases z))
    -- for place in by_rest[:amount - sum(shares)]
    refine ⟨_, rfl, _, rfl, _, rfl, l1, nats (ps.map fun p => x * p / Sy31.total ps), rfl, by rw [← intsV_eq]; exact SqL.of h13, _, _, rfl, rfl, _, rfl, D, _, rfl, SqL.of hD, fun p hp => ?_⟩
    rw [es, sub_cast hwl, cutV_to, intsV_take] at *
    have s4 : Same H3 (upd H3 p (.lst (intsV ((Sy31.byLeft (ps.map fun p => x * p % Sy31.total ps)).take (x - Sy31.total (ps.map fun p => x * p / Sy31.total ps)))))) := Same.new hp
    refine ⟨p, rfl, ⟨_, SqL.of upd_same⟩, ?_⟩
    have h14 := s4 _ _ h13
    have l1p : l1 ≠ p := ne_of_none h13 hp
    refine for_list (K := K) (a := p) (xs := intsV ((Sy31.byLeft (ps.map fun p => x * p % Sy31.total ps)).take (x - Sy31.total (ps.map fun p => x * p / Sy31.total ps))))
      (fun t σ H' => (∃ v6, σ = [some (.int (x : Int)), some (.ref lw), some (.int ((Sy31.total ps : Nat) : Int)), some (.ref l1), some (.ref l2), some (.ref D), v6, none]) ∧ But l1 (upd H3 p (.lst (intsV ((Sy31.byLeft (ps.map fun p => x * p % Sy31.total ps)).take (x - Sy31.total (ps.map fun p => x * p / Sy31.total ps)))))) H' ∧
        H' l1 = some (.lst (intsV (served (ps.map fun p => x * p / Sy31.total ps) (((Sy31.byLeft (ps.map fun p => x * p % Sy31.total ps)).take (x - Sy31.total (ps.map fun p => x * p / Sy31.total ps))).take t)))))
      ⟨⟨none, rfl⟩, fun _ _ e _ => e, by rw [List.take_zero, served_nil]; exact h14⟩ (fun t σ H' _ q => SqL.of (q.2.1 _ _ upd_same (Ne.symm l1p))) ?_ ?_
    · rintro t z σ H5 hz ⟨⟨v6, rfl⟩, b5, h5⟩
      obtain ⟨n, hn, rfl⟩ := intsV_at hz
      have hnt : (Sy31.byLeft (ps.map fun p => x * p % Sy31.total ps))[t]? = some n := by
        rw [List.getElem?_take] at hn
        split at hn
        · exact hn
        · cases hn
      have hnl : n < ps.length := by
        have := byLeft_lt (List.mem_of_getElem? hnt)
        rw [List.length_map] at this
        exact this
      have hnn : n ∉ ((Sy31.byLeft (ps.map fun p => x * p % Sy31.total ps)).take (x - Sy31.total (ps.map fun p => x * p / Sy31.total ps))).take t := nodup_take_not ((byLeft_nodup _).sublist (List.take_sublist _ _)) hn
      generalize hfi : (Sy31.byLeft (ps.map fun p => x * p % Sy31.total ps)).take (x - Sy31.total (ps.map fun p => x * p / Sy31.total ps)) = first at *
      have hsl : n < (served (ps.map fun p => x * p / Sy31.total ps) (first.take t)).length := by rw [served_length, List.length_map]; exact hnl
      have hg := List.getElem?_eq_getElem hsl
      refine ⟨_, rfl, _, rfl, l1, _, n, _, rfl, rfl, h5, intsV_get hg, ?_⟩
      refine ⟨_, _, rfl, rfl, l1, _, _, n, rfl, rfl, h5, ixN_nat (by rw [intsV_length]; exact hsl), ?_⟩
      refine ⟨⟨_, rfl⟩, fun b u e ne => by rw [upd_ne ne]; exact b5 b u e ne, ?_⟩
      rw [upd_same]
      have e1 : first.take (t + 1) = first.take t ++ [n] := by rw [List.take_add_one, hn]; rfl
      rw [e1, served_snoc (by rw [List.length_map]; exact hnl) hnn, ← intsV_set]
      rw [List.getD_eq_getElem?_getD, hg]
      rfl
    · rintro σ H5 ⟨⟨v6, rfl⟩, b5, h5⟩
      rw [intsV_length, List.take_length, ← portion_eq] at h5
      refine ⟨_, rfl, k H5 l1 hl1 (fun b u e ne => ?_) ((t3.same s4).but b5 h14) h5⟩
      exact b5 b u (s4 _ _ (b3 _ _ (s3 _ _ (s12 _ _ e)) ne)) (ne_of_none e hl1)
end
end Bp
end
section
set_option Elab.async false
set_option linter.all false
set_option maxRecDepth 100000
set_option maxHeartbeats 4000000
namespace Bp
open PySem PySem.Spec PyProof.Rows L2
/-- a comprehension over zip of two lists -/
theorem lc_zip {K : PySem.W.Frag} {a b D : Addr} {xs ys zs : List V} {v1 v2 : Nat} {te : TE} {σ : L2.St} {H : Hp} {Qd : Hp → Prop} (hl : SqL K H a xs) (hl2 : SqL K H b ys) (hD : H D = none) (hy : ys.length = xs.length) (hzs : zs.length = xs.length) (hz : xs.length < sizeLine)
    (hw : ∀ x y, wipe (((wipe σ [v1, v2]).set v1 (some x)).set v2 (some y)) [v1, v2] = wipe σ [v1, v2])
    (he : ∀ (i : Nat) (x y z : V) (H' : Hp) (Q' : VK), xs[i]? = some x → ys[i]? = some y → zs[i]? = some z → Same H H' → (∀ H'', Same H' H'' → Q' z H'') → te (((wipe σ [v1, v2]).set v1 (some x)).set v2 (some y)) H' Q')
    (hQ : ∀ H', Same H H' → H' D = some (.lst zs) → Qd H') :
    ∃ W : Nat → Nat → Hp → Prop, (∃ m, W 0 m (upd H D (.lst []))) ∧ ∀ i m H, W i m H →
      ((Itz K a b).stop i H ∧ Qd H) ∨ ((Itz K a b).go i H ∧ ∃ Nx : Hp → Prop, (∀ H', Nx H' → ∃ m', m' < m ∧ W (i + 1) m' H') ∧ ∀ x H', (Itz K a b).yld i H x H' → gTup K 2 (gCons (gName v1) (gCons (gName v2) gNil)) x (wipe σ [v1, v2]) H' fun σ2 H2 => wipe σ2 [v1, v2] = wipe σ [v1, v2] ∧ tYes σ2 H2 fun b H3 =>
        if b = true then te σ2 H3 fun y H4 => ∃ acc, H4 D = some (.lst acc) ∧ acc.length < sizeLine ∧ Nx (upd H4 D (.lst (acc ++ [y]))) else Nx H3) := by
  refine ⟨fun i m H' => m = xs.length - i ∧ i ≤ xs.length ∧ Same H H' ∧ H' D = some (.lst (zs.take i)), ⟨xs.length, by simp, Nat.zero_le _, Same.new hD, upd_same⟩, ?_⟩
  rintro i m H' ⟨rfl, hi, s, d⟩
  have q1 := s.seq hl
  have q2 := s.seq hl2
  by_cases hlt : i < xs.length
  · refine .inr ⟨⟨xs, ys, xs[i], ys[i]'(by lia), q1, q2, by simp [hlt], by simp [show i < ys.length by lia]⟩, fun H'' => Same H H'' ∧ H'' D = some (.lst (zs.take (i + 1))), fun H'' p => ⟨xs.length - (i + 1), by lia, rfl, hlt, p.1, p.2⟩, fun v H'' y => ?_⟩
    refine hide fun G0 g0 => ?_; obtain ⟨Tp, x, y', rfl, hn, rfl, hx, hy'⟩ := y; refine g0 ?_; clear g0 G0
    have hx1 := hx xs q1
    have hy1 := hy' ys q2
    obtain ⟨z, hzi⟩ : ∃ z, zs[i]? = some z := ⟨_, List.getElem?_eq_getElem (by lia)⟩
    refine ⟨Tp, _, rfl, SqT.of upd_same, rfl, _, _, rfl, _, _, rfl, rfl, hw _ _, ?_⟩
    dsimp only [tYes]
    rw [if_pos rfl]
    refine he i x y' z _ _ hx1 hy1 hzi (s.trans (Same.new hn)) fun H4 s4 => ?_
    refine ⟨zs.take i, s4 _ _ (Same.new hn _ _ d), by rw [List.length_take]; lia, fun b' o e => ?_, ?_⟩
    · rw [upd_ne (ne_of_none e hD)]
      exact s4 _ _ (Same.new hn _ _ (s b' o e))
    · rw [upd_same, List.take_add_one, hzi]; rfl
  · have e : i = xs.length := by lia
    subst e
    refine .inl ⟨⟨xs, ys, q1, q2, .inl (Nat.le_refl _)⟩, hQ H' s ?_⟩
    rw [← hzs, List.take_length] at d
    exact d
section
variable {P : Program} {w : World} {K : PySem.W.Frag} {mg : Str → Option Value} {base : Heap}
def ScoreAt.but {T : Txt K mg} {H H' : Hp} {sc Pt : Addr} {Pa : Sy31.Paper} {bs : List Sy31.Bar} {pos : Pos} {q : Str} (S : ScoreAt T H sc Pa bs) (t : Tab pos q Pt H) (b : But Pt H H') : ScoreAt T H' sc Pa bs :=
  ⟨S.ds, S.pp, S.dp, S.lb, S.as, b _ _ S.sco (t.ne S.sco (by intro _ z; cases z)), b _ _ S.pap (t.ne S.pap (by intro _ z; cases z)), b _ _ S.lst (t.ne S.lst (by intro _ z; cases z)),
    S.bars.1, fun j a h => let ⟨x, dx, h1, h2⟩ := S.bars.2 j a h; ⟨x, dx, h1, b _ _ h2 (t.ne h2 (by intro _ z; cases z))⟩⟩
def spWidths (T : Txt K mg) (Pt : Addr) : Sp := fun vs H Q _ => ∃ (sc : Addr) (Pa : Sy31.Paper) (bs : List Sy31.Bar) (i j : Nat), vs = [.ref sc, .int (i : Int), .int (j : Int)] ∧ i < j ∧ j ≤ bs.length ∧ Sy31.goes Pa bs i j = true ∧ Ok Pa bs ∧ Tab lamPos lamQ Pt H ∧ ∃ _ : ScoreAt T H sc Pa bs,
  ∀ (H' : Hp) (l : Addr), But Pt H H' → Tab lamPos lamQ Pt H' → H' l = some (.lst (intsV (Sy31.spread Pa bs i j))) → Q (.ref l) H'
theorem sc32 : FnScope ["score", "first", "after", "bars", "wished", "more", "taken", "bar", "width", "part"] ["score", "first", "after"] (defScope (top 32)) := ⟨rfl, rfl, rfl, by decide +kernel, rfl, by decide +kernel, by decide +kernel⟩
theorem Same.toBut {H H' : Hp} {p : Addr} (s : Same H H') : But p H H' := fun b o e _ => s b o e
theorem But.trans {H H1 H2 : Hp} {p : Addr} (a : But p H H1) (b : But p H1 H2) : But p H H2 := fun x o e ne => b x o (a x o e ne) ne
theorem ok_widths (T : Txt K mg) (Z : Shr T base) : FnOk P w K mg base CX0 4 T.widths_of_line.f T.widths_of_line.fd ["score", "first", "after"] (spWidths T Z.Pt) := by
  refine T.widths_of_line.F.ok sc32 (fun vs H Q E h => ?_) (fun cdv A outer s H vs Q E hr h => ?_)
  · refine hide fun G0 g0 => ?_; obtain ⟨sc, Pa, bs, i, j, rfl, _⟩ := h; refine g0 ?_; clear g0 G0; rfl
  · refine hide fun G0 g0 => ?_; obtain ⟨sc, Pa, bs, i, j, rfl, h1, h2, hg, ok, hT, S, k⟩ := h; refine g0 ?_; clear g0 G0
    have hr1 := hr.mono (show 1 ≤ 3 by decide)
    refine ⟨_, pss_cons (ps_set (i := 3) sc32.nd rfl (Or.inl rfl) (pe_slice sl_list (pe_fld (pv 0) rfl) (po_some (pv 1)) (po_some (pv 2))))
      (pss_cons (ps_setLc (i := 4) (own := [("bar", 7)]) (te := tFld K (tVar 7) "wished") rfl sc32.nd rfl rfl (sw_true rfl rfl rfl (by kernel_rfl)) (pi_list (pv 3)) (blkOk_by (by kernel_rfl)) (fun _ _ _ _ _ => pg_name (i := 7) sc32.nd rfl (Or.inl rfl)) (fun _ _ _ _ _ => pts_nil) (fun _ _ _ _ _ => pe_fld (pv 7) (by rfl)))
      (pss_cons (ps_set (i := 5) sc32.nd rfl (Or.inl rfl) (pe_op op_sub (pcall T.room_of (ok_room T) hr1 (pa_cons (pv 0) (pa_cons (pv 1) pa_nil))) (pe_callB (cr_sum rfl) rfl T.sum boot_sum1 (pa_cons (pv 4) pa_nil))))
      (pss_cons (ps_if (pt_cmpR op_lt (pv 5) pe_int (nomark _))
        (pss_cons (ps_set (i := 6) sc32.nd rfl (Or.inl rfl) (pcall T.shares_of (ok_shares T Z) hr (pa_cons (pe_op op_sub pe_int (pv 5)) (pa_cons (pe_lc (own := [("bar", 7)]) (te := tOp (rI0 fun i j => .int (i - j)) (tFld K (tVar 7) "wished") (tFld K (tVar 7) "least")) rfl sc32.nd (pi_list (pv 3)) (blkOk_by (by kernel_rfl)) (fun _ _ _ _ _ => pg_name (i := 7) sc32.nd rfl (Or.inl rfl)) (fun _ _ _ _ _ => pts_nil)
          (fun _ _ _ _ _ => pe_op op_sub (pe_fld (pv 7) (by rfl)) (pe_fld (pv 7) (by rfl)))) pa_nil))))
        (pss_one (ps_ret (pe_lc (own := [("width", 8), ("part", 9)]) (g := gTup K 2 (gCons (gName 8) (gCons (gName 9) gNil))) (te := tOp (rI0 fun i j => .int (i - j)) (tVar 8) (tVar 9)) rfl sc32.nd (pi_zip rfl T.zip (pa_cons (pv 4) (pa_cons (pv 6) pa_nil))) (blkOk_by (by kernel_rfl)) (fun _ _ _ _ _ => pg_tup (n := 2) rfl (pgs_cons (pg_name (i := 8) sc32.nd rfl (Or.inl rfl)) (pgs_cons (pg_name (i := 9) sc32.nd rfl (Or.inl rfl)) pgs_nil))) (fun _ _ _ _ _ => pts_nil)
          (fun _ _ _ _ _ => pe_op op_sub (pv 8) (pv 9)))))) pss_nil)
      (pss_cons (ps_if (pt_val (pcall T.is_last_line (ok_last T) hr1 (pa_cons (pv 0) (pa_cons (pv 2) pa_nil)))) (pss_one (ps_ret (pv 4))) pss_nil)
      (pss_one (ps_ret (pe_lc (own := [("width", 8), ("part", 9)]) (g := gTup K 2 (gCons (gName 8) (gCons (gName 9) gNil))) (te := tOp (rI0 fun i j => .int (i + j)) (tVar 8) (tVar 9)) rfl sc32.nd (pi_zip rfl T.zip (pa_cons (pv 4) (pa_cons (pcall T.shares_of (ok_shares T Z) hr (pa_cons (pv 5) (pa_cons (pv 4) pa_nil))) pa_nil))) (blkOk_by (by kernel_rfl)) (fun _ _ _ _ _ => pg_tup (n := 2) rfl (pgs_cons (pg_name (i := 8) sc32.nd rfl (Or.inl rfl)) (pgs_cons (pg_name (i := 9) sc32.nd rfl (Or.inl rfl)) pgs_nil))) (fun _ _ _ _ _ => pts_nil)
          (fun _ _ _ _ _ => pe_op op_add (pv 8) (pv 9))))))))), ?_⟩
    try dsimp only [cxOf, Cx.nox]
    have hle := goes_le hg
    have hlw := least_le_wished (i := i) (j := j) ok
    have hwp := wished_pos ok h1 h2
    have hwl := wished_le (i := i) ok h2
    have hwd := ok.pap.w
    have hrm : (Pa.width : Int) - ((Sy31.barAt bs i).head : Int) = ((Sy31.room Pa bs i : Nat) : Int) := by unfold Sy31.room; lia
    have hr2 : Sy31.room Pa bs i ≤ 1000 := by unfold Sy31.room; lia
    have hlr : Sy31.least (Sy31.part bs i j) ≤ Sy31.room Pa bs i := by unfold Sy31.room; lia
    have hpl : (Sy31.part bs i j).length ≤ 24 := by rw [part_length h2]; have := ok.len; lia
    have hps : (Sy31.part bs i j).length < sizeLine := small_lt hpl (by decide)
    have es : ∀ l : List Nat, (nats l).sum = ((Sy31.total l : Nat) : Int) := fun l => sum_total l
    refine ⟨_, rfl, rd_bars S ⟨_, rfl, _, rfl, _, rfl, _, rfl, S.lb, _, rfl, SqL.of S.lst, fun p hp => ?_⟩⟩
    rw [cut_bars S (by lia) h2]
    have s1 : Same H (upd H p (.lst (((S.as.drop i).take (j - i)).map V.ref))) := Same.new hp
    have S1 := S.same s1
    -- wished
    refine ⟨_, rfl, p, rfl, ⟨_, SqL.of upd_same⟩, fun l1 hl1 => ?_⟩
    refine lc_map (ys := intsV ((Sy31.part bs i j).map fun b => b.wish)) (SqL.of upd_same) hl1 (by rw [cut_len S h2, intsV_length, List.length_map]) (by rw [cut_len S h2]; exact hps) (fun t x y H' Q' hx hy s2 k2 => ?_) fun H2 s2 hw2 => ?_
    · obtain ⟨a, b, d, rfl, hb, ha⟩ := cut_at S hx
      have hy2 := intsV_get (xs := (Sy31.part bs i j).map fun b => b.wish) (i := t) (n := b.wish) (by rw [List.getElem?_map, hb]; rfl)
      rw [hy2] at hy
      have hy' := Option.some.inj hy
      subst hy'
      exact ⟨_, rfl, rd_bf (s2 _ _ (s1 _ _ ha)) (List.mem_of_getElem? (i := 1) rfl) (bar_wished b) (k2 H' (Same.refl H'))⟩
    have S2 := S1.same s2
    have hp2 := s2 _ _ (upd_same : upd H p (.lst (((S.as.drop i).take (j - i)).map V.ref)) p = _)
    have T2 := (hT.same s1).same s2
    refine ⟨_, rfl, _, rfl, sc, Pa, bs, i, rfl, by lia, S2, _, rfl, l1, nats ((Sy31.part bs i j).map fun b => b.wish), rfl, by rw [← intsV_eq]; exact SqL.of hw2, _, _, rfl, rfl, ?_⟩
    rw [es, hrm]
    refine ⟨_, rfl, _, _, rfl, rfl, _, rfl, ?_⟩
    have ew : Sy31.total ((Sy31.part bs i j).map fun b => b.wish) = Sy31.wished (Sy31.part bs i j) := rfl
    rw [ew]
    by_cases c : Sy31.wished (Sy31.part bs i j) ≤ Sy31.room Pa bs i
    · have e1 : decide (((Sy31.room Pa bs i : Nat) : Int) - ((Sy31.wished (Sy31.part bs i j) : Nat) : Int) < 0) = false := decide_eq_false (by lia)
      rw [e1]
      refine iteF ⟨_, rfl, _, rfl, sc, Pa, bs, j, rfl, S2, _, rfl, ?_⟩
      by_cases cj : j = bs.length
      · rw [decide_eq_true cj]
        have e2 : Sy31.spread Pa bs i j = (Sy31.part bs i j).map fun b => b.wish := by
          unfold Sy31.spread
          dsimp only
          rw [if_pos c, if_pos (.inl cj)]
        refine iteT ⟨_, rfl, k H2 l1 (Same.toBut (s1.trans s2)) T2 (by rw [e2]; exact hw2)⟩
      · rw [decide_eq_false cj]
        have e2 : Sy31.spread Pa bs i j = List.zipWith (fun (a b : Nat) => a + b) ((Sy31.part bs i j).map fun b => b.wish) (Sy31.portion (Sy31.room Pa bs i - Sy31.wished (Sy31.part bs i j)) ((Sy31.part bs i j).map fun b => b.wish)) := by
          unfold Sy31.spread
          dsimp only
          rw [if_pos c, if_neg (fun q => q.elim cj (by lia))]
        refine iteF ⟨_, rfl, _, rfl, _, rfl, l1, Sy31.room Pa bs i - Sy31.wished (Sy31.part bs i j), (Sy31.part bs i j).map (fun b => b.wish), ?_, hw2, by rw [ew]; lia, by rw [ew]; lia, by lia, by rw [List.length_map]; lia, T2, fun H3 l2 nl2 b3 t3 h3 => ?_⟩
        · show [V.int (((Sy31.room Pa bs i : Nat) : Int) - ((Sy31.wished (Sy31.part bs i j) : Nat) : Int)), V.ref l1] = _
          rw [sub_cast c]
        have hw3 := b3 _ _ hw2 (T2.ne hw2 (by intro _ z; cases z))
        refine ⟨l1, l2, _, _, rfl, SqL.of hw3, SqL.of h3, fun D hD => ?_⟩
        refine lc_zip (zs := intsV (List.zipWith (fun (a b : Nat) => a + b) ((Sy31.part bs i j).map fun b => b.wish) (Sy31.portion (Sy31.room Pa bs i - Sy31.wished (Sy31.part bs i j)) ((Sy31.part bs i j).map fun b => b.wish)))) (SqL.of hw3) (SqL.of h3) hD (by rw [intsV_length, intsV_length, portion_length]) (by rw [intsV_length, intsV_length, List.length_zipWith, portion_length, Nat.min_self]) (by rw [intsV_length, List.length_map]; exact hps) (fun _ _ => rfl) (fun t x y z H' Q' hx hy hz s4 k4 => ?_) fun H4 s4 h4 => ?_
        · obtain ⟨n, hn, rfl⟩ := intsV_at hx
          obtain ⟨m, hm, rfl⟩ := intsV_at hy
          have hz2 := intsV_get (xs := List.zipWith (fun (a b : Nat) => a + b) ((Sy31.part bs i j).map fun b => b.wish) (Sy31.portion (Sy31.room Pa bs i - Sy31.wished (Sy31.part bs i j)) ((Sy31.part bs i j).map fun b => b.wish))) (i := t) (n := n + m) (by rw [List.getElem?_zipWith, hn, hm])
          rw [hz2] at hz
          have hz' := Option.some.inj hz
          subst hz'
          exact ⟨_, rfl, _, rfl, _, _, rfl, rfl, k4 H' (Same.refl H')⟩
        · exact k H4 D (But.trans (Same.toBut (s1.trans s2)) (But.trans b3 (Same.toBut s4))) (t3.same s4) (by rw [e2]; exact h4)
    · have e1 : decide (((Sy31.room Pa bs i : Nat) : Int) - ((Sy31.wished (Sy31.part bs i j) : Nat) : Int) < 0) = true := decide_eq_true (by lia)
      rw [e1]
      have e2 : Sy31.spread Pa bs i j = List.zipWith (fun (a b : Nat) => a - b) ((Sy31.part bs i j).map fun b => b.wish) (Sy31.portion (Sy31.wished (Sy31.part bs i j) - Sy31.room Pa bs i) ((Sy31.part bs i j).map fun b => b.wish - b.least)) := by
        unfold Sy31.spread
        dsimp only
        rw [if_neg c]
      have et : Sy31.total ((Sy31.part bs i j).map fun b => b.wish - b.least) = Sy31.wished (Sy31.part bs i j) - Sy31.least (Sy31.part bs i j) := total_sub _ _ _ fun b hb => (ok.bars b (part_mem hb)).lw
      refine iteT ⟨_, rfl, _, _, rfl, rfl, _, rfl, p, rfl, ⟨_, SqL.of hp2⟩, fun l3 hl3 => ?_⟩
      refine lc_map (ys := intsV ((Sy31.part bs i j).map fun b => b.wish - b.least)) (SqL.of hp2) hl3 (by rw [cut_len S h2, intsV_length, List.length_map]) (by rw [cut_len S h2]; exact hps) (fun t x y H' Q' hx hy s3 k2 => ?_) fun H3 s3 h3 => ?_
      · obtain ⟨a, b, d, rfl, hb, ha⟩ := cut_at S hx
        have hbl := (ok.bars b (part_mem (List.mem_of_getElem? hb))).lw
        have hy2 := intsV_get (xs := (Sy31.part bs i j).map fun b => b.wish - b.least) (i := t) (n := b.wish - b.least) (by rw [List.getElem?_map, hb]; rfl)
        rw [hy2] at hy
        have hy' := Option.some.inj hy
        subst hy'
        have ha' := s3 _ _ (s2 _ _ (s1 _ _ ha))
        have k3 := k2 H' (Same.refl H')
        rw [← sub_cast hbl] at k3
        exact ⟨_, rfl, rd_bf ha' (List.mem_of_getElem? (i := 1) rfl) (bar_wished b) ⟨_, rfl, rd_bf ha' (List.mem_of_getElem? (i := 0) rfl) (bar_least b) ⟨_, _, rfl, rfl, k3⟩⟩⟩
      have T3 := T2.same s3
      have hw3 := s3 _ _ hw2
      refine ⟨l3, Sy31.wished (Sy31.part bs i j) - Sy31.room Pa bs i, (Sy31.part bs i j).map (fun b => b.wish - b.least), ?_, h3, by rw [et]; lia, by rw [et]; lia, by lia, by rw [List.length_map]; lia, T3, fun H4 l4 nl4 b4 t4 h4 => ?_⟩
      · show [V.int (0 - (((Sy31.room Pa bs i : Nat) : Int) - ((Sy31.wished (Sy31.part bs i j) : Nat) : Int))), V.ref l3] = _
        rw [show (0 - (((Sy31.room Pa bs i : Nat) : Int) - ((Sy31.wished (Sy31.part bs i j) : Nat) : Int))) = ((Sy31.wished (Sy31.part bs i j) - Sy31.room Pa bs i : Nat) : Int) by lia]
      have hw4 := b4 _ _ hw3 (T3.ne hw3 (by intro _ z; cases z))
      refine ⟨_, rfl, _, rfl, l1, l4, _, _, rfl, SqL.of hw4, SqL.of h4, fun D hD => ?_⟩
      refine lc_zip (zs := intsV (List.zipWith (fun (a b : Nat) => a - b) ((Sy31.part bs i j).map fun b => b.wish) (Sy31.portion (Sy31.wished (Sy31.part bs i j) - Sy31.room Pa bs i) ((Sy31.part bs i j).map fun b => b.wish - b.least)))) (SqL.of hw4) (SqL.of h4) hD (by rw [intsV_length, intsV_length, portion_length, List.length_map, List.length_map]) (by rw [intsV_length, intsV_length, List.length_zipWith, portion_length, List.length_map, List.length_map, Nat.min_self]) (by rw [intsV_length, List.length_map]; exact hps) (fun _ _ => rfl) (fun t x y z H' Q' hx hy hz s5 k5 => ?_) fun H5 s5 h5 => ?_
      · obtain ⟨n, hn, rfl⟩ := intsV_at hx
        obtain ⟨m, hm, rfl⟩ := intsV_at hy
        have hz2 := intsV_get (xs := List.zipWith (fun (a b : Nat) => a - b) ((Sy31.part bs i j).map fun b => b.wish) (Sy31.portion (Sy31.wished (Sy31.part bs i j) - Sy31.room Pa bs i) ((Sy31.part bs i j).map fun b => b.wish - b.least))) (i := t) (n := n - m) (by rw [List.getElem?_zipWith, hn, hm])
        rw [hz2] at hz
        have hz' := Option.some.inj hz
        subst hz'
        have hmn : m ≤ n := by
          rw [List.getElem?_map] at hn
          obtain ⟨b, hb, rfl⟩ := Option.map_eq_some_iff.mp hn
          have bo := ok.bars b (part_mem (List.mem_of_getElem? hb))
          have hq := portion_le (p := b.wish - b.least) (i := t) (by rw [et]; lia) (by rw [List.getElem?_map, hb]; rfl) hm
          have h1 := bo.l1
          have h2 := bo.lw
          lia
        have k6 := k5 H' (Same.refl H')
        rw [← sub_cast hmn] at k6
        exact ⟨_, rfl, _, rfl, _, _, rfl, rfl, k6⟩
      · exact k H5 D (But.trans (Same.toBut ((s1.trans s2).trans s3)) (But.trans b4 (Same.toBut s5))) (t4.same s5) (by rw [e2]; exact h5)
end
end Bp
end
section
set_option Elab.async false
set_option linter.all false
set_option maxRecDepth 100000
set_option maxHeartbeats 4000000
namespace Bp
open PySem PySem.Spec PyProof.Rows L2
section
variable {P : Program} {w : World} {K : PySem.W.Frag} {mg : Str → Option Value} {base : Heap}
def intV (l : List Int) : List V := l.map V.int
/-- everything but the score's own object and the table stays -/
def But2 (sc Pt : Addr) (H H' : Hp) : Prop := ∀ b o, H b = some o → b ≠ sc → b ≠ Pt → H' b = some o
theorem Same.toBut2 {H H' : Hp} {p q : Addr} (s : Same H H') : But2 p q H H' := fun b o e _ _ => s b o e
theorem free_upd {H : Hp} {p l : Addr} {o : HO} (h : upd H p o l = none) : H l = none := by
  by_cases q : l = p
  · rw [q, upd_same] at h; cases h
  · rw [upd_ne q] at h; exact h
theorem Tab.freeB {H H' : Hp} {Pt l : Addr} {pos : Pos} {q : Str} (t : Tab pos q Pt H') (b : But Pt H H') (h : H' l = none) : H l = none := by
  cases e : H l with
  | none => rfl
  | some o =>
    by_cases z : l = Pt
    · rw [z] at h
      rcases t with e2 | ⟨_, e2, _⟩ <;> (rw [h] at e2; cases e2)
    · rw [b _ _ e z] at h; cases h
theorem ScoreAt.same2 {T : Txt K mg} {H H' : Hp} {sc : Addr} {Pa : Sy31.Paper} {bs : List Sy31.Bar} (s : Same H H') (S : ScoreAt T H sc Pa bs) : ∃ S' : ScoreAt T H' sc Pa bs, S'.lb = S.lb := ⟨S.same s, rfl⟩
/-- the answer to a call -/
def spA (T : Txt K mg) (Pt : Addr) (num : Int) : Sp := fun vs H Q _ => ∃ (sc lt : Addr) (Pa : Sy31.Paper) (bs : List Sy31.Bar) (told : List Int) (c : Sy31.Call), vs = [.ref sc, .ref lt] ∧ Ok Pa bs ∧ H lt = some (.lst (intV told)) ∧ Told (num :: told) c ∧ (Sy31Neutral.out (Sy31.step ⟨Pa, bs⟩ c).2).length ≤ 1000000 ∧ Tab lamPos lamQ Pt H ∧ ∃ S : ScoreAt T H sc Pa bs,
  ∀ (H' : Hp) (l : Addr), H l = none → ∀ S' : ScoreAt T H' sc (Sy31.step ⟨Pa, bs⟩ c).1.paper (Sy31.step ⟨Pa, bs⟩ c).1.bars, (S'.lb = S.lb ∨ H S'.lb = none) → Tab lamPos lamQ Pt H' → But2 sc Pt H H' → H' l = some (.lst (intV (Sy31Neutral.out (Sy31.step ⟨Pa, bs⟩ c).2))) → Q (.ref l) H'
theorem spA_len {T : Txt K mg} {Pt : Addr} {num : Int} : ∀ vs H Q E, spA T Pt num vs H Q E → vs.length = 2 := by
  intro vs H Q E h
  refine hide fun G0 g0 => ?_; obtain ⟨sc, lt, Pa, bs, told, c, rfl, _⟩ := h; refine g0 ?_; clear g0 G0
  rfl
theorem put_paper (pp lb x : Addr) : putF "paper" (.ref x) (scoF pp lb) = scoF x lb := by kernel_rfl
theorem put_bars (pp lb x : Addr) : putF "bars" (.ref x) (scoF pp lb) = scoF pp x := by kernel_rfl
theorem sco2 (pp lb : Addr) : (scoF pp lb).length < 1000 := by show 2 < 1000; decide
theorem Tab.upd_ins {H : Hp} {Pt l c d : Addr} {pos : Pos} {q : Str} {fs : List (Str × V)} {o : HO} (t : Tab pos q Pt H) (h : H l = some (.ins c d fs)) : Tab pos q Pt (upd H l o) := by
  rcases t with e | ⟨c', e, e2⟩
  · exact .inl (by rw [upd_ne (ne_of e h (by intro z; cases z))]; exact e)
  · exact .inr ⟨c', by rw [upd_ne (ne_of e h (by intro z; cases z))]; exact e, by rw [upd_ne (ne_of e2 h (by unfold CodeX; intro z; cases z))]; exact e2⟩
theorem sco_pap {c d c' d' a b : Addr} {Pb : Sy31.Paper} : HO.ins c d (papF Pb) ≠ HO.ins c' d' (scoF a b) := fun z => by
  injection z with _ _ z
  have := congrArg List.length z
  exact absurd (show (8 : Nat) = 2 from this) (by decide)
theorem sco_bar {c d c' d' a b : Addr} {x : Sy31.Bar} : HO.ins c d (barF x) ≠ HO.ins c' d' (scoF a b) := fun z => by
  injection z with _ _ z
  have := congrArg List.length z
  exact absurd (show (5 : Nat) = 2 from this) (by decide)
/-- another paper, other bars -/
def ScoreAt.set {T : Txt K mg} {H : Hp} {sc ds pp dp lb pp' lb' : Addr} {as : List Addr} {Pb : Sy31.Paper} {bs : List Sy31.Bar} (sco : H sc = some (.ins T.Score.c ds (scoF pp lb))) (hp : H pp' = some (.ins T.Paper.c dp (papF Pb))) (hl : H lb' = some (.lst (as.map V.ref))) (hb : BarsAt T.Bar.c H as bs) :
    ScoreAt T (upd H sc (.ins T.Score.c ds (scoF pp' lb'))) sc Pb bs :=
  ⟨ds, pp', dp, lb', as, upd_same, by rw [upd_ne (ne_of hp sco sco_pap)]; exact hp, by rw [upd_ne (ne_of hl sco (by intro z; cases z))]; exact hl,
    hb.1, fun j a h => let ⟨x, dx, h1, h2⟩ := hb.2 j a h; ⟨x, dx, h1, by rw [upd_ne (ne_of h2 sco sco_bar)]; exact h2⟩⟩
theorem told0 {told : List Int} {c : Sy31.Call} {n : Int} (h : Told (n :: told) c) : True := trivial
/-! ### begins -/
theorem sc52 : FnScope ["score", "told"] ["score", "told"] (defScope (top 52)) := ⟨rfl, rfl, rfl, by decide +kernel, rfl, by decide +kernel, by decide +kernel⟩
theorem ok_begins (T : Txt K mg) (Pt : Addr) : FnOk P w K mg base CX0 3 T.answer_begins.f T.answer_begins.fd ["score", "told"] (spA T Pt 0) := by
  refine T.answer_begins.F.ok sc52 (fun vs H Q E h => spA_len vs H Q E h) (fun cdv A outer s H vs Q E hr h => ?_)
  refine hide fun G0 g0 => ?_; obtain ⟨sc, lt, Pa, bs, told, c, rfl, ok, hlt, hc, hmany, hT, S, k⟩ := h; refine g0 ?_; clear g0 G0
  cases hc
  refine ⟨_, pss_cons (ps_fld (pv 0) (pmake T.Paper (ok_paper T) hr (pa_cons (pe_glob (v := .ref T.tup0) rfl T.PAPER_AT_BEGINNING rfl) pa_nil)) rfl) (pss_cons (ps_fld (pv 0) (pe_lst pa_nil) rfl) (pss_one (ps_ret (pe_lst (pa_cons pe_int pa_nil))))), ?_⟩
  try dsimp only [cxOf, Cx.nox]
  intro pp dp npp ndp nep
  refine mk_paper (b := Sy31.start.paper) npp ndp nep (.inr (T.tup0_at _)) fun H1 s1 hpp => ?_
  have sc1 := s1 _ _ S.sco
  refine ⟨_, rfl, sc, T.Score.c, S.ds, _, rfl, sc1, T.Score.cl, T.nScore _ (List.mem_of_getElem? (i := 0) rfl), sco2 _ _, ?_⟩
  rw [put_paper]
  refine ⟨Nat.zero_le _, fun lb hlb => ?_⟩
  have lbs : lb ≠ sc := fun q => by rw [q, upd_same] at hlb; cases hlb
  have hlb1 : H1 lb = none := by rw [upd_ne lbs] at hlb; exact hlb
  refine ⟨_, rfl, sc, T.Score.c, S.ds, _, rfl, (upd_ne (Ne.symm lbs)).trans upd_same, T.Score.cl, T.nScore _ (List.mem_of_getElem? (i := 1) rfl), sco2 _ _, ?_⟩
  rw [put_bars]
  have ppn : pp ≠ sc := ne_of hpp sc1 sco_pap
  obtain ⟨S3, e3S⟩ : ∃ S3 : ScoreAt T (upd (upd (upd H1 sc (.ins T.Score.c S.ds (scoF pp S.lb))) lb (.lst [])) sc (.ins T.Score.c S.ds (scoF pp lb))) sc Sy31.start.paper Sy31.start.bars, S3.lb = lb :=
    ⟨ScoreAt.set (as := []) ((upd_ne (Ne.symm lbs)).trans upd_same) (by rw [upd_ne (ne_of_none hpp hlb1), upd_ne ppn]; exact hpp) upd_same ⟨rfl, fun j a h => by simp at h⟩, rfl⟩
  have T3 : Tab lamPos lamQ Pt (upd (upd (upd H1 sc (.ins T.Score.c S.ds (scoF pp S.lb))) lb (.lst [])) sc (.ins T.Score.c S.ds (scoF pp lb))) := (((hT.same s1).upd_ins sc1).same (Same.new hlb)).upd_ins ((upd_ne (Ne.symm lbs)).trans upd_same)
  refine ⟨by show 1 ≤ sizeLine; decide, fun l hl => ?_⟩
  refine k _ l (s1.free (free_upd (free_upd (free_upd hl)))) (S3.same (Same.new hl)) (.inr (s1.free ((congrArg H1 e3S).trans hlb1))) (T3.same (Same.new hl)) (fun b o e n1 n2 => ?_) upd_same
  have e1 := s1 _ _ e
  refine Same.new hl _ _ ?_
  rw [upd_ne n1, upd_ne (ne_of_none e1 hlb1), upd_ne n1]; exact e1
/-! ### paper -/
theorem papV_told {xs : List Nat} (h : xs.length = 8) (h2 : xs.getD 2 0 ≤ 1) : intV (nats xs) = papV (paperOf xs) := by
  match xs, h with
  | [a, b, c, d, e, f, g, i], _ =>
    have hc : c ≤ 1 := h2
    have : (c : Int) = bit (c == 1) := by
      match c, hc with
      | 0, _ => rfl
      | 1, _ => rfl
    show [V.int (a : Int), V.int (b : Int), V.int (c : Int), V.int (d : Int), V.int (e : Int), V.int (f : Int), V.int (g : Int), V.int (i : Int)] = [V.int (a : Int), V.int (b : Int), V.int (bit (c == 1)), V.int (d : Int), V.int (e : Int), V.int (f : Int), V.int (g : Int), V.int (i : Int)]
    rw [← this]
theorem sc53 : FnScope ["score", "told"] ["score", "told"] (defScope (top 53)) := ⟨rfl, rfl, rfl, by decide +kernel, rfl, by decide +kernel, by decide +kernel⟩
theorem ok_apaper (T : Txt K mg) (Pt : Addr) : FnOk P w K mg base CX0 3 T.answer_paper.f T.answer_paper.fd ["score", "told"] (spA T Pt 1) := by
  refine T.answer_paper.F.ok sc53 (fun vs H Q E h => spA_len vs H Q E h) (fun cdv A outer s H vs Q E hr h => ?_)
  refine hide fun G0 g0 => ?_; obtain ⟨sc, lt, Pa, bs, told, c, rfl, ok, hlt, hc, hmany, hT, S, k⟩ := h; refine g0 ?_; clear g0 G0
  cases hc with
  | paper xs h8 h2 =>
    rw [papV_told h8 h2] at hlt
    refine ⟨_, pss_cons (ps_if (pt_not (pt_val (pcall T.is_paper (ok_is_paper T) hr (pa_cons (pv 1) pa_nil)))) (pss_one (ps_ret (pe_lst (pa_cons (pe_gint T.OUT_OF_RANGE) pa_nil)))) pss_nil)
      (pss_cons (ps_fld (pv 0) (pmake T.Paper (ok_paper T) hr (pa_cons (pv 1) pa_nil)) rfl) (pss_one (ps_ret (pe_lst (pa_cons pe_int pa_nil))))), ?_⟩
    try dsimp only [cxOf, Cx.nox]
    have st : Sy31.step ⟨Pa, bs⟩ (.paper (paperOf xs)) = if Sy31.paperOk (paperOf xs) = false then (⟨Pa, bs⟩, Sy31.ok (-1)) else (⟨paperOf xs, bs⟩, Sy31.ok 0) := rfl
    rw [st] at k
    refine ⟨_, rfl, lt, paperOf xs, rfl, hlt, fun H1 s1 => ⟨_, rfl, ?_⟩⟩
    obtain ⟨S1, e1S⟩ := S.same2 s1
    cases e : Sy31.paperOk (paperOf xs) with
    | false =>
      rw [if_pos e] at k
      refine iteT ⟨by show 1 ≤ sizeLine; decide, fun l hl => ?_⟩
      exact k _ l (s1.free hl) (S1.same (Same.new hl)) (.inl e1S) ((hT.same s1).same (Same.new hl)) (Same.toBut2 (s1.trans (Same.new hl))) upd_same
    | true =>
      rw [if_neg (by rw [e]; simp)] at k
      refine iteF ⟨_, rfl, ?_⟩
      intro pp dp npp ndp nep
      refine mk_paper (b := paperOf xs) npp ndp nep (.inl (SqL.of (s1 _ _ hlt))) fun H2 s2 hpp => ?_
      obtain ⟨S2, e2S⟩ := S1.same2 s2
      have sc2 := S2.sco
      refine ⟨_, rfl, sc, T.Score.c, S2.ds, _, rfl, sc2, T.Score.cl, T.nScore _ (List.mem_of_getElem? (i := 0) rfl), sco2 _ _, ?_⟩
      rw [put_paper]
      refine ⟨by show 1 ≤ sizeLine; decide, fun l hl => ?_⟩
      obtain ⟨S3, e3S⟩ : ∃ S3 : ScoreAt T (upd H2 sc (.ins T.Score.c S2.ds (scoF pp S2.lb))) sc (paperOf xs) bs, S3.lb = S2.lb := ⟨ScoreAt.set sc2 hpp S2.lst S2.bars, rfl⟩
      refine k _ l ((s1.trans s2).free (free_upd hl)) (S3.same (Same.new hl)) (.inl (e3S.trans (e2S.trans e1S))) ((((hT.same s1).same s2).upd_ins sc2).same (Same.new hl)) (fun b o eb n1 n2 => ?_) upd_same
      refine Same.new hl _ _ ?_
      rw [upd_ne n1]; exact s2 _ _ (s1 _ _ eb)
/-! ### line, spread -/
theorem onLine_eq (Pa : Sy31.Paper) (bs : List Sy31.Bar) (i j : Nat) (f : Sy31.Ans) : Sy31.onLine ⟨Pa, bs⟩ i j f = if refI Pa bs i j = 0 then f else Sy31.ok (refI Pa bs i j) := by
  unfold Sy31.onLine refI
  dsimp only
  by_cases c1 : j ≤ i ∨ bs.length < j
  · rw [if_pos c1, if_pos c1, if_neg (by lia)]
  · rw [if_neg c1, if_neg c1]
    by_cases c2 : Sy31.goes Pa bs i j = false
    · rw [if_pos c2, if_pos c2, if_neg (by lia)]
    · rw [if_neg c2, if_neg c2]
      by_cases c3 : Sy31.mayEnd bs i j = false
      · rw [if_pos c3, if_pos c3, if_neg (by lia)]
      · rw [if_neg c3, if_neg c3, if_pos rfl]
theorem sc56 : FnScope ["score", "told", "refusal"] ["score", "told"] (defScope (top 56)) := ⟨rfl, rfl, rfl, by decide +kernel, rfl, by decide +kernel, by decide +kernel⟩
theorem ok_aline (T : Txt K mg) (Pt : Addr) : FnOk P w K mg base CX0 4 T.answer_line.f T.answer_line.fd ["score", "told"] (spA T Pt 3) := by
  refine T.answer_line.F.ok sc56 (fun vs H Q E h => spA_len vs H Q E h) (fun cdv A outer s H vs Q E hr h => ?_)
  refine hide fun G0 g0 => ?_; obtain ⟨sc, lt, Pa, bs, told, c, rfl, ok, hlt, hc, hmany, hT, S, k⟩ := h; refine g0 ?_; clear g0 G0
  cases hc with
  | line i j =>
    refine ⟨_, pss_cons (ps_set (i := 2) sc56.nd rfl (Or.inl rfl) (pcall T.refusal_of_line (ok_refusal T) hr (pa_cons (pv 0) (pa_cons (pe_ix ix_seq (pv 1) pe_int (fun _ _ => rfl)) (pa_cons (pe_ix ix_seq (pv 1) pe_int (fun _ _ => rfl)) pa_nil)))))
      (pss_cons (ps_if (pt_cmpR op_lt (pv 2) pe_int (nomark _)) (pss_one (ps_ret (pe_lst (pa_cons (pv 2) pa_nil)))) pss_nil)
      (pss_one (ps_ret (pe_lst (pa_cons (pcall T.cost_of_line (ok_cost T) (hr.mono (by decide)) (pa_cons (pv 0) (pa_cons (pe_ix ix_seq (pv 1) pe_int (fun _ _ => rfl)) (pa_cons (pe_ix ix_seq (pv 1) pe_int (fun _ _ => rfl)) pa_nil)))) pa_nil))))), ?_⟩
    try dsimp only [cxOf, Cx.nox]
    have st : Sy31.step ⟨Pa, bs⟩ (.line i j) = (⟨Pa, bs⟩, Sy31.onLine ⟨Pa, bs⟩ i j (Sy31.ok (Sy31.lineCost Pa bs i j : Nat))) := rfl
    rw [st, onLine_eq] at k
    have hq : Sq K H lt (intV [(i : Int), (j : Int)]) := .inl (SqL.of hlt)
    refine ⟨_, rfl, _, rfl, hq.ix (j := 0) rfl rfl ⟨_, rfl, hq.ix (j := 1) rfl rfl ⟨sc, Pa, bs, i, j, rfl, ok, S, fun H1 s1 => ?_⟩⟩⟩
    obtain ⟨S1, e1S⟩ := S.same2 s1
    refine ⟨_, rfl, _, _, rfl, rfl, _, rfl, ?_⟩
    by_cases c0 : refI Pa bs i j = 0
    · rw [c0]
      rw [if_pos c0] at k
      obtain ⟨o1, o2, o3, o4⟩ := okLine_iff.mp (refI_zero.mp c0)
      have hq1 : Sq K H1 lt (intV [(i : Int), (j : Int)]) := .inl (SqL.of (s1 _ _ hlt))
      refine iteF ⟨_, rfl, _, rfl, hq1.ix (j := 0) rfl rfl ⟨_, rfl, hq1.ix (j := 1) rfl rfl ⟨sc, Pa, bs, i, j, rfl, o1, o2, o3, ok, S1, fun H2 s2 => ⟨by show 1 ≤ sizeLine; decide, fun l hl => ?_⟩⟩⟩⟩
      exact k _ l ((s1.trans s2).free hl) (S1.same (s2.trans (Same.new hl))) (.inl e1S) ((hT.same s1).same (s2.trans (Same.new hl))) (Same.toBut2 (s1.trans (s2.trans (Same.new hl)))) upd_same
    · rw [decide_eq_true (show refI Pa bs i j < 0 from refI_neg.resolve_left c0)]
      rw [if_neg c0] at k
      refine iteT ⟨_, rfl, by show 1 ≤ sizeLine; decide, fun l hl => ?_⟩
      exact k _ l (s1.free hl) (S1.same (Same.new hl)) (.inl e1S) ((hT.same s1).same (Same.new hl)) (Same.toBut2 (s1.trans (Same.new hl))) upd_same
theorem sc57 : FnScope ["score", "told", "refusal", "widths"] ["score", "told"] (defScope (top 57)) := ⟨rfl, rfl, rfl, by decide +kernel, rfl, by decide +kernel, by decide +kernel⟩
theorem out_list (xs : List Nat) : intV (Sy31Neutral.out ⟨0, [xs]⟩) = [.int 0, .int (xs.length : Int)] ++ intsV xs := by
  unfold Sy31Neutral.out intV intsV
  rw [List.flatMap_cons, List.flatMap_nil, List.append_nil, List.map_cons, List.map_cons, List.map_map]
  rfl
theorem spread_length {Pa : Sy31.Paper} {bs : List Sy31.Bar} {i j : Nat} : (Sy31.spread Pa bs i j).length ≤ (Sy31.part bs i j).length := by
  unfold Sy31.spread
  dsimp only
  split
  · split
    · rw [List.length_map]; exact Nat.le_refl _
    · rw [List.length_zipWith, List.length_map]; exact Nat.min_le_left _ _
  · rw [List.length_zipWith, List.length_map]; exact Nat.min_le_left _ _
theorem ok_aspread (T : Txt K mg) (Z : Shr T base) : FnOk P w K mg base CX0 5 T.answer_spread.f T.answer_spread.fd ["score", "told"] (spA T Z.Pt 4) := by
  refine T.answer_spread.F.ok sc57 (fun vs H Q E h => spA_len vs H Q E h) (fun cdv A outer s H vs Q E hr h => ?_)
  refine hide fun G0 g0 => ?_; obtain ⟨sc, lt, Pa, bs, told, c, rfl, ok, hlt, hc, hmany, hT, S, k⟩ := h; refine g0 ?_; clear g0 G0
  cases hc with
  | spread i j =>
    refine ⟨_, pss_cons (ps_set (i := 2) sc57.nd rfl (Or.inl rfl) (pcall T.refusal_of_line (ok_refusal T) (hr.mono (by decide)) (pa_cons (pv 0) (pa_cons (pe_ix ix_seq (pv 1) pe_int (fun _ _ => rfl)) (pa_cons (pe_ix ix_seq (pv 1) pe_int (fun _ _ => rfl)) pa_nil)))))
      (pss_cons (ps_if (pt_cmpR op_lt (pv 2) pe_int (nomark _)) (pss_one (ps_ret (pe_lst (pa_cons (pv 2) pa_nil)))) pss_nil)
      (pss_cons (ps_set (i := 3) sc57.nd rfl (Or.inl rfl) (pcall T.widths_of_line (ok_widths T Z) hr (pa_cons (pv 0) (pa_cons (pe_ix ix_seq (pv 1) pe_int (fun _ _ => rfl)) (pa_cons (pe_ix ix_seq (pv 1) pe_int (fun _ _ => rfl)) pa_nil)))))
      (pss_one (ps_ret (pe_op op_cat (pe_lst (pa_cons pe_int (pa_cons (pe_callB call_len_seq rfl T.len PySem.boot_len (pa_cons (pv 3) pa_nil)) pa_nil))) (pv 3)))))), ?_⟩
    try dsimp only [cxOf, Cx.nox]
    have st : Sy31.step ⟨Pa, bs⟩ (.spread i j) = (⟨Pa, bs⟩, Sy31.onLine ⟨Pa, bs⟩ i j ⟨0, [Sy31.spread Pa bs i j]⟩) := rfl
    rw [st, onLine_eq] at k
    have hq : Sq K H lt (intV [(i : Int), (j : Int)]) := .inl (SqL.of hlt)
    refine ⟨_, rfl, _, rfl, hq.ix (j := 0) rfl rfl ⟨_, rfl, hq.ix (j := 1) rfl rfl ⟨sc, Pa, bs, i, j, rfl, ok, S, fun H1 s1 => ?_⟩⟩⟩
    obtain ⟨S1, e1S⟩ := S.same2 s1
    have T1 := hT.same s1
    refine ⟨_, rfl, _, _, rfl, rfl, _, rfl, ?_⟩
    by_cases c0 : refI Pa bs i j = 0
    · rw [c0]
      rw [if_pos c0] at k
      obtain ⟨o1, o2, o3, o4⟩ := okLine_iff.mp (refI_zero.mp c0)
      have hq1 : Sq K H1 lt (intV [(i : Int), (j : Int)]) := .inl (SqL.of (s1 _ _ hlt))
      refine iteF ⟨_, rfl, _, rfl, hq1.ix (j := 0) rfl rfl ⟨_, rfl, hq1.ix (j := 1) rfl rfl ⟨sc, Pa, bs, i, j, rfl, o1, o2, o3, ok, T1, S1, fun H2 lw b2 t2 h2 => ?_⟩⟩⟩
      refine ⟨_, rfl, lw, _, rfl, .inl (SqL.of h2), by show 2 ≤ sizeLine; decide, fun l0 hl0 => ?_⟩
      have h23 := Same.new (o := .lst [.int 0, .int ((intsV (Sy31.spread Pa bs i j)).length : Int)]) hl0 _ _ h2
      have hsl : (Sy31.spread Pa bs i j).length ≤ 24 := Nat.le_trans spread_length (by rw [part_length o2]; have := ok.len; lia)
      refine ⟨_, rfl, l0, lw, _, _, rfl, rfl, upd_same, h23, by rw [intsV_length]; exact small_le (m := 100) (by show 2 + _ ≤ _; lia) (by decide), fun l hl => ?_⟩
      refine k _ l (s1.free (t2.freeB b2 (free_upd hl))) ((S1.but T1 b2).same ((Same.new hl0).trans (Same.new hl))) (.inl e1S) (t2.same ((Same.new hl0).trans (Same.new hl))) (fun b o e n1 n2 => Same.new hl _ _ (Same.new hl0 _ _ (b2 _ _ (s1 _ _ e) n2))) ?_
      rw [upd_same, out_list, intsV_length]
    · rw [decide_eq_true (show refI Pa bs i j < 0 from refI_neg.resolve_left c0)]
      rw [if_neg c0] at k
      refine iteT ⟨_, rfl, by show 1 ≤ sizeLine; decide, fun l hl => ?_⟩
      exact k _ l (s1.free hl) (S1.same (Same.new hl)) (.inl e1S) (T1.same (Same.new hl)) (Same.toBut2 (s1.trans (Same.new hl))) upd_same
/-! ### ways -/
theorem sc58 : FnScope ["score", "told", "counts"] ["score", "told"] (defScope (top 58)) := ⟨rfl, rfl, rfl, by decide +kernel, rfl, by decide +kernel, by decide +kernel⟩
theorem ok_aways (T : Txt K mg) (Pt : Addr) : FnOk P w K mg base CX0 7 T.answer_ways.f T.answer_ways.fd ["score", "told"] (spA T Pt 5) := by
  refine T.answer_ways.F.ok sc58 (fun vs H Q E h => spA_len vs H Q E h) (fun cdv A outer s H vs Q E hr h => ?_)
  refine hide fun G0 g0 => ?_; obtain ⟨sc, lt, Pa, bs, told, c, rfl, ok, hlt, hc, hmany, hT, S, k⟩ := h; refine g0 ?_; clear g0 G0
  cases hc with
  | ways =>
    refine ⟨_, pss_cons (ps_set (i := 2) sc58.nd rfl (Or.inl rfl) (pcall T.count_ways (ok_ways T) hr (pa_cons (pv 0) pa_nil)))
      (pss_one (ps_ret (pe_op op_cat (pe_lst (pa_cons pe_int (pa_cons (pe_callB call_len_seq rfl T.len PySem.boot_len (pa_cons (pv 2) pa_nil)) pa_nil))) (pv 2)))), ?_⟩
    try dsimp only [cxOf, Cx.nox]
    refine ⟨_, rfl, sc, Pa, bs, rfl, ok, S, fun H1 lw s1 h1 => ?_⟩
    refine ⟨_, rfl, lw, _, rfl, .inl (SqL.of h1), by show 2 ≤ sizeLine; decide, fun l0 hl0 => ?_⟩
    have h12 := Same.new (o := .lst [.int 0, .int ((intsV [(Sy31.all_ Pa bs).ways, (Sy31.all_ Pa bs).bests]).length : Int)]) hl0 _ _ h1
    refine ⟨_, rfl, l0, lw, _, _, rfl, rfl, upd_same, h12, by show 4 ≤ sizeLine; decide, fun l hl => ?_⟩
    refine k _ l (s1.free (free_upd hl)) (S.same (s1.trans ((Same.new hl0).trans (Same.new hl)))) (.inl rfl) (hT.same (s1.trans ((Same.new hl0).trans (Same.new hl)))) (Same.toBut2 (s1.trans ((Same.new hl0).trans (Same.new hl)))) ?_
    rw [upd_same]
    rfl
/-! ### best -/
theorem sc59 : FnScope ["score", "told", "found", "answer", "page"] ["score", "told"] (defScope (top 59)) := ⟨rfl, rfl, rfl, by decide +kernel, rfl, by decide +kernel, by decide +kernel⟩
def flatP (ps : List (List Nat)) : List Int := ps.flatMap fun (x : List Nat) => (x.length : Int) :: x.map fun (n : Nat) => (n : Int)
theorem flatP_take {ps : List (List Nat)} {t : Nat} {p : List Nat} (h : ps[t]? = some p) : flatP (ps.take (t + 1)) = flatP (ps.take t) ++ ((p.length : Int) :: nats p) := by
  unfold flatP
  rw [List.take_add_one, h, List.flatMap_append]
  congr 1
  show ((p.length : Int) :: p.map fun (n : Nat) => (n : Int)) ++ [] = _
  rw [List.append_nil]; rfl
theorem best_out (Pa : Sy31.Paper) (bs : List Sy31.Bar) : Sy31Neutral.out (Sy31.step ⟨Pa, bs⟩ .best).2 = bestV Pa bs :: flatP (bestP Pa bs) := by
  unfold bestV bestP
  show Sy31Neutral.out (match (Sy31.all_ Pa bs).least with
    | none => Sy31.ok (-6)
    | some m => ⟨(m : Nat), Sy31.pagesOf 0 [] (Sy31.best Pa bs)⟩) = _
  cases (Sy31.all_ Pa bs).least with
  | none => rfl
  | some m => rfl
theorem flatP_le {ps : List (List Nat)} (t : Nat) : (flatP (ps.take t)).length ≤ (flatP ps).length := by
  unfold flatP
  conv => rhs; rw [← List.take_append_drop t ps, List.flatMap_append, List.length_append]
  lia
theorem intV_length (l : List Int) : (intV l).length = l.length := by unfold intV; rw [List.length_map]
theorem ok_abest (T : Txt K mg) (Pt : Addr) : FnOk P w K mg base CX0 7 T.answer_best.f T.answer_best.fd ["score", "told"] (spA T Pt 6) := by
  refine T.answer_best.F.ok sc59 (fun vs H Q E h => spA_len vs H Q E h) (fun cdv A outer s H vs Q E hr h => ?_)
  refine hide fun G0 g0 => ?_; obtain ⟨sc, lt, Pa, bs, told, c, rfl, ok, hlt, hc, hmany, hT, S, k⟩ := h; refine g0 ?_; clear g0 G0
  cases hc with
  | best =>
    refine ⟨_, pss_cons (ps_set (i := 2) sc59.nd rfl (Or.inl rfl) (pcall T.best_way (ok_best T) hr (pa_cons (pv 0) pa_nil)))
      (pss_cons (ps_set (i := 3) sc59.nd rfl (Or.inl rfl) (pe_lst (pa_cons (pe_ix ix_tup (pv 2) pe_int (fun _ _ => rfl)) pa_nil)))
      (pss_cons (ps_for PassesOwn.never rfl (pi_list (pe_ix ix_tup (pv 2) pe_int (fun _ _ => rfl))) (pg_name (i := 4) sc59.nd rfl (Or.inl rfl))
        (pss_cons (ps_expr (pe_bm PySem.F.plainAttrs_list PySem.F.slot_list_append PySem.F.type_list_append mt_append (pv 3) (pa_cons (pe_callB call_len_seq rfl T.len PySem.boot_len (pa_cons (pv 4) pa_nil)) pa_nil)))
        (pss_one (ps_expr (pe_bm PySem.F.plainAttrs_list PySem.F.slot_list_extend PySem.F.type_list_extend mt_extend (pv 3) (pa_cons (pv 4) pa_nil))))))
      (pss_one (ps_ret (pv 3))))), ?_⟩
    try dsimp only [cxOf, Cx.nox]
    have st1 : (Sy31.step ⟨Pa, bs⟩ .best).1 = ⟨Pa, bs⟩ := rfl
    rw [st1, best_out] at k
    rw [best_out] at hmany
    refine ⟨_, rfl, sc, Pa, bs, rfl, ok, S, fun H1 tp l ls s1 htp hP => ?_⟩
    refine ⟨_, rfl, tp, _, _, _, rfl, rfl, SqT.of htp, at_of (j := 0) rfl rfl, by show 1 ≤ sizeLine; decide, fun la hla => ?_⟩
    have s2 : Same H1 (upd H1 la (.lst [.int (bestV Pa bs)])) := Same.new hla
    have hP2 := hP.same s2
    refine ⟨_, rfl, tp, _, _, _, rfl, rfl, SqT.of (s2 _ _ htp), at_of (j := 1) rfl rfl, l, rfl, ⟨_, SqL.of hP2.lst⟩, ?_⟩
    have hll : l ≠ la := ne_of_none hP.lst hla
    refine for_list (K := K) (a := l) (xs := ls.map V.ref) (fun t σ H' => (∃ v4, σ = [some (.ref sc), some (.ref lt), some (.ref tp), some (.ref la), v4]) ∧ But la H1 H' ∧ H' la = some (.lst (intV (bestV Pa bs :: flatP ((bestP Pa bs).take t)))))
      ⟨⟨none, rfl⟩, fun b o e ne => s2 _ _ e, upd_same⟩ (fun t σ H' _ q => SqL.of (q.2.1 _ _ hP.lst hll)) ?_ ?_
    · rintro t x σ H3 hx ⟨⟨v4, rfl⟩, b3, h3⟩
      rw [List.getElem?_map] at hx
      obtain ⟨pg, hpg, rfl⟩ := Option.map_eq_some_iff.mp hx
      obtain ⟨p, hp, hpl⟩ := hP.at_ t pg hpg
      have pgn : pg ≠ la := ne_of_none hpl hla
      have hpl3 := b3 _ _ hpl pgn
      have hle : (flatP ((bestP Pa bs).take (t + 1))).length ≤ 1000000 := Nat.le_trans (flatP_le (t + 1)) (by rw [List.length_cons] at hmany; lia)
      rw [flatP_take hp, List.length_append, List.length_cons] at hle
      unfold nats at hle
      rw [List.length_map] at hle
      refine ⟨_, rfl, .inl ⟨rfl, _, SqL.of h3⟩, _, rfl, pg, _, rfl, .inl (SqL.of hpl3), la, _, _, rfl, rfl, h3, by rw [intV_length, List.length_cons]; exact small_lt (m := 1000001) (by lia) (by decide), ?_⟩
      refine ⟨_, rfl, .inl ⟨rfl, _, SqL.of upd_same⟩, _, rfl, la, pg, _, _, rfl, rfl, upd_same, (upd_ne pgn).trans hpl3, by rw [List.length_append, intV_length, List.length_cons, intsV_length]; exact small_le (m := 1000010) (by show _ + 1 + 1 + _ ≤ _; lia) (by decide), ?_⟩
      refine ⟨⟨_, rfl⟩, fun b o e ne => by rw [upd_ne ne, upd_ne ne]; exact b3 _ _ e ne, ?_⟩
      rw [upd_same, flatP_take hp, intsV_length, intsV_eq]
      unfold intV
      rw [← List.cons_append, List.map_append, List.append_assoc]
      rfl
    · rintro σ H3 ⟨⟨v4, rfl⟩, b3, h3⟩
      have hlaH : H la = none := s1.free hla
      have e : (bestP Pa bs).take (ls.map V.ref).length = bestP Pa bs := by rw [List.length_map, hP.len]; exact List.take_length
      rw [e] at h3
      have s3 : Same H H3 := fun b o eb => b3 _ _ (s1 _ _ eb) (ne_of_none eb hlaH)
      exact ⟨_, rfl, k H3 la hlaH (S.same s3) (.inl rfl) (hT.same s3) (Same.toBut2 s3) h3⟩
/-! ### check -/
theorem flat_rows (ps : List (List Nat)) : ps.flatMap rowNums = flatP ps := rfl
theorem flatP_at {ps : List (List Nat)} {t : Nat} {p : List Nat} (h : ps[t]? = some p) : flatP ps = flatP (ps.take t) ++ (((p.length : Int) :: nats p) ++ flatP (ps.drop (t + 1))) := by
  obtain ⟨h1, h2⟩ := List.getElem?_eq_some_iff.mp h
  conv => lhs; rw [← List.take_append_drop t ps, List.drop_eq_getElem_cons h1, h2]
  unfold flatP
  rw [List.flatMap_append, List.flatMap_cons]
  rfl
def spReadP : Sp := fun vs H Q _ => ∃ (lt : Addr) (ps : List (List Nat)), vs = [.ref lt] ∧ H lt = some (.lst (intV ((ps.length : Int) :: flatP ps))) ∧ ps.length ≤ 60 ∧ ∀ (H' : Hp) (l : Addr) (ls : List Addr), Same H H' → PagesAt H' l ls ps → Q (.ref l) H'
theorem sc60 : FnScope ["told", "pages", "at", "number", "behind"] ["told"] (defScope (top 60)) := ⟨rfl, rfl, rfl, by decide +kernel, rfl, by decide +kernel, by decide +kernel⟩
theorem ok_readp (T : Txt K mg) : FnOk P w K mg base CX0 1 T.read_pages.f T.read_pages.fd ["told"] spReadP := by
  refine T.read_pages.F.ok sc60 (fun vs H Q E h => ?_) (fun cdv A outer s H vs Q E hr h => ?_)
  · obtain ⟨lt, ps, rfl, _⟩ := h; rfl
  · obtain ⟨lt, ps, rfl, hlt, h60, k⟩ := h
    refine ⟨_, pss_cons (ps_set (i := 1) sc60.nd rfl (Or.inl rfl) (pe_lst pa_nil)) (pss_cons (ps_set (i := 2) sc60.nd rfl (Or.inl rfl) pe_int)
      (pss_cons (ps_for PassesOwn.never rfl (pi_range1 rfl T.range (pa_cons (pe_ix ix_list (pv 0) pe_int (fun _ _ => rfl)) pa_nil)) (pg_name (i := 3) sc60.nd rfl (Or.inl rfl))
        (pss_cons (ps_set (i := 4) sc60.nd rfl (Or.inl rfl) (pe_op op_add (pe_op op_add (pv 2) pe_int) (pe_ix ix_list (pv 0) (pv 2) (fun _ _ => rfl))))
        (pss_cons (ps_expr (pe_bm PySem.F.plainAttrs_list PySem.F.slot_list_append PySem.F.type_list_append mt_append (pv 1) (pa_cons (pe_slice sl_list (pv 0) (po_some (pe_op op_add (pv 2) pe_int)) (po_some (pv 4))) pa_nil)))
        (pss_one (ps_set (i := 2) sc60.nd rfl (Or.inl rfl) (pv 4))))))
      (pss_one (ps_ret (pv 1))))), ?_⟩
    try dsimp only [cxOf, Cx.nox]
    refine ⟨Nat.zero_le _, fun l hl => ?_⟩
    have s1 : Same H (upd H l (.lst [])) := Same.new hl
    refine ⟨_, rfl, lt, _, _, _, rfl, rfl, SqL.of (s1 _ _ hlt), at_of (j := 0) rfl rfl, (ps.length : Int), rfl, by lia, by lia, ?_⟩
    rw [Int.toNat_natCast]
    refine for_range (lo := 0) (n := ps.length) (fun t σ H' => (∃ v3 v4, σ = [some (.ref lt), some (.ref l), some (.int ((1 + (flatP (ps.take t)).length : Nat) : Int)), v3, v4]) ∧ Same H H' ∧ ∃ ls, PagesAt H' l ls (ps.take t) ∧ l ∉ ls)
      ⟨⟨none, none, rfl⟩, s1, [], ⟨upd_same, rfl, fun t a h => by simp at h⟩, by simp⟩ ?_ ?_
    · intro t σ H1 ht qq4; refine hide fun G0 g0 => ?_; obtain ⟨⟨v3, v4, rfl⟩, s2, ls, hP, hnl⟩ := qq4; refine g0 ?_; clear g0 G0
      have hp := List.getElem?_eq_getElem ht
      generalize ps[t] = p at hp
      have hlt1 := s2 _ _ hlt
      have ef := flatP_at hp
      generalize hm : (flatP (ps.take t)).length = m at *
      have hat : (intV ((ps.length : Int) :: flatP ps))[1 + m]? = some (.int (p.length : Int)) := by
        unfold intV
        rw [List.getElem?_map, Nat.add_comm, List.getElem?_cons_succ, ef, List.getElem?_append_right (by lia), hm, Nat.sub_self]; rfl
      refine ⟨_, rfl, _, _, rfl, rfl, _, rfl, _, rfl, lt, _, _, _, rfl, rfl, SqL.of hlt1, at_of (j := 1 + m) rfl hat, _, _, rfl, rfl, ?_⟩
      have e1 : (((1 + m : Nat) : Int) + 1) = ((1 + m + 1 : Nat) : Int) := by lia
      have e2 : (((1 + m : Nat) : Int) + 1 + (p.length : Int)) = ((1 + m + 1 + p.length : Nat) : Int) := by lia
      refine ⟨_, rfl, .inl ⟨rfl, _, SqL.of hP.lst⟩, _, rfl, _, rfl, _, _, rfl, rfl, _, rfl, _, rfl, _, rfl, lt, _, rfl, SqL.of hlt1, fun q hq => ?_⟩
      have hlen : (intV ((ps.length : Int) :: flatP ps)).length = 1 + (m + (1 + p.length + (flatP (ps.drop (t + 1))).length)) := by
        rw [intV_length, List.length_cons, ef, List.length_append, hm, List.length_append, List.length_cons]
        unfold nats
        rw [List.length_map]; lia
      have ec : cutV (intV ((ps.length : Int) :: flatP ps)) (some (((1 + m : Nat) : Int) + 1)) (some (((1 + m : Nat) : Int) + 1 + (p.length : Int))) = intsV p := by
        rw [e2, e1, cutV_nat (by lia) (by lia)]
        unfold intV
        rw [← List.map_drop, ← List.map_take, ef]
        have : (((ps.length : Int) :: (flatP (ps.take t) ++ (((p.length : Int) :: nats p) ++ flatP (ps.drop (t + 1))))).drop (1 + m + 1)) = nats p ++ flatP (ps.drop (t + 1)) := by
          have e3 : 1 + m + 1 = (m + 1) + 1 := by lia
          rw [e3, List.drop_succ_cons, ← hm, List.drop_append]
          rw [List.drop_eq_nil_of_le (by lia), List.nil_append, show (flatP (ps.take t)).length + 1 - (flatP (ps.take t)).length = 1 by lia]
          rfl
        rw [this, show 1 + m + 1 + p.length - (1 + m + 1) = p.length by lia]
        have hnl : (nats p).length = p.length := by unfold nats; rw [List.length_map]
        rw [List.take_append_of_le_length (by lia), ← hnl, List.take_length]
        unfold nats intsV
        rw [List.map_map]; rfl
      have hPq := hP.same (Same.new (o := .lst (intsV p)) hq)
      have lq : l ≠ q := ne_of_none hP.lst hq
      have hqls : q ∉ ls := fun z => by
        obtain ⟨t', ht'⟩ := List.mem_iff_getElem?.mp z
        obtain ⟨_, _, hh⟩ := hP.at_ t' q ht'
        rw [hq] at hh; cases hh
      have htl : ls.length ≤ 60 := by rw [hP.len, List.length_take]; lia
      refine ⟨l, _, _, rfl, rfl, (upd_ne lq).trans hP.lst, by rw [List.length_map]; exact small_lt htl (by decide), ?_⟩
      refine ⟨_, rfl, ⟨some (.int (0 + (t : Int))), some (.int (((1 + m : Nat) : Int) + 1 + (p.length : Int))), ?_⟩, ?_, ls ++ [q], ?_, ?_⟩
      · show [some (V.ref lt), some (V.ref l), some (V.int (((1 + m : Nat) : Int) + 1 + (p.length : Int))), some (V.int (0 + (t : Int))), some (V.int (((1 + m : Nat) : Int) + 1 + (p.length : Int)))] = _
        have e4 : (1 + (flatP (ps.take (t + 1))).length) = 1 + m + 1 + p.length := by
          rw [flatP_take hp, List.length_append, hm, List.length_cons]
          unfold nats
          rw [List.length_map]; lia
        rw [e4, e2]
      · exact Same.upd (s2.trans (Same.new hq)) hl
      · have e5 : ps.take (t + 1) = ps.take t ++ [p] := by rw [List.take_add_one, hp]; rfl
        rw [e5]
        have := hPq.snoc (x := q) (p := p) upd_same hnl lq
        rw [ec]
        exact this
      · intro z
        rcases List.mem_append.mp z with z | z
        · exact hnl z
        · exact lq (by simpa using z)
    · intro σ H1 qq2; refine hide fun G0 g0 => ?_; obtain ⟨⟨v3, v4, rfl⟩, s2, ls, hP, hnl⟩ := qq2; refine g0 ?_; clear g0 G0
      rw [List.take_length] at hP
      exact ⟨_, rfl, k H1 l ls s2 hP⟩
theorem sc61 : FnScope ["score", "told"] ["score", "told"] (defScope (top 61)) := ⟨rfl, rfl, rfl, by decide +kernel, rfl, by decide +kernel, by decide +kernel⟩
theorem ok_acheck (T : Txt K mg) (Pt : Addr) : FnOk P w K mg base CX0 6 T.answer_check.f T.answer_check.fd ["score", "told"] (spA T Pt 7) := by
  refine T.answer_check.F.ok sc61 (fun vs H Q E h => spA_len vs H Q E h) (fun cdv A outer s H vs Q E hr h => ?_)
  refine hide fun G0 g0 => ?_; obtain ⟨sc, lt, Pa, bs, told, c, rfl, ok, hlt, hc, hmany, hT, S, k⟩ := h; refine g0 ?_; clear g0 G0
  cases hc with
  | check ps h60 h60' =>
    refine ⟨_, pss_one (ps_ret (pe_lst (pa_cons (pcall T.cost_of_pages (ok_costpages T) hr (pa_cons (pv 0) (pa_cons (pcall T.read_pages (ok_readp T) (hr.mono (by decide)) (pa_cons (pv 1) pa_nil)) pa_nil))) pa_nil))), ?_⟩
    try dsimp only [cxOf, Cx.nox]
    rw [check_step ⟨Pa, bs⟩ ok ps] at k
    rw [flat_rows] at hlt
    refine ⟨_, rfl, _, rfl, lt, ps, rfl, hlt, h60, fun H1 l ls s1 hP => ?_⟩
    refine ⟨sc, l, ls, Pa, bs, ps, rfl, ok, hP, S.same s1, fun H2 s2 => ⟨by show 1 ≤ sizeLine; decide, fun l2 hl2 => ?_⟩⟩
    exact k _ l2 ((s1.trans s2).free hl2) (S.same (s1.trans (s2.trans (Same.new hl2)))) (.inl rfl) (hT.same (s1.trans (s2.trans (Same.new hl2)))) (Same.toBut2 (s1.trans (s2.trans (Same.new hl2)))) upd_same
end
end Bp
end
section
set_option Elab.async false
set_option linter.all false
set_option maxRecDepth 100000
set_option maxHeartbeats 4000000
namespace Bp
open PySem PySem.Spec PyProof.Rows L2
section
variable {P : Program} {w : World} {K : PySem.W.Frag} {mg : Str → Option Value} {base : Heap}
/-! ### bars -/
theorem flat_drop : ∀ (t : Nat) (l : List Sy31.Bar), (l.flatMap barNums).drop (5 * t) = (l.drop t).flatMap barNums
  | 0, _ => rfl
  | t + 1, [] => by simp
  | t + 1, b :: l => by
    rw [List.flatMap_cons, List.drop_succ_cons, ← flat_drop t l, show 5 * (t + 1) = 5 * t + 5 by lia, ← List.drop_drop]
    rw [show ∀ k, (barNums b ++ l.flatMap barNums).drop k = (barNums b ++ l.flatMap barNums).drop k from fun _ => rfl]
    rw [List.drop_drop, Nat.add_comm, ← List.drop_drop]
    rfl
theorem bar_cut {l : List Sy31.Bar} {t : Nat} {b : Sy31.Bar} (h : l[t]? = some b) : ((l.flatMap barNums).drop (5 * t)).take 5 = barNums b := by
  obtain ⟨h1, h2⟩ := List.getElem?_eq_some_iff.mp h
  rw [flat_drop, List.drop_eq_getElem_cons h1, h2, List.flatMap_cons]
  rfl
theorem flat_len : ∀ l : List Sy31.Bar, (l.flatMap barNums).length = 5 * l.length
  | [] => rfl
  | b :: l => by
    rw [List.flatMap_cons, List.length_append, flat_len l, List.length_cons]
    show 5 + _ = _
    lia
theorem RowsAt.snoc {H : Hp} {l x : Addr} {rs : List Addr} {bs : List Sy31.Bar} {b : Sy31.Bar} {o : HO} (h : RowsAt H rs bs) (hx : H x = some (.lst (barV b))) (hl : l ∉ rs) (hlx : l ≠ x) : RowsAt (upd H l o) (rs ++ [x]) (bs ++ [b]) := by
  refine ⟨by rw [List.length_append, List.length_append, h.1]; rfl, fun t a e => ?_⟩
  by_cases q : t < rs.length
  · rw [List.getElem?_append_left q] at e
    obtain ⟨p', e1, e2⟩ := h.2 t a e
    exact ⟨p', by rw [List.getElem?_append_left (by rw [← h.1]; exact q)]; exact e1, by rw [upd_ne (show a ≠ l from fun z => hl (by rw [← z]; exact List.mem_of_getElem? e))]; exact e2⟩
  · rw [List.getElem?_append_right (by lia)] at e
    have q2 : t = rs.length := by
      have := (List.getElem?_eq_some_iff.mp e).1
      simp at this
      lia
    subst q2
    rw [Nat.sub_self] at e
    have e' : x = a := Option.some.inj e
    subst e'
    exact ⟨b, by rw [h.1, List.getElem?_append_right (Nat.le_refl _), Nat.sub_self]; rfl, by rw [upd_ne (Ne.symm hlx)]; exact hx⟩
def spReadB : Sp := fun vs H Q _ => ∃ (lt : Addr) (l : List Sy31.Bar), vs = [.ref lt] ∧ H lt = some (.lst (intV ((l.length : Int) :: nats (l.flatMap barNums)))) ∧ l.length ≤ 60 ∧ ∀ (H' : Hp) (lr : Addr) (rs : List Addr), Same H H' → H' lr = some (.lst (rs.map V.ref)) → RowsAt H' rs l → Q (.ref lr) H'
theorem sc54 : FnScope ["told", "rows", "number", "at"] ["told"] (defScope (top 54)) := ⟨rfl, rfl, rfl, by decide +kernel, rfl, by decide +kernel, by decide +kernel⟩
theorem ok_readb (T : Txt K mg) : FnOk P w K mg base CX0 1 T.read_bars.f T.read_bars.fd ["told"] spReadB := by
  refine T.read_bars.F.ok sc54 (fun vs H Q E h => ?_) (fun cdv A outer s H vs Q E hr h => ?_)
  · obtain ⟨lt, l, rfl, _⟩ := h; rfl
  · obtain ⟨lt, l, rfl, hlt, h60, k⟩ := h
    refine ⟨_, pss_cons (ps_set (i := 1) sc54.nd rfl (Or.inl rfl) (pe_lst pa_nil))
      (pss_cons (ps_for PassesOwn.never rfl (pi_range1 rfl T.range (pa_cons (pe_ix ix_list (pv 0) pe_int (fun _ _ => rfl)) pa_nil)) (pg_name (i := 2) sc54.nd rfl (Or.inl rfl))
        (pss_cons (ps_set (i := 3) sc54.nd rfl (Or.inl rfl) (pe_op op_add pe_int (pe_op op_mul (pv 2) (pe_gint T.NUMBERS_OF_A_BAR))))
        (pss_one (ps_expr (pe_bm PySem.F.plainAttrs_list PySem.F.slot_list_append PySem.F.type_list_append mt_append (pv 1) (pa_cons (pe_slice sl_list (pv 0) (po_some (pv 3)) (po_some (pe_op op_add (pv 3) (pe_gint T.NUMBERS_OF_A_BAR)))) pa_nil))))))
      (pss_one (ps_ret (pv 1)))), ?_⟩
    try dsimp only [cxOf, Cx.nox]
    refine ⟨Nat.zero_le _, fun lr hl => ?_⟩
    have s1 : Same H (upd H lr (.lst [])) := Same.new hl
    refine ⟨_, rfl, lt, _, _, _, rfl, rfl, SqL.of (s1 _ _ hlt), at_of (j := 0) rfl rfl, (l.length : Int), rfl, by lia, by lia, ?_⟩
    rw [Int.toNat_natCast]
    refine for_range (lo := 0) (n := l.length) (fun t σ H' => (∃ v2 v3, σ = [some (.ref lt), some (.ref lr), v2, v3]) ∧ Same H H' ∧ ∃ rs, H' lr = some (.lst (rs.map V.ref)) ∧ RowsAt H' rs (l.take t) ∧ lr ∉ rs)
      ⟨⟨none, none, rfl⟩, s1, [], upd_same, ⟨rfl, fun t a h => by simp at h⟩, by simp⟩ ?_ ?_
    · intro t σ H1 ht qq4; refine hide fun G0 g0 => ?_; obtain ⟨⟨v2, v3, rfl⟩, s2, rs, hr1, hR, hnl⟩ := qq4; refine g0 ?_; clear g0 G0
      have hb := List.getElem?_eq_getElem ht
      generalize l[t] = b at hb
      have hlt1 := s2 _ _ hlt
      refine ⟨_, rfl, _, _, rfl, rfl, .inl ⟨by lia, by lia⟩, _, _, rfl, rfl, ?_⟩
      refine ⟨_, rfl, .inl ⟨rfl, _, SqL.of hr1⟩, _, rfl, _, rfl, _, rfl, _, rfl, _, _, rfl, rfl, _, rfl, lt, _, rfl, SqL.of hlt1, fun q hq => ?_⟩
      have hlen : (intV ((l.length : Int) :: nats (l.flatMap barNums))).length = 1 + 5 * l.length := by
        rw [intV_length, List.length_cons]
        unfold nats
        rw [List.length_map, flat_len]; lia
      have e1 : ((1 : Int) + (0 + (t : Int)) * 5) = ((1 + 5 * t : Nat) : Int) := by lia
      have e2 : (((1 + 5 * t : Nat) : Int) + 5) = ((1 + 5 * t + 5 : Nat) : Int) := by lia
      have ec : cutV (intV ((l.length : Int) :: nats (l.flatMap barNums))) (some ((1 : Int) + (0 + (t : Int)) * 5)) (some ((1 : Int) + (0 + (t : Int)) * 5 + 5)) = barV b := by
        rw [e1, e2, cutV_nat (by lia) (by lia), show 1 + 5 * t + 5 - (1 + 5 * t) = 5 by lia]
        unfold intV
        rw [← List.map_drop, ← List.map_take, show 1 + 5 * t = 5 * t + 1 by lia, List.drop_succ_cons]
        unfold nats
        rw [← List.map_drop, ← List.map_take, bar_cut hb]
        unfold barV intsV
        rw [List.map_map]; rfl
      have lq : lr ≠ q := ne_of_none hr1 hq
      have htl : rs.length ≤ 60 := by rw [hR.1, List.length_take]; lia
      refine ⟨lr, _, _, rfl, rfl, (upd_ne lq).trans hr1, by rw [List.length_map]; exact small_lt htl (by decide), ?_⟩
      refine ⟨⟨_, _, rfl⟩, Same.upd (s2.trans (Same.new hq)) hl, rs ++ [q], by rw [upd_same, List.map_append]; rfl, ?_, ?_⟩
      · have e5 : l.take (t + 1) = l.take t ++ [b] := by rw [List.take_add_one, hb]; rfl
        rw [e5]
        refine RowsAt.snoc (hR.same (Same.new hq)) ?_ hnl lq
        rw [upd_same]
        exact congrArg (fun z => some (HO.lst z)) ec
      · intro z
        rcases List.mem_append.mp z with z | z
        · exact hnl z
        · exact lq (by simpa using z)
    · intro σ H1 qq2; refine hide fun G0 g0 => ?_; obtain ⟨⟨v2, v3, rfl⟩, s2, rs, hr1, hR, hnl⟩ := qq2; refine g0 ?_; clear g0 G0
      rw [List.take_length] at hR
      exact ⟨_, rfl, k H1 lr rs s2 hr1 hR⟩
theorem sc55 : FnScope ["score", "told", "rows", "row"] ["score", "told"] (defScope (top 55)) := ⟨rfl, rfl, rfl, by decide +kernel, rfl, by decide +kernel, by decide +kernel⟩
theorem BarsAt.snoc {c : Addr} {H : Hp} {D x d : Addr} {as : List Addr} {bs : List Sy31.Bar} {b : Sy31.Bar} {ys zs : List V} (h : BarsAt c H as bs) (hx : H x = some (.ins c d (barF b))) (hD : H D = some (.lst ys)) : BarsAt c (upd H D (.lst zs)) (as ++ [x]) (bs ++ [b]) := by
  refine ⟨by rw [List.length_append, List.length_append, h.1]; rfl, fun t a e => ?_⟩
  by_cases q : t < as.length
  · rw [List.getElem?_append_left q] at e
    obtain ⟨p', dx, e1, e2⟩ := h.2 t a e
    exact ⟨p', dx, by rw [List.getElem?_append_left (by rw [← h.1]; exact q)]; exact e1, by rw [upd_ne (ne_of e2 hD (by intro z; cases z))]; exact e2⟩
  · rw [List.getElem?_append_right (by lia)] at e
    have q2 : t = as.length := by
      have := (List.getElem?_eq_some_iff.mp e).1
      simp at this
      lia
    subst q2
    rw [Nat.sub_self] at e
    have e' : x = a := Option.some.inj e
    subst e'
    exact ⟨b, d, by rw [h.1, List.getElem?_append_right (Nat.le_refl _), Nat.sub_self]; rfl, by rw [upd_ne (ne_of hx hD (by intro z; cases z))]; exact hx⟩
theorem ok_abars (T : Txt K mg) (Pt : Addr) : FnOk P w K mg base CX0 4 T.answer_bars.f T.answer_bars.fd ["score", "told"] (spA T Pt 2) := by
  refine T.answer_bars.F.ok sc55 (fun vs H Q E h => spA_len vs H Q E h) (fun cdv A outer s H vs Q E hr h => ?_)
  refine hide fun G0 g0 => ?_; obtain ⟨sc, lt, Pa, bs, told, c, rfl, ok, hlt, hc, hmany, hT, S, k⟩ := h; refine g0 ?_; clear g0 G0
  cases hc with
  | bars l h60 =>
    have hr2 : Room (1 + 1) _ := hr.mono (show 2 ≤ 3 by decide)
    refine ⟨_, pss_cons (ps_set (i := 2) sc55.nd rfl (Or.inl rfl) (pcall T.read_bars (ok_readb T) (hr.mono (by decide)) (pa_cons (pv 1) pa_nil)))
      (pss_cons (ps_if (pt_not (pt_val (pcall T.are_bars (ok_are_bars T) hr (pa_cons (pv 2) pa_nil)))) (pss_one (ps_ret (pe_lst (pa_cons (pe_gint T.OUT_OF_RANGE) pa_nil)))) pss_nil)
      (pss_cons (ps_fld (pv 0) (pe_lc (own := [("row", 3)]) (te := tMake T.Bar.c (spBar T) [] E0 (tCons (tVar 3) tNil)) rfl sc55.nd (pi_list (pv 2)) (blkOk_by (by kernel_rfl)) (fun _ _ _ _ _ => pg_name (i := 3) sc55.nd rfl (Or.inl rfl)) (fun _ _ _ _ _ => pts_nil) (fun _ _ _ _ _ => pe_make T.Bar.mkk (ok_bar T) hr2 rfl T.Bar.mg T.Bar.b .nil pass0 (pa_cons (pv 3) pa_nil))) rfl)
      (pss_one (ps_ret (pe_lst (pa_cons (pe_callB call_len_seq rfl T.len PySem.boot_len (pa_cons (pv 2) pa_nil)) pa_nil)))))), ?_⟩
    try dsimp only [cxOf, Cx.nox]
    have st : Sy31.step ⟨Pa, bs⟩ (.bars l) = if (decide (l.length ≤ 24) && l.all Sy31.barOk) = false then (⟨Pa, bs⟩, Sy31.ok (-1)) else (⟨Pa, l⟩, Sy31.ok (l.length : Nat)) := rfl
    rw [st] at k
    refine ⟨_, rfl, lt, l, rfl, hlt, h60, fun H1 lr rs s1 hlr hR => ?_⟩
    refine ⟨_, rfl, lr, rs, l, rfl, hlr, hR, h60, fun H2 s2 => ⟨_, rfl, ?_⟩⟩
    obtain ⟨S2, e2S⟩ := S.same2 (s1.trans s2)
    cases e : (decide (l.length ≤ 24) && l.all Sy31.barOk) with
    | false =>
      rw [if_pos e] at k
      refine iteT ⟨by show 1 ≤ sizeLine; decide, fun l2 hl2 => ?_⟩
      exact k _ l2 ((s1.trans s2).free hl2) (S2.same (Same.new hl2)) (.inl e2S) ((hT.same (s1.trans s2)).same (Same.new hl2)) (Same.toBut2 ((s1.trans s2).trans (Same.new hl2))) upd_same
    | true =>
      rw [if_neg (by rw [e]; simp)] at k
      have hlr2 := s2 _ _ hlr
      have hR2 := hR.same s2
      refine iteF ⟨_, rfl, lr, rfl, ⟨_, SqL.of hlr2⟩, fun D hD => ?_⟩
      refine lc_list (xs := rs.map V.ref) (fun i H' => Same H2 H' ∧ ∃ as, H' D = some (.lst (as.map V.ref)) ∧ BarsAt T.Bar.c H' as (l.take i)) ⟨Same.new hD, [], upd_same, rfl, fun j a h => by simp at h⟩ (fun i H' _ q => SqL.of (q.1 _ _ hlr2)) (fun i x H3 hx q => ?_) fun H3 q => ?_
      · obtain ⟨s3, as, hDs, hB⟩ := q
        rw [List.getElem?_map] at hx
        obtain ⟨r, hr', rfl⟩ := Option.map_eq_some_iff.mp hx
        obtain ⟨b, hb, hrow⟩ := hR2.2 i r hr'
        refine ⟨wipe1 _ 3 _, ?_⟩
        dsimp only [tYes]
        rw [if_pos rfl]
        refine ⟨_, rfl, ?_⟩
        intro y dy ny nd ne
        refine mk_bar (b := b) ny nd ne (.inl (SqL.of (s3 _ _ hrow))) fun H4 s4 hy => ?_
        have hDs4 := s4 _ _ hDs
        have hal : as.length ≤ 60 := by rw [hB.1, List.length_take]; lia
        refine ⟨_, hDs4, by rw [List.length_map]; exact small_lt hal (by decide), Same.upd (s3.trans s4) hD, as ++ [y], by rw [upd_same, List.map_append]; rfl, ?_⟩
        have e5 : l.take (i + 1) = l.take i ++ [b] := by rw [List.take_add_one, hb]; rfl
        rw [e5]
        exact BarsAt.snoc (hB.same s4) hy hDs4
      · obtain ⟨s3, as, hDs, hB⟩ := q
        have et : l.take (rs.map V.ref).length = l := by rw [List.length_map, hR.1]; exact List.take_length
        rw [et] at hB
        have S3 := S2.same s3
        have sc3 := S3.sco
        refine ⟨_, rfl, sc, T.Score.c, S3.ds, _, rfl, sc3, T.Score.cl, T.nScore _ (List.mem_of_getElem? (i := 1) rfl), sco2 _ _, ?_⟩
        rw [put_bars]
        obtain ⟨S4, e4S⟩ : ∃ S4 : ScoreAt T (upd H3 sc (.ins T.Score.c S3.ds (scoF S3.pp D))) sc Pa l, S4.lb = D := ⟨ScoreAt.set sc3 S3.pap hDs hB, rfl⟩
        have hlr3 := s3 _ _ hlr2
        have hlr4 : upd H3 sc (.ins T.Score.c S3.ds (scoF S3.pp D)) lr = some (.lst (rs.map V.ref)) := by rw [upd_ne (ne_of hlr3 sc3 (by intro z; cases z))]; exact hlr3
        refine ⟨_, rfl, lr, _, rfl, .inl (SqL.of hlr4), by show 1 ≤ sizeLine; decide, fun l2 hl2 => ?_⟩
        refine k _ l2 (((s1.trans s2).trans s3).free (free_upd hl2)) (S4.same (Same.new hl2)) (.inr ((congrArg H e4S).trans ((s1.trans s2).free hD))) ((((hT.same (s1.trans s2)).same s3).upd_ins sc3).same (Same.new hl2)) (fun b o eb n1 n2 => ?_) ?_
        · refine Same.new hl2 _ _ ?_
          rw [upd_ne n1]; exact s3 _ _ (s2 _ _ (s1 _ _ eb))
        · rw [upd_same, List.length_map, hR.1]; rfl
/-! ### a call of what an expression gives -/
theorem pe_callX {X : Cx} {fe e : Expr} {es : List Expr} {pos : Pos} {tf : TE} {t : TA} (hf : PE X fe tf) (ha : PA X (e :: es) t)
    (he : starEach (e :: es) X.env = (false, eval e X.env) :: starEach es X.env := by rfl) (hpl : (backTo pos (starEach es X.env)).any (·.1) = false := by rfl)
    (hc : eval (.Call fe (e :: es) [] pos) X.env = (do callWith pos (← eval fe X.env) [] (backTo pos (starEach (e :: es) X.env)) (backToKw pos (keywordEach [] X.env))) := by rfl) :
    PE X (.Call fe (e :: es) [] pos) (fun σ H Q => tf σ H fun v H1 => ∃ (f : Addr) (fd : FuncData) (k : Nat) (ps : List Str) (sp : Sp), v = .ref f ∧ PySem.W.keepIn X.K (.ref f) = true ∧ FnOk X.prog X.w X.K X.mg X.base CX0 k f fd ps sp ∧ Room k X.A ∧ Binds X.K fd ps [] ∧ X.xe = (fun _ _ => False) ∧ t σ H1 fun vs H2 => sp (vs ++ []) H2 Q E0) := by
  intro pins s σ H Q I h
  refine Call_ (thn (hf pins s σ H _ I h) fun v s1 ⟨x, H1, I1, rx, q1⟩ => ?_) hc
  refine hide fun G0 g0 => ?_; obtain ⟨f, fd, k, ps, sp, rfl, hk, F, hr, hb, hxe, q⟩ := q1; refine g0 ?_; clear g0 G0
  cases rx
  refine PySem.W.callWith_K (h₀ := X.base) I.ok.mod.kin hk (thn (ha pos pins s1 σ H1 _ I1 q) fun us s2 ⟨vs, H2, I2, r, q2⟩ => ⟨I2.kIn, ?_⟩) he hpl
  exact run_fn F hr hb .nil pass0 I2 r q2
end
end Bp
end
section
set_option Elab.async false
set_option linter.all false
set_option maxRecDepth 100000
set_option maxHeartbeats 4000000
namespace Bp
open PySem PySem.Spec PyProof.Rows L2
theorem step_ok {s : Sy31.St} (h : Ok s.paper s.bars) (c : Sy31.Call) : Ok (Sy31.step s c).1.paper (Sy31.step s c).1.bars := by
  cases c with
  | begins => exact start_ok
  | paper P =>
    have st : Sy31.step s (.paper P) = if Sy31.paperOk P = false then (s, Sy31.ok (-1)) else ({ s with paper := P }, Sy31.ok 0) := rfl
    rw [st]
    cases e : Sy31.paperOk P with
    | false => rw [if_pos rfl]; exact h
    | true => rw [if_neg (by simp)]; exact ⟨(paperOk_iff P).mp e, h.len, h.bars⟩
  | bars l =>
    have st : Sy31.step s (.bars l) = if (decide (l.length ≤ 24) && l.all Sy31.barOk) = false then (s, Sy31.ok (-1)) else ({ s with bars := l }, Sy31.ok (l.length : Nat)) := rfl
    rw [st]
    cases e : (decide (l.length ≤ 24) && l.all Sy31.barOk) with
    | false => rw [if_pos rfl]; exact h
    | true =>
      rw [if_neg (by simp)]
      obtain ⟨a, b⟩ := Bool.and_eq_true_iff.mp e
      exact ⟨h.pap, of_decide_eq_true a, fun x hx => (barOk_iff x).mp (List.all_eq_true.mp b x hx)⟩
  | line i j => exact h
  | spread i j => exact h
  | ways => exact h
  | best => exact h
  | check ps => exact h
theorem encAll_take {rs : List (List Int)} {t : Nat} {r : List Int} (h : rs[t]? = some r) : encAll (rs.take (t + 1)) = encAll (rs.take t) ++ encC r := by
  unfold encAll
  rw [List.take_add_one, h, List.flatMap_append]
  congr 1
  show encC r ++ [] = encC r
  exact List.append_nil _
theorem encAll_at {rs : List (List Int)} {t : Nat} {r : List Int} (h : rs[t]? = some r) : encAll rs = encAll (rs.take t) ++ (0 :: (r.length : Int) :: (r ++ encAll (rs.drop (t + 1)))) := by
  obtain ⟨h1, h2⟩ := List.getElem?_eq_some_iff.mp h
  conv => lhs; rw [← List.take_append_drop t rs, List.drop_eq_getElem_cons h1, h2]
  unfold encAll
  rw [List.flatMap_append, List.flatMap_cons]
  rfl
theorem SqL.butP {K : PySem.W.Frag} {H H' : Hp} {a Pt : Addr} {xs : List V} {pos : Pos} {q : Str} (h : SqL K H a xs) (t : Tab pos q Pt H) (k : ∀ b o, H b = some o → b ≠ Pt → H' b = some o) : SqL K H' a xs := by
  rcases h with (h | ⟨u, h⟩) | h
  · exact .inl (.inl (k _ _ h (t.ne h (fun _ z => by cases z))))
  · exact .inl (.inr ⟨u, k _ _ h (t.ne h (fun _ z => by cases z))⟩)
  · exact .inr h
section
variable {P : Program} {w : World} {K : PySem.W.Frag} {mg : Str → Option Value} {base : Heap}
def spCalls (K : PySem.W.Frag) (Pt : Addr) : Sp := fun vs H Q _ => ∃ (a : Addr) (l : List Int) (rs : List (List Int)), vs = [.ref a] ∧ SqL K H a (intV l) ∧ Asked l rs ∧ Tab lamPos lamQ Pt H ∧
  ∀ (H' : Hp) (p : Addr), H' p = some (.lst (intV (run Sy31.start rs))) → Q (.ref p) H'
theorem sc63 : FnScope ["calls", "score", "answered", "at", "behind", "call", "answer"] ["calls"] (defScope (top 63)) := ⟨rfl, rfl, rfl, by decide +kernel, rfl, by decide +kernel, by decide +kernel⟩
def slot3 (n : Nat) (σ : L2.St) : Nat := match (σ[3]? : Option (Option V)) with
  | some (some (V.int i)) => n - i.toNat
  | _ => 0
/-- as the loop over the calls stands -/
structure Walk (T : Txt K mg) (Pt : Addr) (H : Hp) (a sc la : Addr) (rs : List (List Int)) (σ : L2.St) (H' : Hp) (t : Nat) (s : Sy31.St) (pre : List Int) : Prop where
  st : ∃ v4 v5 v6, σ = [some (.ref a), some (.ref sc), some (.ref la), some (.int ((encAll (rs.take t)).length : Int)), v4, v5, v6]
  tl : t ≤ rs.length
  ok : Ok s.paper s.bars
  sco : ∃ S : ScoreAt T H' sc s.paper s.bars, S.lb ≠ la
  tab : Tab lamPos lamQ Pt H'
  ans : H' la = some (.lst (intV pre))
  eq : run Sy31.start rs = pre ++ run s (rs.drop t)
  old : ∀ b o, H b = some o → b ≠ Pt → H' b = some o
  mn : Sy31Neutral.many s (rs.drop t) ≤ 1000000
/-- what the item of ANSWER_OF_CALL is -/
theorem the_answer (T : Txt K mg) (Z : Shr T base) {r : List Int} {c : Sy31.Call} (h : Told r c) : ∃ (num : Nat) (told : List Int) (f : Addr) (fd : FuncData) (k : Nat), r = (num : Int) :: told ∧ k ≤ 7 ∧
    ([.ref T.answer_begins.f, .ref T.answer_paper.f, .ref T.answer_bars.f, .ref T.answer_line.f, .ref T.answer_spread.f, .ref T.answer_ways.f, .ref T.answer_best.f, .ref T.answer_check.f] : List V)[num]? = some (.ref f) ∧ PySem.W.keepIn K (.ref f) = true ∧
    Binds K fd ["score", "told"] [] ∧ FnOk P w K mg base CX0 k f fd ["score", "told"] (spA T Z.Pt (num : Int)) := by
  cases h with
  | begins => exact ⟨0, _, _, _, 3, rfl, by decide, rfl, T.answer_begins.F.kp, T.answer_begins.b, ok_begins T Z.Pt⟩
  | paper xs h h2 => exact ⟨1, _, _, _, 3, rfl, by decide, rfl, T.answer_paper.F.kp, T.answer_paper.b, ok_apaper T Z.Pt⟩
  | bars l h => exact ⟨2, _, _, _, 4, rfl, by decide, rfl, T.answer_bars.F.kp, T.answer_bars.b, ok_abars T Z.Pt⟩
  | line i j => exact ⟨3, _, _, _, 4, rfl, by decide, rfl, T.answer_line.F.kp, T.answer_line.b, ok_aline T Z.Pt⟩
  | spread i j => exact ⟨4, _, _, _, 5, rfl, by decide, rfl, T.answer_spread.F.kp, T.answer_spread.b, ok_aspread T Z⟩
  | ways => exact ⟨5, _, _, _, 7, rfl, by decide, rfl, T.answer_ways.F.kp, T.answer_ways.b, ok_aways T Z.Pt⟩
  | best => exact ⟨6, _, _, _, 7, rfl, by decide, rfl, T.answer_best.F.kp, T.answer_best.b, ok_abest T Z.Pt⟩
  | check ps h h2 => exact ⟨7, _, _, _, 6, rfl, by decide, rfl, T.answer_check.F.kp, T.answer_check.b, ok_acheck T Z.Pt⟩
theorem ok_answers (T : Txt K mg) (Z : Shr T base) : FnOk P w K mg base CX0 8 T.answers.f T.answers.fd ["calls"] (spCalls K Z.Pt) := by
  refine T.answers.F.ok sc63 (fun vs H Q E h => ?_) (fun cdv A outer s H vs Q E hr h => ?_)
  · obtain ⟨a, l, rs, rfl, _⟩ := h; rfl
  · refine hide fun G0 g0 => ?_; obtain ⟨a, l, rs, rfl, hS, hA, hT, k⟩ := h; refine g0 ?_; clear g0 G0
    have hr4 : Room (3 + 1) _ := hr.mono (show 4 ≤ 7 by decide)
    refine ⟨_, pss_cons (ps_set (i := 1) sc63.nd rfl (Or.inl rfl) (pmake0 T.Score (ok_score T) hr4)) (pss_cons (ps_set (i := 2) sc63.nd rfl (Or.inl rfl) (pe_lst pa_nil)) (pss_cons (ps_set (i := 3) sc63.nd rfl (Or.inl rfl) pe_int)
      (pss_cons (ps_while PassesOwn.never (pt_cmpR op_lt (pv 3) (pe_callB call_len_seq rfl T.len PySem.boot_len (pa_cons (pv 0) pa_nil)) (nomark _))
        (pss_cons (ps_set (i := 4) sc63.nd rfl (Or.inl rfl) (pe_op op_add (pe_op op_add (pv 3) pe_int) (pe_ix ix_list (pv 0) (pe_op op_add (pv 3) pe_int) (fun _ _ => rfl))))
        (pss_cons (ps_set (i := 5) sc63.nd rfl (Or.inl rfl) (pe_slice sl_list (pv 0) (po_some (pe_op op_add (pv 3) pe_int)) (po_some (pv 4))))
        (pss_cons (ps_set (i := 6) sc63.nd rfl (Or.inl rfl) (pe_callX (pe_ix ix_tup (pe_glob (v := .ref T.tup1) rfl T.ANSWER_OF_CALL rfl) (pe_ix ix_list (pv 5) pe_int (fun _ _ => rfl)) (fun _ _ => rfl)) (pa_cons (pv 1) (pa_cons (pe_slice sl_list (pv 5) (po_some pe_int) po_none) pa_nil))))
        (pss_cons (ps_expr (pe_bm PySem.F.plainAttrs_list PySem.F.slot_list_append PySem.F.type_list_append mt_append (pv 2) (pa_cons (pe_callB call_len_seq rfl T.len PySem.boot_len (pa_cons (pv 6) pa_nil)) pa_nil)))
        (pss_cons (ps_expr (pe_bm PySem.F.plainAttrs_list PySem.F.slot_list_extend PySem.F.type_list_extend mt_extend (pv 2) (pa_cons (pv 6) pa_nil)))
        (pss_one (ps_set (i := 3) sc63.nd rfl (Or.inl rfl) (pv 4)))))))))
      (pss_one (ps_ret (pv 2)))))), ?_⟩
    try dsimp only [cxOf, Cx.nox]
    intro sc dsc nsc ndc ne
    refine ⟨sc, dsc, rfl, upd_same, fun H1 S1 b1 => ⟨rfl, ?_⟩⟩
    have s1 : Same H H1 := Same.made nsc ndc b1
    refine ⟨Nat.zero_le _, fun la hla => ?_⟩
    have s2 : Same H1 (upd H1 la (.lst [])) := Same.new hla
    have hfew := hA.few
    have hlong : (run Sy31.start rs).length ≤ 1000060 := by rw [run_length]; have := hA.many; lia
    refine while_by (fun σ H' => ∃ t s pre, Walk T Z.Pt H a sc la rs σ H' t s pre) (fun σ _ => slot3 l.length σ) ?_ ?_ ?_
    · exact ⟨0, Sy31.start, [], ⟨none, none, none, rfl⟩, Nat.zero_le _, start_ok, ⟨S1.same s2, ne_of_none S1.lst hla⟩, (hT.same s1).same s2, upd_same, rfl, fun b o e _ => s2 _ _ (s1 _ _ e), hA.many⟩
    · rintro σ H2 ⟨t, s, pre, I⟩
      obtain ⟨v4, v5, v6, rfl⟩ := I.st
      have hS2 : SqL K H2 a (intV l) := SqL.butP hS hT I.old
      refine ⟨_, rfl, _, rfl, a, _, rfl, .inl hS2, _, _, rfl, rfl, _, rfl, ?_⟩
      rw [intV_length, dec_lt]
      by_cases c : t < rs.length
      · have hr0 := List.getElem?_eq_getElem c
        generalize rs[t] = r at hr0
        have el := encAll_at hr0
        rw [← hA.enc] at el
        have etk := encAll_take hr0
        generalize hm : (encAll (rs.take t)).length = m at *
        have hlen : l.length = m + (2 + r.length + (encAll (rs.drop (t + 1))).length) := by
          rw [el, List.length_append, hm, List.length_cons, List.length_cons, List.length_append]; lia
        rw [decide_eq_true (show m < l.length by lia)]
        have hat : (intV l)[m + 1]? = some (.int (r.length : Int)) := by
          unfold intV
          rw [List.getElem?_map, el, List.getElem?_append_right (by lia), hm, show m + 1 - m = 1 by lia]; rfl
        refine iteT ⟨_, rfl, _, _, rfl, rfl, _, rfl, _, rfl, _, _, rfl, rfl, a, _, _, _, rfl, rfl, hS2, at_of (j := m + 1) (by lia) hat, _, _, rfl, rfl, ?_⟩
        refine ⟨_, rfl, _, rfl, _, _, rfl, rfl, _, rfl, _, rfl, _, rfl, a, _, rfl, hS2, fun q hq => ?_⟩
        have e1 : ((m : Int) + 2) = ((m + 2 : Nat) : Int) := by lia
        have e2 : ((m : Int) + 2 + (r.length : Int)) = ((m + 2 + r.length : Nat) : Int) := by lia
        have ec : cutV (intV l) (some ((m : Int) + 2)) (some ((m : Int) + 2 + (r.length : Int))) = intV r := by
          rw [e2, e1, cutV_nat (by rw [intV_length]; lia) (by rw [intV_length]; lia), show m + 2 + r.length - (m + 2) = r.length by lia]
          unfold intV
          rw [← List.map_drop, ← List.map_take, el]
          congr 1
          rw [List.drop_append, List.drop_eq_nil_of_le (by lia), List.nil_append, hm, show m + 2 - m = 2 by lia]
          show (r ++ encAll (rs.drop (t + 1))).take r.length = r
          rw [List.take_append_of_le_length (Nat.le_refl _), List.take_length]
        obtain ⟨cl, hcl⟩ := hA.all r (List.mem_of_getElem? hr0)
        refine hide fun G0 g0 => ?_; obtain ⟨num, told, f, fd, kk, rfl, hk7, hf, kp, hb, F⟩ := the_answer (P := P) (w := w) T Z (told_of hcl); refine g0 ?_; clear g0 G0
        rw [ec] at *
        have s3 : Same H2 (upd H2 q (.lst (intV ((num : Int) :: told)))) := Same.new hq
        refine ⟨_, rfl, q, _, _, _, rfl, rfl, SqL.of upd_same, at_of (j := 0) rfl rfl, T.tup1, _, _, _, rfl, rfl, T.tup1_at _, at_of (j := num) rfl hf, f, fd, kk, _, _, rfl, kp, F, hr.mono hk7, hb, rfl, ?_⟩
        refine ⟨_, rfl, _, rfl, _, rfl, q, _, rfl, SqL.of upd_same, fun q2 hq2 => ?_⟩
        have ec2 : cutV (intV ((num : Int) :: told)) (some 1) none = intV told := cutV_from (i := 1) (by rw [intV_length, List.length_cons]; lia)
        rw [ec2] at *
        have s4 := s3.trans (Same.new (o := .lst (intV told)) hq2)
        obtain ⟨S2, lb2⟩ := I.sco
        obtain ⟨S4, e4S⟩ := S2.same2 s4
        have T4 := I.tab.same s4
        have estep : Sy31Neutral.step s ((num : Int) :: told) = ((Sy31.step s cl).1, Sy31Neutral.out (Sy31.step s cl).2) := by unfold Sy31Neutral.step; rw [hcl]
        have erun : run s (rs.drop t) = (((Sy31Neutral.out (Sy31.step s cl).2).length : Nat) : Int) :: Sy31Neutral.out (Sy31.step s cl).2 ++ run (Sy31.step s cl).1 (rs.drop (t + 1)) := by
          obtain ⟨h1, h2⟩ := List.getElem?_eq_some_iff.mp hr0
          rw [List.drop_eq_getElem_cons h1, h2]
          show ((((Sy31Neutral.step s ((num : Int) :: told)).2.length : Nat) : Int) :: (Sy31Neutral.step s ((num : Int) :: told)).2 ++ run (Sy31Neutral.step s ((num : Int) :: told)).1 (rs.drop (t + 1))) = _
          rw [estep]
        have emany : Sy31Neutral.many s (rs.drop t) = (Sy31Neutral.out (Sy31.step s cl).2).length + Sy31Neutral.many (Sy31.step s cl).1 (rs.drop (t + 1)) := by
          obtain ⟨h1, h2⟩ := List.getElem?_eq_some_iff.mp hr0
          rw [List.drop_eq_getElem_cons h1, h2]
          show (Sy31Neutral.step s ((num : Int) :: told)).2.length + Sy31Neutral.many (Sy31Neutral.step s ((num : Int) :: told)).1 (rs.drop (t + 1)) = _
          rw [estep]
        have hmn := I.mn
        rw [emany] at hmn
        have heq := I.eq
        rw [erun] at heq
        have hl2 := hlong
        rw [heq, List.length_append, List.length_append, List.length_cons] at hl2
        refine ⟨sc, q2, s.paper, s.bars, told, cl, rfl, I.ok, upd_same, told_of hcl, by show (Sy31Neutral.out (Sy31.step s cl).2).length ≤ _; lia, T4, S4, fun H5 p n5 S5 lb5 T5 b5 h5 => ?_⟩
        have h5 : H5 p = some (.lst (intV (Sy31Neutral.out (Sy31.step s cl).2))) := h5
        generalize hout : Sy31Neutral.out (Sy31.step s cl).2 = out at *
        have hla4 := s4 _ _ I.ans
        have lasc : la ≠ sc := ne_of hla4 S4.sco (by intro z; cases z)
        have laPt : la ≠ Z.Pt := T4.ne hla4 (fun _ z => by cases z)
        have hla5 := b5 _ _ hla4 lasc laPt
        have lb5' : S5.lb ≠ la := by
          rcases lb5 with z | z
          · rw [z, e4S]; exact lb2
          · exact Ne.symm (ne_of_none hla4 z)
        have hp1 : p ≠ la := Ne.symm (ne_of_none hla4 n5)
        refine ⟨_, rfl, .inl ⟨rfl, _, SqL.of hla5⟩, _, rfl, p, _, rfl, .inl (SqL.of h5), la, _, _, rfl, rfl, hla5, by rw [intV_length]; exact small_lt (m := 1000060) (by lia) (by decide), ?_⟩
        refine ⟨_, rfl, .inl ⟨rfl, _, SqL.of upd_same⟩, _, rfl, la, p, _, _, rfl, rfl, upd_same, (upd_ne hp1).trans h5, by rw [List.length_append, intV_length, intV_length]; exact small_le (m := 1000061) (by show _ + 1 + _ ≤ _; lia) (by decide), ?_⟩
        have b6 : ∀ o1 o2 b o, H5 b = some o → b ≠ la → upd (upd H5 la o1) la o2 b = some o := fun o1 o2 b o e n => by rw [upd_ne n, upd_ne n]; exact e
        refine ⟨_, rfl, ⟨t + 1, (Sy31.step s cl).1, pre ++ ((out.length : Int) :: out), ⟨some (.int ((m : Int) + 2 + (((num : Int) :: told).length : Int))), some (.ref q), some (.ref p), ?_⟩, c, step_ok I.ok cl, ⟨⟨S5.ds, S5.pp, S5.dp, S5.lb, S5.as, b6 _ _ _ _ S5.sco (Ne.symm lasc), b6 _ _ _ _ S5.pap (ne_of S5.pap hla5 (by intro z; cases z)), b6 _ _ _ _ S5.lst lb5', S5.bars.1, fun j a h => let ⟨x, dx, h1, h2⟩ := S5.bars.2 j a h; ⟨x, dx, h1, b6 _ _ _ _ h2 (ne_of h2 hla5 (by intro z; cases z))⟩⟩, lb5'⟩, T5.but (b6 _ _) hla5, ?_, ?_, ?_, by lia⟩, ?_⟩
        · show [some (V.ref a), some (V.ref sc), some (V.ref la), some (V.int ((m : Int) + 2 + (((num : Int) :: told).length : Int))), some (V.int ((m : Int) + 2 + (((num : Int) :: told).length : Int))), some (V.ref q), some (V.ref p)] = _
          rw [etk, List.length_append, hm]
          have : (encC ((num : Int) :: told)).length = 2 + ((num : Int) :: told).length := by
            show ((num : Int) :: told).length + 1 + 1 = _; lia
          rw [this, e2, show m + 2 + ((num : Int) :: told).length = m + (2 + ((num : Int) :: told).length) by lia]
        · rw [upd_same, intV_length]
          unfold intV
          rw [List.map_append, List.append_assoc]
          rfl
        · rw [heq, List.append_assoc]
        · intro b o e n
          have nb : b ≠ sc := fun z => by rw [z, nsc] at e; cases e
          have nl : b ≠ la := ne_of_none (s1 _ _ e) hla
          exact b6 _ _ _ _ (b5 _ _ (s4 _ _ (I.old _ _ e n)) nb n) nl
        · show l.length - ((m : Int) + 2 + (((num : Int) :: told).length : Int)).toNat < l.length - ((m : Int)).toNat
          rw [e2, Int.toNat_natCast, Int.toNat_natCast]; lia
      · have te : t = rs.length := by have := I.tl; lia
        subst te
        rw [List.take_length, ← hA.enc, decide_eq_false (Nat.lt_irrefl _)]
        have heq := I.eq
        rw [List.drop_length] at heq
        have h0 : run s [] = [] := rfl
        rw [h0, List.append_nil] at heq
        refine iteF ⟨_, rfl, k H2 la ?_⟩
        rw [heq]; exact I.ans
    · intro σ H0 Q0 Q1 hQ h
      refine hide fun G0 g0 => ?_; obtain ⟨v, hv, v0, h0, p, ys, e6, e7, i, j, e8, e9, kb, e10, q⟩ := h; refine g0 ?_; clear g0 G0
      exact ⟨v, hv, v0, h0, p, ys, e6, e7, i, j, e8, e9, kb, e10, hQ _ _ q⟩
end
end Bp
end
section
set_option Elab.async false
set_option linter.all false
set_option maxRecDepth 100000
set_option maxHeartbeats 4000000
namespace Bp
open PySem PySem.Spec PyProof.Rows L2
open PySem.W (Codec WData WellAll ReadsW ReadsAllW CodeHd)
/-- the call, where a def of the text makes a function within itself: its table of codes is tracked -/
theorem callT {P : Program} {w : World} {K : PySem.W.Frag} {mg mb : Str → Option Value} {p : Program} {loose : List Str} {mean : ExcName → Option Value} {k : Nat} {fa cd Pt : Addr} {fd : FuncData} {ps : List Str} {sp : Sp} {s₁ : Shared} {vals : List Value} {ds : List WData} {R : PySem.W.WRecords} {cl : Str → Option Addr} {d0 : WData}
    (KX : K.In s₁.heap) (T : Top p loose mean mg mb s₁.heap) (hg : s₁.gens = #[]) (hC : CodeHd s₁.heap cd Pt) (hPt : s₁.heap.get? Pt = some (PySem.W.tabObj #[])) (hKP : K.lookup Pt = none)
    (hwl : WellAll w.params s₁.heap vals ds) (hpl : plWs ds = true) (hwt : ∀ d ∈ ds, d.weight ≤ 1048576) (hr : Room k callerA)
    (F : ∀ base : Heap, K.In base → base.Ns mainGlobals mg → TabK mg base cd Pt → FnOk P w K mg base CX0 k fa fd ps sp) (hbind : ∀ (s : Shared) (us : List Value), K.In s.heap → us.length = ps.length → BindsTo s fd ⟨us, []⟩ (ps.zip us)) (hlen : ds.length = ps.length)
    (hsp : ∀ (H : Hp) (xs : List V), OnlyF H → H Pt = none → DwAll K H xs ds → sp xs (upd H Pt (.tbl #[])) (fun v H' => Dw K H' v d0) fun _ _ _ => False) :
    codeAny (model P w) callerA (.call (.ref fa) ⟨vals, []⟩) (fun r s' => ∃ u as, r = .ok (.ret u) ∧ ReadsW R cl s'.heap u d0 as ∧ OldK s₁.heap s'.heap ∧ s'.os = s₁.os ∧ AllBare s'.gens) s₁ := by
  obtain ⟨A, ho, ar⟩ := area_all ds vals hwl hpl hwt
  have hO : OnlyF (argH K s₁.heap A) := argH_only ar
  have hok : HOk P w (argH K s₁.heap A) s₁.heap := argH_ok ar
  have hS := dw_all KX ar ds vals hwl hpl ho
  have hV := vals_toV ho
  have hK : ∀ b u, argH K s₁.heap A b = some u → K.lookup b = none := fun b u q => (argH_is ar q).1
  have noA : ∀ {b : Addr} {o : Obj}, s₁.heap.get? b = some o → (∀ its n, o.data ≠ .seq its n) → argH K s₁.heap A b = none := fun {b o} e d => by
    cases q : argH K s₁.heap A b with
    | none => rfl
    | some u =>
      obtain ⟨_, vs, _, _, ⟨e2, _⟩ | ⟨e2, _⟩⟩ := argH_is ar q
      · rw [e2] at e
        cases e
        exact absurd rfl (d _ _)
      · rw [e2] at e
        cases e
        exact absurd rfl (d _ _)
  have nP : argH K s₁.heap A Pt = none := noA hPt (fun _ _ z => by cases z)
  generalize argH K s₁.heap A = H0 at hO hok hS hK noA nP
  have hH : ∀ b, H0 b = none → b ≠ Pt → upd H0 Pt (.tbl #[]) b = none := fun b n q => by rw [upd_ne q]; exact n
  have hok1 : HOk P w (upd H0 Pt (.tbl #[])) s₁.heap := fun b u e => by
    by_cases q : b = Pt
    · subst q
      rw [upd_same] at e
      cases e
      exact hPt
    · rw [upd_ne q] at e
      refine (hok b u e).stay (fun _ _ _ e => e) (fun c z => ?_) fun c xs z => ?_
      · rw [upd_ne (ne_of_none z nP)]; exact z
      · rw [upd_ne (ne_of_none z nP)]; exact z
  have base_of : ∀ {b : Addr} {o : Obj}, s₁.heap.get? b = some o → (∀ its n, o.data ≠ .seq its n) → b ≠ Pt → (hidT s₁.heap (upd H0 Pt (.tbl #[]))).get? b = some o := fun e d q => hidT_get e (hH _ (noA e d) q)
  have neD : ∀ {b : Addr} {o : Obj} {es : Array DictEntry} {ep : Nat}, s₁.heap.get? b = some o → o.data = .dict es ep → b ≠ Pt := fun {b o es ep} e d q => by
    rw [q, hPt] at e; cases e; cases d
  have nsK : ∀ {b : Addr} {m : Str → Option Value}, s₁.heap.Ns b m → (hidT s₁.heap (upd H0 Pt (.tbl #[]))).Ns b m := fun {b m} ⟨o, es, ep, e, d, r⟩ => ⟨o, es, ep, base_of e (fun _ _ z => by rw [d] at z; cases z) (neD e d), d, r⟩
  have nK : ∀ b o, K.lookup b = some o → upd H0 Pt (.tbl #[]) b = none := fun b o e => by
    by_cases z : b = Pt
    · rw [z, hKP] at e; cases e
    · cases q : H0 b with
      | none => exact hH b q z
      | some u =>
        rw [hK b u q] at e
        cases e
  have hKb : K.In (hidT s₁.heap (upd H0 Pt (.tbl #[]))) := fun b o e => hidT_get (KX b o e) (nK b o e)
  have hM : Mod K mg (hidT s₁.heap (upd H0 Pt (.tbl #[]))) := ⟨hKb, nsK T.g, ⟨mb, nsK T.b, T.builtins⟩, let ⟨mc, h1, h2⟩ := T.nolimit; ⟨mc, nsK h1, h2⟩⟩
  have e0 : Env0 P w K mg (hidT s₁.heap (upd H0 Pt (.tbl #[]))) callerA [] s₁ (upd H0 Pt (.tbl #[])) := ⟨rfl, hM, fun b o e => of_hidT e, Nat.le_of_eq (hidT_size _ _), trivial, fun b hb => absurd (show b ∈ ([] : List Addr) from hb) (by simp), hok1, .of_eq hg⟩
  have hl : vals.length = ps.length := by rw [wellAll_len hwl]; exact hlen
  have hgP : mainGlobals ≠ Pt := by
    obtain ⟨o, es, ep, e, d, _⟩ := T.g
    exact neD e d
  have hTab : TabK mg (hidT s₁.heap (upd H0 Pt (.tbl #[]))) cd Pt := by
    refine ⟨?_, ?_, hgP⟩
    · refine hide fun G0 g0 => ?_; obtain ⟨o, vs, f, tf, fl, tg, inF, tx, tt, e, c, d, r⟩ := hC; refine g0 ?_; clear g0 G0
      exact ⟨o, vs, f, tf, fl, tg, inF, tx, tt, base_of e (fun _ _ z => by rw [d] at z; cases z) r.2.2.2.2.2.2, c, d, r⟩
    · refine hide fun G0 g0 => ?_; obtain ⟨bm, ob, b1, b2, b3, b4, b5, b6⟩ := T.bmain; refine g0 ?_; clear g0 G0
      have hbP : bm ≠ Pt := fun q => by
        rw [q, hPt] at b3; cases b3; cases b4
      have hbG : bm ≠ mainGlobals := fun q => by
        obtain ⟨o, es, ep, e, hd, _⟩ := T.g
        rw [q, e] at b3; cases b3; rw [hd] at b6; cases b6
      exact ⟨bm, ob, b1, b2, hbG, hbP, base_of b3 (fun _ _ z => by rw [b6] at z; cases z) hbP, b4, b5, b6⟩
  refine codeAny_mono ((F _ hKb (nsK T.g) hTab).run callerA [] s₁ (upd H0 Pt (.tbl #[])) ⟨vals, []⟩ vals (vals.map toV) _ _ hr e0 (hbind s₁ vals KX hl) hV (hsp H0 _ hO nP hS)) fun r s' x => ?_
  cases r with
  | error e => exact x.elim
  | ok fl =>
    cases fl with
    | next => exact False.elim x
    | brk => exact False.elim x
    | cont => exact False.elim x
    | ret u =>
      refine hide fun G0 g0 => ?_; obtain ⟨v, H', os, bare, un, hok', r', q⟩ := x; refine g0 ?_; clear g0 G0
      have kept : ∀ b o, b ≠ Pt → s₁.heap.get? b = some o → s'.heap.get? b = some o := fun b o hb e => by
        cases q2 : H0 b with
        | none => exact un.keep b o e (hH b q2 hb) (by intro z; exact absurd (show b ∈ ([] : List Addr) from z) (by simp)) (by simp)
        | some u2 =>
          rcases hO b with z | ⟨ob, u3, z⟩
          · rw [q2] at z
            cases z
          · have z1 : upd H0 Pt (.tbl #[]) b = some (.frz ob u3) := by rw [upd_ne hb]; exact z
            have z2 := un.frzs b ob _ z1
            obtain ⟨e1, _⟩ := hok b _ z
            obtain ⟨e2, _⟩ := hok' b _ z2
            rw [e] at e1
            cases e1
            exact e2
      obtain ⟨more, hm⟩ := un.tbls Pt #[] upd_same
      have hPt' : s'.heap.get? Pt = some { cls := .none, data := .fields (#[] ++ more) } := hok' Pt _ hm
      have KX' : K.In s'.heap := fun b o e => kept b o (fun z => by rw [z, hKP] at e; cases e) (KX b o e)
      obtain ⟨as, hrd⟩ := Dw.reads (R := R) (cl := cl) hok' KX' d0 v u q r'
      refine ⟨u, as, rfl, hrd, ⟨fun b o e => ?_, fun b o e => ?_⟩, os, bare⟩
      · by_cases z : b = Pt
        · subst z
          rw [hPt] at e
          cases e
          exact .inr (.inl ⟨(hC.tab hPt).isCodeTable, rfl, #[], more, rfl, hPt'⟩)
        · exact .inl (kept b o z e)
      · by_cases z : b = Pt
        · subst z; exact ⟨_, hPt'⟩
        · exact ⟨o, kept b o z e⟩
/-- the goal that the row's head leaves -/
theorem walkT {r : PySem.W.OpenSpec} {k : Nat} {q : Program} {loose : List Str} {XP : (Str → Option Value) → Heap → Prop} {YP : World → Heap → Prop} {d : DefRec} {K : Params → PySem.W.Frag} {ps : List Str} {sp : PySem.W.Frag → Addr → Sp} {x : Str} {d' : DefRec}
    (hwell : r.wellSaid = true) (hdf : d.params.defaults = []) (hlen : r.args.length = ps.length) (hr : Room k callerA) (hfind : List.find? (fun e => e.name == x) (recsOf q) = some d')
    (hY : ∀ (w : World) (h : Heap), YP w h → (K w.params).In h)
    (F : ∀ (w : World) (mg : Str → Option Value) (fa : Addr) (h : Heap), YP w h → (K w.params).In h → h.Ns mainGlobals mg → mg d.name = some (.ref fa) →
      ∃ (fd : FuncData) (cd Pt : Addr), PySem.W.tabIn (K w.params) x = some (cd, Pt) ∧ (K w.params).lookup Pt = none ∧ (∀ (s : Shared) (us : List Value), (K w.params).In s.heap → us.length = ps.length → BindsTo s fd ⟨us, []⟩ (ps.zip us)) ∧
        ∀ base : Heap, (K w.params).In base → base.Ns mainGlobals mg → TabK mg base cd Pt → FnOk r.prog w (K w.params) mg base CX0 k fa fd ps (sp (K w.params) Pt))
    (hsp : ∀ (K : PySem.W.Frag) (Pt : Addr) (H : Hp) (xs : List V) (a : Codec.denoteAll r.args), OnlyF H → H Pt = none → Codec.withinAll r.args a = true → Codec.app r.args r.asked a = true → DwAll K H xs (Codec.encAll r.args a) →
      sp K Pt xs (upd H Pt (.tbl #[])) (fun v H' => Dw K H' v (r.ret.enc (Codec.app r.args r.f a))) fun _ _ _ => False) :
    PySem.W.WalkOS q loose XP YP r d [] (fun f vs => PySem.call f vs) := by
  intro w s_0 s₁ mg mb G Y fa o pm cd doc dV kV ho hd hcd hD hmg hg args vals as hpre hlay hrd hwl hlo
  obtain ⟨a, e1, e2⟩ := PySem.W.os_pre_some hpre
  obtain ⟨e3, hwi⟩ := Codec.encAll_of_decAll r.args args a e1
  subst e3
  have KX := hY w _ Y
  refine hide fun G0 g0 => ?_; obtain ⟨fd, cd', Pt, htab, hKP, hb, hF⟩ := F w mg fa _ Y KX G.T.g hmg; refine g0 ?_; clear g0 G0
  obtain ⟨hC, hPt⟩ := PySem.W.tab_of G.T KX hfind htab
  refine PySem.W.enter_call (codeAny_mono (callT (R := []) (cl := classAt s_0.heap) (d0 := r.ret.enc (Codec.app r.args r.f a)) KX G.T hg hC hPt hKP hwl (pl_encAll _ _) (layable_weight hlay) hr hF hb (by rw [encAll_len]; exact hlen)
    (fun H xs hO hn hS => hsp (K w.params) Pt H xs a hO hn hwi e2 hS)) fun r' s' hq => ?_)
  refine hide fun G0 g0 => ?_; obtain ⟨u, as', rfl, h1, h2, h3, h4⟩ := hq; refine g0 ?_; clear g0 G0
  exact ⟨.inl ⟨u, _, as', rfl, fun _ => rfl, h1, (PySem.W.OpenSpec.post_iff hwell hwi _ _).mpr rfl, fun z => Bool.noConfusion (show false = true from z)⟩, h2, h3, h4⟩
end Bp
end
section
set_option Elab.async false
set_option linter.all false
set_option maxRecDepth 100000
set_option maxHeartbeats 4000000
namespace Bp
open PySem PySem.Spec PyProof.Rows L2
section
variable {K : PySem.W.Frag} {h : Heap} {mg : Str → Option Value}
def mkD {x : Str} {st : Stmt} {ps : List Str} {f : Addr} {oc kV doc pm cdv ct : Value} {od an : Option Addr} {osl : Array (Option Value)} (X : K.In h) (G : h.Ns mainGlobals mg) (a : PySem.W.nsIn K mainGlobals x = some (some (.ref f)))
    (l : K.lookup f = some ⟨oc, od, .func (PySem.W.fnOf x x (defArgs st) (defBody st) (defScope st) .none kV doc pm an cdv ct), osl⟩) (c : PySem.W.codeIn K cdv x = true) (k : PySem.W.keepIn K (.ref f) = true)
    (hb : ∀ (kV doc pm : Value) (an : Option Addr) (cdv ct : Value) (us : List Value), us.length = ps.length → bindArgs (PySem.W.fnOf x x (defArgs st) (defBody st) (defScope st) .none kV doc pm an cdv ct) ⟨us, []⟩ = pure (ps.zip us)) : D K mg x st ps :=
  ⟨f, _, PySem.W.mg_of X G a, fun_mk l c k, (fun_mk l c k).binds hb⟩
def mkC {x q : Str} {st : Stmt} {ps : List Str} {C0 f : Addr} {oc kV doc pm cdv ct : Value} {od an : Option Addr} {osl : Array (Option Value)} (X : K.In h) (G : h.Ns mainGlobals mg) (aC : PySem.W.nsIn K mainGlobals x = some (some (.ref C0)))
    (a : PySem.W.findIn K (.ref C0) "__init__" = some (some (.ref f))) (i : PySem.W.isFn K (.ref f) = true)
    (l : K.lookup f = some ⟨oc, od, .func (PySem.W.fnOf "__init__" q (defArgs st) (defBody st) (defScope st) .none kV doc pm an cdv ct), osl⟩) (c : PySem.W.codeIn K cdv q = true) (k : PySem.W.keepIn K (.ref f) = true)
    (pg : PySem.W.plainGet K C0 Str.empty = true) (hd : PySem.W.hasDictIn K C0 = true) (po : PySem.W.plainOver K C0 = true) (sa : PySem.W.findIn K (.ref C0) "__setattr__" = some (some (.builtin "object.__setattr__"))) (mk : PySem.W.makesIn K C0 = true) (kc : PySem.W.keepIn K (.ref C0) = true)
    (hb : ∀ (kV doc pm : Value) (an : Option Addr) (cdv ct : Value) (us : List Value), us.length = ps.length → bindArgs (PySem.W.fnOf "__init__" q (defArgs st) (defBody st) (defScope st) .none kV doc pm an cdv ct) ⟨us, []⟩ = pure (ps.zip us)) :
    C K mg x q st ps :=
  ⟨C0, f, _, PySem.W.mg_of X G aC, ⟨pg, hd, po, sa⟩, fun_mk l c k, (fun_mk l c k).binds hb, ⟨mk, a, i, kc⟩⟩
theorem mkInt {x : Str} {n : Int} {t : Tok} (X : K.In h) (G : h.Ns mainGlobals mg) (a : PySem.W.nsIn K mainGlobals x = some (some (.int n t))) : IntAt mg x n := ⟨t, PySem.W.mg_of X G a⟩
theorem mkNo (X : K.In h) (G : h.Ns mainGlobals mg) {C0 : Addr} {ns : List Str} {c : Addr} (m : mg x = some (.ref c)) (a : PySem.W.nsIn K mainGlobals x = some (some (.ref C0))) (n : ∀ y ∈ ns, PySem.W.findIn K (.ref C0) y = some none) : ∀ y ∈ ns, NoAttr K c y := by
  have e := m.symm.trans (PySem.W.mg_of X G a)
  cases e
  exact n
theorem code_of {x : Str} {st : Stmt} {ps : List Str} {cd Pt : Addr} (X : K.In h) (G : h.Ns mainGlobals mg) (d : D K mg x st ps) (t : PySem.W.tabIn K x = some (cd, Pt)) : d.fd.code = .ref cd := by
  refine hide fun G0 g0 => ?_; obtain ⟨oc, od, kV, doc, pm, an, cdv, ct, osl, e, lk, hcd⟩ := d.F.ex; refine g0 ?_; clear g0 G0
  unfold PySem.W.tabIn at t
  split at t
  · rename_i f hf
    have e2 := d.mg.symm.trans (PySem.W.mg_of X G hf)
    cases e2
    rw [lk] at t
    dsimp only at t
    split at t
    · rename_i c hc
      rw [hc]
      split at t
      · split at t
        · cases t; rfl
        · cases t
      · cases t
    · cases t
  · cases t
theorem mkTup {a : Addr} {xs : List V} {od : Option Addr} {its : Array Value} {n : Nat} {sl : Array (Option Value)} (l : K.lookup a = some ⟨.type "tuple", od, .seq its n, sl⟩) (hz : its.size ≤ sizeLine) (v : Vals xs its.toList) : ∀ H : Hp, SqT K H a xs :=
  fun _ => .inr ⟨_, its, n, l, rfl, rfl, hz, v⟩
theorem f_of {x : Str} {st : Stmt} {ps : List Str} {f : Addr} (X : K.In h) (G : h.Ns mainGlobals mg) (d : D K mg x st ps) (a : PySem.W.nsIn K mainGlobals x = some (some (.ref f))) : d.f = f := by
  have e := d.mg.symm.trans (PySem.W.mg_of X G a)
  cases e
  rfl
theorem tup8 {a g0 g1 g2 g3 g4 g5 g6 g7 f0 f1 f2 f3 f4 f5 f6 f7 : Addr} {od : Option Addr} {n : Nat} {sl : Array (Option Value)} (l : K.lookup a = some ⟨.type "tuple", od, .seq #[.ref f0, .ref f1, .ref f2, .ref f3, .ref f4, .ref f5, .ref f6, .ref f7] n, sl⟩)
    (e0 : g0 = f0) (e1 : g1 = f1) (e2 : g2 = f2) (e3 : g3 = f3) (e4 : g4 = f4) (e5 : g5 = f5) (e6 : g6 = f6) (e7 : g7 = f7) : ∀ H : Hp, SqT K H a [.ref g0, .ref g1, .ref g2, .ref g3, .ref g4, .ref g5, .ref g6, .ref g7] := by
  subst e0 e1 e2 e3 e4 e5 e6 e7
  exact mkTup l (by show 8 ≤ sizeLine; decide) (.cons rfl (.cons rfl (.cons rfl (.cons rfl (.cons rfl (.cons rfl (.cons rfl (.cons rfl .nil))))))))
theorem tup8i {a : Addr} {i0 i1 i2 i3 i4 i5 i6 i7 : Int} {t0 t1 t2 t3 t4 t5 t6 t7 : Tok} {od : Option Addr} {n : Nat} {sl : Array (Option Value)} (l : K.lookup a = some ⟨.type "tuple", od, .seq #[.int i0 t0, .int i1 t1, .int i2 t2, .int i3 t3, .int i4 t4, .int i5 t5, .int i6 t6, .int i7 t7] n, sl⟩) :
    ∀ H : Hp, SqT K H a [.int i0, .int i1, .int i2, .int i3, .int i4, .int i5, .int i6, .int i7] :=
  mkTup l (by show 8 ≤ sizeLine; decide) (.cons ⟨_, rfl⟩ (.cons ⟨_, rfl⟩ (.cons ⟨_, rfl⟩ (.cons ⟨_, rfl⟩ (.cons ⟨_, rfl⟩ (.cons ⟨_, rfl⟩ (.cons ⟨_, rfl⟩ (.cons ⟨_, rfl⟩ .nil))))))))
theorem seqT {H : Hp} {Pt a : Addr} {xs : List V} {o : HO} (n : H Pt = none) (hs : SqL K H a xs) : SqL K (upd H Pt o) a xs := (Same.new n).seq hs
abbrev DOf (_ : K.In h) (mg : Str → Option Value) (x : Str) (st : Stmt) (ps : List Str) := D K mg x st ps
abbrev COf (_ : K.In h) (mg : Str → Option Value) (x q : Str) (st : Stmt) (ps : List Str) := C K mg x q st ps
abbrev NoOf (_ : K.In h) (c : Addr) (x : Str) : Prop := NoAttr K c x
abbrev SqOf (_ : K.In h) (a : Addr) (xs : List V) : Prop := ∀ H : Hp, SqT K H a xs
theorem tab_mk {x : Str} {f c P : Addr} {st : Stmt} {oc kV doc pm ct oc2 : Value} {od an od2 : Option Addr} {osl osl2 : Array (Option Value)} {vs : Array Value} (a : PySem.W.nsIn K mainGlobals x = some (some (.ref f)))
    (l : K.lookup f = some ⟨oc, od, .func (PySem.W.fnOf x x (defArgs st) (defBody st) (defScope st) .none kV doc pm an (.ref c) ct), osl⟩) (lc : K.lookup c = some ⟨oc2, od2, .fields vs, osl2⟩) (hv : vs[11]? = some (.ref P)) : PySem.W.tabIn K x = some (c, P) := by
  unfold PySem.W.tabIn
  rw [a]
  dsimp only
  rw [l]
  dsimp only [PySem.W.fnOf]
  rw [lc]
  dsimp only
  rw [hv]
theorem al_nil {p : Str → Prop} : ∀ y ∈ ([] : List Str), p y := fun _ h => by cases h
theorem al_cons {p : Str → Prop} {x : Str} {xs : List Str} (a : p x) (b : ∀ y ∈ xs, p y) : ∀ y ∈ x :: xs, p y := fun y h => by
  rcases List.mem_cons.mp h with z | z
  · rw [z]; exact a
  · exact b y z
theorem us0 {p : List Value → Prop} (h : p []) : ∀ us : List Value, us.length = 0 → p us := fun us hl => match us, hl with | [], _ => h
theorem us1 {p : List Value → Prop} (h : ∀ a, p [a]) : ∀ us : List Value, us.length = 1 → p us := fun us hl => match us, hl with | [a], _ => h a
theorem us2 {p : List Value → Prop} (h : ∀ a b, p [a, b]) : ∀ us : List Value, us.length = 2 → p us := fun us hl => match us, hl with | [a, b], _ => h a b
theorem us3 {p : List Value → Prop} (h : ∀ a b c, p [a, b, c]) : ∀ us : List Value, us.length = 3 → p us := fun us hl => match us, hl with | [a, b, c], _ => h a b c
theorem us4 {p : List Value → Prop} (h : ∀ a b c d, p [a, b, c, d]) : ∀ us : List Value, us.length = 4 → p us := fun us hl => match us, hl with | [a, b, c, d], _ => h a b c d
theorem us5 {p : List Value → Prop} (h : ∀ a b c d e, p [a, b, c, d, e]) : ∀ us : List Value, us.length = 5 → p us := fun us hl => match us, hl with | [a, b, c, d, e], _ => h a b c d e
theorem all_ok {P : Program} {w : World} {fa cd Pt : Addr} (X : K.In h) (G : h.Ns mainGlobals mg) (T : Txt K mg) (hfa : mg "answers" = some (.ref fa)) (htab : PySem.W.tabIn K "shares_of" = some (cd, Pt)) (hK : K.lookup Pt = none) :
    ∃ (fd : FuncData) (cd Pt : Addr), PySem.W.tabIn K "shares_of" = some (cd, Pt) ∧ K.lookup Pt = none ∧ (∀ (s : Shared) (us : List Value), K.In s.heap → us.length = (["calls"] : List Str).length → BindsTo s fd ⟨us, []⟩ ((["calls"] : List Str).zip us)) ∧
      ∀ base : Heap, K.In base → base.Ns mainGlobals mg → TabK mg base cd Pt → FnOk P w K mg base CX0 8 fa fd ["calls"] (spCalls K Pt) := by
  have e := hfa.symm.trans T.answers.mg
  cases e
  refine ⟨T.answers.fd, cd, Pt, htab, hK, fun s us hk hu => ?_, fun base _ _ ht => ?_⟩
  · have q := T.answers.b s us hk (by rw [List.append_nil]; exact hu)
    rw [List.append_nil] at q
    exact q
  · exact ok_answers T ⟨cd, Pt, code_of X G T.shares_of htab, ht⟩
end
end Bp
end
section
set_option Elab.async false
open PySem PySem.W PyProof.Rows
def PySem.W.Fast.tw2043704449376907385 : Unit := ()
def PySem.W.Fast.tw7277163149298290502 : Unit := ()
def PySem.W.Fast.tw17815427690680191400 : Unit := ()
def PySem.W.Fast.tw16218556150420976106 : Unit := ()
theorem PySem.W.Fast.te1960932298992744698 : True := trivial
def PySem.W.Fast.tw16889742661219052116 : PySem.Program := PySem.Challenge.pw_barsandpages_s01_answers
theorem PySem.W.Fast.te16889742661219052116 : PySem.Challenge.pw_barsandpages_s01_answers = PySem.W.Fast.tw16889742661219052116 := rfl
set_option maxRecDepth 100000 in
set_option maxHeartbeats 0 in
theorem PySem.Challenge.cw_barsandpages_s01_answers_holds : PySem.Challenge.rw_barsandpages_s01_answers.Holds := by
  w_on; k_headS; (case hw => exact ⟨[.list [.int 0, .int 1, .int 0]], by decide +kernel, by decide +kernel⟩)
  k_fillS
  refine Bp.walkT (r := PySem.Challenge.rw_barsandpages_s01_answers) (k := 8) (ps := ["calls"]) (sp := Bp.spCalls) (x := "shares_of") (by decide +kernel) rfl rfl ⟨rfl, by decide, by decide⟩ rfl (fun w h Y => PySem.W.kIn_of Y) ?F ?S
  case F =>
    intro w mg fa h Y KX G hmg
    have d_is_within : Bp.DOf KX mg "is_within" (Bp.top 14) ["number", "low", "high"] := by
      refine' Bp.mkD KX G ?a ?l ?c ?k (fun _ _ _ _ _ _ => Bp.us3 fun _ _ _ => rfl)
      (case a => k_is); (case l => k_is); (case c => k_is); (case k => k_is)
    have d_is_paper : Bp.DOf KX mg "is_paper" (Bp.top 15) ["numbers"] := by
      refine' Bp.mkD KX G ?a ?l ?c ?k (fun _ _ _ _ _ _ => Bp.us1 fun _ => rfl)
      (case a => k_is); (case l => k_is); (case c => k_is); (case k => k_is)
    have d_is_bar : Bp.DOf KX mg "is_bar" (Bp.top 16) ["numbers"] := by
      refine' Bp.mkD KX G ?a ?l ?c ?k (fun _ _ _ _ _ _ => Bp.us1 fun _ => rfl)
      (case a => k_is); (case l => k_is); (case c => k_is); (case k => k_is)
    have d_are_bars : Bp.DOf KX mg "are_bars" (Bp.top 17) ["rows"] := by
      refine' Bp.mkD KX G ?a ?l ?c ?k (fun _ _ _ _ _ _ => Bp.us1 fun _ => rfl)
      (case a => k_is); (case l => k_is); (case c => k_is); (case k => k_is)
    have d_are_there : Bp.DOf KX mg "are_there" (Bp.top 22) ["score", "first", "after"] := by
      refine' Bp.mkD KX G ?a ?l ?c ?k (fun _ _ _ _ _ _ => Bp.us3 fun _ _ _ => rfl)
      (case a => k_is); (case l => k_is); (case c => k_is); (case k => k_is)
    have d_is_last_line : Bp.DOf KX mg "is_last_line" (Bp.top 23) ["score", "after"] := by
      refine' Bp.mkD KX G ?a ?l ?c ?k (fun _ _ _ _ _ _ => Bp.us2 fun _ _ => rfl)
      (case a => k_is); (case l => k_is); (case c => k_is); (case k => k_is)
    have d_least_width : Bp.DOf KX mg "least_width" (Bp.top 24) ["score", "first", "after"] := by
      refine' Bp.mkD KX G ?a ?l ?c ?k (fun _ _ _ _ _ _ => Bp.us3 fun _ _ _ => rfl)
      (case a => k_is); (case l => k_is); (case c => k_is); (case k => k_is)
    have d_wished_width : Bp.DOf KX mg "wished_width" (Bp.top 25) ["score", "first", "after"] := by
      refine' Bp.mkD KX G ?a ?l ?c ?k (fun _ _ _ _ _ _ => Bp.us3 fun _ _ _ => rfl)
      (case a => k_is); (case l => k_is); (case c => k_is); (case k => k_is)
    have d_room_of : Bp.DOf KX mg "room_of" (Bp.top 26) ["score", "first"] := by
      refine' Bp.mkD KX G ?a ?l ?c ?k (fun _ _ _ _ _ _ => Bp.us2 fun _ _ => rfl)
      (case a => k_is); (case l => k_is); (case c => k_is); (case k => k_is)
    have d_goes : Bp.DOf KX mg "goes" (Bp.top 27) ["score", "first", "after"] := by
      refine' Bp.mkD KX G ?a ?l ?c ?k (fun _ _ _ _ _ _ => Bp.us3 fun _ _ _ => rfl)
      (case a => k_is); (case l => k_is); (case c => k_is); (case k => k_is)
    have d_ends_well : Bp.DOf KX mg "ends_well" (Bp.top 28) ["score", "first", "after"] := by
      refine' Bp.mkD KX G ?a ?l ?c ?k (fun _ _ _ _ _ _ => Bp.us3 fun _ _ _ => rfl)
      (case a => k_is); (case l => k_is); (case c => k_is); (case k => k_is)
    have d_refusal_of_line : Bp.DOf KX mg "refusal_of_line" (Bp.top 29) ["score", "first", "after"] := by
      refine' Bp.mkD KX G ?a ?l ?c ?k (fun _ _ _ _ _ _ => Bp.us3 fun _ _ _ => rfl)
      (case a => k_is); (case l => k_is); (case c => k_is); (case k => k_is)
    have d_cost_of_line : Bp.DOf KX mg "cost_of_line" (Bp.top 30) ["score", "first", "after"] := by
      refine' Bp.mkD KX G ?a ?l ?c ?k (fun _ _ _ _ _ _ => Bp.us3 fun _ _ _ => rfl)
      (case a => k_is); (case l => k_is); (case c => k_is); (case k => k_is)
    have d_shares_of : Bp.DOf KX mg "shares_of" (Bp.top 31) ["amount", "weights"] := by
      refine' Bp.mkD KX G ?a ?l ?c ?k (fun _ _ _ _ _ _ => Bp.us2 fun _ _ => rfl)
      (case a => k_is); (case l => k_is); (case c => k_is); (case k => k_is)
    have d_widths_of_line : Bp.DOf KX mg "widths_of_line" (Bp.top 32) ["score", "first", "after"] := by
      refine' Bp.mkD KX G ?a ?l ?c ?k (fun _ _ _ _ _ _ => Bp.us3 fun _ _ _ => rfl)
      (case a => k_is); (case l => k_is); (case c => k_is); (case k => k_is)
    have d_nothing_left : Bp.DOf KX mg "nothing_left" (Bp.top 37) [] := by
      refine' Bp.mkD KX G ?a ?l ?c ?k (fun _ _ _ _ _ _ => Bp.us0 rfl)
      (case a => k_is); (case l => k_is); (case c => k_is); (case k => k_is)
    have d_cost_of_page : Bp.DOf KX mg "cost_of_page" (Bp.top 38) ["score", "lines", "after", "right"] := by
      refine' Bp.mkD KX G ?a ?l ?c ?k (fun _ _ _ _ _ _ => Bp.us4 fun _ _ _ _ => rfl)
      (case a => k_is); (case l => k_is); (case c => k_is); (case k => k_is)
    have d_page_may_go_on : Bp.DOf KX mg "page_may_go_on" (Bp.top 39) ["score", "lines", "after"] := by
      refine' Bp.mkD KX G ?a ?l ?c ?k (fun _ _ _ _ _ _ => Bp.us3 fun _ _ _ => rfl)
      (case a => k_is); (case l => k_is); (case c => k_is); (case k => k_is)
    have d_lines_from : Bp.DOf KX mg "lines_from" (Bp.top 40) ["score", "first"] := by
      refine' Bp.mkD KX G ?a ?l ?c ?k (fun _ _ _ _ _ _ => Bp.us2 fun _ _ => rfl)
      (case a => k_is); (case l => k_is); (case c => k_is); (case k => k_is)
    have d_add_step : Bp.DOf KX mg "add_step" (Bp.top 41) ["rest", "length", "page_ends", "cost", "behind"] := by
      refine' Bp.mkD KX G ?a ?l ?c ?k (fun _ _ _ _ _ _ => Bp.us5 fun _ _ _ _ _ => rfl)
      (case a => k_is); (case l => k_is); (case c => k_is); (case k => k_is)
    have d_rest_from : Bp.DOf KX mg "rest_from" (Bp.top 42) ["score", "rests", "place", "next_lines"] := by
      refine' Bp.mkD KX G ?a ?l ?c ?k (fun _ _ _ _ _ _ => Bp.us4 fun _ _ _ _ => rfl)
      (case a => k_is); (case l => k_is); (case c => k_is); (case k => k_is)
    have d_all_rests : Bp.DOf KX mg "all_rests" (Bp.top 43) ["score"] := by
      refine' Bp.mkD KX G ?a ?l ?c ?k (fun _ _ _ _ _ _ => Bp.us1 fun _ => rfl)
      (case a => k_is); (case l => k_is); (case c => k_is); (case k => k_is)
    have d_rest_at_beginning : Bp.DOf KX mg "rest_at_beginning" (Bp.top 44) ["score", "rests"] := by
      refine' Bp.mkD KX G ?a ?l ?c ?k (fun _ _ _ _ _ _ => Bp.us2 fun _ _ => rfl)
      (case a => k_is); (case l => k_is); (case c => k_is); (case k => k_is)
    have d_count_ways : Bp.DOf KX mg "count_ways" (Bp.top 45) ["score"] := by
      refine' Bp.mkD KX G ?a ?l ?c ?k (fun _ _ _ _ _ _ => Bp.us1 fun _ => rfl)
      (case a => k_is); (case l => k_is); (case c => k_is); (case k => k_is)
    have d_pages_along : Bp.DOf KX mg "pages_along" (Bp.top 46) ["score", "rests"] := by
      refine' Bp.mkD KX G ?a ?l ?c ?k (fun _ _ _ _ _ _ => Bp.us2 fun _ _ => rfl)
      (case a => k_is); (case l => k_is); (case c => k_is); (case k => k_is)
    have d_best_way : Bp.DOf KX mg "best_way" (Bp.top 47) ["score"] := by
      refine' Bp.mkD KX G ?a ?l ?c ?k (fun _ _ _ _ _ _ => Bp.us1 fun _ => rfl)
      (case a => k_is); (case l => k_is); (case c => k_is); (case k => k_is)
    have d_is_page : Bp.DOf KX mg "is_page" (Bp.top 48) ["score", "first", "page"] := by
      refine' Bp.mkD KX G ?a ?l ?c ?k (fun _ _ _ _ _ _ => Bp.us3 fun _ _ _ => rfl)
      (case a => k_is); (case l => k_is); (case c => k_is); (case k => k_is)
    have d_cost_of_lines : Bp.DOf KX mg "cost_of_lines" (Bp.top 49) ["score", "first", "page"] := by
      refine' Bp.mkD KX G ?a ?l ?c ?k (fun _ _ _ _ _ _ => Bp.us3 fun _ _ _ => rfl)
      (case a => k_is); (case l => k_is); (case c => k_is); (case k => k_is)
    have d_cost_of_pages : Bp.DOf KX mg "cost_of_pages" (Bp.top 50) ["score", "pages"] := by
      refine' Bp.mkD KX G ?a ?l ?c ?k (fun _ _ _ _ _ _ => Bp.us2 fun _ _ => rfl)
      (case a => k_is); (case l => k_is); (case c => k_is); (case k => k_is)
    have d_answer_begins : Bp.DOf KX mg "answer_begins" (Bp.top 52) ["score", "told"] := by
      refine' Bp.mkD KX G ?a ?l ?c ?k (fun _ _ _ _ _ _ => Bp.us2 fun _ _ => rfl)
      (case a => k_is); (case l => k_is); (case c => k_is); (case k => k_is)
    have d_answer_paper : Bp.DOf KX mg "answer_paper" (Bp.top 53) ["score", "told"] := by
      refine' Bp.mkD KX G ?a ?l ?c ?k (fun _ _ _ _ _ _ => Bp.us2 fun _ _ => rfl)
      (case a => k_is); (case l => k_is); (case c => k_is); (case k => k_is)
    have d_read_bars : Bp.DOf KX mg "read_bars" (Bp.top 54) ["told"] := by
      refine' Bp.mkD KX G ?a ?l ?c ?k (fun _ _ _ _ _ _ => Bp.us1 fun _ => rfl)
      (case a => k_is); (case l => k_is); (case c => k_is); (case k => k_is)
    have d_answer_bars : Bp.DOf KX mg "answer_bars" (Bp.top 55) ["score", "told"] := by
      refine' Bp.mkD KX G ?a ?l ?c ?k (fun _ _ _ _ _ _ => Bp.us2 fun _ _ => rfl)
      (case a => k_is); (case l => k_is); (case c => k_is); (case k => k_is)
    have d_answer_line : Bp.DOf KX mg "answer_line" (Bp.top 56) ["score", "told"] := by
      refine' Bp.mkD KX G ?a ?l ?c ?k (fun _ _ _ _ _ _ => Bp.us2 fun _ _ => rfl)
      (case a => k_is); (case l => k_is); (case c => k_is); (case k => k_is)
    have d_answer_spread : Bp.DOf KX mg "answer_spread" (Bp.top 57) ["score", "told"] := by
      refine' Bp.mkD KX G ?a ?l ?c ?k (fun _ _ _ _ _ _ => Bp.us2 fun _ _ => rfl)
      (case a => k_is); (case l => k_is); (case c => k_is); (case k => k_is)
    have d_answer_ways : Bp.DOf KX mg "answer_ways" (Bp.top 58) ["score", "told"] := by
      refine' Bp.mkD KX G ?a ?l ?c ?k (fun _ _ _ _ _ _ => Bp.us2 fun _ _ => rfl)
      (case a => k_is); (case l => k_is); (case c => k_is); (case k => k_is)
    have d_answer_best : Bp.DOf KX mg "answer_best" (Bp.top 59) ["score", "told"] := by
      refine' Bp.mkD KX G ?a ?l ?c ?k (fun _ _ _ _ _ _ => Bp.us2 fun _ _ => rfl)
      (case a => k_is); (case l => k_is); (case c => k_is); (case k => k_is)
    have d_read_pages : Bp.DOf KX mg "read_pages" (Bp.top 60) ["told"] := by
      refine' Bp.mkD KX G ?a ?l ?c ?k (fun _ _ _ _ _ _ => Bp.us1 fun _ => rfl)
      (case a => k_is); (case l => k_is); (case c => k_is); (case k => k_is)
    have d_answer_check : Bp.DOf KX mg "answer_check" (Bp.top 61) ["score", "told"] := by
      refine' Bp.mkD KX G ?a ?l ?c ?k (fun _ _ _ _ _ _ => Bp.us2 fun _ _ => rfl)
      (case a => k_is); (case l => k_is); (case c => k_is); (case k => k_is)
    have d_answers : Bp.DOf KX mg "answers" (Bp.top 63) ["calls"] := by
      refine' Bp.mkD KX G ?a ?l ?c ?k (fun _ _ _ _ _ _ => Bp.us1 fun _ => rfl)
      (case a => k_is); (case l => k_is); (case c => k_is); (case k => k_is)
    have c_Bar : Bp.COf KX mg "Bar" "Bar.__init__" (L2.inClass (Bp.top 11) 0) ["self", "numbers"] := by
      refine' Bp.mkC KX G ?aC ?a ?i ?l ?c ?k ?pg ?hd ?po ?sa ?mk ?kc (fun _ _ _ _ _ _ => Bp.us2 fun _ _ => rfl)
      (case aC => k_is); (case a => k_is); (case i => k_is); (case l => k_is); (case c => k_is); (case k => k_is); (case pg => k_is); (case hd => k_is); (case po => k_is); (case sa => k_is); (case mk => k_is); (case kc => k_is)
    have c_Paper : Bp.COf KX mg "Paper" "Paper.__init__" (L2.inClass (Bp.top 12) 0) ["self", "numbers"] := by
      refine' Bp.mkC KX G ?aC ?a ?i ?l ?c ?k ?pg ?hd ?po ?sa ?mk ?kc (fun _ _ _ _ _ _ => Bp.us2 fun _ _ => rfl)
      (case aC => k_is); (case a => k_is); (case i => k_is); (case l => k_is); (case c => k_is); (case k => k_is); (case pg => k_is); (case hd => k_is); (case po => k_is); (case sa => k_is); (case mk => k_is); (case kc => k_is)
    have c_Score : Bp.COf KX mg "Score" "Score.__init__" (L2.inClass (Bp.top 13) 0) ["self"] := by
      refine' Bp.mkC KX G ?aC ?a ?i ?l ?c ?k ?pg ?hd ?po ?sa ?mk ?kc (fun _ _ _ _ _ _ => Bp.us1 fun _ => rfl)
      (case aC => k_is); (case a => k_is); (case i => k_is); (case l => k_is); (case c => k_is); (case k => k_is); (case pg => k_is); (case hd => k_is); (case po => k_is); (case sa => k_is); (case mk => k_is); (case kc => k_is)
    have c_Rest : Bp.COf KX mg "Rest" "Rest.__init__" (L2.inClass (Bp.top 36) 0) ["self"] := by
      refine' Bp.mkC KX G ?aC ?a ?i ?l ?c ?k ?pg ?hd ?po ?sa ?mk ?kc (fun _ _ _ _ _ _ => Bp.us1 fun _ => rfl)
      (case aC => k_is); (case a => k_is); (case i => k_is); (case l => k_is); (case c => k_is); (case k => k_is); (case pg => k_is); (case hd => k_is); (case po => k_is); (case sa => k_is); (case mk => k_is); (case kc => k_is)
    have n_Bar : ∀ x ∈ (["least", "wished", "head", "turn", "ends"] : List Str), Bp.NoOf KX c_Bar.c x := by
      refine' Bp.mkNo (x := "Bar") KX G c_Bar.mg ?a (Bp.al_cons ?n0 (Bp.al_cons ?n1 (Bp.al_cons ?n2 (Bp.al_cons ?n3 (Bp.al_cons ?n4 Bp.al_nil)))))
      (case a => k_is); (case n0 => k_is); (case n1 => k_is); (case n2 => k_is); (case n3 => k_is); (case n4 => k_is)
    have n_Paper : ∀ x ∈ (["width", "lines", "right_first", "stretching", "squeezing", "line_price", "page_price", "empty_price"] : List Str), Bp.NoOf KX c_Paper.c x := by
      refine' Bp.mkNo (x := "Paper") KX G c_Paper.mg ?a (Bp.al_cons ?n0 (Bp.al_cons ?n1 (Bp.al_cons ?n2 (Bp.al_cons ?n3 (Bp.al_cons ?n4 (Bp.al_cons ?n5 (Bp.al_cons ?n6 (Bp.al_cons ?n7 Bp.al_nil))))))))
      (case a => k_is); (case n0 => k_is); (case n1 => k_is); (case n2 => k_is); (case n3 => k_is); (case n4 => k_is); (case n5 => k_is); (case n6 => k_is); (case n7 => k_is)
    have n_Score : ∀ x ∈ (["paper", "bars"] : List Str), Bp.NoOf KX c_Score.c x := by
      refine' Bp.mkNo (x := "Score") KX G c_Score.mg ?a (Bp.al_cons ?n0 (Bp.al_cons ?n1 Bp.al_nil))
      (case a => k_is); (case n0 => k_is); (case n1 => k_is)
    have n_Rest : ∀ x ∈ (["ways", "cheapest", "cost", "length", "page_ends"] : List Str), Bp.NoOf KX c_Rest.c x := by
      refine' Bp.mkNo (x := "Rest") KX G c_Rest.mg ?a (Bp.al_cons ?n0 (Bp.al_cons ?n1 (Bp.al_cons ?n2 (Bp.al_cons ?n3 (Bp.al_cons ?n4 Bp.al_nil)))))
      (case a => k_is); (case n0 => k_is); (case n1 => k_is); (case n2 => k_is); (case n3 => k_is); (case n4 => k_is)
    have i_MOST_BARS : Bp.IntAt mg "MOST_BARS" 24 := by
      refine' Bp.mkInt KX G ?a
      (case a => k_is)
    have i_MOST_LINES : Bp.IntAt mg "MOST_LINES" 6 := by
      refine' Bp.mkInt KX G ?a
      (case a => k_is)
    have i_MOST : Bp.IntAt mg "MOST" 1000 := by
      refine' Bp.mkInt KX G ?a
      (case a => k_is)
    have i_FREE_END : Bp.IntAt mg "FREE_END" 0 := by
      refine' Bp.mkInt KX G ?a
      (case a => k_is)
    have i_NO_LINE_END : Bp.IntAt mg "NO_LINE_END" 1 := by
      refine' Bp.mkInt KX G ?a
      (case a => k_is)
    have i_LINE_END : Bp.IntAt mg "LINE_END" 2 := by
      refine' Bp.mkInt KX G ?a
      (case a => k_is)
    have i_PAGE_END : Bp.IntAt mg "PAGE_END" 3 := by
      refine' Bp.mkInt KX G ?a
      (case a => k_is)
    have i_NUMBERS_OF_A_BAR : Bp.IntAt mg "NUMBERS_OF_A_BAR" 5 := by
      refine' Bp.mkInt KX G ?a
      (case a => k_is)
    have i_OUT_OF_RANGE : Bp.IntAt mg "OUT_OF_RANGE" (-1) := by
      refine' Bp.mkInt KX G ?a
      (case a => k_is)
    have i_NO_SUCH_BARS : Bp.IntAt mg "NO_SUCH_BARS" (-2) := by
      refine' Bp.mkInt KX G ?a
      (case a => k_is)
    have i_DOES_NOT_GO : Bp.IntAt mg "DOES_NOT_GO" (-7) := by
      refine' Bp.mkInt KX G ?a
      (case a => k_is)
    have i_MAY_NOT_BE : Bp.IntAt mg "MAY_NOT_BE" (-8) := by
      refine' Bp.mkInt KX G ?a
      (case a => k_is)
    have i_NO_PAGES_OF_A_WAY : Bp.IntAt mg "NO_PAGES_OF_A_WAY" (-3) := by
      refine' Bp.mkInt KX G ?a
      (case a => k_is)
    have i_NO_WAY : Bp.IntAt mg "NO_WAY" (-6) := by
      refine' Bp.mkInt KX G ?a
      (case a => k_is)
    have z_len : mg "len" = none := by
      refine' PySem.W.mg_none_of KX G ?a
      (case a => k_is)
    have z_range : mg "range" = none := by
      refine' PySem.W.mg_none_of KX G ?a
      (case a => k_is)
    have z_sum : mg "sum" = none := by
      refine' PySem.W.mg_none_of KX G ?a
      (case a => k_is)
    have z_all : mg "all" = none := by
      refine' PySem.W.mg_none_of KX G ?a
      (case a => k_is)
    have z_sorted : mg "sorted" = none := by
      refine' PySem.W.mg_none_of KX G ?a
      (case a => k_is)
    have z_zip : mg "zip" = none := by
      refine' PySem.W.mg_none_of KX G ?a
      (case a => k_is)
    have z_enumerate : mg "enumerate" = none := by
      refine' PySem.W.mg_none_of KX G ?a
      (case a => k_is)
    obtain ⟨t0, m0, s0⟩ : ∃ a : Addr, mg "PAPER_AT_BEGINNING" = some (.ref a) ∧ Bp.SqOf KX a [.int 100, .int 4, .int 1, .int 100, .int 200, .int 10, .int 50, .int 5] := by
      refine' ⟨_, PySem.W.mg_of KX G ?a, Bp.tup8i ?l⟩
      (case a => k_is); (case l => k_is)
    obtain ⟨t1, m1, s1⟩ : ∃ a : Addr, mg "ANSWER_OF_CALL" = some (.ref a) ∧ Bp.SqOf KX a [.ref d_answer_begins.f, .ref d_answer_paper.f, .ref d_answer_bars.f, .ref d_answer_line.f, .ref d_answer_spread.f, .ref d_answer_ways.f, .ref d_answer_best.f, .ref d_answer_check.f] := by
      refine' ⟨_, PySem.W.mg_of KX G ?a, Bp.tup8 ?l (Bp.f_of KX G d_answer_begins ?b0) (Bp.f_of KX G d_answer_paper ?b1) (Bp.f_of KX G d_answer_bars ?b2) (Bp.f_of KX G d_answer_line ?b3) (Bp.f_of KX G d_answer_spread ?b4) (Bp.f_of KX G d_answer_ways ?b5) (Bp.f_of KX G d_answer_best ?b6) (Bp.f_of KX G d_answer_check ?b7)⟩
      (case a => k_is); (case l => k_is); (case b0 => k_is); (case b1 => k_is); (case b2 => k_is); (case b3 => k_is); (case b4 => k_is); (case b5 => k_is); (case b6 => k_is); (case b7 => k_is)
    refine' Bp.all_ok KX G { Bar := c_Bar, Paper := c_Paper, Score := c_Score, Rest := c_Rest, nBar := n_Bar, nPaper := n_Paper, nScore := n_Score, nRest := n_Rest, is_within := d_is_within, is_paper := d_is_paper, is_bar := d_is_bar, are_bars := d_are_bars, are_there := d_are_there, is_last_line := d_is_last_line, least_width := d_least_width, wished_width := d_wished_width, room_of := d_room_of, goes := d_goes, ends_well := d_ends_well, refusal_of_line := d_refusal_of_line, cost_of_line := d_cost_of_line, shares_of := d_shares_of, widths_of_line := d_widths_of_line, nothing_left := d_nothing_left, cost_of_page := d_cost_of_page, page_may_go_on := d_page_may_go_on, lines_from := d_lines_from, add_step := d_add_step, rest_from := d_rest_from, all_rests := d_all_rests, rest_at_beginning := d_rest_at_beginning, count_ways := d_count_ways, pages_along := d_pages_along, best_way := d_best_way, is_page := d_is_page, cost_of_lines := d_cost_of_lines, cost_of_pages := d_cost_of_pages, answer_begins := d_answer_begins, answer_paper := d_answer_paper, read_bars := d_read_bars, answer_bars := d_answer_bars, answer_line := d_answer_line, answer_spread := d_answer_spread, answer_ways := d_answer_ways, answer_best := d_answer_best, read_pages := d_read_pages, answer_check := d_answer_check, answers := d_answers, MOST_BARS := i_MOST_BARS, MOST_LINES := i_MOST_LINES, MOST := i_MOST, FREE_END := i_FREE_END, NO_LINE_END := i_NO_LINE_END, LINE_END := i_LINE_END, PAGE_END := i_PAGE_END, NUMBERS_OF_A_BAR := i_NUMBERS_OF_A_BAR, OUT_OF_RANGE := i_OUT_OF_RANGE, NO_SUCH_BARS := i_NO_SUCH_BARS, DOES_NOT_GO := i_DOES_NOT_GO, MAY_NOT_BE := i_MAY_NOT_BE, NO_PAGES_OF_A_WAY := i_NO_PAGES_OF_A_WAY, NO_WAY := i_NO_WAY, tup0 := t0, PAPER_AT_BEGINNING := m0, tup0_at := s0, tup1 := t1, ANSWER_OF_CALL := m1, tup1_at := s1, len := z_len, range := z_range, sum := z_sum, all := z_all, sorted := z_sorted, zip := z_zip, enumerate := z_enumerate } hmg (Bp.tab_mk (st := Bp.top 31) ?a ?l ?lc ?hv) ?kt
    (case a => k_is); (case l => k_is); (case lc => k_is); (case hv => rfl); (case kt => kernel_rfl)
  case S =>
    intro K Pt H xs a hO hn hwi hask hx
    cases hx with
    | cons h1 h2 =>
      cases h2
      cases h1 with
      | lst hs ha =>
        have e := L2.ints_dw a.1 _ ha
        subst e
        obtain ⟨rs, hA⟩ := Bp.asked_of (l := a.1) hask
        refine ⟨_, a.1, rs, rfl, Bp.seqT hn hs, hA, .inl L2.upd_same, fun H' p hp => ?_⟩
        have e : Codec.app PySem.Challenge.rw_barsandpages_s01_answers.args PySem.Challenge.rw_barsandpages_s01_answers.f a = Bp.run Sy31.start rs := hA.ans
        rw [e]
        exact .lst (L2.SqL.of hp) (L2.dw_ints _)
end
