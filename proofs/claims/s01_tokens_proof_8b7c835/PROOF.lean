import PyProof.Rows.All
import Wide.All
import OpenK.AllK
import Wide.FinOn
import PyProof.EqAt
import PyProof.EqKinds
import PyProof.TupleCall
import KE.BitLaws
import Open.SpecLaws
import KE.OsHead
import KE.OsGo
import KE.SpHead
import KE.OsShapes
import PyWrxthh
import PySem.Str
import OpenK.KMake
import OpenK.KCls
import PyProof.ExcBaseAll.Exception
import PyProof.RulesAs
import OpenK.KWalk
import PyProof.ExcArgsOwn
import PyProof.InstStoreFacts
import KE.KTryMore
import KE.RegKTryMore
import PySem.Challenge.RW_twigtext_s01_tokens
section
set_option Elab.async false
set_option linter.all false
set_option maxRecDepth 100000
/-! THE HAND LAYER, for ints, bools, texts, own classes, lists, tuples, dicts, comprehensions, walks over dicts, enumerate, zip, reversed, texts, calls, loops. Paste it whole ahead of your own text; what your proof does not reach may be deleted. -/
namespace L2
open PySem PySem.Spec PyProof.Rows

/-- a key: an int or a str -/
abbrev Key := Sum Int Str
def keyIs : Key → Value → Bool
  | .inl k, v => Value.isInt k v
  | .inr x, v => Value.isStrOf x v
def keyH (w : World) : Key → Int
  | .inl k => hashInt k
  | .inr x => hashStr w x
theorem keyIs_shape : ∀ {k : Key} {v : Value}, keyIs k v = true → (∃ i t, k = Sum.inl i ∧ v = Value.int i t) ∨ (∃ x t, k = Sum.inr x ∧ v = Value.str x t)
  | .inl i, v, h => by
    obtain ⟨t, e⟩ := Value.isInt_shape (k := i) (v := v) h
    exact .inl ⟨i, t, rfl, e⟩
  | .inr x, v, h => by
    obtain ⟨t, e⟩ := Value.isStrOf_shape (x := x) (v := v) h
    exact .inr ⟨x, t, rfl, e⟩
theorem key_ll (a b : Int) : decide ((Sum.inl a : Key) = Sum.inl b) = (a == b) := by
  by_cases e : a = b
  · subst e; simp
  · have h : ¬ (Sum.inl a : Key) = Sum.inl b := fun q => e (Sum.inl.inj q)
    rw [decide_eq_false h]
    exact (beq_eq_false_iff_ne.mpr e).symm
theorem key_rr (a b : Str) : decide ((Sum.inr a : Key) = Sum.inr b) = decide (a = b) := by
  by_cases e : a = b
  · subst e; simp
  · have h : ¬ (Sum.inr a : Key) = Sum.inr b := fun q => e (Sum.inr.inj q)
    rw [decide_eq_false h, decide_eq_false e]
theorem key_lr (a : Int) (b : Str) : decide ((Sum.inl a : Key) = Sum.inr b) = false := decide_eq_false (fun q => nomatch q)
theorem key_rl (a : Str) (b : Int) : decide ((Sum.inr a : Key) = Sum.inl b) = false := decide_eq_false (fun q => nomatch q)

def mixKind (prog : Program) (w : World) : PySem.KeyKind prog w Key where
  is := keyIs
  hash := keyH w
  inj := fun v a b ha hb => by
    rcases keyIs_shape ha with ⟨i, t, rfl, rfl⟩ | ⟨x, t, rfl, rfl⟩
    · rcases keyIs_shape hb with ⟨j, u, rfl, e⟩ | ⟨y, u, rfl, e⟩
      · injection e with e1 _; rw [e1]
      · exact nomatch e
    · rcases keyIs_shape hb with ⟨j, u, rfl, e⟩ | ⟨y, u, rfl, e⟩
      · exact nomatch e
      · injection e with e1 _; rw [e1]
  byValue := fun k v h => by
    rcases keyIs_shape h with ⟨i, t, rfl, rfl⟩ | ⟨x, t, rfl, rfl⟩ <;> rfl
  pyHash := fun hv h => by
    rcases keyIs_shape hv with ⟨i, t, rfl, rfl⟩ | ⟨x, t, rfl, rfl⟩
    · exact wpAny_pyHash_int h
    · exact wpAny_pyHash_str h
  eqBool := fun hu hv h => by
    rcases keyIs_shape hu with ⟨i, t, rfl, rfl⟩ | ⟨x, t, rfl, rfl⟩
    · rcases keyIs_shape hv with ⟨j, u, rfl, rfl⟩ | ⟨y, u, rfl, rfl⟩
      · rw [key_ll] at h; exact wpAny_eqBool_int h
      · rw [key_lr] at h; exact SeqAt.EqAt.int_str i t y u _ _ _ _ h
    · rcases keyIs_shape hv with ⟨j, u, rfl, rfl⟩ | ⟨y, u, rfl, rfl⟩
      · rw [key_rl] at h; exact SeqAt.EqAt.str_int x t j u _ _ _ _ h
      · rw [key_rr] at h; exact wpAny_eqBool_str h
  «strs» := fun k x t v h => by
    rcases keyIs_shape h with ⟨i, u, rfl, e⟩ | ⟨y, u, rfl, e⟩
    · exact nomatch e
    · injection e with e1 _
      subst e1
      cases v <;> rfl

end L2

namespace L2
open PySem PySem.Spec PyProof.Rows

/-- a value, without the heap -/
inductive V where
  | non | bl (b : Bool) | int (i : Int) | str (x : Str) | byt (b : Array UInt8) | flt (b : UInt64) | ref (a : Addr) | ty (n : String)
  deriving DecidableEq

def RelV : V → Value → Prop
  | .non, u => u = Value.none
  | .bl b, u => u = Value.bool b
  | .int i, u => ∃ t, u = Value.int i t
  | .str x, u => ∃ t, u = Value.str x t
  | .byt b, u => ∃ t, u = Value.bytes b t
  | .flt b, u => ∃ t, u = Value.float b t
  | .ref a, u => u = Value.ref a
  | .ty n, u => u = Value.type n

abbrev Vals : List V → List Value → Prop := Paired RelV
theorem Vals.length {xs : List V} {us : List Value} (r : Vals xs us) : xs.length = us.length := Paired.length r
theorem Vals.get : ∀ {xs : List V} {us : List Value} {i : Nat} {x : V}, Vals xs us → xs[i]? = some x → ∃ u, us[i]? = some u ∧ RelV x u
  | _, _, _, _, .nil, e => by simp at e
  | _, _, 0, _, .cons r _, e => by simp at e; subst e; exact ⟨_, rfl, r⟩
  | _, _, i + 1, x, .cons _ t, e => by
    obtain ⟨u, h1, h2⟩ := Vals.get (i := i) (x := x) t (by simpa using e)
    exact ⟨u, by simpa using h1, h2⟩
theorem Vals.set {x : V} {u : Value} (r : RelV x u) : ∀ {xs : List V} {us : List Value} (i : Nat), Vals xs us → Vals (xs.set i x) (us.set i u)
  | _, _, _, .nil => .nil
  | _, _, 0, .cons _ t => .cons r t
  | _, _, i + 1, .cons q t => .cons q (Vals.set r i t)
theorem Vals.append : ∀ {xs ys : List V} {us ws : List Value}, Vals xs us → Vals ys ws → Vals (xs ++ ys) (us ++ ws)
  | _, _, _, _, .nil, s => s
  | _, _, _, _, .cons r t, s => .cons r (Vals.append t s)
theorem Vals.take : ∀ {xs : List V} {us : List Value} (n : Nat), Vals xs us → Vals (xs.take n) (us.take n)
  | _, _, 0, _ => .nil
  | _, _, _ + 1, .nil => .nil
  | _, _, n + 1, .cons r t => .cons r (Vals.take n t)
theorem Vals.drop : ∀ {xs : List V} {us : List Value} (n : Nat), Vals xs us → Vals (xs.drop n) (us.drop n)
  | _, _, 0, r => r
  | _, _, _ + 1, .nil => .nil
  | _, _, n + 1, .cons _ t => Vals.drop n t

def RelO : Option V → Option Value → Prop
  | some v, some u => RelV v u
  | none, none => True
  | _, _ => False
def KV {κ : Type} : List (κ × V) → List (κ × Value) → Prop := Paired fun (p : κ × V) (q : κ × Value) => p.1 = q.1 ∧ RelV p.2 q.2

/-- a key of a dict (00_mix): an int or a text -/
def kV : Key → V
  | .inl i => .int i
  | .inr x => .str x

/-- what stands at a tracked address -/
inductive HO where
  /-- a list -/
  | lst (xs : List V)
  /-- a tuple (never changes) -/
  | tup (xs : List V)
  /-- a dict whose keys are ints and texts; one whose keys are tuples of ints and texts (the empty one is both) -/
  | dK (kvs : List (Key × V)) | dT (kvs : List (List Key × V))
  /-- a set of ints: its members, its size -/
  | set (S : Int → Bool) (n : Nat)
  /-- an instance of the class at C, its dict at dx, its attributes -/
  | ins (C dx : Addr) (fs : List (Str × V))
  /-- the dict of the instance at x -/
  | own (x : Addr)
  /-- the dict of an exception -/
  | xd (fs : List (Str × V))
  /-- a bound method, f of x -/
  | met (f x : Addr)
  /-- a range object lo, lo + 1, .. below hi -/
  | rng (lo hi : Int)
  /-- a thing that is known to the object (the script; a dict while a loop walks it): read, never written while it is so -/
  | frz (o : Obj) (u : HO)
  /-- a code object's table -/
  | tbl (ps : Array Value)
  /-- any other thing, by what is true of its one object (a def of one's own: SetO a S n := HO.ext fun h => ..) -/
  | ext (φ : Heap → Prop)

abbrev Hp := Addr → Option HO
def upd (H : Hp) (a : Addr) (o : HO) : Hp := fun b => if b = a then some o else H b
theorem upd_same {H : Hp} {a : Addr} {o : HO} : upd H a o a = some o := by unfold upd; rw [if_pos rfl]
theorem upd_ne {H : Hp} {a b : Addr} {o : HO} (h : b ≠ a) : upd H a o b = H b := by unfold upd; rw [if_neg h]
/-- two objects of different content stand apart -/
theorem ne_of {H : Hp} {a b : Addr} {o u : HO} (h : H a = some o) (h' : H b = some u) (d : o ≠ u) : a ≠ b := by
  intro e; subst e; rw [h] at h'; exact d (Option.some.inj h')
theorem ne_of_none {H : Hp} {a b : Addr} {o : HO} (h : H a = some o) (h' : H b = none) : a ≠ b := by
  intro e; subst e; rw [h] at h'; cases h'

section
variable (P : Program) (w : World)
def ObjOk (H : Hp) (h : Heap) (a : Addr) : HO → Prop
  | .lst xs => xs.length ≤ sizeLine ∧ ∃ (its : List Value) (n : Nat), Vals xs its ∧ h.get? a = some { cls := .type "list", data := .seq its.toArray n }
  | .tup xs => xs.length ≤ sizeLine ∧ ∃ its : List Value, Vals xs its ∧ IsTup h a its.toArray
  | .dK kvs => kvs.length ≤ sizeLine ∧ (a == sysModules) = false ∧ ∃ vs, KV kvs vs ∧ h.DictOf (mixKind P w) a vs
  | .dT kvs => kvs.length ≤ sizeLine ∧ (a == sysModules) = false ∧ ∃ xs : List (List Key × Addr × Value),
      Paired (fun (p : List Key × V) (q : List Key × Addr × Value) => p.1 = q.1 ∧ H q.2.1 = some (.tup (p.1.map kV)) ∧ RelV p.2 q.2.2) kvs xs ∧
      ∃ o es ep, h.get? a = some o ∧ o.ExactDict ∧ o.data = .dict es ep ∧ es.toList = xs.map (entryOfKey (tupleKind (mixKind P w))) ∧ (xs.map (·.1)).Nodup
  | .set S n => h.SetOf (intKind P w) a S n
  | .ins C dx fs => H dx = some (.own a) ∧ fs.length ≤ 1000 ∧ dx ≠ a ∧ h.get? a = some (PySem.W.instObj C dx) ∧
      ∃ mA, h.Ns1 dx mA ∧ (∀ f, RelO (fs.lookup f) (mA f)) ∧ PySem.Within mA (fs.map (·.1))
  | .own _ => ∃ o, h.get? a = some o
  | .xd fs => ∃ mA, h.Ns1 a mA ∧ ∀ f, RelO (fs.lookup f) (mA f)
  | .rng lo hi => ∃ t u v, h.get? a = some { cls := .type "range", data := .fields #[.int lo t, .int hi u, .int 1 v] }
  | .frz o u => h.get? a = some o ∧ ObjOk H h a u
  | .tbl ps => h.get? a = some { cls := .none, data := .fields ps }
  | .met f x => h.get? a = some (PySem.W.methodObj (.ref f) (.ref x))
  | .ext φ => φ h ∧ (∃ o, h.get? a = some o) ∧ ∀ h1 h2 : Heap, φ h1 → (∀ o, h1.get? a = some o → h2.get? a = some o) → φ h2
/-- the abstract heap is held -/
def HOk (H : Hp) (h : Heap) : Prop := ∀ a o, H a = some o → ObjOk P w H h a o
end

section
variable {P : Program} {w : World} {H H' : Hp} {h h' : Heap} {a : Addr} {o : HO}
theorem ObjOk.lt (x : ObjOk P w H h a o) : a < h.objs.size := by
  cases o with
  | lst xs => obtain ⟨_, _, _, _, e⟩ := x; exact Heap.lt_size e
  | tup xs => obtain ⟨_, _, _, p⟩ := x; exact p.lt
  | dK kvs => obtain ⟨_, _, _, _, o, _, _, e, _⟩ := x; exact Heap.lt_size e
  | dT kvs => obtain ⟨_, _, _, _, o, _, _, e, _⟩ := x; exact Heap.lt_size e
  | set S n => obtain ⟨o, _, _, _, e, _⟩ := x; exact Heap.lt_size e
  | ins C dx fs => obtain ⟨_, _, _, e, _⟩ := x; exact Heap.lt_size e
  | own y => obtain ⟨_, e⟩ := x; exact Heap.lt_size e
  | xd fs => obtain ⟨_, ⟨_, _, _, e, _⟩, _⟩ := x; exact Heap.lt_size e
  | rng lo hi => obtain ⟨_, _, _, e⟩ := x; exact Heap.lt_size e
  | frz ob u => obtain ⟨e, _⟩ := x; exact Heap.lt_size e
  | tbl ps => exact Heap.lt_size (show h.get? a = some _ from x)
  | met f y => exact Heap.lt_size (show h.get? a = some _ from x)
  | ext φ => obtain ⟨_, ⟨_, e⟩, _⟩ := x; exact Heap.lt_size e
theorem Paired.mapP {α β : Type} {F G : α → β → Prop} : ∀ {l₁ : List α} {l₂ : List β}, Paired F l₁ l₂ → (∀ a b, F a b → G a b) → Paired G l₁ l₂
  | _, _, .nil, _ => .nil
  | _, _, .cons r t, f => .cons (f _ _ r) (Paired.mapP t f)
theorem Paired.imp' {α β : Type} {F G : α → β → Prop} (f : ∀ a b, F a b → G a b) {l₁ : List α} {l₂ : List β} (r : Paired F l₁ l₂) : Paired G l₁ l₂ := Paired.mapP r f
/-- what an object's description leans on: its own object, its own dict, the tuples -/
theorem ObjOk.stay (x : ObjOk P w H h a o) (k : ∀ b u, (b = a ∨ H b = some (.own a)) → h.get? b = some u → h'.get? b = some u)
    (ho : ∀ b, H b = some (.own a) → H' b = some (.own a)) (ht : ∀ b xs, H b = some (.tup xs) → H' b = some (.tup xs)) : ObjOk P w H' h' a o := by
  induction o with
  | lst xs => obtain ⟨z, its, n, r, e⟩ := x; exact ⟨z, its, n, r, k _ _ (.inl rfl) e⟩
  | tup xs => obtain ⟨z, its, r, ob, e, c⟩ := x; exact ⟨z, its, r, ob, k _ _ (.inl rfl) e, c⟩
  | dK kvs => obtain ⟨z, y, vs, r, ob, es, ep, e, c⟩ := x; exact ⟨z, y, vs, r, ob, es, ep, k _ _ (.inl rfl) e, c⟩
  | dT kvs =>
    obtain ⟨z, y, xs, r, ob, es, ep, e, c⟩ := x
    exact ⟨z, y, xs, Paired.mapP r fun p q z => ⟨z.1, ht _ _ z.2.1, z.2.2⟩, ob, es, ep, k _ _ (.inl rfl) e, c⟩
  | set S n => obtain ⟨ob, es, ep, t, e, c⟩ := x; exact ⟨ob, es, ep, t, k _ _ (.inl rfl) e, c⟩
  | ins C dx fs =>
    obtain ⟨d, z, ne, e, mA, ⟨od, es, ep, e2, c⟩, r⟩ := x
    exact ⟨ho _ d, z, ne, k _ _ (.inl rfl) e, mA, ⟨od, es, ep, k _ _ (.inr d) e2, c⟩, r⟩
  | own y => obtain ⟨ob, e⟩ := x; exact ⟨ob, k _ _ (.inl rfl) e⟩
  | xd fs => obtain ⟨mA, ⟨od, es, ep, e, c⟩, r⟩ := x; exact ⟨mA, ⟨od, es, ep, k _ _ (.inl rfl) e, c⟩, r⟩
  | rng lo hi => obtain ⟨t, u, v, e⟩ := x; exact ⟨t, u, v, k _ _ (.inl rfl) e⟩
  | frz ob u ih => obtain ⟨e, q⟩ := x; exact ⟨k _ _ (.inl rfl) e, ih q⟩
  | tbl ps =>
    have e : h.get? a = some { cls := .none, data := .fields ps } := x
    show h'.get? a = some { cls := .none, data := .fields ps }
    exact k a _ (.inl rfl) e
  | met f y =>
    have e : h.get? a = some (PySem.W.methodObj (.ref f) (.ref y)) := x
    show h'.get? a = some (PySem.W.methodObj (.ref f) (.ref y))
    exact k a _ (.inl rfl) e
  | ext φ => obtain ⟨p, ⟨o, e⟩, st⟩ := x; exact ⟨st _ _ p fun o q => k _ _ (.inl rfl) q, ⟨o, k _ _ (.inl rfl) e⟩, st⟩
theorem HOk.lt (x : HOk P w H h) (e : H a = some o) : a < h.objs.size := (x a o e).lt
theorem HOk.fresh (x : HOk P w H h) (e : h.objs.size ≤ a) : H a = none := by
  cases q : H a with
  | none => rfl
  | some u => exact absurd (Nat.lt_of_lt_of_le (x.lt q) e) (Nat.lt_irrefl _)
/-- every object of the heap is kept -/
theorem HOk.kept (x : HOk P w H h) (k : ∀ b u, h.get? b = some u → h'.get? b = some u) : HOk P w H h' := fun a o e =>
  (x a o e).stay (fun b u _ q => k b u q) (fun _ q => q) fun _ _ q => q
/-- a new object is laid and tracked -/
theorem HOk.laid (x : HOk P w H h) (k : ∀ b u, h.get? b = some u → h'.get? b = some u) (hp : h.objs.size ≤ a) (new : ObjOk P w (upd H a o) h' a o) : HOk P w (upd H a o) h' := fun b u e => by
  have hn := x.fresh hp
  by_cases hb : b = a
  · subst hb; rw [upd_same] at e; cases e; exact new
  · rw [upd_ne hb] at e
    exact (x b u e).stay (fun c v _ q => k c v q) (fun c q => by rw [upd_ne (ne_of_none q hn)]; exact q) fun c xs q => by rw [upd_ne (ne_of_none q hn)]; exact q
end

/-- what may be read as u: it is u, or a known u -/
def Rd (H : Hp) (a : Addr) (u : HO) : Prop := H a = some u ∨ ∃ o, H a = some (.frz o u)
theorem Rd.ok {P : Program} {w : World} {H : Hp} {h : Heap} {a : Addr} {u : HO} (r : Rd H a u) (x : HOk P w H h) : ObjOk P w H h a u := by
  rcases r with r | ⟨o, r⟩
  · exact x a u r
  · obtain ⟨_, q⟩ := x a _ r
    exact q
/-- what may be written -/
def Mut : Option HO → Prop
  | some (.lst _) => True
  | some (.dK _) => True
  | some (.dT _) => True
  | some (.set _ _) => True
  | some (.ins _ _ _) => True
  | some (.ext _) => True
  | _ => False
section
variable {P : Program} {w : World} {H : Hp} {h h' : Heap} {x e : Addr} {o' : HO}
/-- the object at e is changed: x itself, or the dict of the instance x -/
theorem HOk.write (ok : HOk P w H h) (mu : Mut (H x)) (he : e = x ∨ H e = some (.own x)) (k : ∀ b u, b ≠ e → h.get? b = some u → h'.get? b = some u) (heo : ∃ u, h'.get? e = some u)
    (new : ObjOk P w (upd H x o') h' x o') : HOk P w (upd H x o') h' := fun b u q => by
  have nown : ∀ c y, H c = some (.own y) → c ≠ x := fun c y r z => by subst z; rw [r] at mu; exact mu
  have ntup : ∀ c xs, H c = some (.tup xs) → c ≠ x := fun c xs r z => by subst z; rw [r] at mu; exact mu
  by_cases hb : b = x
  · subst hb; rw [upd_same] at q; cases q; exact new
  · rw [upd_ne hb] at q
    by_cases hbe : b = e
    · have q' : H b = some (.own x) := by
        rcases he with z | z
        · exact absurd (hbe.trans z) hb
        · rw [hbe]; exact z
      rw [q] at q'; cases q'
      obtain ⟨v, hv⟩ := heo
      exact ⟨v, by rw [hbe]; exact hv⟩
    · refine (ok b u q).stay (fun c v hc r => k c v ?_ r) (fun c r => by rw [upd_ne (nown c b r)]; exact r) fun c xs r => by rw [upd_ne (ntup c xs r)]; exact r
      rcases hc with rfl | hc
      · exact hbe
      · rintro rfl
        rcases he with z | z
        · exact nown c b hc z
        · rw [hc] at z; cases z; exact hb rfl
end

/-! ### kept unless tracked; of the frames at fs (the callers') the slots may change (an exception that passes writes there); of the records at ex (iterators) nothing is said -/
structure Un (fs ex : List Addr) (H H' : Hp) (h h' : Heap) : Prop where
  keep : ∀ b o, h.get? b = some o → H b = none → b ∉ fs → b ∉ ex → h'.get? b = some o
  slot : ∀ b o, h.get? b = some o → H b = none → b ∈ fs → b ∉ ex → ∃ sl, h'.get? b = some { o with slots := sl }
  free : ∀ b o, h.get? b = some o → H b = none → b ∉ ex → H' b = none
  there : ∀ b o, h.get? b = some o → b ∉ ex → ∃ o', h'.get? b = some o'
  tups : ∀ b xs, H b = some (.tup xs) → H' b = some (.tup xs)
  frzs : ∀ b o u, H b = some (.frz o u) → H' b = some (.frz o u)
  tbls : ∀ b ps, H b = some (.tbl ps) → ∃ more, H' b = some (.tbl (ps ++ more))
section
variable {fs fs' ex ex' : List Addr} {H H1 H2 : Hp} {h h1 h2 h' : Heap} {a x e : Addr} {o : HO}
theorem Un.any (u : Un fs ex H H1 h h1) {b : Addr} {ob : Obj} (q : h.get? b = some ob) (n : H b = none) (hx : b ∉ ex) : ∃ sl, h1.get? b = some { ob with slots := sl } := by
  by_cases hb : b ∈ fs
  · exact u.slot b ob q n hb hx
  · exact ⟨ob.slots, u.keep b ob q n hb hx⟩
theorem Un.trans (a : Un fs ex H H1 h h1) (b : Un fs ex H1 H2 h1 h2) : Un fs ex H H2 h h2 where
  keep := fun c ob q n hc hx => b.keep c ob (a.keep c ob q n hc hx) (a.free c ob q n hx) hc hx
  slot := fun c ob q n hc hx => by
    obtain ⟨sl, e1⟩ := a.slot c ob q n hc hx
    obtain ⟨sl', e2⟩ := b.slot c _ e1 (a.free c ob q n hx) hc hx
    exact ⟨sl', e2⟩
  free := fun c ob q n hx => by
    obtain ⟨o', e1⟩ := a.there c ob q hx
    exact b.free c o' e1 (a.free c ob q n hx) hx
  there := fun c ob q hx => by
    obtain ⟨o', e1⟩ := a.there c ob q hx
    exact b.there c o' e1 hx
  tups := fun c xs q => b.tups c xs (a.tups c xs q)
  frzs := fun c ob xs q => b.frzs c ob xs (a.frzs c ob xs q)
  tbls := fun c ps q => by
    obtain ⟨m1, e1⟩ := a.tbls c ps q
    obtain ⟨m2, e2⟩ := b.tbls c _ e1
    exact ⟨m1 ++ m2, by rw [e2, Array.append_assoc]⟩
theorem Un.kept (k : ∀ b u, h.get? b = some u → h'.get? b = some u) : Un fs ex H H h h' :=
  ⟨fun b ob q _ _ _ => k b ob q, fun b ob q _ _ _ => ⟨ob.slots, k b ob q⟩, fun _ _ _ n _ => n, fun b ob q _ => ⟨ob, k b ob q⟩, fun _ _ q => q, fun _ _ _ q => q, fun _ ps q => ⟨#[], by rw [q]; simp⟩⟩
theorem Un.refl : Un fs ex H H h h := Un.kept fun _ _ q => q
theorem Un.laid (k : ∀ b u, h.get? b = some u → h'.get? b = some u) (hp : h.objs.size ≤ a) (hn : H a = none) : Un fs ex H (upd H a o) h h' where
  keep := fun b u q _ _ _ => k b u q
  slot := fun b u q _ _ _ => ⟨u.slots, k b u q⟩
  free := fun b u q n _ => by rw [upd_ne (Nat.ne_of_lt (Nat.lt_of_lt_of_le (Heap.lt_size q) hp))]; exact n
  there := fun b u q _ => ⟨u, k b u q⟩
  tups := fun b xs q => by rw [upd_ne (ne_of_none q hn)]; exact q
  frzs := fun b u xs q => by rw [upd_ne (ne_of_none q hn)]; exact q
  tbls := fun b ps q => ⟨#[], by rw [upd_ne (ne_of_none q hn), q]; simp⟩
theorem Un.write (mu : Mut (H x)) (he : e = x ∨ H e = some (.own x)) (k : ∀ b u, b ≠ e → h.get? b = some u → h'.get? b = some u) (heo : ∃ u, h'.get? e = some u) : Un fs ex H (upd H x o) h h' := by
  have hx : ∀ b, H b = none → b ≠ x := fun b n z => by subst z; rw [n] at mu; exact mu
  have hb : ∀ b, H b = none → b ≠ e := fun b n z => by
    subst z
    rcases he with r | r
    · exact hx b n r
    · rw [n] at r; cases r
  have hm : ∀ b u, H b = some u → ¬ Mut (some u) → b ≠ x := fun b u q nm z => by subst z; rw [q] at mu; exact nm mu
  refine ⟨fun b u q n _ _ => k b u (hb b n) q, fun b u q n _ _ => ⟨u.slots, k b u (hb b n) q⟩, fun b u q n _ => by rw [upd_ne (hx b n)]; exact n, fun b u q _ => ?_,
    fun b xs q => by rw [upd_ne (hm b _ q fun z => z)]; exact q, fun b u xs q => by rw [upd_ne (hm b _ q fun z => z)]; exact q, fun b ps q => ⟨#[], by rw [upd_ne (hm b _ q fun z => z), q]; simp⟩⟩
  by_cases hbe : b = e
  · subst hbe; exact heo
  · exact ⟨u, k b u hbe q⟩
end

/-! ### the heap without what is tracked -/
def trk (h : Heap) (H : Hp) : List Addr := (List.range h.objs.size).filter fun a => (H a).isSome
def hidT (h : Heap) (H : Hp) : Heap := PySem.W.hideAll h (trk h H)
theorem hidT_size (h : Heap) (H : Hp) : (hidT h H).objs.size = h.objs.size := PySem.W.hideAll_size _ _
theorem hidT_get {h : Heap} {H : Hp} {b : Addr} {o : Obj} (e : h.get? b = some o) (n : H b = none) : (hidT h H).get? b = some o :=
  PySem.W.hideAll_get _ e fun hm => by
    have q : (H b).isSome = true := (List.mem_filter.mp hm).2
    rw [n] at q; simp at q
theorem of_hidT {h : Heap} {H : Hp} {b : Addr} {o : Obj} (e : (hidT h H).get? b = some o) : h.get? b = some o ∧ H b = none := by
  have e' : h.get? b = some o := PySem.W.of_hideAll (trk h H) e
  refine ⟨e', ?_⟩
  cases q : H b with
  | none => rfl
  | some x =>
    have hm : b ∈ trk h H := List.mem_filter.mpr ⟨List.mem_range.mpr (Heap.lt_size e'), by simp [q]⟩
    have z : (hidT h H).get? b = none := PySem.W.hideAll_none (trk h H) hm
    rw [z] at e; cases e

/-! ### OpenK's ledger, filled with every new object but one -/
def allNews (g h : Heap) (L : Addr) : List (Addr × Obj) := (List.range h.objs.size).filterMap fun a => if a = L ∨ (g.get? a).isSome = true then none else (h.get? a).map fun o => (a, o)
def rest (g h : Heap) (L d : Addr) : List (Addr × Obj) := (allNews g h L).filter fun p => decide (p.1 ≠ d)
end L2

namespace L2
open PySem PySem.Spec PyProof.Rows

/-- the module's facts, over the base: the heap at the law's entry without what is tracked there -/
structure Mod (K : PySem.W.Frag) (mg : Str → Option Value) (base : Heap) : Prop where
  kin : K.In base
  glob : base.Ns mainGlobals mg
  blt : ∃ mb, base.Ns builtinsNs mb ∧ ∀ x : Str, x ≠ "__name__" → mb x = bootBuiltins x
  nolimit : base.NoLimit

/-- the context: a def's body (or a comprehension's block) running. base: fixed through the whole law; s₀, H₀: the entry; outer: the frames whose slots others may change (a def's callers); stack: all frames that run;
   ex: iterators that were made ahead of the entry and are walked here (a comprehension's); fn: the names whose cells were made at the entry (a def: all; a comprehension's block: its own); calm: not within an except suite; pn: pins that every state bears; xe: what is wanted of an exception that leaves the code -/
structure Cx where
  prog : Program
  w : World
  K : PySem.W.Frag
  mg : Str → Option Value
  base : Heap
  A : Around
  N : List Str
  s_0 : Shared
  H_0 : Hp
  env : Env
  outer : List Env
  stack : List Env
  ex : List Addr
  fn : Str → Bool
  calm : Bool
  pn : List (Addr × Obj)
  xe : Value → Shared → Prop
/-- the callers' frames -/
def frs (l : List Env) : List Addr := l.filterMap (·.frame)
abbrev Cx.fs (X : Cx) : List Addr := frs X.outer

def Vis (sc : Scope) (x : Str) : Prop := sc.names.lookup x = some .local ∨ sc.names.lookup x = some .cell ∨ sc.names.lookup x = some .free
def Loc (sc : Scope) (x : Str) : Prop := sc.names.lookup x = some .local ∨ sc.names.lookup x = some .cell
def Look (env : Env) (h : Heap) (m : Str → Option Value) (x : Str) (u : Value) : Prop :=
  (env.kindOf x = some .local ∧ m x = some u) ∨ ((env.kindOf x = some .cell ∨ env.kindOf x = some .free) ∧ ∃ c, env.cells.lookup x = some c ∧ h.IsCell c (some u))

structure Cx.Ok (X : Cx) : Prop where
  mod : Mod X.K X.mg X.base
  kind : X.env.scope.kind = .function
  glob : X.env.globals = mainGlobals
  blt : X.env.builtins = builtinsNs
  above : X.s_0.heap.objs.size ≤ X.env.locals
  inj : ∀ x y c, X.env.cells.lookup x = some c → X.env.cells.lookup y = some c → x = y
  has : ∀ x, (X.env.kindOf x = some .cell ∨ X.env.kindOf x = some .free) → ∃ c, X.env.cells.lookup x = some c
  cab : ∀ x c, X.fn x = true → X.env.cells.lookup x = some c → X.s_0.heap.objs.size ≤ c
  hd : X.calm = true → X.A.handled = none
  frames : X.A.frames = some X.stack
  stk : X.stack = X.outer ∨ (X.stack = X.env :: X.outer ∧ X.env.frame = some X.env.locals)
  exf : ∀ b ∈ X.ex, b ≠ X.env.locals ∧ ∀ x c, X.env.cells.lookup x = some c → c ≠ b
  bs : ∀ b o, X.base.get? b = some o → X.s_0.heap.get? b = some o ∧ X.H_0 b = none
  bsz : X.base.objs.size ≤ X.s_0.heap.objs.size
  noex : ∀ b o, X.base.get? b = some o → b ∉ X.ex
  exfs : ∀ b ∈ X.ex, b ∉ X.fs
  funs : X.s_0.heap.FunFrames X.base X.outer
  frf : ∀ b ∈ X.fs, X.H_0 b = none

structure Inv (X : Cx) (pins : List (Addr × Obj)) (σ : List (Option V)) (H : Hp) (s : Shared) : Prop where
  ok : X.Ok
  os : s.os = X.s_0.os
  bare : AllBare s.gens
  base : Un X.fs X.ex X.H_0 H X.s_0.heap s.heap
  loc : ∃ m, s.heap.Ns X.env.locals m ∧ ∀ (i : Nat) (x : Str) (v : V), X.N[i]? = some x → σ[i]? = some (some v) → Vis X.env.scope x → ∃ u, RelV v u ∧ Look X.env s.heap m x u
  cell : ∀ x c, X.env.cells.lookup x = some c → ∃ v, s.heap.IsCell c v
  free : H X.env.locals = none
  freeC : ∀ x c, X.env.cells.lookup x = some c → H c = none
  pin : ∀ p ∈ X.pn ++ pins, s.heap.get? p.1 = some p.2 ∧ H p.1 = none ∧ p.1 ≠ X.env.locals ∧ p.1 ∉ X.fs ∧ ∀ v, p.2.data ≠ .cell v
  hok : HOk X.prog X.w H s.heap
  len : σ.length = X.N.length

section
variable {X : Cx} {pins : List (Addr × Obj)} {σ : List (Option V)} {H H' : Hp} {s : Shared} {h' : Heap}

theorem Cx.Ok.nofr (ok : X.Ok) {b : Addr} {o : Obj} (e : X.base.get? b = some o) : b ∉ X.fs := fun hb => by
  have := (ok.funs.mem hb).1
  rw [e] at this; cases this
theorem Inv.bs (I : Inv X pins σ H s) : ∀ b o, X.base.get? b = some o → s.heap.get? b = some o ∧ H b = none := fun b o e =>
  ⟨I.base.keep b o (I.ok.bs b o e).1 (I.ok.bs b o e).2 (I.ok.nofr e) (I.ok.noex b o e), I.base.free b o (I.ok.bs b o e).1 (I.ok.bs b o e).2 (I.ok.noex b o e)⟩
theorem Inv.bk (I : Inv X pins σ H s) : ∀ b o, X.base.get? b = some o → s.heap.get? b = some o := fun b o e => (I.bs b o e).1
theorem Inv.mod (I : Inv X pins σ H s) : Mod X.K X.mg X.base := I.ok.mod
theorem Inv.kIn (I : Inv X pins σ H s) : X.K.In s.heap := I.ok.mod.kin.keeps I.bk
theorem Inv.lt (I : Inv X pins σ H s) : X.env.locals < s.heap.objs.size := let ⟨_, hn, _⟩ := I.loc; hn.lt
theorem Inv.sz (I : Inv X pins σ H s) : X.s_0.heap.objs.size ≤ s.heap.objs.size := Nat.le_trans I.ok.above (Nat.le_of_lt I.lt)
theorem Inv.nofs (I : Inv X pins σ H s) {a : Addr} (h : s.heap.objs.size ≤ a) : a ∉ X.fs := fun hb => by
  obtain ⟨_, o, ho, _⟩ := I.ok.funs.mem hb
  exact absurd (Nat.lt_of_lt_of_le (Heap.lt_size ho) (Nat.le_trans I.sz h)) (Nat.lt_irrefl _)
theorem Inv.cne (I : Inv X pins σ H s) : ∀ x c, X.env.cells.lookup x = some c → c ≠ X.env.locals := fun x c e z => by
  obtain ⟨v, o, ho, hd⟩ := I.cell x c e
  obtain ⟨m, ⟨o', es, ep, ho', hd', _⟩, _⟩ := I.loc
  rw [z, ho'] at ho; cases ho; rw [hd'] at hd; cases hd
theorem Inv.funs (I : Inv X pins σ H s) : s.heap.FunFrames X.base X.outer := by
  have all : ∀ (l : List Env), (∀ b ∈ frs l, b ∈ X.fs) → X.s_0.heap.FunFrames X.base l → s.heap.FunFrames X.base l := by
    intro l
    induction l with
    | nil => intro _ _; trivial
    | cons env r ih =>
      intro hs hl
      obtain ⟨hk, ⟨L, o, hf, hn, ho, hd⟩, hr⟩ := hl
      have hL : L ∈ X.fs := hs L (by unfold frs; rw [List.filterMap_cons, hf]; exact List.mem_cons_self)
      obtain ⟨sl, e⟩ := I.base.slot L o ho (I.ok.frf L hL) hL fun z => I.ok.exfs L z hL
      exact ⟨hk, ⟨L, _, hf, hn, e, hd⟩, ih (fun b hb => hs b (by unfold frs; rw [List.filterMap_cons, hf]; exact List.mem_cons_of_mem _ hb)) hr⟩
  exact all X.outer (fun _ hb => hb) I.ok.funs

/-- the frames that run, for a call -/
theorem Inv.stack (I : Inv X pins σ H s) : s.heap.FunFrames X.base X.stack := by
  rcases I.ok.stk with e | ⟨e, hf⟩
  · rw [e]; exact I.funs
  · rw [e]
    obtain ⟨m, hn, _⟩ := I.loc
    refine .cons (by rw [I.ok.kind]; decide) hf hn ?_ I.funs
    exact Heap.get?_none_of_le (Nat.le_trans I.ok.bsz I.ok.above)
theorem Inv.stkSub (I : Inv X pins σ H s) : ∀ b ∈ frs X.stack, b ∈ X.env.locals :: X.fs := fun b hb => by
  rcases I.ok.stk with e | ⟨e, hf⟩
  · rw [e] at hb; exact List.mem_cons_of_mem _ hb
  · rw [e] at hb
    unfold frs at hb
    rw [List.filterMap_cons, hf] at hb
    exact hb
theorem Inv.stkFree (I : Inv X pins σ H s) : ∀ b ∈ frs X.stack, H b = none := fun b hb => by
  rcases List.mem_cons.mp (I.stkSub b hb) with e | hb
  · rw [e]; exact I.free
  · obtain ⟨_, o, ho, _⟩ := I.ok.funs.mem hb
    exact I.base.free b o ho (I.ok.frf b hb) fun z => I.ok.exfs b z hb

/-- THE STEP: the untracked objects but the frame and the records at ch are kept (the callers' frames up to slots), the frame's map is kept, the new abstract heap is held -/
theorem Inv.step {g' : Array GenState} {t' : Nat} {d' : Drawn} {ch : List Addr} (I : Inv X pins σ H s)
    (hch : ∀ b ∈ ch, (b ∈ X.ex ∨ X.s_0.heap.objs.size ≤ b) ∧ b ≠ X.env.locals ∧ (∀ x c, X.env.cells.lookup x = some c → c ≠ b) ∧ ∀ p ∈ X.pn ++ pins, p.1 ≠ b)
    (keep : ∀ b o, b ≠ X.env.locals → b ∉ X.fs → b ∉ ch → s.heap.get? b = some o → H b = none → h'.get? b = some o)
    (slot : ∀ b o, b ≠ X.env.locals → b ∈ X.fs → b ∉ ch → s.heap.get? b = some o → H b = none → ∃ sl, h'.get? b = some { o with slots := sl }) (free : ∀ b o, b ∉ ch → s.heap.get? b = some o → H b = none → H' b = none)
    (there : ∀ b o, b ∉ ch → s.heap.get? b = some o → ∃ o', h'.get? b = some o')
    (tups : ∀ b xs, H b = some (.tup xs) → H' b = some (.tup xs)) (frzs : ∀ b o u, H b = some (.frz o u) → H' b = some (.frz o u)) (tbls : ∀ b ps, H b = some (.tbl ps) → ∃ more, H' b = some (.tbl (ps ++ more)))
    (ns : ∀ m, s.heap.Ns X.env.locals m → h'.Ns X.env.locals m) (hok : HOk X.prog X.w H' h') (hg : AllBare g') :
    Inv X pins σ H' { s with heap := h', gens := g', drawn := d', toks := t' } := by
  have neL : ∀ b o, X.s_0.heap.get? b = some o → b ≠ X.env.locals := fun b o e => Nat.ne_of_lt (Nat.lt_of_lt_of_le (Heap.lt_size e) I.ok.above)
  have neC : ∀ b o, X.s_0.heap.get? b = some o → b ∉ X.ex → b ∉ ch := fun b o e hx hb => by
    rcases (hch b hb).1 with z | z
    · exact hx z
    · exact absurd (Nat.lt_of_lt_of_le (Heap.lt_size e) z) (Nat.lt_irrefl _)
  have cellK : ∀ x c, X.env.cells.lookup x = some c → ∀ v, s.heap.IsCell c v → h'.IsCell c v := fun x c e v ⟨o, ho, hd⟩ => by
    have nch : c ∉ ch := fun z => (hch c z).2.2.1 x c e rfl
    by_cases hc : c ∈ X.fs
    · obtain ⟨sl, q⟩ := slot c o (I.cne x c e) hc nch ho (I.freeC x c e)
      exact ⟨_, q, hd⟩
    · exact ⟨o, keep c o (I.cne x c e) hc nch ho (I.freeC x c e), hd⟩
  refine ⟨I.ok, I.os, hg, ⟨fun b o e n hb hx => ?_, fun b o e n hb hx => ?_, fun b o e n hx => ?_, fun b o e hx => ?_, fun b xs e => tups b xs (I.base.tups b xs e), fun b o xs e => frzs b o xs (I.base.frzs b o xs e), fun b ps e => ?_⟩, ?_, fun x c e => ?_, ?_, fun x c e => ?_, fun p hp => ?_, hok, I.len⟩
  · exact keep b o (neL b o e) hb (neC b o e hx) (I.base.keep b o e n hb hx) (I.base.free b o e n hx)
  · obtain ⟨sl, e1⟩ := I.base.slot b o e n hb hx
    obtain ⟨sl', e2⟩ := slot b _ (neL b o e) hb (neC b o e hx) e1 (I.base.free b o e n hx)
    exact ⟨sl', e2⟩
  · obtain ⟨o', e1⟩ := I.base.there b o e hx
    exact free b o' (neC b o e hx) e1 (I.base.free b o e n hx)
  · obtain ⟨o', e1⟩ := I.base.there b o e hx
    exact there b o' (neC b o e hx) e1
  · obtain ⟨m1, e1⟩ := I.base.tbls b ps e
    obtain ⟨m2, e2⟩ := tbls b _ e1
    exact ⟨m1 ++ m2, by rw [e2, Array.append_assoc]⟩
  · obtain ⟨m, hn, hl⟩ := I.loc
    refine ⟨m, ns m hn, fun i x v e1 e2 e3 => ?_⟩
    obtain ⟨u, r, l⟩ := hl i x v e1 e2 e3
    refine ⟨u, r, ?_⟩
    rcases l with l | ⟨k, c, e, z⟩
    · exact .inl l
    · exact .inr ⟨k, c, e, cellK x c e _ z⟩
  · obtain ⟨v, z⟩ := I.cell x c e
    exact ⟨v, cellK x c e v z⟩
  · obtain ⟨m, ⟨o, _, _, ho, _⟩, _⟩ := I.loc
    exact free _ o (fun z => (hch _ z).2.1 rfl) ho I.free
  · obtain ⟨v, o, ho, hd⟩ := I.cell x c e
    exact free c o (fun z => (hch c z).2.2.1 x c e rfl) ho (I.freeC x c e)
  · obtain ⟨e, n, ne, nf, d⟩ := I.pin p hp
    have nch : p.1 ∉ ch := fun z => (hch p.1 z).2.2.2 p hp rfl
    exact ⟨keep p.1 p.2 ne nf nch e n, free p.1 p.2 nch e n, ne, nf, d⟩
/-- .. where the frame's own object is kept too -/
theorem Inv.un {t' : Nat} (I : Inv X pins σ H s) (u : Un X.fs [] H H' s.heap h') (hok : HOk X.prog X.w H' h') : Inv X pins σ H' { s with heap := h', toks := t' } := by
  obtain ⟨m, ⟨o, es, ep, ho, r⟩, _⟩ := id I.loc
  obtain ⟨sl, hL⟩ := u.any ho I.free (by simp)
  exact I.step (g' := s.gens) (d' := s.drawn) (ch := []) (fun _ z => nomatch z) (fun b o _ hb _ e n => u.keep b o e n hb (by simp)) (fun b o _ hb _ e n => u.slot b o e n hb (by simp)) (fun b o _ e n => u.free b o e n (by simp)) (fun b o _ e => u.there b o e (by simp)) u.tups u.frzs u.tbls (fun m' hm => by
    obtain ⟨o', es', ep', ho', r'⟩ := hm
    rw [ho] at ho'; cases ho'
    exact ⟨_, es', ep', hL, r'⟩) hok I.bare
/-- behind a call (or a comprehension's block): the slots of this frame may have changed too, the records at ch may have turned -/
theorem Inv.call {g' : Array GenState} {t' : Nat} {d' : Drawn} {ch : List Addr} (I : Inv X pins σ H s) (u : Un (frs X.stack) ch H H' s.heap h') (hok : HOk X.prog X.w H' h') (hg : AllBare g')
    (hch : ∀ b ∈ ch, (b ∈ X.ex ∨ X.s_0.heap.objs.size ≤ b) ∧ b ≠ X.env.locals ∧ (∀ x c, X.env.cells.lookup x = some c → c ≠ b) ∧ ∀ p ∈ X.pn ++ pins, p.1 ≠ b) :
    Inv X pins σ H' { s with heap := h', gens := g', drawn := d', toks := t' } := by
  obtain ⟨m, ⟨o, es, ep, ho, r⟩, _⟩ := id I.loc
  obtain ⟨sl, hL⟩ := u.any ho I.free fun z => (hch _ z).2.1 rfl
  exact I.step (ch := ch) hch (fun b o hL hb hc e n => u.keep b o e n (fun z => (List.mem_cons.mp (I.stkSub b z)).elim hL hb) hc) (fun b o _ _ hc e n => u.any e n hc) (fun b o hc e n => u.free b o e n hc) (fun b o hc e => u.there b o e hc) u.tups u.frzs u.tbls (fun m' hm => by
    obtain ⟨o', es', ep', ho', r'⟩ := hm
    rw [ho] at ho'; cases ho'
    exact ⟨_, es', ep', hL, r'⟩) hok hg
/-- an untracked record of ours (an iterator) has turned -/
theorem Inv.turned {t' : Nat} {it : Addr} (I : Inv X pins σ H s) (k : ∀ b o, b ≠ it → s.heap.get? b = some o → h'.get? b = some o) (hn : H it = none) (hL : it ≠ X.env.locals)
    (h1 : it ∈ X.ex ∨ X.s_0.heap.objs.size ≤ it) (h2 : ∀ x c, X.env.cells.lookup x = some c → c ≠ it) (h3 : ∀ p ∈ X.pn ++ pins, p.1 ≠ it) : Inv X pins σ H { s with heap := h', toks := t' } := by
  have nit : ∀ b u, H b = some u → b ≠ it := fun b u e z => by rw [z, hn] at e; cases e
  refine I.step (g' := s.gens) (d' := s.drawn) (ch := [it]) (fun b hb => ?_) (fun b o _ _ hc e _ => k b o (fun z => hc (by simp [z])) e) (fun b o _ _ hc e _ => ⟨o.slots, k b o (fun z => hc (by simp [z])) e⟩) (fun _ _ _ _ n => n)
    (fun b o hc e => ⟨o, k b o (fun z => hc (by simp [z])) e⟩) (fun _ _ e => e) (fun _ _ _ e => e) (fun b ps e => ⟨#[], by rw [e]; simp⟩) (fun m hm => ?_) (fun b u e => ?_) I.bare
  · have e : b = it := by simpa using hb
    subst e
    exact ⟨h1, hL, h2, h3⟩
  · obtain ⟨o, es, ep, ho, r⟩ := hm
    exact ⟨o, es, ep, k _ o (Ne.symm hL) ho, r⟩
  · refine (I.hok b u e).stay (fun c v hc q => k c v ?_ q) (fun _ q => q) fun _ _ q => q
    rcases hc with z | z
    · rw [z]; exact nit b u e
    · exact nit c _ z
theorem Inv.tok (I : Inv X pins σ H s) (t : Nat) : Inv X pins σ H { s with toks := t } := I.un (h' := s.heap) (t' := t) Un.refl I.hok
/-- all objects kept -/
theorem Inv.kept {t' : Nat} (I : Inv X pins σ H s) (k : ∀ b u, s.heap.get? b = some u → h'.get? b = some u) : Inv X pins σ H { s with heap := h', toks := t' } := I.un (Un.kept k) (I.hok.kept k)
/-- a new object laid and tracked -/
theorem Inv.laid {a : Addr} {o : HO} {t' : Nat} (I : Inv X pins σ H s) (k : ∀ b u, s.heap.get? b = some u → h'.get? b = some u) (hp : s.heap.objs.size ≤ a) (new : ObjOk X.prog X.w (upd H a o) h' a o) :
    Inv X pins σ (upd H a o) { s with heap := h', toks := t' } := I.un (Un.laid k hp (I.hok.fresh hp)) (I.hok.laid k hp new)
/-- an object written -/
theorem Inv.write {x e : Addr} {o : HO} {t' : Nat} (I : Inv X pins σ H s) (mu : Mut (H x)) (he : e = x ∨ H e = some (.own x)) (k : ∀ b u, b ≠ e → s.heap.get? b = some u → h'.get? b = some u) (heo : ∃ u, h'.get? e = some u)
    (new : ObjOk X.prog X.w (upd H x o) h' x o) : Inv X pins σ (upd H x o) { s with heap := h', toks := t' } := I.un (Un.write mu he k heo) (I.hok.write mu he k heo new)
/-- forgetting slots, pins -/
theorem Inv.weak {σ' : List (Option V)} (I : Inv X pins σ H s) (hl : σ'.length = σ.length) (w : ∀ (i : Nat) v, σ'[i]? = some (some v) → σ[i]? = some (some v)) : Inv X pins σ' H s :=
  ⟨I.ok, I.os, I.bare, I.base, let ⟨m, hn, hl'⟩ := I.loc; ⟨m, hn, fun i x v e1 e2 e3 => hl' i x v e1 (w i v e2) e3⟩, I.cell, I.free, I.freeC, I.pin, I.hok, hl.trans I.len⟩
theorem Inv.pins_of {pins' : List (Addr × Obj)} (I : Inv X pins σ H s) (h : ∀ p ∈ pins', s.heap.get? p.1 = some p.2 ∧ H p.1 = none ∧ p.1 ≠ X.env.locals ∧ p.1 ∉ X.fs ∧ ∀ v, p.2.data ≠ .cell v) : Inv X pins' σ H s :=
  ⟨I.ok, I.os, I.bare, I.base, I.loc, I.cell, I.free, I.freeC, fun p hp => (List.mem_append.mp hp).elim (fun z => I.pin p (List.mem_append_left _ z)) (h p), I.hok, I.len⟩

theorem nodup_ix {N : List Str} (hN : N.Nodup) {i j : Nat} {x : Str} (a : N[i]? = some x) (b : N[j]? = some x) : i = j := by
  obtain ⟨h1, e1⟩ := List.getElem?_eq_some_iff.mp a
  obtain ⟨h2, e2⟩ := List.getElem?_eq_some_iff.mp b
  exact (List.getElem_inj hN).mp (e1.trans e2.symm)

/-- a name is stored; what changed -/
theorem store_ok2 {M : Model} {A : Around} {E : Value → Shared → Prop} {i : Nat} {x : Str} {v : V} {u : Value} {Q : Unit → Shared → Prop} (I : Inv X pins σ H s) (hN : X.N.Nodup) (hi : X.N[i]? = some x) (hx : Loc X.env.scope x) (r : RelV v u)
    (h : ∀ s', Inv X pins (σ.set i (some v)) H s' → (∃ a, Heap.SameBut a s.heap s'.heap ∧ (a = X.env.locals ∨ X.env.cells.lookup x = some a)) → Q () s') (hf : X.fn x = true ∨ X.env.scope.names.lookup x = some .local := by first | exact .inl rfl | exact .inr rfl | assumption) : wpAny M A (storeName X.env x u) Q E s := by
  obtain ⟨m, hn, hl⟩ := id I.loc
  have hcls : (X.env.scope.kind == .class || (X.env.scope.kind == .module && X.env.locals != X.env.globals)) = false := by rw [I.ok.kind]; rfl
  have hiσ : i < σ.length := by rw [I.len]; exact (List.getElem?_eq_some_iff.mp hi).1
  have cne := I.cne
  have tracked : ∀ {a : Addr} {h' : Heap}, (∃ o, s.heap.get? a = some o ∧ H a = none) → Heap.SameBut a s.heap h' → HOk X.prog X.w H h' := fun {a h'} ha hs b ob e => by
    obtain ⟨_, _, hfree⟩ := ha
    refine (I.hok b ob e).stay (fun c w' hc q => (hs.2 c ?_).trans q) (fun _ q => q) fun _ _ q => q
    rintro rfl
    rcases hc with rfl | hc
    · rw [hfree] at e; cases e
    · rw [hfree] at hc; cases hc
  rcases hx with hk | hk
  · refine wpAny_storeName_local hk hn (fun h' hn' hs => ?_) hcls
    obtain ⟨oL, _, _, hoL, _⟩ := id hn
    refine h _ ⟨I.ok, I.os, I.bare, ⟨fun b o e n hb hx => ?_, fun b o e n hb hx => ?_, I.base.free, fun b o e hx => ?_, I.base.tups, I.base.frzs, I.base.tbls⟩, ⟨_, hn', fun j y v' e1 e2 e3 => ?_⟩, fun y c e => ?_, I.free, I.freeC, fun p hp => ?_, tracked ⟨oL, hoL, I.free⟩ hs, by simpa using I.len⟩ ⟨_, hs, .inl rfl⟩
    · exact (hs.2 b (Nat.ne_of_lt (Nat.lt_of_lt_of_le (Heap.lt_size e) I.ok.above))).trans (I.base.keep b o e n hb hx)
    · obtain ⟨sl, e1⟩ := I.base.slot b o e n hb hx
      exact ⟨sl, (hs.2 b (Nat.ne_of_lt (Nat.lt_of_lt_of_le (Heap.lt_size e) I.ok.above))).trans e1⟩
    · obtain ⟨o', e1⟩ := I.base.there b o e hx
      exact ⟨o', (hs.2 b (Nat.ne_of_lt (Nat.lt_of_lt_of_le (Heap.lt_size e) I.ok.above))).trans e1⟩
    · by_cases hj : j = i
      · subst hj
        rw [hi] at e1; cases e1
        rw [List.getElem?_set_self hiσ] at e2
        cases e2
        exact ⟨u, r, .inl ⟨hk, by simp⟩⟩
      · rw [List.getElem?_set_ne (Ne.symm hj)] at e2
        obtain ⟨u', r', q⟩ := hl j y v' e1 e2 e3
        refine ⟨u', r', ?_⟩
        rcases q with ⟨k, e⟩ | ⟨k, c, e, z⟩
        · refine .inl ⟨k, ?_⟩
          have : y ≠ x := fun e => hj (nodup_ix hN e1 (e ▸ hi))
          simp [this, e]
        · exact .inr ⟨k, c, e, z.sameBut hs (cne y c e)⟩
    · obtain ⟨w', z⟩ := I.cell y c e
      exact ⟨w', z.sameBut hs (cne y c e)⟩
    · obtain ⟨e, n, ne, nf, d⟩ := I.pin p hp
      exact ⟨(hs.2 p.1 ne).trans e, n, ne, nf, d⟩
  · have hfn : X.fn x = true := by
      rcases hf with z | z
      · exact z
      · rw [z] at hk; cases hk
    obtain ⟨c, hc⟩ := I.ok.has x (.inl hk)
    obtain ⟨w', z⟩ := I.cell x c hc
    refine wpAny_storeName_cell I.ok.kind hk hc z (fun h' hc' hs => ?_)
    obtain ⟨oc, hoc, hocd⟩ := id z
    refine h { s with heap := h' } ⟨I.ok, I.os, I.bare, ⟨fun b o e n hb hx => ?_, fun b o e n hb hx => ?_, I.base.free, fun b o e hx => ?_, I.base.tups, I.base.frzs, I.base.tbls⟩, ⟨m, hn.sameBut hs (Ne.symm (cne x c hc)), fun j y v' e1 e2 e3 => ?_⟩, fun y c' e => ?_, I.free, I.freeC, fun p hp => ?_, tracked ⟨oc, hoc, I.freeC x c hc⟩ hs, by simpa using I.len⟩ ⟨c, hs, .inr hc⟩
    · exact (hs.2 b (Nat.ne_of_lt (Nat.lt_of_lt_of_le (Heap.lt_size e) (I.ok.cab x c hfn hc)))).trans (I.base.keep b o e n hb hx)
    · obtain ⟨sl, e1⟩ := I.base.slot b o e n hb hx
      exact ⟨sl, (hs.2 b (Nat.ne_of_lt (Nat.lt_of_lt_of_le (Heap.lt_size e) (I.ok.cab x c hfn hc)))).trans e1⟩
    · obtain ⟨o', e1⟩ := I.base.there b o e hx
      exact ⟨o', (hs.2 b (Nat.ne_of_lt (Nat.lt_of_lt_of_le (Heap.lt_size e) (I.ok.cab x c hfn hc)))).trans e1⟩
    · by_cases hj : j = i
      · subst hj
        rw [hi] at e1; cases e1
        rw [List.getElem?_set_self hiσ] at e2
        cases e2
        exact ⟨u, r, .inr ⟨.inl hk, c, hc, hc'⟩⟩
      · rw [List.getElem?_set_ne (Ne.symm hj)] at e2
        obtain ⟨u', r', q⟩ := hl j y v' e1 e2 e3
        refine ⟨u', r', ?_⟩
        rcases q with q | ⟨k, c', e, z'⟩
        · exact .inl q
        · refine .inr ⟨k, c', e, z'.sameBut hs ?_⟩
          rintro rfl
          exact hj (nodup_ix hN e1 (I.ok.inj _ _ _ e hc ▸ hi))
    · by_cases hcc : c' = c
      · subst hcc; exact ⟨_, hc'⟩
      · obtain ⟨w2, z2⟩ := I.cell y c' e
        exact ⟨w2, z2.sameBut hs hcc⟩
    · obtain ⟨e, n, ne, nf, d⟩ := I.pin p hp
      refine ⟨(hs.2 p.1 ?_).trans e, n, ne, nf, d⟩
      intro q
      rw [q, hoc] at e
      have q' : oc = p.2 := Option.some.inj e
      exact d w' (by rw [← q']; exact hocd)
theorem store_ok {M : Model} {A : Around} {E : Value → Shared → Prop} {i : Nat} {x : Str} {v : V} {u : Value} {Q : Unit → Shared → Prop} (I : Inv X pins σ H s) (hN : X.N.Nodup) (hi : X.N[i]? = some x) (hx : Loc X.env.scope x) (r : RelV v u)
    (h : ∀ s', Inv X pins (σ.set i (some v)) H s' → Q () s') (hf : X.fn x = true ∨ X.env.scope.names.lookup x = some .local := by first | exact .inl rfl | exact .inr rfl | assumption) : wpAny M A (storeName X.env x u) Q E s :=
  store_ok2 I hN hi hx r (fun s' I' _ => h s' I') hf
/-- behind a call or a block, the state as it is -/
theorem Inv.call' {s' : Shared} {ch : List Addr} (I : Inv X pins σ H s) (ho : s'.os = s.os) (u : Un (frs X.stack) ch H H' s.heap s'.heap) (hok : HOk X.prog X.w H' s'.heap) (hg : AllBare s'.gens)
    (hch : ∀ b ∈ ch, (b ∈ X.ex ∨ X.s_0.heap.objs.size ≤ b) ∧ b ≠ X.env.locals ∧ (∀ x c, X.env.cells.lookup x = some c → c ≠ b) ∧ ∀ p ∈ X.pn ++ pins, p.1 ≠ b) : Inv X pins σ H' s' := by
  obtain ⟨h', g', d', t', o'⟩ := s'
  have e : o' = s.os := ho
  subst e
  exact I.call (g' := g') (t' := t') (d' := d') u hok hg hch
end

/-! ### the judgements -/
/-- an exception: its class, its own dict's address (where it has one), the abstract heap behind it -/
abbrev XK := Value → Option Addr → Hp → Prop
abbrev St := List (Option V)
abbrev VK := V → Hp → Prop
/-- an expression's reading; a test's; an argument list's -/
abbrev TE := St → Hp → VK → Prop
abbrev TT := St → Hp → (Bool → Hp → Prop) → Prop
abbrev TA := St → Hp → (List V → Hp → Prop) → Prop
/-- what is wanted behind a statement -/
structure Ends where
  nx : St → Hp → Prop
  rt : VK
  bk : St → Hp → Prop := fun _ _ => False
  ct : St → Hp → Prop := fun _ _ => False
abbrev TS := Ends → St → Hp → Prop

def EP (X : Cx) (pins : List (Addr × Obj)) (σ : St) (Q : VK) (u : Value) (s' : Shared) : Prop := ∃ v H', Inv X pins σ H' s' ∧ RelV v u ∧ Q v H'
def TP (X : Cx) (pins : List (Addr × Obj)) (σ : St) (Q : Bool → Hp → Prop) (b : Bool) (s' : Shared) : Prop := ∃ H', Inv X pins σ H' s' ∧ Q b H'
def AP (X : Cx) (pins : List (Addr × Obj)) (σ : St) (Q : List V → Hp → Prop) (us : List Value) (s' : Shared) : Prop := ∃ vs H', Inv X pins σ H' s' ∧ Vals vs us ∧ Q vs H'
def SP (X : Cx) (pins : List (Addr × Obj)) (D : Ends) (f : Flow) (s' : Shared) : Prop :=
  match f with
  | .next => ∃ σ' H', Inv X pins σ' H' s' ∧ D.nx σ' H'
  | .brk => ∃ σ' H', Inv X pins σ' H' s' ∧ D.bk σ' H'
  | .cont => ∃ σ' H', Inv X pins σ' H' s' ∧ D.ct σ' H'
  | .ret u => ∃ v σ' H', Inv X pins σ' H' s' ∧ RelV v u ∧ D.rt v H'

def PE (X : Cx) (e : Expr) (t : TE) : Prop :=
  ∀ (pins : List (Addr × Obj)) (s : Shared) (σ : St) (H : Hp) (Q : VK), Inv X pins σ H s → t σ H Q → wpAny (model X.prog X.w) X.A (eval e X.env) (EP X pins σ Q) X.xe s
def PT (X : Cx) (e : Expr) (t : TT) : Prop :=
  ∀ (pins : List (Addr × Obj)) (s : Shared) (σ : St) (H : Hp) (Q : Bool → Hp → Prop), Inv X pins σ H s → t σ H Q → wpAny (model X.prog X.w) X.A (isTrue e X.env (eval e X.env)) (TP X pins σ Q) X.xe s
/-- a test whatever its 'whole' is (and, or) -/
def PW (X : Cx) (e : Expr) (t : TT) : Prop :=
  ∀ (whole : Sem Value) (pins : List (Addr × Obj)) (s : Shared) (σ : St) (H : Hp) (Q : Bool → Hp → Prop), Inv X pins σ H s → t σ H Q → wpAny (model X.prog X.w) X.A (isTrue e X.env whole) (TP X pins σ Q) X.xe s
theorem PW.pt {X : Cx} {e : Expr} {t : TT} (h : PW X e t) : PT X e t := h _
/-- an argument list (no star), from the left -/
def PA (X : Cx) (es : List Expr) (t : TA) : Prop :=
  ∀ (pos : Pos) (pins : List (Addr × Obj)) (s : Shared) (σ : St) (H : Hp) (Q : List V → Hp → Prop), Inv X pins σ H s → t σ H Q → wpAny (model X.prog X.w) X.A (spliced (backTo pos (starEach es X.env))) (AP X pins σ Q) X.xe s
def PS (X : Cx) (st : Stmt) (t : TS) : Prop :=
  ∀ (pins : List (Addr × Obj)) (s : Shared) (σ : St) (H : Hp) (D : Ends), Inv X pins σ H s → t D σ H → wpAny (model X.prog X.w) X.A (exec st X.env) (SP X pins D) X.xe s
def PSs (X : Cx) (st : List Stmt) (t : TS) : Prop :=
  ∀ (pins : List (Addr × Obj)) (s : Shared) (σ : St) (H : Hp) (D : Ends), Inv X pins σ H s → t D σ H → wpAny (model X.prog X.w) X.A (execs st X.env) (SP X pins D) X.xe s
/-- weaken the end -/
theorem thn {α : Type} {t : Sem α} {Q Q' : α → Shared → Prop} {M : Model} {A : Around} {E : Value → Shared → Prop} {s : Shared} (h : wpAny M A t Q E s) (hQ : ∀ a s, Q a s → Q' a s) : wpAny M A t Q' E s := wpAny_mono h hQ fun _ _ x => x
end L2

namespace L2
open PySem PySem.Spec PyProof.Rows
section
variable {X : Cx}


/-! ### names and constants -/
def tVar (i : Nat) : TE := fun σ H Q => ∃ v, σ[i]? = some (some v) ∧ Q v H
def tC (v : V) : TE := fun _ H Q => Q v H
theorem pe_var {i : Nat} {x : Str} {pos : Pos} (hN : X.N[i]? = some x) (hv : Vis X.env.scope x) (hd : (x == ("__debug__" : Str)) = false := by decide) (hcd : (x == ("__classdict__" : Str)) = false := by decide) : PE X (.Name x pos) (tVar i) := by
  intro pins s σ H Q I h
  obtain ⟨v, e, h⟩ := h
  obtain ⟨m, hn, hl⟩ := I.loc
  obtain ⟨u, r, l⟩ := hl i x v hN e hv
  have fin : EP X pins σ Q u s := ⟨v, H, I, r, h⟩
  rcases l with ⟨hk, hm⟩ | ⟨hk, c, hc, hcell⟩
  · exact wpAny_Name (wpAny_loadName_local I.ok.kind hk hn hm fin) hd
  · rcases hk with hk | hk
    · exact wpAny_Name (wpAny_loadName_cell I.ok.kind hk hc hcell fin) hd
    · exact wpAny_Name (wpAny_loadName_free I.ok.kind hk hc hcell fin hcd) hd
theorem pe_int {i j pos} : PE X (.Constant (.int i) j pos) (tC (.int i)) := fun _ _ _ H _ I h => wpAny_Constant_int ⟨.int i, H, I.tok _, ⟨_, rfl⟩, h⟩
theorem pe_bl {b j pos} : PE X (.Constant (.bool b) j pos) (tC (.bl b)) := fun _ _ _ H _ I h => Constant_bool ⟨.bl b, H, I, rfl, h⟩
theorem pe_non {j pos} : PE X (.Constant .none j pos) (tC .non) := fun _ _ _ H _ I h => Constant_none ⟨.non, H, I, rfl, h⟩
theorem pe_str {x j pos} : PE X (.Constant (.str x) j pos) (tC (.str x)) := fun _ _ _ H _ I h => Calls.Constant_str ⟨.str x, H, I.tok _, ⟨_, rfl⟩, h⟩

/-- a global name of the def -/
def Gl (X : Cx) (x : Str) : Prop := X.env.kindOf x = some .globalImplicit
theorem ld_glob {E : Value → Shared → Prop} {pins : List (Addr × Obj)} {s : Shared} {σ : St} {H : Hp} {x : Str} {u : Value} {pos : Pos} {Q : Value → Shared → Prop} (I : Inv X pins σ H s) (hg : Gl X x) (hm : X.mg x = some u) (h : Q u s)
    (hd : (x == ("__debug__" : Str)) = false := by decide) : wpAny (model X.prog X.w) X.A (eval (.Name x pos) X.env) Q E s :=
  Calls.Name_function_global I.ok.kind hg (Calls.loadGlobal_global (by rw [I.ok.glob]; exact I.mod.glob.keeps I.bk) hm h) hd
theorem ld_blt {E : Value → Shared → Prop} {pins : List (Addr × Obj)} {s : Shared} {σ : St} {H : Hp} {x : Str} {u : Value} {pos : Pos} {Q : Value → Shared → Prop} (I : Inv X pins σ H s) (hg : Gl X x) (hm : X.mg x = none) (hv : bootBuiltins x = some u) (h : Q u s)
    (hn : x ≠ "__name__" := by decide) (hd : (x == ("__debug__" : Str)) = false := by decide) : wpAny (model X.prog X.w) X.A (eval (.Name x pos) X.env) Q E s := by
  obtain ⟨mb, h1, h2⟩ := I.mod.blt
  exact Calls.Name_function_global I.ok.kind hg (Calls.loadGlobal_builtin (by rw [I.ok.glob]; exact I.mod.glob.keeps I.bk) hm (by rw [I.ok.blt]; exact h1.keeps I.bk) ((h2 x hn).trans hv) h) hd
/-- a module's constant, a class, a function, as a value -/
theorem pe_glob {x : Str} {v : V} {u : Value} {pos : Pos} (hg : Gl X x) (hm : X.mg x = some u) (r : RelV v u) (hd : (x == ("__debug__" : Str)) = false := by decide) : PE X (.Name x pos) (tC v) :=
  fun _ _ _ H _ I h => ld_glob I hg hm ⟨v, H, I, r, h⟩ hd

/-! ### arithmetic -/
/-- two ints -/
def t2I (ta tb : TE) (k : Int → Int → Hp → Prop) : St → Hp → Prop := fun σ H => ta σ H fun x H1 => tb σ H1 fun y H2 => ∃ i j, x = .int i ∧ y = .int j ∧ k i j H2
def tAdd (ta tb : TE) : TE := fun σ H Q => t2I ta tb (fun i j H2 => Q (.int (i + j)) H2) σ H
def tSub (ta tb : TE) : TE := fun σ H Q => t2I ta tb (fun i j H2 => Q (.int (i - j)) H2) σ H
/-- the left factor below 2^64 -/
def tMul (ta tb : TE) : TE := fun σ H Q => t2I ta tb (fun i j H2 => (-(2 ^ 64) < i ∧ i < 2 ^ 64) ∧ Q (.int (i * j)) H2) σ H
variable {a b : Expr} {ta tb : TE} {pos : Pos}

/-! ### comparisons -/
def PC (X : Cx) (op : CmpOp) (a b : Expr) (t : TE) : Prop :=
  ∀ (pins : List (Addr × Obj)) (s : Shared) (σ : St) (H : Hp) (Q : VK), Inv X pins σ H s → t σ H Q →
    wpAny (model X.prog X.w) X.A (eval a X.env) (fun v s₁ => wpAny (model X.prog X.w) X.A (eval b X.env) (fun u s₂ => wpAny (model X.prog X.w) X.A (compareOp op v u) (EP X pins σ Q) X.xe s₂) X.xe s₁) X.xe s
def tCmp (p : Int → Int → Bool) (ta tb : TE) : TE := fun σ H Q => t2I ta tb (fun i j H2 => Q (.bl (p i j)) H2) σ H
abbrev tLt : TE → TE → TE := tCmp fun i j => decide (i < j)
abbrev tLe : TE → TE → TE := tCmp fun i j => decide (i ≤ j)
abbrev tGt : TE → TE → TE := tCmp fun i j => decide (j < i)
abbrev tGe : TE → TE → TE := tCmp fun i j => decide (j ≤ i)
abbrev tEqI : TE → TE → TE := tCmp fun i j => decide (i = j)
abbrev tNeI : TE → TE → TE := tCmp fun i j => !decide (i = j)
/-- is None -/
def tIsN (ta : TE) : TE := fun σ H Q => ta σ H fun x H1 => Q (.bl (decide (x = .non))) H1
def tNotN (ta : TE) : TE := fun σ H Q => ta σ H fun x H1 => Q (.bl (!decide (x = .non))) H1
/-- a comparison as a value, as a test -/
def tB (t : TE) : TT := fun σ H Q => t σ H fun x H1 => ∃ c, x = .bl c ∧ Q c H1
/-- an expression whose value is a bool, as a test -/
theorem pt_val {e : Expr} {t : TE} (h : PE X e t) (he : ∀ whole, isTrue e X.env whole = (do let v ← whole; standAt e.pos; holding [v] (truthy v)) := by intro _; rfl) : PT X e (tB t) := by
  intro pins s σ H Q I hw
  refine isTrue_plain (thn (h pins s σ H _ I hw) fun v s1 ⟨x, H1, I1, r1, q1⟩ => ?_) (he _)
  obtain ⟨d, rfl, q⟩ := q1
  cases r1
  exact wpAny_truthy_bool ⟨H1, I1, q⟩

/-! ### and, or, not -/
variable {tA tB' : TT} {rest : List Expr}
def tAnd (t u : TT) : TT := fun σ H Q => t σ H fun c H1 => if c = true then u σ H1 Q else Q false H1
def tOr (t u : TT) : TT := fun σ H Q => t σ H fun c H1 => if c = true then Q true H1 else u σ H1 Q
def tNot (t : TT) : TT := fun σ H Q => t σ H fun c H1 => Q (!c) H1
theorem pw_and1 (ha : PT X a tA) : PW X (.BoolOp .And [a] pos) tA := by
  intro wh pins s σ H Q I h
  refine isTrue_and (thn (ha pins s σ H Q I h) fun c s1 e => ?_)
  cases c with
  | true => exact isTrue_and_nil e
  | false => exact e
theorem pw_or1 (ha : PT X a tA) : PW X (.BoolOp .Or [a] pos) tA := by
  intro wh pins s σ H Q I h
  refine isTrue_or (thn (ha pins s σ H Q I h) fun c s1 e => ?_)
  cases c with
  | false => exact isTrue_or_nil e
  | true => exact e
theorem pw_and (ha : PT X a tA) (hb : PW X (.BoolOp .And (b :: rest) pos) tB') : PW X (.BoolOp .And (a :: b :: rest) pos) (tAnd tA tB') := by
  intro wh pins s σ H Q I h
  refine isTrue_and (thn (ha pins s σ H _ I h) fun c s1 ⟨H1, I1, q1⟩ => ?_)
  cases c with
  | true => exact hb wh pins s1 σ H1 Q I1 q1
  | false => exact ⟨H1, I1, q1⟩
theorem pw_or (ha : PT X a tA) (hb : PW X (.BoolOp .Or (b :: rest) pos) tB') : PW X (.BoolOp .Or (a :: b :: rest) pos) (tOr tA tB') := by
  intro wh pins s σ H Q I h
  refine isTrue_or (thn (ha pins s σ H _ I h) fun c s1 ⟨H1, I1, q1⟩ => ?_)
  cases c with
  | true => exact ⟨H1, I1, q1⟩
  | false => exact hb wh pins s1 σ H1 Q I1 q1
theorem pt_not (ha : PT X a tA) : PT X (.UnaryOp .Not a pos) (tNot tA) := by
  intro pins s σ H Q I h
  exact isTrue_not (ha pins s σ H (fun c H1 => Q (!c) H1) I h)
/-- .. as values (bools) -/
def tAndV (ta tb : TE) : TE := fun σ H Q => ta σ H fun x H1 => ∃ c, x = .bl c ∧ if c = true then tb σ H1 Q else Q (.bl false) H1
def tOrV (ta tb : TE) : TE := fun σ H Q => ta σ H fun x H1 => ∃ c, x = .bl c ∧ if c = true then Q (.bl true) H1 else tb σ H1 Q
def tNotV (ta : TE) : TE := fun σ H Q => ta σ H fun x H1 => ∃ c, x = .bl c ∧ Q (.bl (!c)) H1
theorem pe_one {op} {t : TE} (h : PE X a t) : PE X (.BoolOp op [a] pos) t := fun pins s σ H Q I hw => BoolOp_one (h pins s σ H Q I hw)
theorem pe_and (ha : PE X a ta) (hb : PE X (.BoolOp .And (b :: rest) pos) tb) : PE X (.BoolOp .And (a :: b :: rest) pos) (tAndV ta tb) := by
  intro pins s σ H Q I h
  refine BoolOp_and (thn (ha pins s σ H _ I h) fun v s1 ⟨x, H1, I1, r1, q1⟩ => ?_)
  obtain ⟨c, rfl, q1⟩ := q1
  cases r1
  refine wpAny_truthy_bool ?_
  cases c with
  | true => exact hb pins s1 σ H1 Q I1 q1
  | false => exact ⟨.bl false, H1, I1, rfl, q1⟩
theorem pe_or (ha : PE X a ta) (hb : PE X (.BoolOp .Or (b :: rest) pos) tb) : PE X (.BoolOp .Or (a :: b :: rest) pos) (tOrV ta tb) := by
  intro pins s σ H Q I h
  refine BoolOp_or (thn (ha pins s σ H _ I h) fun v s1 ⟨x, H1, I1, r1, q1⟩ => ?_)
  obtain ⟨c, rfl, q1⟩ := q1
  cases r1
  refine wpAny_truthy_bool ?_
  cases c with
  | false => exact hb pins s1 σ H1 Q I1 q1
  | true => exact ⟨.bl true, H1, I1, rfl, q1⟩
theorem pe_not (ha : PE X a ta) : PE X (.UnaryOp .Not a pos) (tNotV ta) := by
  intro pins s σ H Q I h
  refine UnaryOp_ (thn (ha pins s σ H _ I h) fun v s1 ⟨x, H1, I1, r1, q1⟩ => ?_)
  obtain ⟨c, rfl, q1⟩ := q1
  cases r1
  exact not_of (wpAny_truthy_bool ⟨.bl (!c), H1, I1, rfl, q1⟩)
/-- a if t else b -/
def tIf (t : TT) (ta tb : TE) : TE := fun σ H Q => t σ H fun c H1 => if c = true then ta σ H1 Q else tb σ H1 Q
theorem pe_ifExp {c : Expr} (hc : PT X c tA) (ha : PE X a ta) (hb : PE X b tb) : PE X (.IfExp c a b pos) (tIf tA ta tb) := by
  intro pins s σ H Q I h
  refine wpAny_IfExp (thn (hc pins s σ H _ I h) fun d s1 ⟨H1, I1, q1⟩ => ?_)
  cases d with
  | true => exact ha pins s1 σ H1 Q I1 q1
  | false => exact hb pins s1 σ H1 Q I1 q1
end
end L2

namespace L2
open PySem PySem.Spec PyProof.Rows

/-! ### a list, a tuple that is read: tracked, frozen, or an object of the module -/
def SqL (K : PySem.W.Frag) (H : Hp) (a : Addr) (xs : List V) : Prop :=
  Rd H a (.lst xs) ∨
    ∃ (o : Obj) (its : Array Value) (n : Nat), K.lookup a = some o ∧ o.cls = .type "list" ∧ o.dict = none ∧ o.data = .seq its n ∧ its.size ≤ sizeLine ∧ Vals xs its.toList
def SqT (K : PySem.W.Frag) (H : Hp) (a : Addr) (xs : List V) : Prop :=
  Rd H a (.tup xs) ∨
    ∃ (o : Obj) (its : Array Value) (n : Nat), K.lookup a = some o ∧ o.cls = .type "tuple" ∧ o.data = .seq its n ∧ its.size ≤ sizeLine ∧ Vals xs its.toList
def absV : Value → Option V
  | .none => some .non
  | .bool b => some (.bl b)
  | .int i _ => some (.int i)
  | .str x _ => some (.str x)
  | .bytes b _ => some (.byt b)
  | .float b _ => some (.flt b)
  | .ref a => some (.ref a)
  | .type n => some (.ty n)
  | _ => none
theorem RelV.abs {x : V} {u : Value} (r : RelV x u) : absV u = some x := by
  cases x with
  | non => cases r; rfl
  | bl _ => cases r; rfl
  | int _ => obtain ⟨t, rfl⟩ := r; rfl
  | str _ => obtain ⟨t, rfl⟩ := r; rfl
  | byt _ => obtain ⟨t, rfl⟩ := r; rfl
  | flt _ => obtain ⟨t, rfl⟩ := r; rfl
  | ref _ => cases r; rfl
  | ty _ => cases r; rfl
theorem RelV.inj {x y : V} {u : Value} (r : RelV x u) (q : RelV y u) : x = y := Option.some.inj (r.abs.symm.trans q.abs)
theorem Vals.inj : ∀ {xs ys : List V} {us : List Value}, Vals xs us → Vals ys us → xs = ys
  | _, _, _, .nil, .nil => rfl
  | _, _, _, .cons r t, .cons r' t' => by rw [r.inj r', Vals.inj t t']
section
variable {X : Cx} {pins : List (Addr × Obj)} {σ : St} {H : Hp} {s : Shared} {a : Addr} {xs ys : List V}
theorem SqL.of {K : PySem.W.Frag} (h : H a = some (.lst xs)) : SqL K H a xs := .inl (.inl h)
theorem SqT.of {K : PySem.W.Frag} (h : H a = some (.tup xs)) : SqT K H a xs := .inl (.inl h)
theorem Inv.list (I : Inv X pins σ H s) (h : SqL X.K H a xs) : ∃ its : List Value, Vals xs its ∧ PlainL s.heap a its.toArray ∧ xs.length ≤ sizeLine := by
  rcases h with h | ⟨o, its, n, hk, hc, hd, hs, hz, r⟩
  · obtain ⟨z, its, n, r, e⟩ := h.ok I.hok
    exact ⟨its, r, ⟨_, n, e, rfl, rfl, rfl⟩, z⟩
  · refine ⟨its.toList, r, ⟨o, n, I.kIn a o hk, hc, hd, by simpa using hs⟩, ?_⟩
    have e := r.length
    simp only [Array.length_toList] at e
    omega
theorem Inv.tuple (I : Inv X pins σ H s) (h : SqT X.K H a xs) : ∃ its : List Value, Vals xs its ∧ IsTup s.heap a its.toArray ∧ xs.length ≤ sizeLine := by
  rcases h with h | ⟨o, its, n, hk, hc, hs, hz, r⟩
  · obtain ⟨z, its, r, p⟩ := h.ok I.hok
    exact ⟨its, r, p, z⟩
  · refine ⟨its.toList, r, ⟨o, I.kIn a o hk, hc, n, by simpa using hs⟩, ?_⟩
    have e := r.length
    simp only [Array.length_toList] at e
    omega
theorem Inv.list_inj (I : Inv X pins σ H s) (h : SqL X.K H a xs) (h' : SqL X.K H a ys) : xs = ys := by
  obtain ⟨its, r, ⟨o, n, e, _, _, d⟩, _⟩ := I.list h
  obtain ⟨its', r', ⟨o', n', e', _, _, d'⟩, _⟩ := I.list h'
  rw [e] at e'; cases e'
  rw [d] at d'
  injection d' with d1 _
  have : its = its' := by simpa using congrArg Array.toList d1
  subst this
  exact r.inj r'
end

/-! ### another wish about exceptions -/
abbrev Cx.wish (X : Cx) (E : Value → Shared → Prop) : Cx := { X with xe := E }
/-- no exception leaves -/
abbrev Cx.nox (X : Cx) : Cx := X.wish fun _ _ => False
theorem Cx.Ok.wish {X : Cx} (ok : X.Ok) (E : Value → Shared → Prop) : (X.wish E).Ok :=
  ⟨ok.mod, ok.kind, ok.glob, ok.blt, ok.above, ok.inj, ok.has, ok.cab, ok.hd, ok.frames, ok.stk, ok.exf, ok.bs, ok.bsz, ok.noex, ok.exfs, ok.funs, ok.frf⟩
theorem Cx.Ok.unwish {X : Cx} {E : Value → Shared → Prop} (ok : (X.wish E).Ok) : X.Ok :=
  ⟨ok.mod, ok.kind, ok.glob, ok.blt, ok.above, ok.inj, ok.has, ok.cab, ok.hd, ok.frames, ok.stk, ok.exf, ok.bs, ok.bsz, ok.noex, ok.exfs, ok.funs, ok.frf⟩
section
variable {X : Cx} {pins : List (Addr × Obj)} {σ : St} {H : Hp} {s : Shared} {E : Value → Shared → Prop}
theorem Inv.wish (I : Inv X pins σ H s) (E : Value → Shared → Prop) : Inv (X.wish E) pins σ H s := ⟨I.ok.wish E, I.os, I.bare, I.base, I.loc, I.cell, I.free, I.freeC, I.pin, I.hok, I.len⟩
theorem Inv.unwish (I : Inv (X.wish E) pins σ H s) : Inv X pins σ H s := ⟨I.ok.unwish, I.os, I.bare, I.base, I.loc, I.cell, I.free, I.freeC, I.pin, I.hok, I.len⟩
theorem SP.unwish {D : Ends} {f : Flow} {s' : Shared} (h : SP (X.wish E) pins D f s') : SP X pins D f s' := by
  cases f with
  | next => obtain ⟨σ', H', I, q⟩ := h; exact ⟨σ', H', I.unwish, q⟩
  | brk => obtain ⟨σ', H', I, q⟩ := h; exact ⟨σ', H', I.unwish, q⟩
  | cont => obtain ⟨σ', H', I, q⟩ := h; exact ⟨σ', H', I.unwish, q⟩
  | ret u => obtain ⟨v, σ', H', I, r, q⟩ := h; exact ⟨v, σ', H', I.unwish, r, q⟩
theorem PSs.nox {st : List Stmt} {t : TS} (h : PSs X.nox st t) : PSs X st t := fun pins s σ H D I hw =>
  wpAny_mono (h pins s σ H D (I.wish _) hw) (fun _ _ q => q.unwish) fun _ _ z => False.elim z
end

/-! ### blocks and small statements -/
section
variable {X : Cx} {st : Stmt} {rest : List Stmt} {t u : TS} {e : Expr} {te : TE} {pos : Pos}
def tNext : TS := fun D σ H => D.nx σ H
def tSeq (t u : TS) : TS := fun D σ H => t { D with nx := u D } σ H
theorem pss_nil : PSs X [] tNext := fun _ _ σ H _ I h => wpAny_execs_nil ⟨σ, H, I, h⟩
theorem pss_cons (h1 : PS X st t) (h2 : PSs X rest u) : PSs X (st :: rest) (tSeq t u) := by
  intro pins s σ H D I h
  refine wpAny_execs_cons (thn (h1 pins s σ H { D with nx := u D } I h) fun f s1 q => ?_)
  cases f with
  | next =>
    obtain ⟨σ', H', I', q⟩ := q
    exact h2 pins s1 σ' H' D I' q
  | ret v => exact q
  | brk => exact q
  | cont => exact q
theorem pss_one (h1 : PS X st t) : PSs X [st] t := by
  intro pins s σ H D I h
  refine wpAny_execs_cons (thn (h1 pins s σ H D I h) fun f s1 q => ?_)
  cases f with
  | next => exact wpAny_execs_nil q
  | ret v => exact q
  | brk => exact q
  | cont => exact q
def tBreak : TS := fun D σ H => D.bk σ H
def tCont : TS := fun D σ H => D.ct σ H
/-- in a def's body nothing is shown -/
theorem Inv.quiet {pins : List (Addr × Obj)} {σ : St} {H : Hp} {s : Shared} (I : Inv X pins σ H s) : interactive X.env = false := by simp [interactive, I.ok.kind]
/-- an expression whose value is dropped -/
def tDrop (te : TE) : TS := fun D σ H => te σ H fun _ H1 => D.nx σ H1
theorem ps_expr (he : PE X e te) (hs : swapsWith e none pos.line X.env = pure false := by rfl) : PS X (.Expr e pos) (tDrop te) := by
  intro pins s σ H D I h
  exact wpAny_Expr_any (thn (he pins s σ H _ I h) fun v s1 ⟨x, H1, I1, r1, q1⟩ => ⟨σ, H1, I1, q1⟩) I.quiet hs
def tRet (te : TE) : TS := fun D σ H => te σ H D.rt
theorem ps_ret (he : PE X e te) : PS X (.Return (some e) pos) (tRet te) := by
  intro pins s σ H D I h
  exact wpAny_Return_some (thn (he pins s σ H _ I h) fun v s1 ⟨x, H1, I1, r1, q1⟩ => ⟨x, σ, H1, I1, r1, q1⟩)
def tRetN : TS := fun D _ H => D.rt .non H
def tIfS (c : TT) (t u : TS) : TS := fun D σ H => c σ H fun b H1 => if b = true then t D σ H1 else u D σ H1
theorem ps_if {c : Expr} {a b : List Stmt} {tc : TT} (hc : PT X c tc) (ha : PSs X a t) (hb : PSs X b u) : PS X (.If c a b pos) (tIfS tc t u) := by
  intro pins s σ H D I h
  refine wpAny_If (thn (hc pins s σ H _ I h) fun d s1 ⟨H1, I1, q1⟩ => ?_)
  cases d with
  | true => exact ha pins s1 σ H1 D I1 q1
  | false => exact hb pins s1 σ H1 D I1 q1
/-- code that the proof never comes to -/
def tNever : TS := fun _ _ _ => False
end

/-! ### targets -/
abbrev TG := V → St → Hp → (St → Hp → Prop) → Prop
abbrev TGs := List V → St → Hp → (St → Hp → Prop) → Prop
def PG (X : Cx) (target : Expr) (t : TG) : Prop :=
  ∀ (pins : List (Addr × Obj)) (s : Shared) (σ : St) (H : Hp) (v : V) (u : Value) (Q : St → Hp → Prop), Inv X pins σ H s → RelV v u → t v σ H Q →
    wpAny (model X.prog X.w) X.A (assign target X.env u) (fun _ s' => ∃ σ' H', Inv X pins σ' H' s' ∧ Q σ' H') X.xe s
/-- several targets, one after another -/
def PGs (X : Cx) (ts : List Expr) (t : TGs) : Prop :=
  ∀ (pins : List (Addr × Obj)) (s : Shared) (σ : St) (H : Hp) (vs : List V) (us : List Value) (Q : St → Hp → Prop), Inv X pins σ H s → Vals vs us → t vs σ H Q →
    wpAny (model X.prog X.w) X.A (assignInOrder ((assignEach ts X.env).map (·.2)) us) (fun _ s' => ∃ σ' H', Inv X pins σ' H' s' ∧ Q σ' H') X.xe s
/-- o[i] = v, by values -/
abbrev TSet := V → V → V → Hp → (Hp → Prop) → Prop
def PSet (X : Cx) (t : TSet) : Prop :=
  ∀ (pins : List (Addr × Obj)) (s : Shared) (σ : St) (H : Hp) (o i v : V) (ov iv u : Value) (Q : Hp → Prop), Inv X pins σ H s → RelV o ov → RelV i iv → RelV v u → t o i v H Q →
    wpAny (model X.prog X.w) X.A (setItem ov iv u) (fun _ s' => ∃ H', Inv X pins σ H' s' ∧ Q H') X.xe s
/-- a op= b, by values -/
abbrev TIp := V → V → Hp → VK → Prop
def PIp (X : Cx) (op : Operator) (t : TIp) : Prop :=
  ∀ (pins : List (Addr × Obj)) (s : Shared) (σ : St) (H : Hp) (x y : V) (v u : Value) (Q : VK), Inv X pins σ H s → RelV x v → RelV y u → t x y H Q →
    wpAny (model X.prog X.w) X.A (inplaceOp op v u) (EP X pins σ Q) X.xe s
section
variable {X : Cx} {pos : Pos}
def gName (i : Nat) : TG := fun v σ H Q => Q (σ.set i (some v)) H
theorem pg_name {i : Nat} {x : Str} (hN : X.N.Nodup) (hi : X.N[i]? = some x) (hx : Loc X.env.scope x) (hf : X.fn x = true ∨ X.env.scope.names.lookup x = some .local := by first | exact .inl rfl | exact .inr rfl | assumption) : PG X (.Name x pos) (gName i) := by
  intro pins s σ H v u Q I r h
  exact wpAny_assign_Name (store_ok I hN hi hx r (fun s' I' => ⟨_, H, I', h⟩) hf)
def gNil : TGs := fun vs σ H Q => vs = [] ∧ Q σ H
def gCons (t : TG) (u : TGs) : TGs := fun vs σ H Q => ∃ v r, vs = v :: r ∧ t v σ H fun σ' H' => u r σ' H' Q
/-- (a, b, ..) = a tuple of that length -/
def gTup (K : PySem.W.Frag) (n : Nat) (t : TGs) : TG := fun v σ H Q => ∃ a xs, v = .ref a ∧ SqT K H a xs ∧ xs.length = n ∧ t xs σ H Q
/-- o[i] = .. -/
def gSub (to ti : TE) (t : TSet) : TG := fun v σ H Q => to σ H fun o H1 => ti σ H1 fun i H2 => t o i v H2 fun H3 => Q σ H3
theorem pg_sub {o i : Expr} {to ti : TE} {t : TSet} (ho : PE X o to) (hi : PE X i ti) (hs : PSet X t)
    (ha : ∀ v, assign (.Subscript o i pos) X.env v = (do
      let ov ← holding [v] (eval o X.env)
      let iv ← holding [v, ov] (eval i X.env)
      standAt pos
      holding [v, ov, iv] (setItem ov iv v)
      release [v, ov, iv] []) := by intro _; rfl) : PG X (.Subscript o i pos) (gSub to ti t) := by
  intro pins s σ H v u Q I r h
  rw [ha]
  refine wpAny_bind (wpAny_holding (thn (ho pins s σ H _ I h) fun ov s1 ⟨x, H1, I1, r1, q1⟩ => ?_))
  refine wpAny_bind (wpAny_holding (thn (hi pins s1 σ H1 _ I1 q1) fun iv s2 ⟨y, H2, I2, r2, q2⟩ => ?_))
  refine wpAny_bind (wpAny_standAt (wpAny_bind (wpAny_holding (thn (hs pins s2 σ H2 x y v ov iv u _ I2 r1 r2 r q2) fun _ s3 ⟨H3, I3, q3⟩ => ?_))))
  exact wpAny_release ⟨σ, H3, I3, q3⟩
/-- target = value -/
def tAsg (te : TE) (g : TG) : TS := fun D σ H => te σ H fun x H1 => g x σ H1 D.nx
theorem ps_asg {tg e : Expr} {te : TE} {g : TG} (he : PE X e te) (hg : PG X tg g) (hs : swapsWithSole [tg] e pos.line X.env = pure false := by rfl) (hw : swappedStores [tg] e X.env = pure none := by rfl)
    (h1 : (assignEach [tg] X.env).map (·.2) = [assign tg X.env] := by rfl) : PS X (.Assign [tg] e pos) (tAsg te g) := by
  intro pins s σ H D I h
  refine wpAny_Assign_stores (thn (he pins s σ H _ I h) fun v s1 ⟨x, H1, I1, r1, q1⟩ => ?_) hs hw
  rw [h1]
  exact thn (hg pins s1 σ H1 x v _ I1 r1 q1) fun _ s2 q => q
/-- name = value -/
theorem ps_set {i : Nat} {x : Str} {e : Expr} {te : TE} {pos' : Pos} (hN : X.N.Nodup) (hi : X.N[i]? = some x) (hx : Loc X.env.scope x) (he : PE X e te) (hs : swapsWith e (some (.Name x pos')) pos.line X.env = pure false := by rfl) (hf : X.fn x = true ∨ X.env.scope.names.lookup x = some .local := by first | exact .inl rfl | exact .inr rfl | assumption) :
    PS X (.Assign [.Name x pos'] e pos) (tAsg te (gName i)) := by
  intro pins s σ H D I h
  refine wpAny_Assign_Name (thn (he pins s σ H _ I h) fun v s1 ⟨y, H1, I1, r1, q1⟩ => ?_) hs
  exact store_ok I1 hN hi hx r1 (fun s2 I2 => ⟨_, H1, I2, q1⟩) hf
/-- a, b = x, y with plain local names: stored from the right; the pair itself is not tracked (the opening rows as in PyProof/Rows/TupAssign.lean:23) -/
def tPar (i j : Nat) (ta : TA) : TS := fun D σ H => ta σ H fun vs H1 => ∃ v w, vs = [v, w] ∧ D.nx ((σ.set i (some v)).set j (some w)) H1
/-- name op= e -/
def tAug (i : Nat) (te : TE) (ti : TIp) : TS := fun D σ H => ∃ x, σ[i]? = some (some x) ∧ te σ H fun y H1 => ti x y H1 fun z H2 => D.nx (σ.set i (some z)) H2
theorem ps_aug {i : Nat} {x : Str} {e : Expr} {te : TE} {op : Operator} {ti : TIp} {pos' : Pos} (hN : X.N.Nodup) (hi : X.N[i]? = some x) (hx : Loc X.env.scope x) (he : PE X e te) (ho : PIp X op ti) (hf : X.fn x = true ∨ X.env.scope.names.lookup x = some .local := by first | exact .inl rfl | exact .inr rfl | assumption) :
    PS X (.AugAssign (.Name x pos') op e pos) (tAug i te ti) := by
  intro pins s σ H D I h
  obtain ⟨v, e1, h⟩ := h
  obtain ⟨m, hn, hl⟩ := I.loc
  have vis : Vis X.env.scope x := by rcases hx with k | k; exact .inl k; exact .inr (.inl k)
  obtain ⟨u, r, l⟩ := hl i x v hi e1 vis
  refine wpAny_AugAssign_Name ?_
  have go : wpAny (model X.prog X.w) X.A (eval e X.env) (fun w s₂ => wpAny (model X.prog X.w) X.A (inplaceOp op u w) (fun r s₃ => wpAny (model X.prog X.w) X.A (storeName X.env x r) (fun _ => SP X pins D .next) X.xe s₃) X.xe s₂) X.xe s := by
    refine thn (he pins s σ H _ I h) fun w s1 ⟨y, H1, I1, r1, q1⟩ => ?_
    refine thn (ho pins s1 σ H1 v y u w _ I1 r r1 q1) fun z s2 ⟨zv, H2, I2, r2, q2⟩ => ?_
    exact store_ok I2 hN hi hx r2 (fun s3 I3 => ⟨_, H2, I3, q2⟩) hf
  rcases l with ⟨hk, hm⟩ | ⟨hk, c, hc, hcell⟩
  · exact wpAny_loadName_local I.ok.kind hk hn hm go
  · rcases hk with hk | hk
    · exact wpAny_loadName_cell I.ok.kind hk hc hcell go
    · rcases hx with k | k
      · have : X.env.scope.names.lookup x = some .free := hk
        rw [k] at this; cases this
      · have : X.env.scope.names.lookup x = some .free := hk
        rw [k] at this; cases this
/-- o[i] op= e -/
def tAugS (to ti te : TE) (tget : V → V → Hp → VK → Prop) (tip : TIp) (tset : TSet) : TS := fun D σ H => to σ H fun o H1 => ti σ H1 fun i H2 => tget o i H2 fun x H3 => te σ H3 fun y H4 => tip x y H4 fun z H5 => tset o i z H5 fun H6 => D.nx σ H6
/-- o[i], by values -/
def PGet (X : Cx) (t : V → V → Hp → VK → Prop) : Prop :=
  ∀ (pins : List (Addr × Obj)) (s : Shared) (σ : St) (H : Hp) (o i : V) (ov iv : Value) (Q : VK), Inv X pins σ H s → RelV o ov → RelV i iv → t o i H Q →
    wpAny (model X.prog X.w) X.A (getItem ov iv) (EP X pins σ Q) X.xe s
theorem ps_augS {o i e : Expr} {to ti te : TE} {tget : V → V → Hp → VK → Prop} {tip : TIp} {tset : TSet} {op : Operator} {tpos : Pos} (ho : PE X o to) (hi : PE X i ti) (hg : PGet X tget) (he : PE X e te) (hp : PIp X op tip) (hs : PSet X tset)
    (ha : ∀ ov iv new, augStore i ov iv new = (do holding [new, ov, iv] (setItem ov iv new); release [new, ov, iv] []; pure .next) := by intros; rfl) : PS X (.AugAssign (.Subscript o i tpos) op e pos) (tAugS to ti te tget tip tset) := by
  intro pins s σ H D I h
  refine wpAny_AugAssign_SubscriptAny (thn (ho pins s σ H _ I h) fun ov s1 ⟨x1, H1, I1, r1, q1⟩ => ?_) ha
  refine thn (hi pins s1 σ H1 _ I1 q1) fun iv s2 ⟨x2, H2, I2, r2, q2⟩ => ?_
  refine thn (hg pins s2 σ H2 x1 x2 ov iv _ I2 r1 r2 q2) fun old s3 ⟨x3, H3, I3, r3, q3⟩ => ?_
  refine thn (he pins s3 σ H3 _ I3 q3) fun v s4 ⟨x4, H4, I4, r4, q4⟩ => ?_
  refine thn (hp pins s4 σ H4 x3 x4 old v _ I4 r3 r4 q4) fun new s5 ⟨x5, H5, I5, r5, q5⟩ => ?_
  exact thn (hs pins s5 σ H5 x1 x2 x5 ov iv new _ I5 r1 r2 r5 q5) fun _ s6 ⟨H6, I6, q6⟩ => ⟨σ, H6, I6, q6⟩
/-- ints -/
def ipI (f : Int → Int → Int) : TIp := fun x y H Q => ∃ i j, x = .int i ∧ y = .int j ∧ Q (.int (f i j)) H
theorem ip_add : PIp X .Add (ipI fun i j => i + j) := by
  intro pins s σ H x y v u Q I r1 r2 h
  obtain ⟨i, j, e1, e2, q⟩ := h
  subst e1; subst e2
  obtain ⟨t, rfl⟩ := r1
  obtain ⟨t', rfl⟩ := r2
  exact iadd_int ⟨.int _, H, I.tok _, ⟨_, rfl⟩, q⟩
theorem ip_sub : PIp X .Sub (ipI fun i j => i - j) := by
  intro pins s σ H x y v u Q I r1 r2 h
  obtain ⟨i, j, e1, e2, q⟩ := h
  subst e1; subst e2
  obtain ⟨t, rfl⟩ := r1
  obtain ⟨t', rfl⟩ := r2
  exact isub_int ⟨.int _, H, I.tok _, ⟨_, rfl⟩, q⟩
end

/-! ### while -/
section
variable {X : Cx} {pos : Pos}
/-- the invariant W with its measure -/
def tWhile (c : TT) (tb : TS) : TS := fun D σ H => ∃ W : Nat → St → Hp → Prop, (∃ m, W m σ H) ∧ ∀ m σ H, W m σ H →
  c σ H fun b H1 => if b = true then ∃ N : St → Hp → Prop, (∀ σ' H', N σ' H' → ∃ m', m' < m ∧ W m' σ' H') ∧ tb { D with nx := N, ct := N, bk := D.nx } σ H1 else D.nx σ H1
theorem ps_while {c : Expr} {body : List Stmt} {tc : TT} {tb : TS} (hp : PassesOwn (model X.prog X.w) X.A X.env X.xe) (hc : PT X c tc) (hb : PSs X body tb) : PS X (.While c body [] pos) (tWhile tc tb) := by
  intro pins s σ H D I h
  obtain ⟨W, ⟨m0, w0⟩, turn⟩ := h
  refine wpAny_While (codeAny_whileLoop (fun n s' => ∃ σ' H', Inv X pins σ' H' s' ∧ W n σ' H') ?_ m0 ⟨σ, H, I, w0⟩)
  rintro n s1 ⟨σ1, H1, I1, w1⟩
  refine wpAny_passesOwn hp (thn (hc pins s1 σ1 H1 _ I1 (turn n σ1 H1 w1)) fun b s2 ⟨H2, I2, q2⟩ => ?_)
  cases b with
  | true =>
    obtain ⟨N, hN, q2⟩ := q2
    rw [if_pos rfl]
    refine wpAny_passesOwn hp (thn (hb pins s2 σ1 H2 _ I2 q2) fun f s3 q3 => ?_)
    cases f with
    | next =>
      obtain ⟨σ3, H3, I3, n3⟩ := q3
      obtain ⟨m', hm, w3⟩ := hN σ3 H3 n3
      exact ⟨m', hm, σ3, H3, I3, w3⟩
    | cont =>
      obtain ⟨σ3, H3, I3, n3⟩ := q3
      obtain ⟨m', hm, w3⟩ := hN σ3 H3 n3
      exact ⟨m', hm, σ3, H3, I3, w3⟩
    | brk => exact q3
    | ret v => exact q3
  | false =>
    rw [if_neg Bool.false_ne_true]
    exact wpAny_execs_nil ⟨σ1, H2, I2, q2⟩
end

/-! ### what a loop or a comprehension walks -/
/-- at turn i: it yields x (the heap may grow), or it stops -/
structure It where
  go : Nat → Hp → Prop
  yld : Nat → Hp → V → Hp → Prop
  stop : Nat → Hp → Prop
/-- the iterator's own objects may turn: they are not the frame's, not pinned, younger than the entry (or a comprehension's own) -/
def FpOk (X : Cx) (pins : List (Addr × Obj)) (H : Hp) (b : Addr) : Prop :=
  H b = none ∧ b ≠ X.env.locals ∧ b ∉ X.fs ∧ (b ∈ X.ex ∨ X.s_0.heap.objs.size ≤ b) ∧ (∀ x c, X.env.cells.lookup x = some c → c ≠ b) ∧ ∀ p ∈ X.pn ++ pins, p.1 ≠ b
theorem Inv.fpOk {X : Cx} {pins : List (Addr × Obj)} {σ : St} {H H' : Hp} {s : Shared} {b : Addr} (I : Inv X pins σ H s) (hb : s.heap.objs.size ≤ b) (hn : H' b = none) : FpOk X pins H' b := by
  refine ⟨hn, Nat.ne_of_gt (Nat.lt_of_lt_of_le I.lt hb), I.nofs hb, .inr (Nat.le_trans I.sz hb), fun x c e z => ?_, fun p hp z => ?_⟩
  · obtain ⟨v, q⟩ := I.cell x c e
    exact absurd (Nat.lt_of_lt_of_le q.lt (by rw [z]; exact hb)) (Nat.lt_irrefl _)
  · exact absurd (Nat.lt_of_lt_of_le (Heap.lt_size (I.pin p hp).1) (by rw [z]; exact hb)) (Nat.lt_irrefl _)
structure Turn (P : Program) (w : World) (K : PySem.W.Frag) (tg : Expr) (J : It) (fp : List Addr) (it : Addr) (tn : Nat → Heap → Prop) : Prop where
  mem : it ∈ fp
  obj : ∀ i h, tn i h → ∀ b ∈ fp, ∃ o, h.get? b = some o ∧ ∀ v, o.data ≠ .cell v
  keep : ∀ i h h', tn i h → (∀ b ∈ fp, ∀ o, h.get? b = some o → h'.get? b = some o) → tn i h'
  item : ∀ (X : Cx), X.prog = P → X.w = w → X.K = K → X.calm = true → ∀ (i : Nat) (pins : List (Addr × Obj)) (s : Shared) (σ : St) (H : Hp) (E : Value → Shared → Prop), Inv X pins σ H s → (∀ b ∈ fp, FpOk X pins H b) → tn i s.heap → J.go i H →
    wpAny (model P w) X.A (pyNext (.ref it)) (fun r s1 => ∃ u, r = some u ∧
      wpAny (model P w) X.A (letOwnedTupleGo tg (.ref it) u) (fun _ s2 => ∃ x H', Inv X pins σ H' s2 ∧ RelV x u ∧ J.yld i H x H' ∧ tn (i + 1) s2.heap ∧ ∀ b ∈ fp, H' b = none) E s1) E s
  done : ∀ (X : Cx), X.prog = P → X.w = w → X.K = K → X.calm = true → ∀ (i : Nat) (pins : List (Addr × Obj)) (s : Shared) (σ : St) (H : Hp) (E : Value → Shared → Prop), Inv X pins σ H s → (∀ b ∈ fp, FpOk X pins H b) → tn i s.heap → J.stop i H →
    wpAny (model P w) X.A (pyNext (.ref it)) (fun r s1 => r = none ∧ Inv X pins σ H s1) E s
  self : ∀ (A : Around) (i : Nat) (s : Shared) (Q : Value → Shared → Prop) (E : Value → Shared → Prop), tn i s.heap → Q (.ref it) s → wpAny (model P w) A (pyIter (.ref it)) Q E s
abbrev TI := St → Hp → (It → Hp → Prop) → Prop
/-- an iterator has come -/
def PIE (X : Cx) (pins : List (Addr × Obj)) (σ : St) (tg : Expr) (R : It → Hp → Prop) (itv : Value) (s2 : Shared) : Prop :=
  ∃ (it : Addr) (fp : List Addr) (tn : Nat → Heap → Prop) (J : It) (H' : Hp), itv = .ref it ∧ Inv X pins σ H' s2 ∧ Turn X.prog X.w X.K tg J fp it tn ∧ tn 0 s2.heap ∧ (∀ b ∈ fp, FpOk X pins H' b) ∧ R J H'
def PI (X : Cx) (tg iter : Expr) (wi : TI) : Prop :=
  ∀ (pins : List (Addr × Obj)) (s : Shared) (σ : St) (H : Hp) (R : It → Hp → Prop), Inv X pins σ H s → wi σ H R →
    wpAny (model X.prog X.w) X.A (eval iter X.env) (fun v s1 => wpAny (model X.prog X.w) X.A (pyIter v) (PIE X pins σ tg R) X.xe s1) X.xe s

/-- the step ahead of the store is nothing for an iterator that keeps no tuple -/
theorem go_of {M : Model} {A : Around} {E : Value → Shared → Prop} {s : Shared} {tg : Expr} {it : Addr} {u : Value} {o : Obj} {n : String} {vs : Array Value} {Q : Unit → Shared → Prop} (ho : s.heap.get? it = some o) (hc : o.cls = .type n) (hd : o.data = .fields vs)
    (hn : ["enumerate", "zip", "dict_itemiterator", "dict_reverseitemiterator", "odict_iterator", "itertools.zip_longest", "itertools.pairwise"].contains n = false) (hQ : Q () s) : wpAny M A (letOwnedTupleGo tg (.ref it) u) Q E s := by
  unfold letOwnedTupleGo
  cases tg <;> first
    | exact wpAny_pure hQ
    | (cases u <;> first
        | exact wpAny_pure hQ
        | (refine wpAny_bind (wpAny_load ho ?_)
           rw [hc, hd]
           show wpAny M A (if (["enumerate", "zip", "dict_itemiterator", "dict_reverseitemiterator", "odict_iterator", "itertools.zip_longest", "itertools.pairwise"].contains n && vs[0]? == some (rawInt _)) = true then _ else _) Q E s
           rw [if_neg (by intro h; rw [hn, Bool.false_and] at h; cases h)]
           exact wpAny_pure hQ))

/-- the list at a, as it stands at each turn (a loop may append to it) -/
def Itl (K : PySem.W.Frag) (a : Addr) : It :=
  ⟨fun i H => ∃ xs x, SqL K H a xs ∧ xs[i]? = some x, fun i H x H' => H' = H ∧ ∀ xs, SqL K H a xs → xs[i]? = some x, fun i H => ∃ xs, SqL K H a xs ∧ xs.length ≤ i⟩
def Itt (K : PySem.W.Frag) (a : Addr) : It :=
  ⟨fun i H => ∃ xs x, SqT K H a xs ∧ xs[i]? = some x, fun i H x H' => H' = H ∧ ∀ xs, SqT K H a xs → xs[i]? = some x, fun i H => ∃ xs, SqT K H a xs ∧ xs.length ≤ i⟩
/-- lo, lo + 1, .. (n of them) -/
def Itr (lo : Int) (n : Nat) : It := ⟨fun i _ => i < n, fun i H x H' => H' = H ∧ x = .int (lo + i), fun i _ => n ≤ i⟩
theorem turn_list {P : Program} {w : World} {K : PySem.W.Frag} {tg : Expr} (a it : Addr) : Turn P w K tg (Itl K a) [it] it (fun i h => h.IsListIter it a i) where
  mem := by simp
  obj := fun i h st b hb => by
    have e : b = it := by simpa using hb
    subst e
    obtain ⟨o, e, c, d⟩ := st
    exact ⟨o, e, fun v z => by rw [d] at z; cases z⟩
  keep := fun i h h' st k => st.at fun o e => k it (by simp) o e
  item := by
    intro X hP hw hK hc i pins s σ H E I hf st hg
    subst hP hw hK
    obtain ⟨xs, x, hq, hx⟩ := hg
    obtain ⟨its, rv, p, hz⟩ := I.list hq
    obtain ⟨u, hu, ru⟩ := rv.get hx
    obtain ⟨f0, f1, f2, f3, f4, f5⟩ := hf it (by simp)
    refine wpAny_pyNext_list_item st p.isList (x := u) (by simpa using hu) fun h' st' sb => ?_
    have I1 : Inv X pins σ H { s with heap := h' } := I.turned (t' := s.toks) (fun b o hb e => (sb.2 b hb).trans e) f0 f1 f3 f4 f5
    obtain ⟨o, e, c, d⟩ := id st'
    exact ⟨u, rfl, go_of (s := { s with heap := h' }) e c d (by decide) ⟨x, H, I1, ru, ⟨rfl, fun ys hy => by rw [I.list_inj hy hq]; exact hx⟩, st', fun b hb => (hf b hb).1⟩⟩
  done := by
    intro X hP hw hK hc i pins s σ H E I hf st hg
    subst hP hw hK
    obtain ⟨xs, hq, hx⟩ := hg
    obtain ⟨its, rv, p, hz⟩ := I.list hq
    obtain ⟨f0, f1, f2, f3, f4, f5⟩ := hf it (by simp)
    have hl := rv.length
    exact wpAny_pyNext_list_end (I.ok.hd hc) st p.isList (by simp; omega) fun h' eb => ⟨rfl, I.turned (t' := s.toks) (fun b o hb e => eb b o hb e) f0 f1 f3 f4 f5⟩
  self := fun _ _ _ _ _ st h => wpAny_pyIter_listiter st h
end L2

namespace L2
open PySem PySem.Spec PyProof.Rows
section
variable {X : Cx} {tg : Expr}
def iList (K : PySem.W.Frag) (tl : TE) : TI := fun σ H R => tl σ H fun x H1 => ∃ a, x = .ref a ∧ (∃ xs, SqL K H1 a xs) ∧ R (Itl K a) H1
def iTup (K : PySem.W.Frag) (tl : TE) : TI := fun σ H R => tl σ H fun x H1 => ∃ a, x = .ref a ∧ (∃ xs, SqT K H1 a xs) ∧ R (Itt K a) H1
theorem pi_list {l : Expr} {tl : TE} (hl : PE X l tl) : PI X tg l (iList X.K tl) := by
  intro pins s σ H R I h
  refine thn (hl pins s σ H _ I h) fun v s1 ⟨x, H1, I1, r1, q1⟩ => ?_
  obtain ⟨a, e, ⟨xs, hq⟩, q⟩ := q1
  subst e
  cases r1
  obtain ⟨its, rv, p, hz⟩ := I1.list hq
  refine wpAny_pyIter_list p.isList ?_
  refine ⟨s1.heap.objs.size, [s1.heap.objs.size], _, _, H1, rfl, I1.kept (t' := s1.toks) fun b o e => Heap.get?_push_of_some _ e, turn_list a _, ⟨_, Heap.get?_push_size _ rfl, rfl, rfl⟩, fun b hb => ?_, q⟩
  have e : b = s1.heap.objs.size := by simpa using hb
  subst e
  exact I1.fpOk (Nat.le_refl _) (I1.hok.fresh (Nat.le_refl _))
def iRng1 (ta : TA) : TI := fun σ H R => ta σ H fun vs H1 => ∃ j : Int, vs = [.int j] ∧ -(2 ^ 62) ≤ j ∧ j < 2 ^ 62 ∧ R (Itr 0 j.toNat) H1
def iRng2 (ta : TA) : TI := fun σ H R => ta σ H fun vs H1 => ∃ i j : Int, vs = [.int i, .int j] ∧ (-(2 ^ 62) ≤ i ∧ i < 2 ^ 62 ∧ -(2 ^ 62) ≤ j ∧ j < 2 ^ 62) ∧ R (Itr i (j - i).toNat) H1

/-! ### for -/
/-- W: the invariant by the turn and a measure; N: what the body is to reach -/
def tFor (wi : TI) (g : TG) (tb : TS) : TS := fun D σ H => wi σ H fun J H1 => ∃ W : Nat → Nat → St → Hp → Prop, (∃ m, W 0 m σ H1) ∧ ∀ i m σ H, W i m σ H →
  (J.stop i H ∧ D.nx σ H) ∨ (J.go i H ∧ ∃ N : St → Hp → Prop, (∀ σ' H', N σ' H' → ∃ m', m' < m ∧ W (i + 1) m' σ' H') ∧ ∀ x H', J.yld i H x H' → g x σ H' fun σ2 H2 => tb { D with nx := N, ct := N, bk := D.nx } σ2 H2)
/-- the records at fp as they stand -/
def pinsAt (fp : List Addr) (h : Heap) : List (Addr × Obj) := fp.filterMap fun b => (h.get? b).map fun o => (b, o)
theorem mem_pinsAt {fp : List Addr} {h : Heap} {b : Addr} {o : Obj} (hb : b ∈ fp) (e : h.get? b = some o) : (b, o) ∈ pinsAt fp h := List.mem_filterMap.mpr ⟨b, hb, by rw [e]; rfl⟩
theorem of_pinsAt {fp : List Addr} {h : Heap} {p : Addr × Obj} (hp : p ∈ pinsAt fp h) : p.1 ∈ fp ∧ h.get? p.1 = some p.2 := by
  obtain ⟨b, hb, e⟩ := List.mem_filterMap.mp hp
  cases q : h.get? b with
  | none => rw [q] at e; cases e
  | some o =>
    rw [q] at e
    have e' : (b, o) = p := Option.some.inj e
    subst e'
    exact ⟨hb, q⟩
theorem Inv.pinned {pins : List (Addr × Obj)} {σ : St} {H : Hp} {s : Shared} {fp : List Addr} (I : Inv X pins σ H s) (hf : ∀ b ∈ fp, FpOk X pins H b) (ho : ∀ b ∈ fp, ∃ o, s.heap.get? b = some o ∧ ∀ v, o.data ≠ .cell v) : Inv X (pins ++ pinsAt fp s.heap) σ H s :=
  I.pins_of fun p hp => (List.mem_append.mp hp).elim (fun z => I.pin p (List.mem_append_right _ z)) fun z => by
    obtain ⟨hb, e⟩ := of_pinsAt z
    obtain ⟨f0, f1, f2, _⟩ := hf p.1 hb
    obtain ⟨o, e', d⟩ := ho p.1 hb
    rw [e] at e'; cases e'
    exact ⟨e, f0, f1, f2, d⟩
theorem Inv.unpinned {pins pl : List (Addr × Obj)} {σ : St} {H : Hp} {s : Shared} (I : Inv X (pins ++ pl) σ H s) : Inv X pins σ H s := I.pins_of fun p hp => I.pin p (List.mem_append_right _ (List.mem_append_left _ hp))
theorem ps_for {iter : Expr} {body : List Stmt} {wi : TI} {g : TG} {tb : TS} {pos : Pos} (hp : PassesOwn (model X.prog X.w) X.A X.env X.xe) (hc : X.calm = true) (hi : PI X tg iter wi) (hg : PG X tg g) (hb : PSs X body tb)
    (hs : ∀ x, foldedSetIterable iter X.env x = pure x := by intro _; rfl) : PS X (.For tg iter body [] pos) (tFor wi g tb) := by
  intro pins s σ H D I h
  refine wpAny_For (thn (hi pins s σ H _ I h) fun v s1 h1 => thn h1 fun itv s2 h2 => ?_) hs
  obtain ⟨it, fp, tn, J, H2, e, I2, T, st2, f2, W, ⟨m0, w0⟩, turn⟩ := h2
  subst e
  -- what stays true of the iterator's objects through the loop
  have stat : ∀ {H' : Hp}, (∀ b ∈ fp, H' b = none) → ∀ b ∈ fp, FpOk X pins H' b := fun hn b hb => ⟨hn b hb, (f2 b hb).2⟩
  refine codeAny_forLoop_any (fun n s' => ∃ i σ' H', Inv X pins σ' H' s' ∧ tn i s'.heap ∧ (∀ b ∈ fp, H' b = none) ∧ W i n σ' H') ?_ m0 ⟨0, σ, H2, I2, st2, fun b hb => (f2 b hb).1, w0⟩
  rintro n s3 ⟨i, σ3, H3, I3, st3, fr3, w3⟩
  rcases turn i n σ3 H3 w3 with ⟨stop, qn⟩ | ⟨go, N, hN, step⟩
  · refine wpAny_passesOwn hp (thn (T.done X rfl rfl rfl hc i pins s3 σ3 H3 X.xe I3 (stat fr3) st3 stop) fun r s4 ⟨hr, I4⟩ => ?_)
    subst hr
    exact wpAny_execs_nil ⟨σ3, H3, I4, qn⟩
  · refine wpAny_passesOwn hp (thn (T.item X rfl rfl rfl hc i pins s3 σ3 H3 X.xe I3 (stat fr3) st3 go) fun r s4 ⟨u, hr, h4⟩ => ?_)
    subst hr
    refine wpAny_passesOwn hp (thn h4 fun _ s5 ⟨x, H5, I5, r5, y5, st5, fr5⟩ => ?_)
    have I5' := I5.pinned (stat fr5) (T.obj _ _ st5)
    refine wpAny_passesOwn hp (thn (hg _ s5 σ3 H5 x u _ I5' r5 (step x H5 y5)) fun _ s6 ⟨σ6, H6, I6, q6⟩ => ?_)
    refine wpAny_passesOwn hp (thn (hb _ s6 σ6 H6 _ I6 q6) fun f s7 q7 => ?_)
    have again : ∀ {σ7 : St} {H7 : Hp}, Inv X (pins ++ pinsAt fp s5.heap) σ7 H7 s7 → N σ7 H7 → ∃ m, m < n ∧ ∃ i σ' H', Inv X pins σ' H' s7 ∧ tn i s7.heap ∧ (∀ b ∈ fp, H' b = none) ∧ W i m σ' H' := fun {σ7 H7} I7 n7 => by
      obtain ⟨m', hm, w7⟩ := hN σ7 H7 n7
      refine ⟨m', hm, i + 1, σ7, H7, I7.unpinned, T.keep _ _ _ st5 fun b hb o e => (I7.pin (b, o) (List.mem_append_right _ (List.mem_append_right _ (mem_pinsAt hb e)))).1, fun b hb => ?_, w7⟩
      obtain ⟨o, e, d⟩ := T.obj _ _ st5 b hb
      exact (I7.pin (b, o) (List.mem_append_right _ (List.mem_append_right _ (mem_pinsAt hb e)))).2.1
    cases f with
    | next => obtain ⟨σ7, H7, I7, n7⟩ := q7; exact again I7 n7
    | cont => obtain ⟨σ7, H7, I7, n7⟩ := q7; exact again I7 n7
    | brk => obtain ⟨σ7, H7, I7, q7⟩ := q7; exact ⟨σ7, H7, I7.unpinned, q7⟩
    | ret v => obtain ⟨x7, σ7, H7, I7, r7, q7⟩ := q7; exact ⟨x7, σ7, H7, I7.unpinned, r7, q7⟩
end

/-! ### the forms one uses -/
/-- over a list that the body leaves as it is -/
theorem for_list {K : PySem.W.Frag} {a : Addr} {xs : List V} {g : TG} {tb : TS} {D : Ends} {σ : St} {H : Hp} (Pv : Nat → St → Hp → Prop) (h0 : Pv 0 σ H) (hl : ∀ i σ H, i ≤ xs.length → Pv i σ H → SqL K H a xs)
    (hs : ∀ i x σ H, xs[i]? = some x → Pv i σ H → g x σ H fun σ2 H2 => tb { D with nx := Pv (i + 1), ct := Pv (i + 1), bk := D.nx } σ2 H2) (hd : ∀ σ H, Pv xs.length σ H → D.nx σ H) :
    ∃ W : Nat → Nat → St → Hp → Prop, (∃ m, W 0 m σ H) ∧ ∀ i m σ H, W i m σ H →
      ((Itl K a).stop i H ∧ D.nx σ H) ∨ ((Itl K a).go i H ∧ ∃ N : St → Hp → Prop, (∀ σ' H', N σ' H' → ∃ m', m' < m ∧ W (i + 1) m' σ' H') ∧ ∀ x H', (Itl K a).yld i H x H' → g x σ H' fun σ2 H2 => tb { D with nx := N, ct := N, bk := D.nx } σ2 H2) := by
  refine ⟨fun i m σ H => m = xs.length - i ∧ i ≤ xs.length ∧ Pv i σ H, ⟨xs.length, by simp, Nat.zero_le _, h0⟩, ?_⟩
  rintro i m σ H ⟨rfl, hi, p⟩
  have q := hl i σ H hi p
  by_cases hlt : i < xs.length
  · refine .inr ⟨⟨xs, xs[i], q, by simp [hlt]⟩, Pv (i + 1), fun σ' H' p' => ⟨xs.length - (i + 1), by omega, rfl, hlt, p'⟩, fun x H' y => ?_⟩
    obtain ⟨e, y⟩ := y
    subst e
    exact hs i x σ _ (y xs q) p
  · have e : i = xs.length := by omega
    subst e
    exact .inl ⟨⟨xs, q, Nat.le_refl _⟩, hd σ H p⟩
end L2

namespace L2
open PySem PySem.Spec PyProof.Rows

abbrev R2 := V → V → Hp → VK → Prop
/-- a two-place operation on values: f is binaryOp op, inplaceOp op or compareOp op -/
def OpR (X : Cx) (f : Value → Value → Sem Value) (r : R2) : Prop :=
  ∀ (pins : List (Addr × Obj)) (s : Shared) (σ : St) (H : Hp) (x y : V) (v u : Value) (Q : VK), Inv X pins σ H s → RelV x v → RelV y u → r x y H Q →
    wpAny (model X.prog X.w) X.A (f v u) (EP X pins σ Q) X.xe s
/-- a one-place operation -/
def UnR (X : Cx) (f : Value → Sem Value) (r : V → Hp → VK → Prop) : Prop :=
  ∀ (pins : List (Addr × Obj)) (s : Shared) (σ : St) (H : Hp) (x : V) (v : Value) (Q : VK), Inv X pins σ H s → RelV x v → r x H Q →
    wpAny (model X.prog X.w) X.A (f v) (EP X pins σ Q) X.xe s
/-- a call of a value that is known (a builtin, a type) with values -/
def CallR (X : Cx) (f : Value) (r : List V → Hp → VK → Prop) : Prop :=
  ∀ (pins : List (Addr × Obj)) (s : Shared) (σ : St) (H : Hp) (xs : List V) (us : List Value) (Q : VK), Inv X pins σ H s → Vals xs us → r xs H Q →
    wpAny (model X.prog X.w) X.A (call f us) (EP X pins σ Q) X.xe s
/-- a value's truth -/
def TruR (X : Cx) (r : V → Hp → (Bool → Hp → Prop) → Prop) : Prop :=
  ∀ (pins : List (Addr × Obj)) (s : Shared) (σ : St) (H : Hp) (x : V) (v : Value) (Q : Bool → Hp → Prop), Inv X pins σ H s → RelV x v → r x H Q →
    wpAny (model X.prog X.w) X.A (truthy v) (TP X pins σ Q) X.xe s

def tOp (r : R2) (ta tb : TE) : TE := fun σ H Q => ta σ H fun x H1 => tb σ H1 fun y H2 => r x y H2 Q
def tUn (r : V → Hp → VK → Prop) (ta : TE) : TE := fun σ H Q => ta σ H fun x H1 => r x H1 Q
/-- ints in, under C, and a value out -/
def rI (C : Int → Int → Prop) (g : Int → Int → V) : R2 := fun x y H Q => ∃ i j, x = .int i ∧ y = .int j ∧ C i j ∧ Q (g i j) H
def rI0 (g : Int → Int → V) : R2 := fun x y H Q => ∃ i j, x = .int i ∧ y = .int j ∧ Q (g i j) H
def rU (g : Int → V) : V → Hp → VK → Prop := fun x H Q => ∃ i, x = .int i ∧ Q (g i) H

section
variable {X : Cx} {a b c : Expr} {ta tb tc : TE} {pos : Pos}

theorem binT (ha : PE X a ta) (hb : PE X b tb) {pins : List (Addr × Obj)} {s : Shared} {σ : St} {H : Hp} {R : V → V → Hp → Prop} (I : Inv X pins σ H s)
    (h : ta σ H fun x H1 => tb σ H1 fun y H2 => R x y H2) {Q : Value → Shared → Prop} {f : Value → Value → Sem Value}
    (hf : ∀ v u s2 x y H2, Inv X pins σ H2 s2 → RelV x v → RelV y u → R x y H2 → wpAny (model X.prog X.w) X.A (f v u) Q X.xe s2) :
    wpAny (model X.prog X.w) X.A (eval a X.env) (fun v s₁ => wpAny (model X.prog X.w) X.A (eval b X.env) (fun u s₂ => wpAny (model X.prog X.w) X.A (f v u) Q X.xe s₂) X.xe s₁) X.xe s := by
  refine thn (ha pins s σ H _ I h) fun v s1 ⟨x, H1, I1, r1, q1⟩ => ?_
  refine thn (hb pins s1 σ H1 _ I1 q1) fun u s2 ⟨y, H2, I2, r2, q2⟩ => ?_
  exact hf v u s2 x y H2 I2 r1 r2 q2

theorem pe_op {op : Operator} {r : R2} (ho : OpR X (binaryOp op) r) (ha : PE X a ta) (hb : PE X b tb) : PE X (.BinOp a op b pos) (tOp r ta tb) := by
  intro pins s σ H Q I h
  exact wpAny_BinOp (binT ha hb I h fun v u s2 x y H2 I2 rx ry q => ho pins s2 σ H2 x y v u Q I2 rx ry q)
theorem pe_un {op : UnaryOp} {r : V → Hp → VK → Prop} (ho : UnR X (unaryOp op) r) (ha : PE X a ta) : PE X (.UnaryOp op a pos) (tUn r ta) := by
  intro pins s σ H Q I h
  exact UnaryOp_ (thn (ha pins s σ H _ I h) fun v s1 ⟨x, H1, I1, r1, q1⟩ => ho pins s1 σ H1 x v Q I1 r1 q1)

/-! ### ints -/
theorem opI {f : Value → Value → Sem Value} {C : Int → Int → Prop} {g : Int → Int → Int}
    (rule : ∀ (i j : Int) (t u : Tok) (s : Shared) (Q : Value → Shared → Prop) (E : Value → Shared → Prop), C i j → Q (.int (g i j) s.toks) { s with toks := s.toks + 1 } → wpAny (model X.prog X.w) X.A (f (.int i t) (.int j u)) Q E s) :
    OpR X f (rI C fun i j => .int (g i j)) := by
  intro pins s σ H x y v u Q I rx ry h
  obtain ⟨i, j, rfl, rfl, hc, q⟩ := h
  obtain ⟨t, rfl⟩ := rx
  obtain ⟨t', rfl⟩ := ry
  exact rule i j t t' s _ _ hc ⟨.int (g i j), H, I.tok _, ⟨_, rfl⟩, q⟩
theorem opI0 {f : Value → Value → Sem Value} {g : Int → Int → Int}
    (rule : ∀ (i j : Int) (t u : Tok) (s : Shared) (Q : Value → Shared → Prop) (E : Value → Shared → Prop), Q (.int (g i j) s.toks) { s with toks := s.toks + 1 } → wpAny (model X.prog X.w) X.A (f (.int i t) (.int j u)) Q E s) :
    OpR X f (rI0 fun i j => .int (g i j)) := by
  intro pins s σ H x y v u Q I rx ry h
  obtain ⟨i, j, rfl, rfl, q⟩ := h
  obtain ⟨t, rfl⟩ := rx
  obtain ⟨t', rfl⟩ := ry
  exact rule i j t t' s _ _ ⟨.int (g i j), H, I.tok _, ⟨_, rfl⟩, q⟩
theorem opB0 {f : Value → Value → Sem Value} {g : Int → Int → Bool}
    (rule : ∀ (i j : Int) (t u : Tok) (s : Shared) (Q : Value → Shared → Prop) (E : Value → Shared → Prop), Q (.bool (g i j)) s → wpAny (model X.prog X.w) X.A (f (.int i t) (.int j u)) Q E s) :
    OpR X f (rI0 fun i j => .bl (g i j)) := by
  intro pins s σ H x y v u Q I rx ry h
  obtain ⟨i, j, rfl, rfl, q⟩ := h
  obtain ⟨t, rfl⟩ := rx
  obtain ⟨t', rfl⟩ := ry
  exact rule i j t t' s _ _ ⟨.bl (g i j), H, I, rfl, q⟩

def CDiv (i j : Int) : Prop := 0 < j ∧ j < 1073741824
def CDivN (i j : Int) : Prop := j ≠ 0 ∧ j.natAbs < 1073741824
def CPow (i j : Int) : Prop := 0 ≤ j ∧ j ≤ 1000000 ∧ i.natAbs < 2 ^ 64
def CMul (i j : Int) : Prop := (-(2 ^ 64) < i ∧ i < 2 ^ 64) ∨ (-(2 ^ 64) < j ∧ j < 2 ^ 64)
theorem CMul.ok {i j : Int} (h : CMul i j) : IntMulOk i j := by
  rcases h with ⟨h1, h2⟩ | ⟨h1, h2⟩
  · exact .of_left (intBits_le_64 h1 h2)
  · exact .of_right (intBits_le_64 h1 h2)

theorem op_add : OpR X (binaryOp .Add) (rI0 fun i j => .int (i + j)) := opI0 fun _ _ _ _ _ _ _ q => add_int q
theorem op_sub : OpR X (binaryOp .Sub) (rI0 fun i j => .int (i - j)) := opI0 fun _ _ _ _ _ _ _ q => sub_int q
theorem op_mul : OpR X (binaryOp .Mult) (rI CMul fun i j => .int (i * j)) := opI fun _ _ _ _ _ _ _ hc q => mul_int q hc.ok


theorem unI {f : Value → Sem Value} {g : Int → Int}
    (rule : ∀ (i : Int) (t : Tok) (s : Shared) (Q : Value → Shared → Prop) (E : Value → Shared → Prop), Q (.int (g i) s.toks) { s with toks := s.toks + 1 } → wpAny (model X.prog X.w) X.A (f (.int i t)) Q E s) :
    UnR X f (rU fun i => .int (g i)) := by
  intro pins s σ H x v Q I rx h
  obtain ⟨i, rfl, q⟩ := h
  obtain ⟨t, rfl⟩ := rx
  exact rule i t s _ _ ⟨.int (g i), H, I.tok _, ⟨_, rfl⟩, q⟩
theorem un_neg : UnR X (unaryOp .USub) (rU fun i => .int (-i)) := unI fun _ _ _ _ _ q => neg_int q

/-! ### bools among ints: n += (a < b) -/
end

/-! ### comparisons -/
/-- the scalars that == tells apart as data does -/
def scal : V → V → Bool
  | .non, .non => true | .non, .int _ => true | .int _, .non => true | .non, .bl _ => true | .bl _, .non => true | .non, .str _ => true | .str _, .non => true
  | .int _, .int _ => true | .bl _, .bl _ => true | .str _, .str _ => true | .byt _, .byt _ => true
  | .int _, .str _ => true | .str _, .int _ => true | .bl _, .str _ => true | .str _, .bl _ => true
  | _, _ => false
def rEq : R2 := fun x y H Q => scal x y = true ∧ Q (.bl (decide (x = y))) H
def rNe : R2 := fun x y H Q => scal x y = true ∧ Q (.bl (!decide (x = y))) H

theorem dec_int {i j : Int} : decide (V.int i = V.int j) = (i == j) := by
  rw [Bool.eq_iff_iff]
  simp
theorem dec_bl {i j : Bool} : decide (V.bl i = V.bl j) = (i == j) := by
  rw [Bool.eq_iff_iff]
  simp
theorem dec_str {i j : Str} : decide (V.str i = V.str j) = (i == j) := by
  rw [Bool.eq_iff_iff]
  simp
theorem dec_byt {i j : Array UInt8} : decide (V.byt i = V.byt j) = (i.toList == j.toList) := by
  rw [Bool.eq_iff_iff]
  cases i
  cases j
  simp

section
variable {X : Cx} {a b c : Expr} {ta tb tc : TE} {pos : Pos}
theorem fin_bl {pins : List (Addr × Obj)} {σ : St} {H : Hp} {s : Shared} {Q : VK} {k k' : Bool} (I : Inv X pins σ H s) (q : Q (.bl k) H) (e : k = k') : EP X pins σ Q (.bool k') s := by
  subst e
  exact ⟨.bl k, H, I, rfl, q⟩
theorem op_eq : OpR X (compareOp .Eq) rEq := by
  intro pins s σ H x y v u Q I rx ry h
  obtain ⟨hs, q⟩ := h
  cases x with
  | non =>
    cases rx
    cases y with
    | non => cases ry; exact PySem.EqNone.eq_none_none (fin_bl I q (by simp))
    | bl j => cases ry; exact PySem.EqNone.eq_none_bool (fin_bl I q (by simp))
    | int j => obtain ⟨t', rfl⟩ := ry; exact PySem.EqNone.eq_none_int (fin_bl I q (by simp))
    | str j => obtain ⟨t', rfl⟩ := ry; exact PySem.EqNone.eq_none_str (fin_bl I q (by simp))
    | _ => exact absurd (show false = true from hs) Bool.false_ne_true
  | bl i =>
    cases rx
    cases y with
    | non => cases ry; exact PySem.EqNone.eq_bool_none (fin_bl I q (by simp))
    | bl j => cases ry; exact eq_bool (fin_bl I q dec_bl)
    | str j => obtain ⟨t', rfl⟩ := ry; exact PySem.EqMixed.eq_bool_str (fin_bl I q (by simp))
    | _ => exact absurd (show false = true from hs) Bool.false_ne_true
  | int i =>
    obtain ⟨t, rfl⟩ := rx
    cases y with
    | non => cases ry; exact PySem.EqNone.eq_int_none (fin_bl I q (by simp))
    | int j => obtain ⟨t', rfl⟩ := ry; exact eq_int (fin_bl I q dec_int)
    | str j => obtain ⟨t', rfl⟩ := ry; exact PySem.EqMixed.eq_int_str (fin_bl I q (by simp))
    | _ => exact absurd (show false = true from hs) Bool.false_ne_true
  | str i =>
    obtain ⟨t, rfl⟩ := rx
    cases y with
    | non => cases ry; exact PySem.EqNone.eq_str_none (fin_bl I q (by simp))
    | bl j => cases ry; exact PySem.EqMixed.eq_str_bool (fin_bl I q (by simp))
    | int j => obtain ⟨t', rfl⟩ := ry; exact PySem.EqMixed.eq_str_int (fin_bl I q (by simp))
    | str j => obtain ⟨t', rfl⟩ := ry; exact eq_str (fin_bl I q dec_str)
    | _ => exact absurd (show false = true from hs) Bool.false_ne_true
  | byt i =>
    obtain ⟨t, rfl⟩ := rx
    cases y with
    | byt j => obtain ⟨t', rfl⟩ := ry; exact PySem.W.eq_bytes (fin_bl I q dec_byt)
    | _ => exact absurd (show false = true from hs) Bool.false_ne_true
  | _ => cases y <;> exact absurd (show false = true from hs) Bool.false_ne_true
theorem op_ne : OpR X (compareOp .NotEq) rNe := by
  intro pins s σ H x y v u Q I rx ry h
  obtain ⟨hs, q⟩ := h
  cases x with
  | non =>
    cases rx
    cases y with
    | non => cases ry; exact PySem.EqNone.ne_none_none (fin_bl I q (by simp))
    | bl j => cases ry; exact PySem.EqNone.ne_none_bool (fin_bl I q (by simp))
    | int j => obtain ⟨t', rfl⟩ := ry; exact PySem.EqNone.ne_none_int (fin_bl I q (by simp))
    | str j => obtain ⟨t', rfl⟩ := ry; exact PySem.EqNone.ne_none_str (fin_bl I q (by simp))
    | _ => exact absurd (show false = true from hs) Bool.false_ne_true
  | bl i =>
    cases rx
    cases y with
    | non => cases ry; exact PySem.EqNone.ne_bool_none (fin_bl I q (by simp))
    | bl j => cases ry; exact ne_bool (fin_bl I q (congrArg not dec_bl))
    | str j => obtain ⟨t', rfl⟩ := ry; exact PySem.EqMixed.ne_bool_str (fin_bl I q (by simp))
    | _ => exact absurd (show false = true from hs) Bool.false_ne_true
  | int i =>
    obtain ⟨t, rfl⟩ := rx
    cases y with
    | non => cases ry; exact PySem.EqNone.ne_int_none (fin_bl I q (by simp))
    | int j => obtain ⟨t', rfl⟩ := ry; exact ne_int (fin_bl I q (congrArg not dec_int))
    | str j => obtain ⟨t', rfl⟩ := ry; exact PySem.EqMixed.ne_int_str (fin_bl I q (by simp))
    | _ => exact absurd (show false = true from hs) Bool.false_ne_true
  | str i =>
    obtain ⟨t, rfl⟩ := rx
    cases y with
    | non => cases ry; exact PySem.EqNone.ne_str_none (fin_bl I q (by simp))
    | bl j => cases ry; exact PySem.EqMixed.ne_str_bool (fin_bl I q (by simp))
    | int j => obtain ⟨t', rfl⟩ := ry; exact PySem.EqMixed.ne_str_int (fin_bl I q (by simp))
    | str j => obtain ⟨t', rfl⟩ := ry; exact ne_str (fin_bl I q (congrArg not dec_str))
    | _ => exact absurd (show false = true from hs) Bool.false_ne_true
  | byt i =>
    obtain ⟨t, rfl⟩ := rx
    cases y with
    | byt j => obtain ⟨t', rfl⟩ := ry; exact PySem.W.ne_bytes (fin_bl I q (congrArg not dec_byt))
    | _ => exact absurd (show false = true from hs) Bool.false_ne_true
  | _ => cases y <;> exact absurd (show false = true from hs) Bool.false_ne_true

theorem op_lt : OpR X (compareOp .Lt) (rI0 fun i j => .bl (decide (i < j))) := opB0 fun _ _ _ _ _ _ _ q => lt_int q
theorem op_le : OpR X (compareOp .LtE) (rI0 fun i j => .bl (decide (i ≤ j))) := opB0 fun _ _ _ _ _ _ _ q => le_int q
theorem op_gt : OpR X (compareOp .Gt) (rI0 fun i j => .bl (decide (j < i))) := opB0 fun _ _ _ _ _ _ _ q => gt_int q

theorem op_notN : OpR X (compareOp .IsNot) (fun x y H Q => y = .non ∧ Q (.bl (!decide (x = .non))) H) := by
  intro pins s σ H x y v u Q I rx ry h
  obtain ⟨rfl, q⟩ := h
  cases ry
  refine isnot_none_gen (fin_bl I q ?_)
  cases x <;> first
    | (cases rx; rfl)
    | (obtain ⟨t, rfl⟩ := rx; rfl)

/-- is, is not of two objects that are tracked lists or instances -/
def isObj : HO → Bool
  | .lst _ => true
  | .ins _ _ _ => true
  | _ => false


theorem nomark (b : Expr) {op : CmpOp} (h : op ≠ .In := by decide) (h2 : op ≠ .NotIn := by decide) : behindInMarks op b = false := by
  have e1 : (op == CmpOp.In) = false := by cases op <;> first | rfl | exact absurd rfl h
  have e2 : (op == CmpOp.NotIn) = false := by cases op <;> first | rfl | exact absurd rfl h2
  cases b <;> simp [behindInMarks, e1, e2]
/-- a comparison as a value; hm: nomark b, or (for in, not in) by with_unfolding_all rfl -/
theorem pe_cmpR {op : CmpOp} {r : R2} (ho : OpR X (compareOp op) r) (ha : PE X a ta) (hb : PE X b tb) (hm : behindInMarks op b = false) : PE X (.Compare a [op] [b] pos) (tOp r ta tb) := by
  intro pins s σ H Q I h
  exact wpAny_Compare1 (binT ha hb I h fun v u s2 x y H2 I2 rx ry q => ho pins s2 σ H2 x y v u Q I2 rx ry q) hm
/-- a reading of a value as a test -/
def tTest (t : TE) : TT := fun σ H Q => t σ H fun x H' => ∃ k, x = .bl k ∧ Q k H'
theorem pt_cmpR {op : CmpOp} {r : R2} (ho : OpR X (compareOp op) r) (ha : PE X a ta) (hb : PE X b tb) (hm : behindInMarks op b = false) : PT X (.Compare a [op] [b] pos) (tTest (tOp r ta tb)) := by
  intro pins s σ H Q I h
  refine wpAny_isTrue_Compare1 (thn (ha pins s σ H _ I h) fun v s1 ⟨x, H1, I1, r1, q1⟩ => thn (hb pins s1 σ H1 _ I1 q1) fun u s2 ⟨y, H2, I2, r2, q2⟩ =>
    thn (ho pins s2 σ H2 x y v u _ I2 r1 r2 q2) fun c s3 ⟨z, H3, I3, r3, k, e, q3⟩ => ?_) hm
  subst e
  cases r3
  exact wpAny_truthy_bool ⟨H3, I3, q3⟩
/-- a op1 b op2 c -/
def tChain (r r' : R2) (ta tb tc : TE) : TE := fun σ H Q => ta σ H fun x H1 => tb σ H1 fun y H2 => r x y H2 fun z H3 => ∃ k, z = .bl k ∧
  (if k = true then tc σ H3 fun w' H4 => r' y w' H4 Q else Q (.bl false) H3)
theorem pe_chain {op op' : CmpOp} {r r' : R2} (ho : OpR X (compareOp op) r) (ho' : OpR X (compareOp op') r') (ha : PE X a ta) (hb : PE X b tb) (hc : PE X c tc)
    (hm : lastMarks [op, op'] [b, c] = false := by with_unfolding_all rfl) : PE X (.Compare a [op, op'] [b, c] pos) (tChain r r' ta tb tc) := by
  intro pins s σ H Q I h
  refine Compare_chain (thn (ha pins s σ H _ I h) fun v s1 ⟨x, H1, I1, r1, q1⟩ => chain_link (thn (hb pins s1 σ H1 _ I1 q1) fun u s2 ⟨y, H2, I2, r2, q2⟩ =>
    thn (ho pins s2 σ H2 x y v u _ I2 r1 r2 q2) fun d s3 ⟨z, H3, I3, r3, k, e, q3⟩ => ?_)) hm
  subst e
  cases r3
  refine wpAny_truthy_bool ?_
  cases k with
  | false => exact ite_ff ⟨.bl false, H3, I3, rfl, q3⟩
  | true => exact ite_tt (chain_last (thn (hc pins s3 σ H3 _ I3 q3) fun w' s4 ⟨z', H4, I4, r4, q4⟩ => ho' pins s4 σ H4 y z' u w' Q I4 r2 r4 q4))
theorem pt_chain {op op' : CmpOp} {r r' : R2} (ho : OpR X (compareOp op) r) (ho' : OpR X (compareOp op') r') (ha : PE X a ta) (hb : PE X b tb) (hc : PE X c tc)
    (hm : lastMarks [op, op'] [b, c] = false := by with_unfolding_all rfl) : PT X (.Compare a [op, op'] [b, c] pos) (tTest (tChain r r' ta tb tc)) := by
  intro pins s σ H Q I h
  refine isTrue_chain (thn (ha pins s σ H _ I h) fun v s1 ⟨x, H1, I1, r1, q1⟩ => test_link (thn (hb pins s1 σ H1 _ I1 q1) fun u s2 ⟨y, H2, I2, r2, q2⟩ =>
    thn (ho pins s2 σ H2 x y v u _ I2 r1 r2 q2) fun d s3 ⟨z, H3, I3, r3, k, e, q3⟩ => ?_)) hm
  subst e
  cases r3
  refine wpAny_truthy_bool ?_
  cases k with
  | false =>
    obtain ⟨k', e', q'⟩ := q3
    cases e'
    exact ite_ff ⟨H3, I3, q'⟩
  | true =>
    refine ite_tt (test_last (thn (hc pins s3 σ H3 _ I3 q3) fun w' s4 ⟨z', H4, I4, r4, q4⟩ => thn (ho' pins s4 σ H4 y z' u w' _ I4 r2 r4 q4) fun d' s5 ⟨z2, H5, I5, r5, k2, e2, q5⟩ => ?_))
    subst e2
    cases r5
    exact wpAny_truthy_bool ⟨H5, I5, q5⟩

/-! ### truth -/
/-- a value's truth by the abstract heap -/
def TruV (K : PySem.W.Frag) (x : V) (H : Hp) (k : Bool) : Prop :=
  match x with
  | .non => k = false
  | .bl b => k = b
  | .int i => k = (i != 0)
  | .str y => y.length ≤ sizeLine ∧ k = ((y.length : Int) != 0)
  | .byt y => y.size ≤ sizeLine ∧ k = ((y.size : Int) != 0)
  | .ref p => (∃ xs, SqL K H p xs ∧ k = !xs.isEmpty) ∨ (∃ xs, SqT K H p xs ∧ k = !xs.isEmpty) ∨ ∃ kvs, H p = some (.dK kvs) ∧ k = !kvs.isEmpty
  | _ => False
theorem line63 : (sizeLine : Nat) < 2 ^ 63 := by rw [sizeLine_eq]; decide

/-! ### strs and bytes -/

def PlainIxT (b : Expr) : Prop := ∀ o i, subscripted b false o i = operate [o, i] (getItem o i)

/-! ### scalar builtins, by CallR -/
theorem vals1 {x : V} {us : List Value} (r : Vals [x] us) : ∃ u, us = [u] ∧ RelV x u := by
  cases r with
  | cons r1 r2 => cases r2; exact ⟨_, rfl, r1⟩
theorem vals2 {x y : V} {us : List Value} (r : Vals [x, y] us) : ∃ u w', us = [u, w'] ∧ RelV x u ∧ RelV y w' := by
  cases r with
  | cons r1 r2 =>
    cases r2 with
    | cons r3 r4 => cases r4; exact ⟨_, _, rfl, r1, r3⟩
theorem call_max2 (hc : X.calm = true) : CallR X (.builtin "max") (fun xs H Q => ∃ i j, xs = [.int i, .int j] ∧ Q (.int (if j > i then j else i)) H) := by
  intro pins s σ H xs us Q I r h
  obtain ⟨i, j, rfl, q⟩ := h
  obtain ⟨u, w', rfl, ⟨t, rfl⟩, ⟨t', rfl⟩⟩ := vals2 r
  refine max_two_ints (I.ok.hd hc) fun h' tk k => ⟨_, H, I.kept k, ?_, q⟩
  by_cases hj : j > i
  · rw [if_pos hj, if_pos hj]; exact ⟨_, rfl⟩
  · rw [if_neg hj, if_neg hj]; exact ⟨_, rfl⟩
/-- len of a str, a bytes, a list, a tuple -/
def LenV (K : PySem.W.Frag) (x : V) (H : Hp) (n : Nat) : Prop :=
  match x with
  | .str y => y.length ≤ sizeLine ∧ n = y.length
  | .byt y => y.size ≤ sizeLine ∧ n = y.size
  | .ref p => (∃ xs, SqL K H p xs ∧ n = xs.length) ∨ ∃ xs, SqT K H p xs ∧ n = xs.length
  | _ => False
end
end L2

namespace L2
open PySem PySem.Spec PyProof.Rows

/-! ### an instance, its attributes a map -/
structure ObjM (h : Heap) (x dx C : Addr) (mA : Str → Option Value) : Prop where
  obj : h.get? x = some (PySem.W.instObj C dx)
  ns : h.Ns1 dx mA
  ne : dx ≠ x

theorem lookIn_ns {h : Heap} {dx : Addr} {mA : Str → Option Value} (n : h.Ns1 dx mA) : ∃ od, h.get? dx = some od ∧ ∀ name, PySem.W.lookIn name od = some (mA name) := by
  obtain ⟨o, es, ep, ho, hd, hk, _, hm⟩ := n
  refine ⟨o, ho, fun name => ?_⟩
  have e := hm name
  unfold nsFind findBy at e
  rw [← Array.find?_toList] at e
  unfold PySem.W.lookIn
  rw [hd]
  dsimp only
  split
  · rename_i y q
    rw [q] at e
    exact congrArg some e
  · rename_i q
    rw [q] at e
    have a : es.toList.any (·.refKey) = false := by
      rw [List.any_eq_false]
      intro y hy
      obtain ⟨z, t, hkey⟩ := hk y (Array.mem_toList_iff.mp hy)
      simp [DictEntry.refKey, hkey]
    have a' : ¬ es.toList.any (·.refKey) = true := by rw [a]; exact Bool.false_ne_true
    rw [if_neg a']
    exact congrArg some e

theorem ObjM.look {h : Heap} {x dx C : Addr} {mA : Str → Option Value} (I : ObjM h x dx C mA) : ∃ od, PySem.W.InstAt h x (PySem.W.instObj C dx) C (some od) ∧ ∀ name, PySem.W.lookIn name od = some (mA name) :=
  let ⟨od, ho, hl⟩ := lookIn_ns I.ns
  ⟨od, ⟨I.obj, rfl, rfl, ho⟩, hl⟩

section
variable {prog : Program} {w : World} {A : Around} {E : Value → Shared → Prop} {s : Shared} {K : PySem.W.Frag} {x dx C f : Addr} {mA : Str → Option Value} {name : Str} {v : Value}

theorem get_map {expr : Bool} {Q : Value → Shared → Prop} (X : K.In s.heap) (I : ObjM s.heap x dx C mA) (hg : PySem.W.plainGet K C name = true) (hh : PySem.W.hasDictIn K C = true)
    (ha : PySem.W.findIn K (.ref C) name = some none) (hv : mA name = some v) (hv' : PySem.W.handedIn v = true) (h : Q v { s with toks := s.toks + 1 }) :
    wpAny (model prog w) A (getAttr (.ref x) name expr) Q E s := by
  obtain ⟨od, J, hl⟩ := I.look
  exact PySem.W.get_value X J (PySem.W.plainGet_of hg).1 (PySem.W.findObj_own hh ha rfl (by rw [hl, hv])) hv' h


theorem get_meth {pl : Sem Bool} {Q : Value × List Value → Shared → Prop} (X : K.In s.heap) (I : ObjM s.heap x dx C mA) (hg : PySem.W.plainGet K C name = true)
    (hf : PySem.W.findIn K (.ref C) name = some (some (.ref f))) (ht : PySem.W.isFn K (.ref f) = true) (hv : mA name = none) (h : Q (.ref f, [.ref x]) s) :
    wpAny (model prog w) A (getMethod (.ref x) name pl) Q E s := by
  obtain ⟨od, J, hl⟩ := I.look
  exact PySem.W.method_fn X J (PySem.W.plainGet_of hg).1 (PySem.W.plainGet_of hg).2 hf (beq_iff_eq.mp ht) (by show (PySem.W.lookIn name od).map (·.isSome) = some false; rw [hl, hv]; rfl) h

theorem set_map {ns : List Str} {Q : Unit → Shared → Prop} (X : K.In s.heap) (I : ObjM s.heap x dx C mA)
    (hs : PySem.W.findIn K (.ref C) "__setattr__" = some (some (.builtin "object.__setattr__"))) (hp : PySem.W.plainOver K C = true) (ht : PySem.W.takerIn K C name = some none) (hh : PySem.W.hasDictIn K C = true)
    (hw : PySem.Within mA ns) (hsz : ns.length ≤ sizeLine)
    (h : ∀ h', ObjM h' x dx C (fun y => if y = name then some v else mA y) → Heap.SameBut dx s.heap h' → Q () { s with heap := h', toks := s.toks + 2 }) :
    wpAny (model prog w) A (setAttr (.ref x) name v) Q E s := by
  obtain ⟨od, J, hl⟩ := I.look
  refine PySem.W.set_plain X J hs (PySem.W.osa_open (s := { s with toks := s.toks + 1 }) (r := none) X J hp ht fun b => ?_)
  obtain ⟨cd, hc, hd'⟩ := PySem.W.any_some hh
  have hx : s.heap.get? x = some ⟨.ref C, some dx, .plain, #[]⟩ := I.obj
  refine wpAny_bind (wpAny_pure (wpAny_bind (wpAny_bind (wpAny_loadPart hx (wpAny_bind (PySem.W.Looks.here (s := { s with toks := s.toks + 1 }) (PySem.W.looks_clsIn X hc) ?_))))))
  rw [hd']
  refine wpAny_pure (a := some dx) (wpAny_bind (wpAny_pure (wpAny_bind ?_)))
  refine wpAny_nsSet1 (s := { s with toks := s.toks + 1 }) I.ns fun h' hn2 hs2 => ?_
  obtain ⟨oD, esD, epD, hoD, hdD, hcD⟩ := hn2.count (PySem.Within.cons name v hw)
  refine wpAny_bind (wpAny_lookBehind hoD (by rw [hdD]; exact pastItsLine_dict (Nat.le_trans hcD (by rw [List.length_cons]; omega))) ?_)
  exact wpAny_pure (h _ ⟨(hs2.2 _ (Ne.symm I.ne)).trans I.obj, hn2, I.ne⟩ hs2)

/-- C(..): the dict at the heap's end, the instance behind it; then its __init__ -/
theorem make_map {R : Result → Shared → Prop} {vs : List Value} {kw : List (Str × Value)} (X : K.In s.heap) (hm : PySem.W.makesIn K C = true)
    (hi : PySem.W.findIn K (.ref C) "__init__" = some (some (.ref f))) (hf : PySem.W.typeIn K (.ref f) = some (.type "function"))
    (h : codeAny (model prog w) (A.under (.builtin "type.__call__" ⟨.ref C :: vs, kw⟩)) (.call (.ref f) ⟨.ref (s.heap.objs.size + 1) :: vs, kw⟩) (PySem.W.InitBack (s.heap.objs.size + 1) R)
      { s with heap := (s.heap.push PySem.W.emptyDict).push (PySem.W.instObj C s.heap.objs.size) }) :
    codeAny (model prog w) A (.call (.ref C) ⟨vs, kw⟩) R s := by
  obtain ⟨hh, g, d, t, os⟩ := s
  exact PySem.W.make_core (PySem.W.makes_of X hm) (PySem.W.looks_findIn X hi) (fun self => PySem.W.bind_fn X self hf) (.inl rfl) h
end

/-! ### the attributes as a list of pairs -/
def putF (f : Str) (v : V) : List (Str × V) → List (Str × V)
  | [] => [(f, v)]
  | (g, x) :: r => if g = f then (g, v) :: r else (g, x) :: putF f v r
theorem lookup_putF (f g : Str) (v : V) : ∀ fs : List (Str × V), (putF f v fs).lookup g = if g = f then some v else fs.lookup g
  | [] => by
    show List.lookup g [(f, v)] = _
    by_cases h : g = f
    · have hb : (g == f) = true := beq_iff_eq.mpr h
      simp only [List.lookup, hb, if_pos h]
    · have hb : (g == f) = false := beq_eq_false_iff_ne.mpr h
      simp only [List.lookup, hb, if_neg h]
  | (k, x) :: r => by
    have ih := lookup_putF f g v r
    rw [show putF f v ((k, x) :: r) = (if k = f then (k, v) :: r else (k, x) :: putF f v r) from rfl]
    by_cases hk : k = f
    · rw [if_pos hk]
      by_cases h : g = k
      · have hb : (g == k) = true := beq_iff_eq.mpr h
        simp only [List.lookup, hb, if_pos (h.trans hk)]
      · have hb : (g == k) = false := beq_eq_false_iff_ne.mpr h
        simp only [List.lookup, hb, if_neg (fun e : g = f => h (e.trans hk.symm))]
    · rw [if_neg hk]
      by_cases h : g = k
      · have hb : (g == k) = true := beq_iff_eq.mpr h
        simp only [List.lookup, hb, if_neg (fun e : g = f => hk (h.symm.trans e))]
      · have hb : (g == k) = false := beq_eq_false_iff_ne.mpr h
        simp only [List.lookup, hb]
        exact ih
theorem keys_putF (f : Str) (v : V) : ∀ fs : List (Str × V), f ∈ (putF f v fs).map (·.1) ∧ ∀ g, g ∈ fs.map (·.1) → g ∈ (putF f v fs).map (·.1)
  | [] => ⟨by simp [putF], fun g h => by simp at h⟩
  | (k, x) :: r => by
    obtain ⟨i1, i2⟩ := keys_putF f v r
    rw [show putF f v ((k, x) :: r) = (if k = f then (k, v) :: r else (k, x) :: putF f v r) from rfl]
    by_cases hk : k = f
    · rw [if_pos hk]
      subst hk
      exact ⟨by simp, fun g h => by simpa using h⟩
    · rw [if_neg hk]
      refine ⟨?_, fun g h => ?_⟩
      · rw [List.map_cons]
        exact List.mem_cons_of_mem _ i1
      · rw [List.map_cons] at h ⊢
        rcases List.mem_cons.mp h with e | e
        · exact List.mem_cons.mpr (.inl e)
        · exact List.mem_cons_of_mem _ (i2 g e)
theorem length_putF (f : Str) (v : V) : ∀ fs : List (Str × V), (putF f v fs).length ≤ fs.length + 1
  | [] => by simp [putF]
  | (k, x) :: r => by
    have ih := length_putF f v r
    rw [show putF f v ((k, x) :: r) = (if k = f then (k, v) :: r else (k, x) :: putF f v r) from rfl]
    by_cases hk : k = f
    · rw [if_pos hk, List.length_cons, List.length_cons]; omega
    · rw [if_neg hk, List.length_cons, List.length_cons]; omega

theorem RelO.some_of {v : V} {o : Option Value} (r : RelO (some v) o) : ∃ u, o = some u ∧ RelV v u := by
  cases o with
  | none => exact (show False from r).elim
  | some u => exact ⟨u, rfl, r⟩
theorem RelO.none_of {o : Option Value} (r : RelO none o) : o = none := by
  cases o with
  | none => rfl
  | some u => exact (show False from r).elim
theorem handed_of {v : V} {u : Value} (r : RelV v u) : PySem.W.handedIn u = true := by
  cases v with
  | non => cases (show u = Value.none from r); rfl
  | bl b => cases (show u = Value.bool b from r); rfl
  | int i => obtain ⟨t, e⟩ := (show ∃ t, u = Value.int i t from r); cases e; rfl
  | str x => obtain ⟨t, e⟩ := (show ∃ t, u = Value.str x t from r); cases e; rfl
  | byt b => obtain ⟨t, e⟩ := (show ∃ t, u = Value.bytes b t from r); cases e; rfl
  | flt b => obtain ⟨t, e⟩ := (show ∃ t, u = Value.float b t from r); cases e; rfl
  | ref a => cases (show u = Value.ref a from r); rfl
  | ty n => cases (show u = Value.type n from r); rfl

section
variable {P : Program} {w : World} {H H' : Hp} {h h' : Heap} {a C dx : Addr} {fs fs' : List (Str × V)}
theorem ins_get (hok : HOk P w H h) (e : H a = some (.ins C dx fs)) : ∃ mA, ObjM h a dx C mA ∧ (∀ f, RelO (fs.lookup f) (mA f)) ∧ PySem.Within mA (fs.map (·.1)) ∧ fs.length ≤ 1000 ∧ H dx = some (.own a) := by
  obtain ⟨d, z, ne, ob, mA, n, r, q⟩ := (show ObjOk P w H h a (.ins C dx fs) from hok a _ e)
  exact ⟨mA, ⟨ob, n, ne⟩, r, q, z, d⟩
end

/-! ### what of the text a class must have -/
structure Cls (K : PySem.W.Frag) (C : Addr) : Prop where
  pg : PySem.W.plainGet K C Str.empty = true
  hd : PySem.W.hasDictIn K C = true
  po : PySem.W.plainOver K C = true
  sa : PySem.W.findIn K (.ref C) "__setattr__" = some (some (.builtin "object.__setattr__"))
theorem Cls.get {K : PySem.W.Frag} {C : Addr} (c : Cls K C) (f : Str) : PySem.W.plainGet K C f = true := c.pg
/-- no class of it has the name -/
def NoAttr (K : PySem.W.Frag) (C : Addr) (f : Str) : Prop := PySem.W.findIn K (.ref C) f = some none
theorem NoAttr.taker {K : PySem.W.Frag} {C : Addr} {f : Str} (n : NoAttr K C f) : PySem.W.takerIn K C f = some none := by
  unfold PySem.W.takerIn
  rw [show PySem.W.findIn K (.ref C) f = some none from n]
  rfl
/-- a constant of the class -/
structure Con (K : PySem.W.Frag) (C : Addr) (f : Str) (v : V) (u : Value) : Prop where
  at_ : PySem.W.findIn K (.ref C) f = some (some u)
  rel : RelV v u
  get : PySem.W.specialIn K u "__get__" = some none
  cp : PySem.W.copiedNames.contains f = false
/-- a method: a plain def of the class or of one above it -/
structure Meth (K : PySem.W.Frag) (C : Addr) (m : Str) (f : Addr) : Prop where
  at_ : PySem.W.findIn K (.ref C) m = some (some (.ref f))
  fn : PySem.W.isFn K (.ref f) = true
  kp : PySem.W.keepIn K (.ref f) = true

section
variable {X : Cx} {pins : List (Addr × Obj)} {σ : St} {H : Hp} {s : Shared} {a C dx : Addr} {fs : List (Str × V)} {f : Str} {v : V} {A : Around} {E : Value → Shared → Prop}

theorem getattr_ok {b : Bool} {Q : Value → Shared → Prop} (I : Inv X pins σ H s) (e : H a = some (.ins C dx fs)) (c : Cls X.K C) (n : NoAttr X.K C f) (l : fs.lookup f = some v)
    (h : ∀ u s', Inv X pins σ H s' → RelV v u → Q u s') : wpAny (model X.prog X.w) A (getAttr (.ref a) f b) Q E s := by
  obtain ⟨mA, O, r, _, _, _⟩ := ins_get I.hok e
  obtain ⟨u, hu, ru⟩ := RelO.some_of (v := v) (o := mA f) (by rw [← l]; exact r f)
  exact get_map I.kIn O (c.get f) c.hd n hu (handed_of ru) (h u _ (I.tok _) ru)


theorem getmeth_ok {m : Str} {g : Addr} {pl : Sem Bool} {Q : Value × List Value → Shared → Prop} (I : Inv X pins σ H s) (e : H a = some (.ins C dx fs)) (c : Cls X.K C) (k : Meth X.K C m g) (l : fs.lookup m = none)
    (h : Q (.ref g, [.ref a]) s) : wpAny (model X.prog X.w) A (getMethod (.ref a) m pl) Q E s := by
  obtain ⟨mA, O, r, _, _, _⟩ := ins_get I.hok e
  have hn : mA m = none := RelO.none_of (by rw [← l]; exact r m)
  exact get_meth I.kIn O (c.get m) k.at_ k.fn hn h

theorem setattr_ok {y : V} {u : Value} {Q : Unit → Shared → Prop} (I : Inv X pins σ H s) (e : H a = some (.ins C dx fs)) (c : Cls X.K C) (n : NoAttr X.K C f) (hl : fs.length < 1000) (ry : RelV y u)
    (h : ∀ s', Inv X pins σ (upd H a (.ins C dx (putF f y fs))) s' → Q () s') : wpAny (model X.prog X.w) A (setAttr (.ref a) f u) Q E s := by
  obtain ⟨mA, O, r, wi, _, ho⟩ := ins_get I.hok e
  have hz : (fs.map (·.1)).length ≤ sizeLine := by rw [List.length_map, sizeLine_eq]; omega
  refine set_map I.kIn O c.sa c.po n.taker c.hd wi hz fun h' O' sb => h _ ?_
  have hd : ∃ o, h'.get? dx = some o := let ⟨o, _, _, e', _⟩ := O'.ns; ⟨o, e'⟩
  refine I.write (x := a) (e := dx) (by rw [e]; exact True.intro) (.inr ho) (fun b q hb z => (sb.2 b hb).trans z) hd ?_
  refine ⟨by rw [upd_ne O.ne]; exact ho, ?_, O.ne, O'.obj, _, O'.ns, fun g => ?_, fun g hg => ?_⟩
  · have := length_putF f y fs; omega
  · show RelO ((putF f y fs).lookup g) (if g = f then some u else mA g)
    rw [lookup_putF]
    by_cases q : g = f
    · rw [if_pos q, if_pos q]; exact ry
    · rw [if_neg q, if_neg q]; exact r g
  · by_cases q : g = f
    · rw [q]; exact (keys_putF f y fs).1
    · refine (keys_putF f y fs).2 g (wi g fun z => hg ?_)
      show (if g = f then some u else mA g) = none
      rw [if_neg q]; exact z

/-- a new instance, tracked, without attributes -/
theorem Inv.made (I : Inv X pins σ H s) : Inv X pins σ (upd (upd H s.heap.objs.size (.own (s.heap.objs.size + 1))) (s.heap.objs.size + 1) (.ins C s.heap.objs.size []))
    { s with heap := (s.heap.push PySem.W.emptyDict).push (PySem.W.instObj C s.heap.objs.size) } := by
  have e1 : (s.heap.push PySem.W.emptyDict).get? s.heap.objs.size = some PySem.W.emptyDict := Heap.get?_push_size s.heap rfl
  have e2 : ((s.heap.push PySem.W.emptyDict).push (PySem.W.instObj C s.heap.objs.size)).get? (s.heap.objs.size + 1) = some (PySem.W.instObj C s.heap.objs.size) := by
    have := Heap.get?_push_size (s.heap.push PySem.W.emptyDict) (o := PySem.W.instObj C s.heap.objs.size) rfl
    rwa [Heap.size_push] at this
  have e3 : (s.heap.push PySem.W.emptyDict).Ns s.heap.objs.size (fun _ => none) := ⟨PySem.W.emptyDict, #[], _, e1, rfl, (fun e he => absurd he (by simp)), fun _ => rfl⟩
  have I1 := I.laid (a := s.heap.objs.size) (o := .own (s.heap.objs.size + 1)) (h' := s.heap.push PySem.W.emptyDict) (t' := s.toks) (fun b u q => Heap.get?_push_of_some _ q) (Nat.le_refl _) ⟨_, e1⟩
  refine I1.laid (a := s.heap.objs.size + 1) (o := .ins C s.heap.objs.size []) (t' := s.toks) (fun b u q => Heap.get?_push_of_some _ q) (Nat.le_of_eq (Heap.size_push _ _)) ?_
  have ne : s.heap.objs.size ≠ s.heap.objs.size + 1 := Nat.ne_of_lt (Nat.lt_succ_self _)
  refine ⟨by rw [upd_ne ne, upd_same], Nat.zero_le _, ne, e2, fun _ => none, (Heap.Ns1.of_empty e3).at fun o q => Heap.get?_push_of_some _ q, fun _ => True.intro, fun y hy => absurd rfl hy⟩

/-- e.f where nothing but the object is asked: through attributeBase (super) and the last hold -/
theorem attr_of {prog : Program} {w : World} {env : Env} {e : Expr} {f : Str} {pos : Pos} {s : Shared} {Q : Value → Shared → Prop} (hb : attributeBase e f env (eval e env) = eval e env)
    (h : wpAny (model prog w) A (eval e env) (fun o s₁ => wpAny (model prog w) A (getAttr o f true) Q E s₁) E s) : wpAny (model prog w) A (eval (.Attribute e f pos) env) Q E s :=
  Attribute_any_ h (by rw [arm_eval_Attribute, hb])
end

/-! ### readings and rules -/
/-- e.f, an attribute of the instance -/
def tFld (K : PySem.W.Frag) (ta : TE) (f : Str) : TE := fun σ H Q => ta σ H fun x H1 => ∃ a C dx fs v, x = .ref a ∧ H1 a = some (.ins C dx fs) ∧ Cls K C ∧ NoAttr K C f ∧ fs.lookup f = some v ∧ Q v H1
/-- e.f, a constant of the class -/
def tCon (K : PySem.W.Frag) (ta : TE) (f : Str) : TE := fun σ H Q => ta σ H fun x H1 => ∃ a C dx fs v u, x = .ref a ∧ H1 a = some (.ins C dx fs) ∧ Cls K C ∧ Con K C f v u ∧ fs.lookup f = none ∧ Q v H1
/-- e.f = value -/
def sFld (K : PySem.W.Frag) (ta tv : TE) (f : Str) : TS := fun D σ H => tv σ H fun y H1 => ta σ H1 fun x H2 => ∃ a C dx fs, x = .ref a ∧ H2 a = some (.ins C dx fs) ∧ Cls K C ∧ NoAttr K C f ∧ fs.length < 1000 ∧
  D.nx σ (upd H2 a (.ins C dx (putF f y fs)))
/-- an augmented operator on two values -/
def InOp (X : Cx) (op : Operator) (rd : V → V → Hp → VK → Prop) : Prop :=
  ∀ (pins : List (Addr × Obj)) (s : Shared) (σ : St) (H : Hp) (x y : V) (u v : Value) (Q : VK), Inv X pins σ H s → RelV x u → RelV y v → rd x y H Q → wpAny (model X.prog X.w) X.A (inplaceOp op u v) (EP X pins σ Q) X.xe s
/-- e.f op= value -/
def sFldAug (K : PySem.W.Frag) (ta tv : TE) (rd : V → V → Hp → VK → Prop) (f : Str) : TS := fun D σ H => ta σ H fun x H1 => ∃ a C dx fs v, x = .ref a ∧ H1 a = some (.ins C dx fs) ∧ Cls K C ∧ NoAttr K C f ∧ fs.lookup f = some v ∧
  tv σ H1 fun y H2 => rd v y H2 fun z H3 => ∃ dx' fs', H3 a = some (.ins C dx' fs') ∧ fs'.length < 1000 ∧ D.nx σ (upd H3 a (.ins C dx' (putF f z fs')))

section
variable {X : Cx} {o e value : Expr} {f : Str} {pos pos' tpos : Pos} {ta tv : TE}
theorem pe_fld (he : PE X e ta) (hb : attributeBase e f X.env (eval e X.env) = eval e X.env) : PE X (.Attribute e f pos) (tFld X.K ta f) := by
  intro pins s σ H Q I h
  refine attr_of hb (thn (he pins s σ H _ I h) fun u s1 ⟨x, H1, I1, rx, a, C, dx, fs, v, ex, ea, c, n, l, q⟩ => ?_)
  subst ex
  obtain rfl : u = Value.ref a := rx
  exact getattr_ok I1 ea c n l fun u' s2 I2 ru => ⟨v, H1, I2, ru, q⟩
theorem ps_fld (ha : PE X o ta) (hv : PE X value tv) (hs : swapsWith value (some (.Attribute o f pos')) pos.line X.env = pure false) : PS X (.Assign [.Attribute o f pos'] value pos) (sFld X.K ta tv f) := by
  intro pins s σ H D I h
  refine plainObj_wpAny_Assign_Attribute (thn (hv pins s σ H _ I h) fun u s1 ⟨y, H1, I1, ry, q⟩ => thn (ha pins s1 σ H1 _ I1 q) fun ov s2 ⟨x, H2, I2, rx, a, C, dx, fs, ex, ea, c, n, l, q2⟩ => ?_) hs
  subst ex
  obtain rfl : ov = Value.ref a := rx
  exact setattr_ok I2 ea c n l ry fun s3 I3 => ⟨σ, _, I3, q2⟩
def rAdd : V → V → Hp → VK → Prop := fun x y H Q => ∃ i j, x = .int i ∧ y = .int j ∧ Q (.int (i + j)) H
def rSub : V → V → Hp → VK → Prop := fun x y H Q => ∃ i j, x = .int i ∧ y = .int j ∧ Q (.int (i - j)) H

end

/-! ### isinstance -/
section
variable {X : Cx} {pins : List (Addr × Obj)} {σ : St} {H : Hp} {s : Shared} {A : Around} {E : Value → Shared → Prop} {Q : Value → Shared → Prop} {c : Value} {b : Bool}
/-- the type of a value, as the fragment's deciders take it; for an instance its class -/
inductive TyOf (K : PySem.W.Frag) (H : Hp) : V → Value → Prop where
  | non : TyOf K H .non (.type "NoneType")
  | bl (x : Bool) : TyOf K H (.bl x) (.type "bool")
  | int (i : Int) : TyOf K H (.int i) (.type "int")
  | str (x : Str) : TyOf K H (.str x) (.type "str")
  | flt (x : UInt64) : TyOf K H (.flt x) (.type "float")
  | lst {a : Addr} {xs : List V} (e : H a = some (.lst xs)) : TyOf K H (.ref a) (.type "list")
  | frz {a : Addr} {o : Obj} {xs : List V} (e : H a = some (.frz o (.lst xs))) : TyOf K H (.ref a) (.type "list")
  | tup {a : Addr} {xs : List V} (e : H a = some (.tup xs)) : TyOf K H (.ref a) (.type "tuple")
  | dK {a : Addr} {kvs : List (Key × V)} (e : H a = some (.dK kvs)) : TyOf K H (.ref a) (.type "dict")
  | dT {a : Addr} {kvs : List (List Key × V)} (e : H a = some (.dT kvs)) : TyOf K H (.ref a) (.type "dict")
  | ins {a C dx : Addr} {fs : List (Str × V)} (e : H a = some (.ins C dx fs)) (cl : Cls K C) (ha : PySem.W.findIn K (.ref C) "__class__" = some (some (.builtin "object.__class__")))
      (hn : PySem.W.specialIn K (.builtin "object.__class__") "__get__" = some (some (.builtin "getset_descriptor.__get__"))) (htk : PySem.W.takesIn K (.builtin "object.__class__") = some true)
      (hm : PySem.W.mroIn K C (.type "object") = some true) : TyOf K H (.ref a) (.ref C)
end
end L2

namespace L2
open PySem PySem.Spec PyProof.Rows

/-! ### room -/
structure Room (k : Nat) (A : Around) : Prop where
  hd : A.handled = none
  dp : A.depth + 3 * k + 5 < recursionLimit
  un : A.units + 16 * k + 200 < cLine
theorem Room.mono {j k : Nat} {A : Around} (r : Room k A) (h : j ≤ k) : Room j A := ⟨r.hd, by have := r.dp; omega, by have := r.un; omega⟩
theorem Room.deeper {k : Nat} {A : Around} (r : Room (k + 1) A) (env : Env) : Room k (A.deeper env) :=
  ⟨r.hd, by have := r.dp; show A.depth + 1 + 3 * k + 5 < _; omega, by have := r.un; show A.units + 3 + 16 * k + 200 < _; omega⟩
theorem make_depth {A : Around} {C : Addr} {us : List Value} {kw : List (Str × Value)} : (A.under (.builtin "type.__call__" ⟨.ref C :: us, kw⟩)).depth = A.depth + 1 := by
  first | rfl | simp [Around.under, Code.weight, Code.isCreation, Code.isGuard, Code.isCaller, Code.frames, Code.isFrame, guardIds]
theorem make_units {A : Around} {C : Addr} {us : List Value} {kw : List (Str × Value)} : (A.under (.builtin "type.__call__" ⟨.ref C :: us, kw⟩)).units = A.units + 1 := by
  first | rfl | simp [Around.under, Code.cUnits, Code.frames, Code.isFrame]
theorem Room.make {k : Nat} {A : Around} (r : Room (k + 1) A) (C : Addr) (us : List Value) (kw : List (Str × Value)) : Room k (A.under (.builtin "type.__call__" ⟨.ref C :: us, kw⟩)) :=
  ⟨r.hd, by have := r.dp; rw [make_depth]; omega, by have := r.un; rw [make_units]; omega⟩
theorem Room.depth {k : Nat} {A : Around} (r : Room k A) : A.depth < recursionLimit := by have := r.dp; omega
theorem Room.units {k : Nat} {A : Around} (r : Room k A) : A.units + 64 < cLine := by have := r.un; omega

/-! ### argument lists and displays -/
def tNil : TA := fun _ H Q => Q [] H
def tCons (ta : TE) (tr : TA) : TA := fun σ H Q => ta σ H fun x H1 => tr σ H1 fun xs H2 => Q (x :: xs) H2
section
variable {X : Cx} {e : Expr} {es : List Expr} {te : TE} {t : TA} {pos : Pos}
theorem pa_nil : PA X [] tNil := fun _ _ _ _ H Q I h => Calls.spliced_nil ⟨[], H, I, .nil, h⟩
theorem pa_cons (ha : PE X e te) (hr : PA X es t) (hs : starEach (e :: es) X.env = (false, eval e X.env) :: starEach es X.env := by rfl) : PA X (e :: es) (tCons te t) := by
  intro pos pins s σ H Q I h
  rw [hs]
  show wpAny _ _ (spliced ((false, eval e X.env) :: backTo pos (starEach es X.env))) _ _ s
  refine Calls.spliced_cons (thn (ha pins s σ H _ I h) fun u s1 ⟨x, H1, I1, r1, q1⟩ => ?_)
  exact thn (hr pos pins s1 σ H1 _ I1 q1) fun us s2 ⟨xs, H2, I2, r2, q2⟩ => ⟨x :: xs, H2, I2, .cons r1 r2, q2⟩

/-- a tuple, a list of written items -/
def tTup (t : TA) : TE := fun σ H Q => t σ H fun xs H1 => xs.length ≤ sizeLine ∧ ∀ p, H1 p = none → Q (.ref p) (upd H1 p (.tup xs))
def tLst (t : TA) : TE := fun σ H Q => t σ H fun xs H1 => xs.length ≤ sizeLine ∧ ∀ p, H1 p = none → Q (.ref p) (upd H1 p (.lst xs))
theorem pe_tup {x1} (h : PA X es t) : PE X (.Tuple es x1 pos) (tTup t) := by
  intro pins s σ H Q I hq
  refine wpAny_Tuple_spliced (thn (h pos pins s σ H _ I hq) fun us s1 ⟨xs, H1, I1, r, z, q⟩ => ⟨by rw [← r.length]; exact z, ?_⟩)
  have hf : H1 s1.heap.objs.size = none := I1.hok.fresh (Nat.le_refl _)
  refine ⟨.ref s1.heap.objs.size, upd H1 s1.heap.objs.size (.tup xs), I1.laid (t' := s1.toks) (fun b u e => Heap.get?_push_of_some _ e) (Nat.le_refl _) ?_, rfl, q _ hf⟩
  exact ⟨z, us, r, ⟨_, Heap.get?_push_size _ rfl, rfl, _, rfl⟩⟩
theorem pe_lst (h : PA X es t) : PE X (.List es pos) (tLst t) := by
  intro pins s σ H Q I hq
  refine wpAny_List_spliced (thn (h pos pins s σ H _ I hq) fun us s1 ⟨xs, H1, I1, r, z, q⟩ => ⟨by rw [← r.length]; exact z, ?_⟩)
  have hf : H1 s1.heap.objs.size = none := I1.hok.fresh (Nat.le_refl _)
  refine ⟨.ref s1.heap.objs.size, upd H1 s1.heap.objs.size (.lst xs), I1.laid (t' := s1.toks) (fun b u e => Heap.get?_push_of_some _ e) (Nat.le_refl _) ?_, rfl, q _ hf⟩
  exact ⟨z, us, 0, r, Heap.get?_push_size _ rfl⟩
end

/-! ### what a def promises -/
/-- a def's promise: the bound arguments in the parameters' order, the heap, the wanted end, the wanted exception -/
abbrev Sp := List V → Hp → VK → XK → Prop
/-- how an exception lies behind a call (file 08 gives it): the callers' frames, abstract heap and state ahead of the call, the wish, the exception, the state -/
abbrev CXT := List Env → Hp → Shared → XK → Value → Shared → Prop

/-- the state at a call -/
structure Env0 (P : Program) (w : World) (K : PySem.W.Frag) (mg : Str → Option Value) (base : Heap) (A : Around) (outer : List Env) (s : Shared) (H : Hp) : Prop where
  frames : A.frames = some outer
  mod : Mod K mg base
  bs : ∀ b o, base.get? b = some o → s.heap.get? b = some o ∧ H b = none
  bsz : base.objs.size ≤ s.heap.objs.size
  funs : s.heap.FunFrames base outer
  frf : ∀ b ∈ frs outer, H b = none
  hok : HOk P w H s.heap
  bare : AllBare s.gens
/-- a call's end -/
def CE (outer : List Env) (P : Program) (w : World) (H : Hp) (s : Shared) (Q : VK) (u : Value) (s' : Shared) : Prop :=
  ∃ v H', s'.os = s.os ∧ AllBare s'.gens ∧ Un (frs outer) [] H H' s.heap s'.heap ∧ HOk P w H' s'.heap ∧ RelV v u ∧ Q v H'
def CR (CX : CXT) (outer : List Env) (P : Program) (w : World) (H : Hp) (s : Shared) (Q : VK) (E : XK) (r : Result) (s' : Shared) : Prop :=
  match r with
  | .ok (.ret u) => CE outer P w H s Q u s'
  | .ok _ => False
  | .error e => CX outer H s E e s'
structure FnOk (P : Program) (w : World) (K : PySem.W.Frag) (mg : Str → Option Value) (base : Heap) (CX : CXT) (k : Nat) (f : Addr) (fd : FuncData) (ps : List Str) (sp : Sp) : Prop where
  len : ∀ vs H Q E, sp vs H Q E → vs.length = ps.length
  run : ∀ (A : Around) (outer : List Env) (s : Shared) (H : Hp) (args : Args) (us : List Value) (vs : List V) (Q : VK) (E : XK), Room k A → Env0 P w K mg base A outer s H → BindsTo s fd args (ps.zip us) → Vals vs us → sp vs H Q E →
    codeAny (model P w) A (.call (.ref f) args) (CR CX outer P w H s Q E) s
theorem FnOk.mono {P : Program} {w : World} {K : PySem.W.Frag} {mg : Str → Option Value} {base : Heap} {CX : CXT} {j k : Nat} {f : Addr} {fd : FuncData} {ps : List Str} {sp : Sp} (F : FnOk P w K mg base CX j f fd ps sp) (h : j ≤ k) :
    FnOk P w K mg base CX k f fd ps sp := ⟨F.len, fun A outer s H args us vs Q E hr => F.run A outer s H args us vs Q E (hr.mono h)⟩

theorem Env0.make {P : Program} {w : World} {K : PySem.W.Frag} {mg : Str → Option Value} {base : Heap} {A : Around} {outer : List Env} {s : Shared} {H : Hp} (e : Env0 P w K mg base A outer s H) (C : Addr) (us : List Value) (kw : List (Str × Value)) :
    Env0 P w K mg base (A.under (.builtin "type.__call__" ⟨.ref C :: us, kw⟩)) outer s H := ⟨by first | exact e.frames | (simpa [Around.under, Code.envs, Code.isFrame, pushEnvs] using e.frames), e.mod, e.bs, e.bsz, e.funs, e.frf, e.hok, e.bare⟩

section
variable {X : Cx} {pins : List (Addr × Obj)} {σ : St} {H : Hp} {s s' : Shared}
/-- from a body: what a callee wants -/
theorem Inv.env0 (I : Inv X pins σ H s) : Env0 X.prog X.w X.K X.mg X.base X.A X.stack s H :=
  ⟨I.ok.frames, I.ok.mod, I.bs, Nat.le_trans I.ok.bsz I.sz, I.stack, I.stkFree, I.hok, I.bare⟩
/-- behind a call -/
theorem Inv.after {Q : VK} {u : Value} (I : Inv X pins σ H s) (h : CE X.stack X.prog X.w H s Q u s') : EP X pins σ Q u s' := by
  obtain ⟨v, H', os, bare, un, hok, r, q⟩ := h
  obtain ⟨hh, g, d, t, os'⟩ := s'
  obtain rfl : os' = s.os := os
  exact ⟨v, H', I.call (h' := hh) (g' := g) (d' := d) (t' := t) (ch := []) un hok bare (fun b z => absurd z (by simp)), r, q⟩
end

/-! ### calls -/
/-- f(..): the written arguments, then the defaults dvs; E: what is wanted of an exception -/
def tCall (sp : Sp) (dvs : List V) (E : XK) (t : TA) : TE := fun σ H Q => t σ H fun vs H1 => sp (vs ++ dvs) H1 Q E
/-- o.m(..) of an instance of the class at C -/
def tMeth (C : Addr) (m : Str) (sp : Sp) (dvs : List V) (E : XK) (ta : TE) (t : TA) : TE := fun σ H Q => ta σ H fun x H1 => ∃ a dx fs, x = .ref a ∧ H1 a = some (.ins C dx fs) ∧ fs.lookup m = none ∧
  t σ H1 fun vs H2 => sp (x :: (vs ++ dvs)) H2 Q E
/-- C(..): a new instance and its dict, then __init__ -/
def tMake (C : Addr) (sp : Sp) (dvs : List V) (E : XK) (t : TA) : TE := fun σ H Q => t σ H fun vs H1 => ∀ x dx, H1 x = none → H1 dx = none → dx ≠ x →
  sp (.ref x :: (vs ++ dvs)) (upd (upd H1 dx (.own x)) x (.ins C dx [])) (fun v H2 => v = .non ∧ Q (.ref x) H2) E

/-- how the parameters are bound: us the positional arguments, kw the keywords' values by name, ds the defaults that fill up -/
def Binds (K : PySem.W.Frag) (fd : FuncData) (ps : List Str) (ds : List Value) : Prop :=
  ∀ (s : Shared) (us : List Value), K.In s.heap → (us ++ ds).length = ps.length → BindsTo s fd ⟨us, []⟩ (ps.zip (us ++ ds))
/-- every parameter is given -/
theorem Binds.all {K : PySem.W.Frag} {fd : FuncData} {ps : List Str} (h : ∀ us : List Value, us.length = ps.length → bindArgs fd ⟨us, []⟩ = pure (ps.zip us)) : Binds K fd ps [] := fun s us _ hl => by
  rw [List.append_nil] at hl ⊢
  exact .of_eq (h us hl)

/-- an exception of a callee reaches what this body wants of exceptions -/
def Passes (CX : CXT) (X : Cx) (E : XK) : Prop := ∀ (pins : List (Addr × Obj)) (σ : St) (H : Hp) (s : Shared) (e : Value) (s' : Shared), Inv X pins σ H s → CX X.stack H s E e s' → X.xe e s'

section
variable {X : Cx} {CX : CXT} {k : Nat} {f C : Addr} {fd : FuncData} {ps : List Str} {sp : Sp} {dvs : List V} {ds : List Value} {E : XK} {x m : Str} {p pos apos : Pos} {e o : Expr} {es : List Expr} {ta : TE} {t : TA}

/-- the callee runs -/
theorem run_fn {pins : List (Addr × Obj)} {σ : St} {H : Hp} {s : Shared} {Q : VK} {us : List Value} {vs : List V} (F : FnOk X.prog X.w X.K X.mg X.base CX k f fd ps sp) (hr : Room k X.A) (hb : Binds X.K fd ps ds) (hd : Vals dvs ds) (hx : Passes CX X E)
    (I : Inv X pins σ H s) (r : Vals vs us) (h : sp (vs ++ dvs) H Q E) : wpAny (model X.prog X.w) X.A (call (.ref f) us) (EP X pins σ Q) X.xe s := by
  have r2 : Vals (vs ++ dvs) (us ++ ds) := r.append hd
  have hl : (us ++ ds).length = ps.length := by rw [← r2.length]; exact F.len _ _ _ _ h
  refine wpAny_call (codeAny_mono (F.run X.A X.stack s H ⟨us, []⟩ (us ++ ds) (vs ++ dvs) Q E hr I.env0 (hb s us I.kIn hl) r2 h) fun r s' hq => ?_)
  cases r with
  | error e => exact hx pins σ H s e s' I hq
  | ok fl =>
    cases fl with
    | ret u => exact I.after hq
    | next => exact False.elim hq
    | brk => exact False.elim hq
    | cont => exact False.elim hq

theorem pe_call (F : FnOk X.prog X.w X.K X.mg X.base CX k f fd ps sp) (hr : Room k X.A) (hg : Gl X x) (hm : X.mg x = some (.ref f)) (hk : PySem.W.keepIn X.K (.ref f) = true) (hb : Binds X.K fd ps ds) (hd : Vals dvs ds) (hx : Passes CX X E)
    (ha : PA X (e :: es) t) (hdb : (x == ("__debug__" : Str)) = false := by decide) (he : starEach (e :: es) X.env = (false, eval e X.env) :: starEach es X.env := by rfl) (hpl : (backTo pos (starEach es X.env)).any (·.1) = false := by rfl) :
    PE X (.Call (.Name x p) (e :: es) [] pos) (tCall sp dvs E t) := by
  intro pins s σ H Q I h
  refine wpAny_Call_Name_kw (ld_glob I hg hm ?_ hdb)
  refine PySem.W.callWith_K (h₀ := X.base) I.ok.mod.kin hk (thn (ha pos pins s σ H _ I h) fun us s1 ⟨vs, H1, I1, r, q⟩ => ⟨I1.kIn, ?_⟩) he hpl
  exact run_fn F hr hb hd hx I1 r q

/-- o.m() -/
theorem pe_meth0 {pl : Sem Bool} (he : PE X o ta) (c : Cls X.K C) (hm : Meth X.K C m f) (F : FnOk X.prog X.w X.K X.mg X.base CX k f fd ps sp) (hr : Room k X.A) (hb : Binds X.K fd ps ds) (hd : Vals dvs ds) (hx : Passes CX X E)
    (ht : eval (.Call (.Attribute o m apos) [] [] pos) X.env = (do
      let ov ← eval o X.env
      standAt apos.atName
      let (f, first) ← holding [ov] (getMethod ov m pl)
      callWith pos f first (backTo pos (starEach [] X.env)) (backToKw pos (keywordEach [] X.env))) := by rfl) :
    PE X (.Call (.Attribute o m apos) [] [] pos) (tMeth C m sp dvs E ta tNil) := by
  intro pins s σ H Q I h
  refine PySem.W.methodCall_KW (pl := pl) (thn (he pins s σ H _ I h) fun u s1 ⟨x, H1, I1, rx, a, dx, fs, ex, ea, l, q⟩ => ?_) ht
  subst ex
  obtain rfl : u = Value.ref a := rx
  refine getmeth_ok I1 ea c hm l ?_
  exact PySem.W.callWith_K0 (first := [.ref a]) I1.kIn hm.kp (run_fn (us := [.ref a]) (vs := [.ref a]) F hr hb hd hx I1 (.cons rfl .nil) q)

/-- what a class must have to be made -/
structure Mk (K : PySem.W.Frag) (C f : Addr) : Prop where
  makes : PySem.W.makesIn K C = true
  init : PySem.W.findIn K (.ref C) "__init__" = some (some (.ref f))
  fn : PySem.W.isFn K (.ref f) = true
  kp : PySem.W.keepIn K (.ref C) = true

theorem run_make {pins : List (Addr × Obj)} {σ : St} {H : Hp} {s : Shared} {Q : VK} {us : List Value} {vs : List V} (M : Mk X.K C f) (F : FnOk X.prog X.w X.K X.mg X.base CX k f fd ps sp) (hr : Room (k + 1) X.A) (hb : Binds X.K fd ps ds) (hd : Vals dvs ds)
    (hx : Passes CX X E) (I : Inv X pins σ H s) (r : Vals vs us)
    (h : ∀ x dx, H x = none → H dx = none → dx ≠ x → sp (.ref x :: (vs ++ dvs)) (upd (upd H dx (.own x)) x (.ins C dx [])) (fun v H2 => v = .non ∧ Q (.ref x) H2) E) :
    wpAny (model X.prog X.w) X.A (call (.ref C) us) (EP X pins σ Q) X.xe s := by
  have hq := h (s.heap.objs.size + 1) s.heap.objs.size (I.hok.fresh (Nat.le_succ _)) (I.hok.fresh (Nat.le_refl _)) (Nat.ne_of_lt (Nat.lt_succ_self _))
  have I2 := Inv.made (C := C) I
  have r2 : Vals (V.ref (s.heap.objs.size + 1) :: (vs ++ dvs)) (Value.ref (s.heap.objs.size + 1) :: (us ++ ds)) := .cons rfl (r.append hd)
  have hl : (Value.ref (s.heap.objs.size + 1) :: us ++ ds).length = ps.length := by
    have e := r2.length
    rw [F.len _ _ _ _ hq] at e
    exact e.symm
  refine wpAny_call (make_map (f := f) I.kIn M.makes M.init (beq_iff_eq.mp M.fn) (codeAny_mono (F.run _ X.stack _ _ ⟨Value.ref (s.heap.objs.size + 1) :: us, []⟩ (Value.ref (s.heap.objs.size + 1) :: (us ++ ds)) _ _ E (hr.make C us [])
    (I2.env0.make C us []) (hb _ (Value.ref (s.heap.objs.size + 1) :: us) I2.kIn hl) r2 hq) fun r s' hq' => ?_))
  cases r with
  | error e => exact hx pins σ _ _ e s' I2 hq'
  | ok fl =>
    cases fl with
    | ret u =>
      obtain ⟨v, H', I3, rv, ev, q3⟩ := I2.after hq'
      subst ev
      exact ⟨rv, ⟨V.ref (s.heap.objs.size + 1), H', I3, rfl, q3⟩⟩
    | next => exact False.elim hq'
    | brk => exact False.elim hq'
    | cont => exact False.elim hq'
theorem pe_make (M : Mk X.K C f) (F : FnOk X.prog X.w X.K X.mg X.base CX k f fd ps sp) (hr : Room (k + 1) X.A) (hg : Gl X x) (hm : X.mg x = some (.ref C)) (hb : Binds X.K fd ps ds) (hd : Vals dvs ds) (hx : Passes CX X E)
    (ha : PA X (e :: es) t) (hdb : (x == ("__debug__" : Str)) = false := by decide) (he : starEach (e :: es) X.env = (false, eval e X.env) :: starEach es X.env := by rfl) (hpl : (backTo pos (starEach es X.env)).any (·.1) = false := by rfl) :
    PE X (.Call (.Name x p) (e :: es) [] pos) (tMake C sp dvs E t) := by
  intro pins s σ H Q I h
  refine wpAny_Call_Name_kw (ld_glob I hg hm ?_ hdb)
  refine PySem.W.callWith_K (h₀ := X.base) I.ok.mod.kin M.kp (thn (ha pos pins s σ H _ I h) fun us s1 ⟨vs, H1, I1, r, q⟩ => ⟨I1.kIn, ?_⟩) he hpl
  exact run_make M F hr hb hd hx I1 r q
end

/-! ### keywords -/
/-- the values of the keywords, from the left -/
def PK (X : Cx) (kws : List Keyword) (t : TA) : Prop :=
  ∀ (pos : Pos) (pins : List (Addr × Obj)) (s : Shared) (σ : St) (H : Hp) (Q : List V → Hp → Prop), Inv X pins σ H s → t σ H Q → wpAny (model X.prog X.w) X.A (evalAll ((backToKw pos (keywordEach kws X.env)).map (·.2))) (AP X pins σ Q) X.xe s
section
variable {X : Cx} {CX : CXT} {k : Nat} {f C : Addr} {fd : FuncData} {ps ks : List Str} {sp : Sp} {E : XK} {x m : Str} {p pos apos kpos : Pos} {e o : Expr} {es : List Expr} {kws : List Keyword} {te ta : TE} {t tk : TA} {nm : Option Str}

/-- how a call with keywords binds: g puts the positional values us and the keywords' values ws (names ks) in the parameters' order, defaults among them -/
structure KBinds (K : PySem.W.Frag) (fd : FuncData) (ps ks : List Str) (g : List Value → List Value → List Value) (gV : List V → List V → List V) : Prop where
  to : ∀ (s : Shared) (us ws : List Value), K.In s.heap → (g us ws).length = ps.length → BindsTo s fd ⟨us, ks.zip ws⟩ (ps.zip (g us ws))
  rel : ∀ {vs : List V} {us : List Value} {zs : List V} {ws : List Value}, Vals vs us → Vals zs ws → Vals (gV vs zs) (g us ws)
def tCallK (sp : Sp) (gV : List V → List V → List V) (E : XK) (t tk : TA) : TE := fun σ H Q => t σ H fun vs H1 => tk σ H1 fun zs H2 => sp (gV vs zs) H2 Q E
variable {g : List Value → List Value → List Value} {gV : List V → List V → List V}
end

/-! ### a def's body keeps its promise -/
/-- names: the parameters first -/
structure FnScope (N P : List Str) (sc : Scope) : Prop where
  kind : sc.kind = .function
  co : sc.isCoroutine = false
  gen : sc.isGenerator = false
  nd : N.Nodup
  pre : N.take P.length = P
  par : ∀ x ∈ P, sc.names.lookup x = some .local ∨ sc.names.lookup x = some .cell
  nofree : ∀ y ∈ sc.names, y.2 ≠ .free

theorem bindL_out {kindOf : Str → Option NameKind} {x : Str} : ∀ {binds : List (Str × Value)} {m : Str → Option Value}, (∀ v, (x, v) ∉ binds) → bindL kindOf binds m x = m x
  | [], _, _ => rfl
  | (n, v) :: r, m, h => by
    unfold bindL
    rw [bindL_out fun w hw => h w (List.mem_cons_of_mem _ hw)]
    split
    · have : x ≠ n := by rintro rfl; exact h v List.mem_cons_self
      simp [this]
    · rfl
theorem bindC_out {kindOf : Str → Option NameKind} {x : Str} : ∀ {binds : List (Str × Value)} {m : Str → Option Value}, (∀ v, (x, v) ∉ binds) → bindC kindOf binds m x = m x
  | [], _, _ => rfl
  | (n, v) :: r, m, h => by
    unfold bindC
    rw [bindC_out fun w hw => h w (List.mem_cons_of_mem _ hw)]
    split
    · rfl
    · have : x ≠ n := by rintro rfl; exact h v List.mem_cons_self
      simp [this]
theorem bindL_get {kindOf : Str → Option NameKind} {x : Str} {v : Value} : ∀ {P : List Str} {vs : List Value} {i : Nat} {m : Str → Option Value}, P.Nodup → P[i]? = some x → vs[i]? = some v → kindOf x = some .local →
    bindL kindOf (P.zip vs) m x = some v
  | [], _, _, _, _, h, _, _ => by simp at h
  | _ :: _, [], _, _, _, _, h, _ => by simp at h
  | p :: P, w :: vs, 0, m, nd, h1, h2, hk => by
    simp at h1 h2; subst h1; subst h2
    show bindL kindOf ((p, w) :: P.zip vs) m p = _
    unfold bindL
    rw [bindL_out fun v hv => (List.nodup_cons.mp nd).1 (List.of_mem_zip hv).1, if_pos hk]
    simp
  | p :: P, w :: vs, i + 1, m, nd, h1, h2, hk => by
    show bindL kindOf ((p, w) :: P.zip vs) m x = _
    unfold bindL
    exact bindL_get (i := i) (List.nodup_cons.mp nd).2 (by simpa using h1) (by simpa using h2) hk
theorem bindC_get {kindOf : Str → Option NameKind} {x : Str} {v : Value} : ∀ {P : List Str} {vs : List Value} {i : Nat} {m : Str → Option Value}, P.Nodup → P[i]? = some x → vs[i]? = some v → kindOf x ≠ some .local →
    bindC kindOf (P.zip vs) m x = some v
  | [], _, _, _, _, h, _, _ => by simp at h
  | _ :: _, [], _, _, _, _, h, _ => by simp at h
  | p :: P, w :: vs, 0, m, nd, h1, h2, hk => by
    simp at h1 h2; subst h1; subst h2
    show bindC kindOf ((p, w) :: P.zip vs) m p = _
    unfold bindC
    rw [bindC_out fun v hv => (List.nodup_cons.mp nd).1 (List.of_mem_zip hv).1, if_neg hk]
    simp
  | p :: P, w :: vs, i + 1, m, nd, h1, h2, hk => by
    show bindC kindOf ((p, w) :: P.zip vs) m x = _
    unfold bindC
    exact bindC_get (i := i) (List.nodup_cons.mp nd).2 (by simpa using h1) (by simpa using h2) hk

/-- the names' values at the entry -/
def start (N : List Str) (vs : List V) : St := vs.map some ++ List.replicate (N.length - vs.length) none

/-- the context of a def's body, at its entry; an exception leaves the frame, then lies as CX says -/
def cxOf (CX : CXT) (P : Program) (w : World) (K : PySem.W.Frag) (mg : Str → Option Value) (base : Heap) (N : List Str) (qual : Str) (scope : Scope) (f : Addr) (cd : Value) (A : Around) (outer : List Env) (s : Shared) (H : Hp) (E : XK) : Cx where
  prog := P
  w := w
  K := K
  mg := mg
  base := base
  A := A.deeper (envOfC qual scope s.heap.objs.size f cd)
  N := N
  s_0 := s
  H_0 := H
  env := envOfC qual scope s.heap.objs.size f cd
  outer := outer
  stack := envOfC qual scope s.heap.objs.size f cd :: outer
  ex := []
  calm := true
  fn := fun _ => true
  pn := []
  xe := fun e s' => wpAny (model P w) (A.deeper (envOfC qual scope s.heap.objs.size f cd)) (leaving (envOfC qual scope s.heap.objs.size f cd) e) (fun _ s'' => CX outer H s E e s'') (fun e' s'' => CX outer H s E e' s'') s'

theorem cell_has {sc : Scope} {n : Nat} {x : Str} (h : sc.names.lookup x = some .cell) : ∃ c, (cellsFrom n sc.names []).lookup x = some c := by
  have q := PySem.W.cellsFrom_some sc.names n [] (.inl h)
  exact Option.isSome_iff_exists.mp q

theorem inv_start {CX : CXT} {P : Program} {w : World} {K : PySem.W.Frag} {mg : Str → Option Value} {base : Heap} {N ps : List Str} {qual : Str} {scope : Scope} {f : Addr} {cd : Value} {A : Around} {outer : List Env} {s s1 : Shared} {H : Hp} {E : XK} {us : List Value} {vs : List V}
    (S : FnScope N ps scope) (hd : A.handled = none) (e0 : Env0 P w K mg base A outer s H) (hl : vs.length = ps.length) (r : Vals vs us)
    (x : InCallC s s.heap.objs.size (bindL (envOfC qual scope s.heap.objs.size f cd).kindOf (ps.zip us) fun _ => none) (cellsFrom (s.heap.objs.size + 1) scope.names []) (bindC (envOfC qual scope s.heap.objs.size f cd).kindOf (ps.zip us) fun _ => none) s1) :
    Inv (cxOf CX P w K mg base N qual scope f cd A outer s H E) [] (start N vs) H s1 := by
  have hpl : ps.length ≤ N.length := by have := congrArg List.length S.pre; rw [List.length_take] at this; omega
  obtain ⟨h1, tk, rfl, hk⟩ := x.done
  have noA : ∀ b : Addr, b ∉ (cxOf CX P w K mg base N qual scope f cd A outer s H E).ex := fun b z => absurd (show b ∈ ([] : List Addr) from z) (by simp)
  refine ⟨⟨e0.mod, S.kind, rfl, rfl, Nat.le_refl _, fun y z c h1 h2 => ?_, fun y hy => ?_, fun y c _ h => ?_, fun _ => hd, Around.frames_deeper e0.frames, .inr ⟨rfl, rfl⟩, fun b z => absurd z (noA b), e0.bs, e0.bsz, fun b _ _ => noA b, fun b z => absurd z (noA b), e0.funs, e0.frf⟩,
    rfl, e0.bare, Un.kept hk, ⟨_, x.toInCall.ns, fun i y v h1 h2 h3 => ?_⟩, fun y c h => ⟨_, x.cell y c h⟩, e0.hok.fresh (Nat.le_refl _), fun y c h => ?_, fun p hp => absurd (show p ∈ ([] : List (Addr × Obj)) from hp) (by simp), e0.hok.kept hk, ?_⟩
  · exact name_of_addr x.apart (PySem.mem_of_lookup h1) (PySem.mem_of_lookup h2)
  · have hy : scope.names.lookup y = some .cell ∨ scope.names.lookup y = some .free := hy
    rcases hy with hy | hy
    · exact cell_has hy
    · exact absurd rfl (S.nofree _ (PySem.mem_of_lookup hy))
  · exact Nat.le_of_lt (x.above y c (PySem.mem_of_lookup h))
  · have hi : i < vs.length := by
      unfold start at h2
      by_cases hi : i < vs.length
      · exact hi
      · rw [List.getElem?_append_right (by simpa using hi)] at h2
        rw [List.getElem?_replicate] at h2
        split at h2 <;> cases h2
    have ha : vs[i]? = some v := by
      unfold start at h2
      rw [List.getElem?_append_left (by simpa using hi), List.getElem?_map] at h2
      cases e : vs[i]? with
      | none => rw [e] at h2; cases h2
      | some a => rw [e] at h2; cases h2; rfl
    obtain ⟨u, hu, rv⟩ := r.get ha
    have hp : ps[i]? = some y := by
      rw [← S.pre, List.getElem?_take_of_lt (by omega)]; exact h1
    have ndP : ps.Nodup := by rw [← S.pre]; exact S.nd.sublist (List.take_sublist _ _)
    refine ⟨u, rv, ?_⟩
    rcases S.par y (List.mem_of_getElem? hp) with k | k
    · exact .inl ⟨k, bindL_get ndP hp hu k⟩
    · obtain ⟨c, e⟩ := cell_has (n := s.heap.objs.size + 1) k
      refine .inr ⟨.inl k, c, e, ?_⟩
      have q := x.cell y c e
      rw [bindC_get ndP hp hu (by show scope.names.lookup y ≠ _; rw [k]; decide)] at q
      exact q
  · exact e0.hok.fresh (Nat.le_of_lt (x.above y c (PySem.mem_of_lookup h)))
  · unfold start
    show _ = N.length
    rw [List.length_append, List.length_map, List.length_replicate]
    omega

/-- THE RULE: a def (or a method) of the text, by its body. The body's reading t is chosen for each entry; it is run at the parameters' values -/
theorem fn_of {CX : CXT} {P : Program} {w : World} {K : PySem.W.Frag} {mg : Str → Option Value} {base : Heap} {k : Nat} {f : Addr} {name qual : Str} {params : Arguments} {body : List Stmt} {scope : Scope} {dV kV doc pm cdv ct oc : Value} {an od : Option Addr}
    {osl : Array (Option Value)} {N ps : List Str} {sp : Sp} (lk : K.lookup f = some ⟨oc, od, .func (PySem.W.fnOf name qual params body scope dV kV doc pm an cdv ct), osl⟩) (hcd : PySem.W.codeIn K cdv qual = true) (S : FnScope N ps scope)
    (len : ∀ vs H Q E, sp vs H Q E → vs.length = ps.length)
    (hbody : ∀ (A : Around) (outer : List Env) (s : Shared) (H : Hp) (vs : List V) (Q : VK) (E : XK), Room k (A.deeper (envOfC qual scope s.heap.objs.size f cdv)) → sp vs H Q E →
      ∃ t, PSs (cxOf CX P w K mg base N qual scope f cdv A outer s H E) body t ∧ t { nx := fun _ H' => Q .non H', rt := Q } (start N vs) H) :
    FnOk P w K mg base CX (k + 1) f (PySem.W.fnOf name qual params body scope dV kV doc pm an cdv ct) ps sp := by
  refine ⟨len, fun A outer s H args us vs Q E hr e0 hb r hsp => ?_⟩
  have hl := len _ _ _ _ hsp
  have KX : K.In s.heap := e0.mod.kin.keeps fun b o e => (e0.bs b o e).1
  have lim : s.heap.NoLimit := e0.mod.nolimit.keeps fun b o e => (e0.bs b o e).1
  have hkind : ∀ y ∈ ps.zip us, scope.names.lookup y.1 = some .local ∨ (scope.names.lookup y.1 = some .cell ∧ ((cellsFrom (s.heap.objs.size + 1) scope.names []).lookup y.1).isSome = true) := fun ⟨n, v⟩ hy => by
    rcases S.par n (List.of_mem_zip hy).1 with q | q
    · exact .inl q
    · exact .inr ⟨q, PySem.W.cellsFrom_some _ _ _ (.inl q)⟩
  refine codeAny_call_function hr.depth (KX _ _ lk) rfl S.co S.gen rfl (PySem.W.codeRec_of KX hcd) (hb _ _ _ _ ?_)
  refine wpAny_newFunctionEnv_cells S.kind hkind fun env he s1 x => ?_
  subst he
  refine ⟨lim.keeps x.toInCall.keep, codeAny_func ?_⟩
  obtain ⟨t, ht, hq⟩ := hbody A outer s H vs Q E (hr.deeper _) hsp
  have I : Inv (cxOf CX P w K mg base N qual scope f cdv A outer s H E) [] (start N vs) H s1 := inv_start S hr.hd e0 hl r x
  refine wpAny_mono (ht [] s1 (start N vs) H _ I hq) (fun fl s' hs => ?_) fun e s' hs => hs
  have fin : ∀ {σ' : St} {H' : Hp} {v : V} {u : Value}, Inv (cxOf CX P w K mg base N qual scope f cdv A outer s H E) [] σ' H' s' → RelV v u → Q v H' → CE outer P w H s Q u s' :=
    fun {σ' H' v u} J rv q => ⟨v, H', J.os, J.bare, J.base, J.hok, rv, q⟩
  cases fl with
  | ret u =>
    obtain ⟨v, σ', H', J, rv, q⟩ := hs
    exact fin J rv q
  | next =>
    obtain ⟨σ', H', J, q⟩ := hs
    exact fin (v := V.non) (u := Value.none) J rfl q
  | brk =>
    obtain ⟨_, _, _, q⟩ := hs
    exact False.elim q
  | cont =>
    obtain ⟨_, _, _, q⟩ := hs
    exact False.elim q
end L2

namespace L2
open PySem PySem.Spec PyProof.Rows
section
variable {X : Cx} {x : Str} {p pos : Pos} {e : Expr} {es : List Expr} {t : TA} {id T : String} {r : List V → Hp → VK → Prop}

def tCB (r : List V → Hp → VK → Prop) (t : TA) : TE := fun σ H Q => t σ H fun vs H1 => r vs H1 Q
/-- f(e, ..), f a built-in function -/
theorem pe_callB (hc : CallR X (.builtin id) r) (hg : Gl X x) (hm : X.mg x = none) (hv : bootBuiltins x = some (.builtin id)) (ha : PA X (e :: es) t) (hn : x ≠ "__name__" := by decide) (hdb : (x == ("__debug__" : Str)) = false := by decide)
    (he : starEach (e :: es) X.env = (false, eval e X.env) :: starEach es X.env := by rfl) (hpl : (backTo pos (starEach es X.env)).any (·.1) = false := by rfl) : PE X (.Call (.Name x p) (e :: es) [] pos) (tCB r t) := by
  intro pins s σ H Q I h
  refine wpAny_Call_Name_kw (ld_blt I hg hm hv ?_ hn hdb)
  exact PyProof.Rows.callWith_builtin1 (thn (ha pos pins s σ H _ I h) fun us s1 ⟨vs, H1, I1, r1, q1⟩ => hc pins s1 σ H1 vs us Q I1 r1 q1) he hpl
end
end L2

namespace HT
open PySem PyProof.Rows

/-- t < u of tuples of ints -/
def lexLt : List Int → List Int → Bool
  | [], [] => false
  | [], _ :: _ => true
  | _ :: _, [] => false
  | x :: xs, y :: ys => if x = y then lexLt xs ys else decide (x < y)


section
open PySem.SeqAt
open PySem.AutoSeq1 (wpAny_loadPart')
open PySem.MeetsSeq PySem.MeetsSeq2 PySem.MeetsSeq3

end

section
variable {prog : Program} {w : World} {A : Around} {E : Value → Shared → Prop} {s : Shared}



/-! ### t[a:b], not the whole -/
/-- a slice's bound as a place among n (d where it is left out) -/
def sIx (n d : Nat) : Option Int → Nat
  | none => d
  | some v => if v < 0 then (v + (n : Int)).toNat else min v.toNat n
theorem sIx_none (n d : Nat) : sIx n d none = d := rfl
theorem sIx_nat (n d k : Nat) : sIx n d (some (k : Int)) = min k n := by
  show (if (k : Int) < 0 then ((k : Int) + (n : Int)).toNat else min (k : Int).toNat n) = min k n
  rw [if_neg (by omega), Int.toNat_natCast]

end
end HT

namespace L2
open PySem PySem.Spec PyProof.Rows

/-! ### the parts of a slice -/
abbrev TO := St → Hp → (Option Int → Hp → Prop) → Prop
/-- a slice's part (left out, or an int) -/
def PO (X : Cx) (e : Option Expr) (t : TO) : Prop :=
  ∀ (pins : List (Addr × Obj)) (s : Shared) (σ : St) (H : Hp) (Q : Option Int → Hp → Prop), Inv X pins σ H s → t σ H Q →
    wpAny (model X.prog X.w) X.A (evalPart e X.env) (fun u s' => ∃ o H', Inv X pins σ H' s' ∧ IsPart u o ∧ Q o H') X.xe s
def tNoPart : TO := fun _ H Q => Q none H
def tPart (t : TE) : TO := fun σ H Q => t σ H fun x H1 => ∃ i, x = .int i ∧ Q (some i) H1


section
variable {X : Cx} {e : Expr} {te : TE} {lo hi : Option Expr} {tl th : TO} {pos p2 : Pos}

theorem po_none : PO X none tNoPart := by
  intro pins s σ H Q I h
  rw [evalPart_none]
  exact wpAny_pure ⟨none, H, I, .none, h⟩
theorem po_some (h : PE X e te) : PO X (some e) (tPart te) := by
  intro pins s σ H Q I hw
  rw [evalPart_some]
  refine thn (h pins s σ H _ I hw) fun u s1 ⟨x, H1, I1, r1, q1⟩ => ?_
  obtain ⟨i, rfl, q⟩ := q1
  obtain ⟨t, rfl⟩ := r1
  exact ⟨some i, H1, I1, .int i t, q⟩

/-- what a slice of a value is, by values: the slice object stands at sl -/
def SlR (X : Cx) (r : V → Option Int → Option Int → Hp → VK → Prop) : Prop :=
  ∀ (pins : List (Addr × Obj)) (s : Shared) (σ : St) (H : Hp) (x : V) (v vl vu : Value) (lo hi : Option Int) (sl : Addr) (Q : VK), Inv X pins σ H s → RelV x v → s.heap.IsSliceOf sl vl vu .none → IsPart vl lo → IsPart vu hi → r x lo hi H Q →
    ∃ T id, typeLookup (.type T) "__getitem__" = pure (some (.builtin id)) ∧ s.TypeIs v T ∧ wpAny (model X.prog X.w) X.A (getItem v (.ref sl)) (EP X pins σ Q) X.xe s
def tSl (r : V → Option Int → Option Int → Hp → VK → Prop) (te : TE) (tl th : TO) : TE := fun σ H Q => te σ H fun x H1 => tl σ H1 fun l H2 => th σ H2 fun u H3 => r x l u H3 Q
/-- a[lo:hi], any a -/
theorem pe_slice {r : V → Option Int → Option Int → Hp → VK → Prop} (hr : SlR X r) (he : PE X e te) (hl : PO X lo tl) (hu : PO X hi th) : PE X (.Subscript e (.Slice lo hi none p2) pos) (tSl r te tl th) := by
  intro pins s σ H Q I h
  refine Subscript_ (thn (he pins s σ H _ I h) fun v s1 ⟨x, H1, I1, r1, q1⟩ => ?_)
  refine wpAny_Slice (thn (hl pins s1 σ H1 _ I1 q1) fun vl s2 ⟨l, H2, I2, pl, q2⟩ => thn (hu pins s2 σ H2 _ I2 q2) fun vu s3 ⟨u, H3, I3, pu, q3⟩ => ?_)
  rw [evalPart_none]
  refine wpAny_pure ?_
  have I4 : Inv X pins σ H3 { s3 with heap := s3.heap.push { cls := .type "slice", data := .fields #[vl, vu, .none] } } := I3.kept (t' := s3.toks) fun b ob q => Heap.get?_push_of_some _ q
  obtain ⟨T, id, hT, ht, hg⟩ := hr pins { s3 with heap := s3.heap.push { cls := .type "slice", data := .fields #[vl, vu, .none] } } σ H3 x v vl vu l u s3.heap.objs.size Q I4 r1 (Heap.IsSliceOf.new ..) pl pu q3
  show wpAny (model X.prog X.w) X.A (subscriptTail e (.Slice lo hi none p2) v (.ref s3.heap.objs.size)) (EP X pins σ Q) X.xe { s3 with heap := s3.heap.push { cls := .type "slice", data := .fields #[vl, vu, .none] } }
  exact tail_any (ops := [.ref s3.heap.objs.size, v]) ht hT hg (by with_unfolding_all rfl)

/-- the items of xs[lo:hi] -/
def cutV (xs : List V) (lo hi : Option Int) : List V := (xs.drop (HT.sIx xs.length 0 lo)).take (HT.sIx xs.length xs.length hi - HT.sIx xs.length 0 lo)
theorem cutV_length (xs : List V) (lo hi : Option Int) : (cutV xs lo hi).length ≤ xs.length := by
  unfold cutV
  rw [List.length_take, List.length_drop]
  omega
/-- t[lo:hi], not the whole of it (the whole would be t itself) -/
def rSlT (K : PySem.W.Frag) : V → Option Int → Option Int → Hp → VK → Prop := fun x lo hi H Q => ∃ a xs, x = .ref a ∧ SqT K H a xs ∧
  ¬ (HT.sIx xs.length 0 lo = 0 ∧ HT.sIx xs.length xs.length hi = xs.length) ∧ ∀ p, H p = none → Q (.ref p) (upd H p (.tup (cutV xs lo hi)))

/-! ### t < u, t + u -/
def rLtT (K : PySem.W.Frag) : R2 := fun x y H Q => ∃ a b ns ms, x = .ref a ∧ y = .ref b ∧ SqT K H a (ns.map V.int) ∧ SqT K H b (ms.map V.int) ∧ Q (.bl (HT.lexLt ns ms)) H
/-- t + u, t not empty: u empty gives t itself -/
def rCatT (K : PySem.W.Frag) : R2 := fun x y H Q => ∃ a b xs ys, x = .ref a ∧ y = .ref b ∧ SqT K H a xs ∧ SqT K H b ys ∧ xs ≠ [] ∧ xs.length + ys.length ≤ sizeLine ∧
  (ys = [] → Q (.ref a) H) ∧ (ys ≠ [] → ∀ p, H p = none → Q (.ref p) (upd H p (.tup (xs ++ ys))))
end
end L2

namespace L2
open PySem PySem.Spec PyProof.Rows

/-! ### places -/
/-- the place that an index of any sign means -/
def ixN (n : Nat) (i : Int) : Option Nat := if 0 ≤ i then (if i < n then some i.toNat else none) else if -(n : Int) ≤ i then some (i + n).toNat else none
def atI {α : Type} (xs : List α) (i : Int) : Option α := (ixN xs.length i).bind fun j => xs[j]?
theorem ixN_seq {n : Nat} {i : Int} {j : Nat} (h : ixN n i = some j) : seqIndex? i n = some j ∧ j < n ∧ -(n : Int) ≤ i ∧ i < n := by
  unfold ixN at h
  by_cases h0 : 0 ≤ i
  · rw [if_pos h0] at h
    by_cases h1 : i < n
    · rw [if_pos h1] at h
      have e : i.toNat = j := Option.some.inj h
      exact ⟨by rw [seqIndex_of h0 h1, e], by omega, by omega, h1⟩
    · rw [if_neg h1] at h; cases h
  · rw [if_neg h0] at h
    by_cases h1 : -(n : Int) ≤ i
    · rw [if_pos h1] at h
      have e : (i + n).toNat = j := Option.some.inj h
      exact ⟨by rw [seqIndex_neg (by omega) h1, e], by omega, h1, by omega⟩
    · rw [if_neg h1] at h; cases h
theorem atI_get {α : Type} {xs : List α} {i : Int} {v : α} (h : atI xs i = some v) : ∃ j, seqIndex? i xs.length = some j ∧ xs[j]? = some v ∧ j < xs.length ∧ -(xs.length : Int) ≤ i ∧ i < xs.length := by
  unfold atI at h
  cases e : ixN xs.length i with
  | none => rw [e] at h; cases h
  | some j =>
    rw [e] at h
    obtain ⟨h1, h2, h3, h4⟩ := ixN_seq e
    exact ⟨j, h1, h, h2, h3, h4⟩
theorem atI_nat {α : Type} {xs : List α} {j : Nat} {v : α} (h : xs[j]? = some v) : atI xs (j : Int) = some v := by
  have hj : j < xs.length := (List.getElem?_eq_some_iff.mp h).1
  have e : ixN xs.length (j : Int) = some j := by
    unfold ixN
    rw [if_pos (by omega), if_pos (by omega)]; simp
  unfold atI; rw [e]; exact h

/-! ### what may be subscripted -/
/-- what stands as an index of a plain subscript -/
def PlainIx (b : Expr) : Prop := ∀ o i, subscripted b false o i = operate [o, i] (getItem o i)
/-- a subscript by values -/
def IxR (X : Cx) (r : R2) : Prop :=
  ∀ (value slice : Expr) (pins : List (Addr × Obj)) (s : Shared) (σ : St) (H : Hp) (x y : V) (v u : Value) (Q : VK), Inv X pins σ H s → RelV x v → RelV y u → r x y H Q →
    subscripted slice false v u = operate [v, u] (getItem v u) → wpAny (model X.prog X.w) X.A (subscriptTail value slice v u) (EP X pins σ Q) X.xe s
/-- a call of a builtin's method by values: the receiver, the arguments -/
def MtR (X : Cx) (id : String) (r : V → List V → Hp → VK → Prop) : Prop :=
  ∀ (pins : List (Addr × Obj)) (s : Shared) (σ : St) (H : Hp) (x : V) (xs : List V) (v : Value) (us : List Value) (Q : VK), Inv X pins σ H s → RelV x v → Vals xs us → r x xs H Q →
    wpAny (model X.prog X.w) X.A (call (.builtin id) (v :: us)) (EP X pins σ Q) X.xe s
section
variable {X : Cx} {a b : Expr} {ta tb : TE} {pos : Pos}
/-- a[b] -/
theorem pe_ix {r : R2} (hr : IxR X r) (ha : PE X a ta) (hb : PE X b tb) (hs : PlainIx b) : PE X (.Subscript a b pos) (tOp r ta tb) := by
  intro pins s σ H Q I h
  exact Subscript_ (binT ha hb I h fun v u s2 x y H2 I2 rx ry q => hr a b pins s2 σ H2 x y v u Q I2 rx ry q (hs _ _))

def rIxL (K : PySem.W.Frag) : R2 := fun x y H Q => ∃ p xs i v, x = .ref p ∧ y = .int i ∧ SqL K H p xs ∧ atI xs i = some v ∧ Q v H
def rIxT (K : PySem.W.Frag) : R2 := fun x y H Q => ∃ p xs i v, x = .ref p ∧ y = .int i ∧ SqT K H p xs ∧ atI xs i = some v ∧ Q v H
def rIxS : R2 := fun x y H Q => ∃ z i c, x = .str z ∧ y = .int i ∧ z.length ≤ sizeLine ∧ atI z.cps.toList i = some c ∧ Q (.str ⟨#[c]⟩) H
theorem ix_list : IxR X (rIxL X.K) := by
  intro value slice pins s σ H x y v u Q I rx ry h hs
  obtain ⟨p, xs, i, z, rfl, rfl, hq, he, q⟩ := h
  cases rx
  obtain ⟨t, rfl⟩ := ry
  obtain ⟨its, r, pl, hz⟩ := I.list hq
  obtain ⟨j, h1, h2, h3, h4, h5⟩ := atI_get he
  obtain ⟨w, ew, rw'⟩ := r.get h2
  have hl := r.length
  have hn := line63
  have fin : EP X pins σ Q w s := ⟨z, H, I, rw', q⟩
  by_cases h0 : 0 ≤ i
  · have hj : i.toNat = j := by
      rw [seqIndex_of h0 h5] at h1
      exact Option.some.inj h1
    exact item_listR pl.isList h0 (by omega) (by rw [hj]; simpa using ew) fin hs
  · have hj : (i + (its.toArray.size : Int)).toNat = j := by
      rw [seqIndex_neg (by omega) h4] at h1
      rw [List.size_toArray, ← hl]
      exact Option.some.inj h1
    exact subscriptTail_builtinR (x := w) pl.isList.typeIs slot_list_getitem.lookup
      (wpAny_getItem_list_neg (Q := fun r s' => r = w ∧ EP X pins σ Q r s') pl.isList (by omega) (by rw [List.size_toArray] <;> omega) (by omega) (by rw [hj]; simpa using ew) ⟨rfl, fin⟩) hs
theorem ix_tup : IxR X (rIxT X.K) := by
  intro value slice pins s σ H x y v u Q I rx ry h hs
  obtain ⟨p, xs, i, z, rfl, rfl, hq, he, q⟩ := h
  cases rx
  obtain ⟨t, rfl⟩ := ry
  obtain ⟨its, r, pl, hz⟩ := I.tuple hq
  obtain ⟨j, h1, h2, h3, h4, h5⟩ := atI_get he
  obtain ⟨w, ew, rw'⟩ := r.get h2
  have hl := r.length
  have hn := line63
  have fin : EP X pins σ Q w s := ⟨z, H, I, rw', q⟩
  exact subscriptTail_builtinR (x := w) pl.typeIs slot_tuple_getitem.lookup
    (getItem_tuple (j := j) (Q := fun r s' => r = w ∧ EP X pins σ Q r s') pl (by omega) (by omega) (by rw [List.size_toArray, ← hl]; exact h1) (by simpa using ew) ⟨rfl, fin⟩) hs
theorem ix_str : IxR X rIxS := by
  intro value slice pins s σ H x y v u Q I rx ry h hs
  obtain ⟨z, i, c, rfl, rfl, hz, he, q⟩ := h
  obtain ⟨t, rfl⟩ := rx
  obtain ⟨t', rfl⟩ := ry
  obtain ⟨j, h1, h2, h3, h4, h5⟩ := atI_get he
  have hl : z.cps.toList.length = z.length := by simp [Str.length]
  rw [hl] at h1 h4 h5
  have hn := line63
  exact tail_any (typeIs_str s z t) slot_str_getitem.lookup (getItem_str (c := c) (by
    have e1 : decide (i < -(2 ^ 63 : Int)) = false := decide_eq_false (by omega)
    have e2 : decide (i ≥ 2 ^ 63) = false := decide_eq_false (by omega)
    rw [e1, e2, Bool.or_false]) (by rw [h1]; simpa using h2) ⟨.str ⟨#[c]⟩, H, I.tok _, ⟨_, rfl⟩, q⟩) hs
/-- list, tuple or str -/
def rIx (K : PySem.W.Frag) : R2 := fun x y H Q => rIxL K x y H Q ∨ rIxT K x y H Q ∨ rIxS x y H Q

/-! ### xs[i] = v, any sign -/
/-- the list's object behind a store -/
theorem mapSeq_set (its : List Value) (n j : Nat) (u : Value) : Obj.mapSeq (·.setIfInBounds j u) { cls := .type "list", data := .seq its.toArray n } = { cls := .type "list", data := .seq (its.set j u).toArray n } := by
  simp [Obj.mapSeq]
theorem Inv.lst {pins : List (Addr × Obj)} {σ : St} {H : Hp} {s : Shared} {p : Addr} {xs : List V} (I : Inv X pins σ H s) (h : H p = some (.lst xs)) :
    ∃ (its : List Value) (n : Nat), Vals xs its ∧ s.heap.get? p = some { cls := .type "list", data := .seq its.toArray n } ∧ xs.length ≤ sizeLine := by
  obtain ⟨z, its, n, r, e⟩ := I.hok p _ h
  exact ⟨its, n, r, e, z⟩
/-- the list at p is written by an update of its object -/
theorem Inv.lstUpd {pins : List (Addr × Obj)} {σ : St} {H : Hp} {s : Shared} {p : Addr} {xs ys : List V} {its its' : List Value} {n n' : Nat} {f : Obj → Obj} (I : Inv X pins σ H s) (h : H p = some (.lst xs))
    (ho : s.heap.get? p = some { cls := .type "list", data := .seq its.toArray n }) (hf : f { cls := .type "list", data := .seq its.toArray n } = { cls := .type "list", data := .seq its'.toArray n' }) (r : Vals ys its') (hz : ys.length ≤ sizeLine) (t : Nat) :
    Inv X pins σ (upd H p (.lst ys)) { s with heap := s.heap.update p f, toks := t } := by
  have e : (s.heap.update p f).get? p = some { cls := .type "list", data := .seq its'.toArray n' } := by
    rw [Heap.get?_update_self f ho (by rw [hf] <;> rfl), hf]
  refine I.write (x := p) (e := p) (by rw [h]; trivial) (.inl rfl) (fun b u hb q => (Heap.get?_update_other _ _ (Ne.symm hb)).trans q) ⟨_, e⟩ ?_
  exact ⟨hz, its', n', r, e⟩
def rSetL : V → V → V → Hp → (Hp → Prop) → Prop := fun o i v H Q => ∃ p xs k j, o = .ref p ∧ i = .int k ∧ H p = some (.lst xs) ∧ ixN xs.length k = some j ∧ Q (upd H p (.lst (xs.set j v)))
theorem set_list : PSet X rSetL := by
  intro pins s σ H o i v ov iv u Q I ro ri rv h
  obtain ⟨p, xs, k, j, rfl, rfl, hp, hj, q⟩ := h
  cases ro
  obtain ⟨t, rfl⟩ := ri
  obtain ⟨its, n, r, ho, hz⟩ := I.lst hp
  obtain ⟨h1, h2, h3, h4⟩ := ixN_seq hj
  have hl := r.length
  have hn := line63
  have I' : Inv X pins σ (upd H p (.lst (xs.set j v))) { s with heap := s.heap.update p (Obj.mapSeq (·.setIfInBounds j u)) } :=
    I.lstUpd hp ho (mapSeq_set its n j u) (r.set rv j) (by rw [List.length_set]; exact hz) s.toks
  by_cases h0 : 0 ≤ k
  · have hk : k.toNat = j := by
      rw [seqIndex_of h0 h4] at h1
      exact Option.some.inj h1
    exact PySem.W.ki_setAt ho h0 (by omega) (by rw [List.size_toArray, ← hl]; exact h4) (by rw [hk]; exact ⟨_, I', q⟩)
  · have hk : (k + (its.toArray.size : Int)).toNat = j := by
      rw [seqIndex_neg (by omega) h3] at h1
      rw [List.size_toArray, ← hl]
      exact Option.some.inj h1
    exact PySem.W.ki_setBack ho (by omega) (by rw [List.size_toArray, ← hl]; exact h3) (by omega) (by rw [hk]; exact ⟨_, I', q⟩)

/-! ### slices -/
theorem slice_bounds (lo hi : Option Int) (n : Nat) : (sliceBounds lo hi none n).1 = ((HT.sIx n 0 lo : Nat) : Int) ∧ (sliceBounds lo hi none n).2.1 = ((HT.sIx n n hi : Nat) : Int) ∧ (sliceBounds lo hi none n).2.2 = 1 := by
  refine ⟨?_, ?_, rfl⟩
  · cases lo with
    | none => simp [sliceBounds, HT.sIx]
    | some i =>
      simp only [sliceBounds, HT.sIx, Option.getD_none, show (1 : Int) > 0 by decide, if_true]
      by_cases h : i < 0
      · simp only [h, if_true] <;> omega
      · simp only [h, if_false] <;> omega
  · cases hi with
    | none => simp [sliceBounds, HT.sIx]
    | some i =>
      simp only [sliceBounds, HT.sIx, Option.getD_none, show (1 : Int) > 0 by decide, if_true]
      by_cases h : i < 0
      · simp only [h, if_true] <;> omega
      · simp only [h, if_false] <;> omega
theorem slicePick_cut (its : List Value) (lo hi : Option Int) : slicePick its.toArray lo hi none = ((its.drop (HT.sIx its.length 0 lo)).take (HT.sIx its.length its.length hi - HT.sIx its.length 0 lo)).toArray := by
  obtain ⟨h1, h2, h3⟩ := slice_bounds lo hi its.toArray.size
  unfold slicePick
  rw [h1, h2, h3]
  simp only [sliceRange_one, pick_run, List.size_toArray] <;> rfl
/-- xs[lo:hi] of a list: a new list -/
def rSlL (K : PySem.W.Frag) : V → Option Int → Option Int → Hp → VK → Prop := fun x lo hi H Q => ∃ a xs, x = .ref a ∧ SqL K H a xs ∧ ∀ p, H p = none → Q (.ref p) (upd H p (.lst (cutV xs lo hi)))
theorem sl_list : SlR X (rSlL X.K) := by
  intro pins s σ H x v vl vu lo hi sl Q I rx hs pl pu h
  obtain ⟨a, xs, rfl, hx, q⟩ := h
  cases rx
  obtain ⟨its, r, ht, hz⟩ := I.list hx
  have hlen := r.length
  refine ⟨"list", _, slot_list_getitem.lookup, ht.isList.typeIs, ?_⟩
  refine wpAny_getItem_list_slice ht.isList hs pl pu .none (by simp) ?_ (by rw [List.size_toArray] <;> omega)
  rw [slicePick_cut, ← hlen]
  refine ⟨.ref s.heap.objs.size, _, I.laid (t' := s.toks) (o := .lst (cutV xs lo hi)) (fun b ob q => Heap.get?_push_of_some _ q) (Nat.le_refl _) ?_, rfl, q _ (I.hok.fresh (Nat.le_refl _))⟩
  exact ⟨Nat.le_trans (cutV_length xs lo hi) hz, _, 0, (r.drop (HT.sIx xs.length 0 lo)).take (HT.sIx xs.length xs.length hi - HT.sIx xs.length 0 lo), Heap.get?_push_size _ rfl⟩

/-! ### in, not in: flat items -/
def flatV : V → Bool
  | .non => true
  | .bl _ => true
  | .int _ => true
  | .str _ => true
  | _ => false
/-- == of flat values -/
def eqV : V → V → Bool
  | .non, .non => true
  | .bl a, .bl b => a == b
  | .bl a, .int b => (if a then 1 else 0) == b
  | .int a, .bl b => a == (if b then 1 else 0)
  | .int a, .int b => a == b
  | .str a, .str b => a == b
  | _, _ => false
theorem eqAt_V {A : Around} {s : Shared} {y x : V} {u v : Value} (ry : RelV y u) (rx : RelV x v) (fy : flatV y = true) (fx : flatV x = true) : SeqAt.EqAt A s u v (eqV y x) := by
  cases y with
  | non =>
    cases ry
    cases x with
    | non => cases rx; exact SeqAt.EqAt.same _
    | bl b => cases rx; exact SeqAt.EqAt.none_bool b
    | int b => obtain ⟨t, rfl⟩ := rx; exact SeqAt.EqAt.none_int b t
    | str b => obtain ⟨t, rfl⟩ := rx; exact SeqAt.EqAt.none_str b t
    | _ => exact absurd (show false = true from fx) Bool.false_ne_true
  | bl a =>
    cases ry
    cases x with
    | non => cases rx; exact SeqAt.EqAt.bool_none a
    | bl b => cases rx; exact SeqAt.EqAt.bool_bool a b
    | int b => obtain ⟨t, rfl⟩ := rx; exact SeqAt.EqAt.bool_int a b t
    | str b => obtain ⟨t, rfl⟩ := rx; exact SeqAt.EqAt.bool_str a b t
    | _ => exact absurd (show false = true from fx) Bool.false_ne_true
  | int a =>
    obtain ⟨t', rfl⟩ := ry
    cases x with
    | non => cases rx; exact SeqAt.EqAt.int_none a t'
    | bl b => cases rx; exact SeqAt.EqAt.int_bool a t' b
    | int b => obtain ⟨t, rfl⟩ := rx; exact SeqAt.EqAt.int_int a t' b t
    | str b => obtain ⟨t, rfl⟩ := rx; exact SeqAt.EqAt.int_str a t' b t
    | _ => exact absurd (show false = true from fx) Bool.false_ne_true
  | str a =>
    obtain ⟨t', rfl⟩ := ry
    cases x with
    | non => cases rx; exact SeqAt.EqAt.str_none a t'
    | bl b => cases rx; exact SeqAt.EqAt.str_bool a t' b
    | int b => obtain ⟨t, rfl⟩ := rx; exact SeqAt.EqAt.str_int a t' b t
    | str b => obtain ⟨t, rfl⟩ := rx; exact SeqAt.EqAt.str_str a t' b t
    | _ => exact absurd (show false = true from fx) Bool.false_ne_true
  | _ => exact absurd (show false = true from fy) Bool.false_ne_true
/-- the items' answers, read off the values (a value's own answer does not lean on its token) -/
def eqU (x : V) (u : Value) : Bool := match u with
  | .none => eqV .non x
  | .bool b => eqV (.bl b) x
  | .int i _ => eqV (.int i) x
  | .str z _ => eqV (.str z) x
  | _ => false
theorem eqU_of {x y : V} {u : Value} (r : RelV y u) (f : flatV y = true) : eqU x u = eqV y x := by
  cases y with
  | non => cases r; rfl
  | bl b => cases r; rfl
  | int i => obtain ⟨t, rfl⟩ := r; rfl
  | str z => obtain ⟨t, rfl⟩ := r; rfl
  | _ => exact absurd (show false = true from f) Bool.false_ne_true
theorem any_eqU {x : V} : ∀ {xs : List V} {us : List Value}, Vals xs us → xs.all flatV = true → us.any (eqU x) = xs.any fun y => eqV y x
  | _, _, .nil, _ => rfl
  | y :: xs, u :: us, .cons r t, f => by
    rw [List.all_cons, Bool.and_eq_true] at f
    rw [List.any_cons, List.any_cons, eqU_of r f.1, any_eqU t f.2]
theorem mem_eqAt {A : Around} {s : Shared} {x : V} {v : Value} (rx : RelV x v) (fx : flatV x = true) : ∀ {xs : List V} {us : List Value}, Vals xs us → xs.all flatV = true → ∀ u ∈ us, SeqAt.EqAt A s u v (eqU x u)
  | _, _, .nil, _ => fun u hu => by cases hu
  | y :: xs, u :: us, .cons r t, f => fun u' hu => by
    rw [List.all_cons, Bool.and_eq_true] at f
    rcases List.mem_cons.mp hu with rfl | hu
    · rw [eqU_of r f.1]; exact eqAt_V r rx f.1 fx
    · exact mem_eqAt rx fx t f.2 u' hu
def inV (x : V) (xs : List V) : Bool := xs.any fun y => eqV y x
/-- x in a list or tuple of flat items -/
def rIn (K : PySem.W.Frag) (neg : Bool) : R2 := fun x y H Q => ∃ p xs, y = .ref p ∧ (SqL K H p xs ∨ SqT K H p xs) ∧ flatV x = true ∧ xs.all flatV = true ∧ Q (.bl (if neg then !inV x xs else inV x xs)) H
theorem op_in_seq : OpR X (compareOp .In) (rIn X.K false) := by
  intro pins s σ H x y v u Q I rx ry h
  obtain ⟨p, xs, rfl, hq, fx, fs, q⟩ := h
  cases ry
  rcases hq with hq | hq
  · obtain ⟨its, r, pl, hz⟩ := I.list hq
    refine SeqAt.in_listAt (eqU x) pl.isList (fun w hw => mem_eqAt rx fx r fs w (by simpa using hw)) ⟨.bl _, H, I, rfl, ?_⟩
    rw [show its.toArray.any (eqU x) = its.any (eqU x) by simp, any_eqU r fs]
    exact q
  · obtain ⟨its, r, pl, hz⟩ := I.tuple hq
    refine SeqAt.in_tupleAt (eqU x) pl (fun w hw => mem_eqAt rx fx r fs w (by simpa using hw)) ⟨.bl _, H, I, rfl, ?_⟩
    rw [show its.toArray.any (eqU x) = its.any (eqU x) by simp, any_eqU r fs]
    exact q
theorem op_notIn_seq : OpR X (compareOp .NotIn) (rIn X.K true) := by
  intro pins s σ H x y v u Q I rx ry h
  obtain ⟨p, xs, rfl, hq, fx, fs, q⟩ := h
  cases ry
  rcases hq with hq | hq
  · obtain ⟨its, r, pl, hz⟩ := I.list hq
    refine SeqAt.notIn_listAt (eqU x) pl.isList (fun w hw => mem_eqAt rx fx r fs w (by simpa using hw)) ⟨.bl _, H, I, rfl, ?_⟩
    rw [show its.toArray.any (eqU x) = its.any (eqU x) by simp, any_eqU r fs]
    exact q
  · obtain ⟨its, r, pl, hz⟩ := I.tuple hq
    refine SeqAt.notIn_tupleAt (eqU x) pl (fun w hw => mem_eqAt rx fx r fs w (by simpa using hw)) ⟨.bl _, H, I, rfl, ?_⟩
    rw [show its.toArray.any (eqU x) = its.any (eqU x) by simp, any_eqU r fs]
    exact q

/-! ### len, list(x), tuple(x) of any list or tuple that is read -/
theorem call_len_seq : CallR X (.builtin "len") (fun xs H Q => ∃ p ys, xs = [.ref p] ∧ (SqL X.K H p ys ∨ SqT X.K H p ys) ∧ Q (.int ys.length) H) := by
  intro pins s σ H xs us Q I r h
  obtain ⟨p, ys, rfl, hq, q⟩ := h
  obtain ⟨u, rfl, rx⟩ := vals1 r
  cases rx
  have hn := line63
  rcases hq with hq | hq
  · obtain ⟨its, r', pl, hz⟩ := I.list hq
    have hlen := r'.length
    exact Calls.call_len_list pl.isList (by simp only [List.size_toArray] <;> omega) ⟨.int ys.length, H, I.tok _, ⟨s.toks + 1, by rw [List.size_toArray, hlen]⟩, q⟩
  · obtain ⟨its, r', pl, hz⟩ := I.tuple hq
    have hlen := r'.length
    exact len_tuple pl (by simp only [List.size_toArray] <;> omega) ⟨.int ys.length, H, I.tok _, ⟨s.toks + 1, by rw [List.size_toArray, hlen]⟩, q⟩

/-! ### the call of a builtin's method: o.m(..) -/
/-- the value is of that builtin type -/
def tyV (K : PySem.W.Frag) (T : String) (x : V) (H : Hp) : Prop := match x with
  | .str _ => T = "str"
  | .int _ => T = "int"
  | .ref p => (T = "list" ∧ ∃ xs, SqL K H p xs) ∨ (T = "tuple" ∧ ∃ o, K.lookup p = some o ∧ o.cls = .type "tuple" ∧ o.dict = none) ∨
      (T = "dict" ∧ ((∃ kvs, H p = some (.dK kvs)) ∨ ∃ kvs, H p = some (.dT kvs))) ∨ (T = "set" ∧ ∃ S n, H p = some (.set S n))
  | _ => False
theorem tyV_is {pins : List (Addr × Obj)} {σ : St} {H : Hp} {s : Shared} {T : String} {x : V} {v : Value} (I : Inv X pins σ H s) (r : RelV x v) (ty : tyV X.K T x H) :
    s.TypeIs v T ∧ ∀ a, v = .ref a → ∃ ob, s.heap.get? a = some ob ∧ ob.dict = none := by
  cases x with
  | str z =>
    obtain ⟨t, rfl⟩ := r
    cases (show T = "str" from ty)
    exact ⟨typeIs_str s z t, fun _ e => nomatch e⟩
  | int i =>
    obtain ⟨t, rfl⟩ := r
    cases (show T = "int" from ty)
    exact ⟨typeIs_int s i t, fun _ e => nomatch e⟩
  | ref p =>
    cases r
    rcases ty with ⟨rfl, xs, hq⟩ | ⟨rfl, o, hk, hc, hd⟩ | ⟨rfl, hk⟩ | ⟨rfl, S, n, hk⟩
    · obtain ⟨its, _, pl, _⟩ := I.list hq
      refine ⟨pl.isList.typeIs, fun a e => ?_⟩
      cases e
      obtain ⟨o, n, e, c, hd, _⟩ := pl
      exact ⟨o, e, hd⟩
    · refine ⟨⟨o, I.kIn p o hk, hc⟩, fun a e => ?_⟩
      cases e
      exact ⟨o, I.kIn _ o hk, hd⟩
    · have z : ∃ o, s.heap.get? p = some o ∧ o.ExactDict := by
        rcases hk with ⟨kvs, hk⟩ | ⟨kvs, hk⟩
        · obtain ⟨_, _, _, _, o, _, _, e, ex, _⟩ := I.hok p _ hk
          exact ⟨o, e, ex⟩
        · obtain ⟨_, _, _, _, o, _, _, e, ex, _⟩ := I.hok p _ hk
          exact ⟨o, e, ex⟩
      obtain ⟨o, e, ex⟩ := z
      refine ⟨⟨o, e, ex.1⟩, fun a e2 => ?_⟩
      cases e2
      exact ⟨o, e, ex.2.1⟩
    · obtain ⟨o, _, _, _, e, ex, _⟩ := I.hok p _ hk
      refine ⟨⟨o, e, ex.1⟩, fun a e2 => ?_⟩
      cases e2
      exact ⟨o, e, ex.2.1⟩
  | _ => exact False.elim ty
def tBM0 (K : PySem.W.Frag) (T : String) (r : V → List V → Hp → VK → Prop) (to : TE) : TE := fun σ H Q => to σ H fun x H1 => tyV K T x H1 ∧ r x [] H1 Q
def tBM (K : PySem.W.Frag) (T : String) (r : V → List V → Hp → VK → Prop) (to : TE) (t : TA) : TE := fun σ H Q => to σ H fun x H1 => tyV K T x H1 ∧ t σ H1 fun xs H2 => r x xs H2 Q
variable {o e : Expr} {es : List Expr} {to : TE} {t : TA} {name : Str} {apos cpos : Pos} {T id : String} {r : V → List V → Hp → VK → Prop}
theorem pe_bm0 (pa : PlainAttrs T) (slot : Slot T name id) (hty : typeOf (.builtin id) = pure (.type "method_descriptor")) (hm : MtR X id r) (ho : PE X o to)
    (hbase : attributeBase o name X.env (eval o X.env) = eval o X.env := by rfl) (hline : (apos.endLine == cpos.line) = true := by rfl) : PE X (.Call (.Attribute o name apos) [] [] cpos) (tBM0 X.K T r to) := by
  intro pins s σ H Q I h
  refine wpAny_Call_method0_late hbase hline (thn (ho pins s σ H _ I h) fun v s1 ⟨x, H1, I1, r1, ty, q1⟩ => ?_)
  obtain ⟨h1, h2⟩ := tyV_is I1 r1 ty
  exact ⟨T, id, pa, slot, hty, h1, h2, Calls.callWith_builtin rfl (PySem.evalArgs_none (hm pins s1 σ H1 x [] v [] Q I1 r1 .nil q1))⟩
theorem pe_bm (pa : PlainAttrs T) (slot : Slot T name id) (hty : typeOf (.builtin id) = pure (.type "method_descriptor")) (hm : MtR X id r) (ho : PE X o to) (ha : PA X (e :: es) t)
    (hbase : attributeBase o name X.env (eval o X.env) = eval o X.env := by rfl)
    (hfew : ((backTo cpos (starEach (e :: es) X.env)).all (fun x => !x.1) && (backToKw cpos (keywordEach [] X.env)).all (fun x => x.1.isSome)
      && decide ((e :: es).length + ([] : List Keyword).length + (if ([] : List Keyword).isEmpty then 0 else 1) < 30)) = true := by rfl)
    (hline : (apos.endLine == cpos.line) = true := by rfl) (hs : starEach (e :: es) X.env = (false, eval e X.env) :: starEach es X.env := by rfl) (hplain : (backTo cpos (starEach es X.env)).any (·.1) = false := by rfl) :
    PE X (.Call (.Attribute o name apos) (e :: es) [] cpos) (tBM X.K T r to t) := by
  intro pins s σ H Q I h
  refine wpAny_Call_method_late hbase hfew hline rfl (thn (ho pins s σ H _ I h) fun v s1 ⟨x, H1, I1, r1, ty, q1⟩ => ?_)
  obtain ⟨h1, h2⟩ := tyV_is I1 r1 ty
  refine ⟨T, id, pa, slot, hty, h1, h2, ?_⟩
  have hA := ha cpos pins s1 σ H1 _ I1 q1
  rw [hs] at hA ⊢
  refine Calls.callWith_builtin (by show (false || (backTo cpos (starEach es X.env)).any (·.1)) = false; rw [hplain] <;> rfl) (Calls.evalArgs_plain ?_)
  exact thn hA fun us s2 ⟨vs, H2, I2, r2, q2⟩ => hm pins s2 σ H2 x vs v us Q I2 r1 r2 q2
/- xs.append(e), list.index on a module's tuple .. are MtR facts of 06m -/
end
end L2

namespace L2
open PySem PySem.Spec PyProof.Rows

def MtM (X : Cx) (id : String) (r : V → List V → Hp → VK → Prop) : Prop :=
  ∀ (pins : List (Addr × Obj)) (s : Shared) (σ : St) (H : Hp) (x : V) (xs : List V) (v : Value) (us : List Value) (Q : VK), Inv X pins σ H s → RelV x v → Vals xs us → r x xs H Q →
    wpAny (model X.prog X.w) X.A (call (.builtin id) (v :: us)) (EP X pins σ Q) X.xe s

/-! ### lists of values -/
theorem Vals.one : ∀ {x : V} {us : List Value}, Vals [x] us → ∃ u, us = [u] ∧ RelV x u
  | _, _, .cons r .nil => ⟨_, rfl, r⟩
theorem Vals.zero : ∀ {us : List Value}, Vals [] us → us = []
  | _, .nil => rfl
theorem Vals.dropLast {xs : List V} {us : List Value} (h : Vals xs us) : Vals xs.dropLast us.dropLast := by
  induction h with
  | nil => exact .nil
  | cons r t ih =>
    cases t with
    | nil => exact .nil
    | cons q t' => exact .cons r ih
theorem erase_last {α : Type} (l : List α) : l.eraseIdx (l.length - 1) = l.dropLast := by
  induction l with
  | nil => rfl
  | cons a r ih =>
    cases r with
    | nil => rfl
    | cons b r =>
      have e : (a :: b :: r).length - 1 = ((b :: r).length - 1) + 1 := by
        have h1 : (a :: b :: r).length = r.length + 2 := rfl
        have h2 : (b :: r).length = r.length + 1 := rfl
        omega
      rw [e, List.eraseIdx_cons_succ, ih]
      all_goals rfl

section
variable {X : Cx} {pins : List (Addr × Obj)} {σ : St} {H : Hp} {s : Shared} {l b : Addr} {xs ys zs : List V}

/-! ### the two steps: a tracked list is rewritten, a new list is laid -/
theorem Inv.lset {its its' : List Value} {n : Nat} {f : Array Value → Array Value} {t' : Nat} (I : Inv X pins σ H s) (hH : H l = some (.lst xs))
    (e : s.heap.get? l = some { cls := .type "list", data := .seq its.toArray n }) (hf : f its.toArray = its'.toArray) (hv : Vals ys its') (hz : ys.length ≤ sizeLine) :
    Inv X pins σ (upd H l (.lst ys)) { s with heap := s.heap.update l (Obj.mapSeq f), toks := t' } := by
  have q := PySem.IsL.update e f
  rw [hf] at q
  refine I.write (x := l) (e := l) (by rw [hH]; exact trivial) (.inl rfl) (fun b' u hb hu => (Heap.get?_update_other s.heap (Obj.mapSeq f) (Ne.symm hb)).trans hu) ⟨_, q⟩ ?_
  exact ⟨hz, its', _, hv, q⟩
theorem Inv.lstM (I : Inv X pins σ H s) (hH : H l = some (.lst xs)) : xs.length ≤ sizeLine ∧ ∃ (its : List Value) (n : Nat), Vals xs its ∧ xs.length = its.length ∧ s.heap.get? l = some { cls := .type "list", data := .seq its.toArray n } := by
  obtain ⟨z, its, n, r, e⟩ := I.hok l _ hH
  exact ⟨z, its, n, r, r.length, e⟩

theorem notLongL {n : Nat} (h : n ≤ sizeLine) : Builtin.List.listTooLong n = false := by
  unfold Builtin.List.listTooLong
  exact decide_eq_false (by omega)
end

section
variable {X : Cx}

/-! ### methods -/
def rAppend : V → List V → Hp → VK → Prop := fun x vs H Q => ∃ l xs y, x = .ref l ∧ vs = [y] ∧ H l = some (.lst xs) ∧ xs.length < sizeLine ∧ Q .non (upd H l (.lst (xs ++ [y])))
theorem mt_append : MtM X "list.append" rAppend := by
  intro pins s σ H x vs v us Q I rx rv h
  obtain ⟨l, xs, y, rfl, rfl, hH, hz, q⟩ := h
  cases rx
  obtain ⟨u, rfl, ru⟩ := rv.one
  obtain ⟨z, its, n, r, hl, e⟩ := I.lstM hH
  refine call_meets F.slot_list_append ⟨_, e, rfl⟩ F.entry_list_append (F.args_list_append_2 _ _) (PySem.list_append l its.toArray n u (by rw [List.size_toArray]; omega)) ⟨e, ?_⟩
  refine ⟨.non, _, I.lset (its' := its ++ [u]) hH e (by simp) (r.append (.cons ru .nil)) ?_, rfl, q⟩
  rw [List.length_append, List.length_singleton]
  omega

def rExtend : V → List V → Hp → VK → Prop := fun x vs H Q => ∃ l b xs zs, x = .ref l ∧ vs = [.ref b] ∧ H l = some (.lst xs) ∧ H b = some (.lst zs) ∧ xs.length + zs.length ≤ sizeLine ∧ Q .non (upd H l (.lst (xs ++ zs)))
theorem mt_extend : MtM X "list.extend" rExtend := by
  intro pins s σ H x vs v us Q I rx rv h
  obtain ⟨l, b, xs, zs, rfl, rfl, hH, hB, hz, q⟩ := h
  cases rx
  obtain ⟨u, rfl, ru⟩ := rv.one
  cases ru
  obtain ⟨z, its, n, r, hl, e⟩ := I.lstM hH
  obtain ⟨z2, its2, n2, r2, hl2, e2⟩ := I.lstM hB
  have hsz : its.toArray.size + its2.toArray.size ≤ sizeLine := by rw [List.size_toArray, List.size_toArray]; omega
  have hlong : ¬ (!its.toArray.isEmpty && Builtin.List.listTooLong (its.toArray.size + its2.toArray.size)) = true := by
    rw [notLongL hsz, Bool.and_false]
    exact Bool.false_ne_true
  refine call_meets F.slot_list_extend ⟨_, e, rfl⟩ F.entry_list_extend (F.args_list_extend_2 _ _)
    (AutoSeq1.list_extend_list_list_0 l its.toArray n b its2.toArray n2 hlong (by rw [List.size_toArray]; omega) (by omega)) ⟨e, e2, ?_⟩
  refine ⟨.non, _, I.lset (its' := its ++ its2) hH e (by simp) (r.append r2) ?_, rfl, q⟩
  rw [List.length_append]
  omega

def rPop : V → List V → Hp → VK → Prop := fun x vs H Q => ∃ l xs y, x = .ref l ∧ vs = [] ∧ H l = some (.lst xs) ∧ xs[xs.length - 1]? = some y ∧ Q y (upd H l (.lst xs.dropLast))
theorem mt_pop : MtM X "list.pop" rPop := by
  intro pins s σ H x vs v us Q I rx rv h
  obtain ⟨l, xs, y, rfl, rfl, hH, hy, q⟩ := h
  cases rx
  have hus := rv.zero
  subst hus
  obtain ⟨z, its, n, r, hl, e⟩ := I.lstM hH
  obtain ⟨u, hu, ru⟩ := r.get hy
  have hy' : its.toArray[its.toArray.size - 1]? = some u := by
    show its.toArray[its.length - 1]? = some u
    rw [← Array.getElem?_toList, ← hl]
    exact hu
  refine call_meets F.slot_list_pop ⟨_, e, rfl⟩ F.entry_list_pop (F.args_list_pop_1 _) (MeetsSeq.list_pop_last l its.toArray n u hy' (by rw [List.size_toArray]; omega)) ⟨e, ?_⟩
  refine ⟨y, _, I.lset (its' := its.dropLast) hH e ?_ r.dropLast ?_, ru, q⟩
  · show its.toArray.eraseIdxIfInBounds (its.toArray.size - 1) = its.dropLast.toArray
    rw [List.size_toArray, List.eraseIdxIfInBounds_toArray, erase_last]
  · rw [List.length_dropLast]
    omega

def rPopAt : V → List V → Hp → VK → Prop := fun x vs H Q => ∃ l xs i k y, x = .ref l ∧ vs = [.int i] ∧ H l = some (.lst xs) ∧ -(2 ^ 63) ≤ i ∧ i < 2 ^ 63 ∧ seqIndex? i xs.length = some k ∧ xs[k]? = some y ∧ Q y (upd H l (.lst (xs.eraseIdx k)))

def rReverse : V → List V → Hp → VK → Prop := fun x vs H Q => ∃ l xs, x = .ref l ∧ vs = [] ∧ H l = some (.lst xs) ∧ Q .non (upd H l (.lst xs.reverse))

def rClear : V → List V → Hp → VK → Prop := fun x vs H Q => ∃ l xs, x = .ref l ∧ vs = [] ∧ H l = some (.lst xs) ∧ Q .non (upd H l (.lst []))

/-! ### list + list, list += list, list * int -/
def rCat : R2 := fun x y H Q => ∃ l b xs zs, x = .ref l ∧ y = .ref b ∧ H l = some (.lst xs) ∧ H b = some (.lst zs) ∧ xs.length + zs.length ≤ sizeLine ∧ ∀ p, H p = none → Q (.ref p) (upd H p (.lst (xs ++ zs)))
/-- a list times an int (a negative one is nothing) -/
def rRep : R2 := fun x y H Q => ∃ l k xs, x = .ref l ∧ y = .int k ∧ H l = some (.lst xs) ∧ -(2 ^ 63) ≤ k ∧ k < 2 ^ 63 ∧ xs.length * k.toNat ≤ sizeLine ∧
  ∀ p, H p = none → Q (.ref p) (upd H p (.lst (List.replicate k.toNat xs).flatten))

/-! ### del xs[i] -/
end

/-! ### xs[a:b] = ys -/
section
variable {prog : Program} {w : World} {A : Around} {E : Value → Shared → Prop} {s : Shared}
set_option maxRecDepth 100000 in
end

section
variable {X : Cx}
end
end L2

namespace L2
open PySem PySem.Spec PyProof.Rows

theorem Vals.bls : ∀ {bs : List Bool} {us : List Value}, Vals (bs.map V.bl) us → us = bs.map Value.bool
  | [], us, h => by
    rw [List.map_nil] at h
    cases h
    rfl
  | b :: bs, us, h => by
    rw [List.map_cons] at h
    cases h with
    | cons r t =>
      cases r
      rw [Vals.bls t, List.map_cons]
theorem Vals.ref1 {a : Addr} {us : List Value} (r : Vals [V.ref a] us) : us = [Value.ref a] := by
  cases r with
  | cons r t =>
    cases t
    cases r
    rfl

/-! ### the library's walks over a list of ints, kept objects alone -/
section
variable {prog : Program} {w : World} {A : Around} {E : Value → Shared → Prop} {s : Shared} {l : Addr} {its : List Value} {ns : List Int} {Q : Value → Shared → Prop}
end

/-! ### the calls, by values (CallR of 03t; MtR of 06l) -/
section
variable {X : Cx}
/-- sum(xs) of a list of ints -/
def rSum (K : PySem.W.Frag) : List V → Hp → VK → Prop := fun vs H Q => ∃ (a : Addr) (ns : List Int), vs = [V.ref a] ∧ SqL K H a (ns.map V.int) ∧ Q (.int ns.sum) H
/-- max(xs), min(xs) of a list of ints -/
def rMax (K : PySem.W.Frag) : List V → Hp → VK → Prop := fun vs H Q => ∃ (a : Addr) (ns : List Int), vs = [V.ref a] ∧ SqL K H a (ns.map V.int) ∧ 0 < ns.length ∧ ∀ m, m ∈ ns → (∀ y, y ∈ ns → y ≤ m) → Q (.int m) H
def rMin (K : PySem.W.Frag) : List V → Hp → VK → Prop := fun vs H Q => ∃ (a : Addr) (ns : List Int), vs = [V.ref a] ∧ SqL K H a (ns.map V.int) ∧ 0 < ns.length ∧ ∀ m, m ∈ ns → (∀ y, y ∈ ns → m ≤ y) → Q (.int m) H

/-! sorted, sort (fewer than 64 items: the library's own bound) -/
def rSorted (K : PySem.W.Frag) : List V → Hp → VK → Prop := fun vs H Q => ∃ (a : Addr) (ns : List Int), vs = [V.ref a] ∧ SqL K H a (ns.map V.int) ∧ ns.length < 64 ∧
  ∀ (ns' : List Int) (p : Addr), ns'.Perm ns → ns'.Pairwise (· ≤ ·) → H p = none → Q (.ref p) (upd H p (.lst (ns'.map V.int)))
def rSortedS (K : PySem.W.Frag) : List V → Hp → VK → Prop := fun vs H Q => ∃ (a : Addr) (xs : List Str), vs = [V.ref a] ∧ SqL K H a (xs.map V.str) ∧ xs.length < 64 ∧
  ∀ (ys : List Str) (p : Addr), ys.Perm xs → sortedS ys = true → H p = none → Q (.ref p) (upd H p (.lst (ys.map V.str)))
/-- xs.sort(), ints -/
def rSort : V → List V → Hp → VK → Prop := fun x xs H Q => ∃ (a : Addr) (ns : List Int), x = V.ref a ∧ xs = [] ∧ H a = some (.lst (ns.map V.int)) ∧ ns.length < 64 ∧
  ∀ ns' : List Int, ns'.Perm ns → ns'.Pairwise (· ≤ ·) → Q .non (upd H a (.lst (ns'.map V.int)))
end

/-! ### list.index, flat items -/
section
variable {X : Cx}
def rIndex (K : PySem.W.Frag) : V → List V → Hp → VK → Prop := fun x xs H Q => ∃ (a : Addr) (ys : List V) (y : V) (j : Nat) (z : V), x = V.ref a ∧ xs = [y] ∧ SqL K H a ys ∧ flatV y = true ∧ ys.all flatV = true ∧ ys[j]? = some z ∧ eqV z y = true ∧
  (∀ (m : Nat) (z' : V), m < j → ys[m]? = some z' → eqV z' y = false) ∧ Q (.int (j : Nat)) H
end

/-! ### type(x) of an own instance; is, is not of a module's class -/
section
variable {X : Cx}
end

/-! ### any(xs), all(xs) of a list of bools -/
theorem iter_any {prog : Program} {w : World} {A : Around} {E : Value → Shared → Prop} {s : Shared} {l : Addr} {items : Array Value} {Q : Value → Shared → Prop} (hl : s.heap.IsList l items)
    (h : ∀ s₂ : Shared, s₂ = { s with heap := s.heap.push { cls := .type "list_iterator", data := .fields #[.ref l, .int 0 0] } } →
      (s₂.heap.IsListIter s.heap.objs.size l 0 ∧ s₂.heap.IsList l items) → l ≠ s.heap.objs.size → Q (.ref s.heap.objs.size) s₂) : wpAny (model prog w) A (pyIter (.ref l)) Q E s := by
  have hlt : l < s.heap.objs.size := by obtain ⟨_, e, _⟩ := hl; exact Heap.lt_size e
  exact wpAny_pyIter_list hl (h _ rfl ⟨⟨_, Heap.get?_push_size _ rfl, rfl, rfl⟩, hl.push _⟩ (Nat.ne_of_lt hlt))
theorem truth_bools {prog : Program} {w : World} {A : Around} {bs : List Bool} {its : List Value} (e : its = bs.map Value.bool) :
    TruthOf prog w A (fun i v => its.toArray[i]? = some v) (fun i => bs.getD i false) := fun i v s Q E hv hq => by
  have hv' : its[i]? = some v := by simpa using hv
  rw [e, List.getElem?_map] at hv'
  obtain ⟨b, hb, rfl⟩ := Option.map_eq_some_iff.mp hv'
  have hg : bs.getD i false = b := by rw [List.getD_eq_getElem?_getD, hb] <;> rfl
  have hq' : Q (bs.getD i false) s := hq
  rw [hg] at hq'
  exact wpAny_truthy_bool hq'
theorem all_range : ∀ bs : List Bool, (List.range bs.length).all (fun i => bs.getD i false) = bs.all id
  | [] => rfl
  | b :: bs => by
    rw [List.length_cons, List.range_succ_eq_map, List.all_cons, List.all_map, List.all_cons, ← all_range bs]
    all_goals rfl
section
variable {X : Cx}
def rAny (K : PySem.W.Frag) : List V → Hp → VK → Prop := fun vs H Q => ∃ (a : Addr) (bs : List Bool), vs = [V.ref a] ∧ SqL K H a (bs.map V.bl) ∧ Q (.bl (bs.any id)) H
def rAll (K : PySem.W.Frag) : List V → Hp → VK → Prop := fun vs H Q => ∃ (a : Addr) (bs : List Bool), vs = [V.ref a] ∧ SqL K H a (bs.map V.bl) ∧ Q (.bl (bs.all id)) H
theorem cr_all (hc : X.calm = true) : CallR X (.builtin "all") (rAll X.K) := by
  intro pins s σ H vs us Q I r h
  obtain ⟨a, bs, rfl, hs, q⟩ := h
  obtain ⟨its, rv, hl, _⟩ := I.list hs
  rw [Vals.ref1 r]
  have hb := rv.bls
  refine call_all_walk (iter_any hl.isList fun s₂ e2 st hne => ?_)
  subst e2
  refine ⟨_, _, _, _, _, _, _, rfl, Walks.list (A := X.A.in1) (I.ok.hd hc) _ a hne its.toArray, st, truth_bools hb, fun h' tk hk => ?_⟩
  refine ⟨.bl _, H, I.kept fun b o eo => hk b o (fun hmem => ?_) (Heap.get?_push_of_some _ eo), ?_, q⟩
  · rcases List.mem_cons.mp hmem with e1 | hmem
    · exact absurd (e1 ▸ Heap.lt_size eo) (Nat.lt_irrefl _)
    · cases hmem
  · show Value.bool _ = Value.bool _
    rw [← all_range, hb, List.size_toArray, List.length_map]
end

/-! ### == and != of data at any depth: none, bools, ints, texts, lists, tuples -/
mutual
inductive Dp (K : PySem.W.Frag) (H : Hp) : V → PyData → Prop
  | non : Dp K H .non .none
  | bl (b : Bool) : Dp K H (.bl b) (.bool b)
  | int (i : Int) : Dp K H (.int i) (.int i)
  | str (x : Str) : Dp K H (.str x) (.str x)
  | lst {a : Addr} {xs : List V} {ds : List PyData} : SqL K H a xs → DpAll K H xs ds → Dp K H (.ref a) (.list ds)
  | tup {a : Addr} {xs : List V} {ds : List PyData} : SqT K H a xs → DpAll K H xs ds → Dp K H (.ref a) (.tuple ds)
inductive DpAll (K : PySem.W.Frag) (H : Hp) : List V → List PyData → Prop
  | nil : DpAll K H [] []
  | cons {v : V} {vs : List V} {d : PyData} {ds : List PyData} : Dp K H v d → DpAll K H vs ds → DpAll K H (v :: vs) (d :: ds)
end
section
variable {X : Cx} {pins : List (Addr × Obj)} {σ : St} {H : Hp} {s : Shared}
mutual
theorem Dp.reads (I : Inv X pins σ H s) : ∀ (d : PyData) (v : V) (u : Value), Dp X.K H v d → RelV v u → ∃ as, Reads s.heap u d as
  | .none, _, _, h, r => by
    cases h
    cases r
    exact ⟨_, Reads.none⟩
  | .bool b, _, _, h, r => by
    cases h
    cases r
    exact ⟨_, Reads.bool b⟩
  | .int i, _, _, h, r => by
    cases h
    obtain ⟨t, rfl⟩ := r
    exact ⟨_, Reads.int i t⟩
  | .str x, _, _, h, r => by
    cases h
    obtain ⟨t, rfl⟩ := r
    exact ⟨_, Reads.str x t⟩
  | .list ds, _, _, h, r => by
    cases h with
    | lst hs ha =>
      cases r
      obtain ⟨its, rv, ⟨o, n, ho, hc, _, hd⟩, _⟩ := I.list hs
      obtain ⟨as, hr⟩ := Dp.readsAll I ds _ its ha rv
      exact ⟨_, Reads.list ho hc hd hr⟩
  | .tuple ds, _, _, h, r => by
    cases h with
    | tup hs ha =>
      cases r
      obtain ⟨its, rv, ⟨o, ho, hc, n, hd⟩, _⟩ := I.tuple hs
      obtain ⟨as, hr⟩ := Dp.readsAll I ds _ its ha rv
      exact ⟨_, Reads.tuple ho hc hd hr⟩
  | .dict _, _, _, h, _ => by cases h
theorem Dp.readsAll (I : Inv X pins σ H s) : ∀ (ds : List PyData) (vs : List V) (us : List Value), DpAll X.K H vs ds → Vals vs us → ∃ as, ReadsAll s.heap us ds as
  | [], _, _, h, r => by
    cases h
    cases r
    exact ⟨_, ReadsAll.nil⟩
  | d :: ds, _, _, h, r => by
    cases h with
    | cons h1 h2 =>
      cases r with
      | cons r1 r2 =>
        obtain ⟨as, q1⟩ := Dp.reads I d _ _ h1 r1
        obtain ⟨bs, q2⟩ := Dp.readsAll I ds _ _ h2 r2
        exact ⟨_, ReadsAll.cons q1 q2⟩
end
end
section
variable {X : Cx}
def rEqD (K : PySem.W.Frag) : R2 := fun x y H Q => ∃ d e, Dp K H x d ∧ Dp K H y e ∧ SeqAt.shaped d = true ∧ SeqAt.shaped e = true ∧ Q (.bl (PyData.eqv d e)) H
def rNeD (K : PySem.W.Frag) : R2 := fun x y H Q => ∃ d e, Dp K H x d ∧ Dp K H y e ∧ SeqAt.shaped d = true ∧ SeqAt.shaped e = true ∧ Q (.bl (!PyData.eqv d e)) H
theorem op_eqD (hu : X.A.units + 64 < cLine) : OpR X (compareOp .Eq) (rEqD X.K) := by
  intro pins s σ H x y v u Q I rx ry h
  obtain ⟨d, e, hd, he, sd, se, q⟩ := h
  obtain ⟨as, r1⟩ := Dp.reads I d x v hd rx
  obtain ⟨bs, r2⟩ := Dp.reads I e y u he ry
  exact SeqAt.compareEq_shaped r1 r2 sd se hu ⟨.bl _, H, I, rfl, q⟩
theorem op_neD (hu : X.A.units + 64 < cLine) : OpR X (compareOp .NotEq) (rNeD X.K) := by
  intro pins s σ H x y v u Q I rx ry h
  obtain ⟨d, e, hd, he, sd, se, q⟩ := h
  obtain ⟨as, r1⟩ := Dp.reads I d x v hd rx
  obtain ⟨bs, r2⟩ := Dp.reads I e y u he ry
  exact SeqAt.compareNe_shaped r1 r2 sd se hu ⟨.bl _, H, I, rfl, q⟩
end
end L2

namespace L2
open PySem PySem.Spec PyProof.Rows
abbrev CellAt (h : Heap) (c : Addr) (v : Option Value) : Prop := h.IsCell c v
def relS (scope sc : Scope) : Scope :=
  { scope with names := scope.names.map fun (n, k) => if (k == .free && sc.kind == .function && sc.names.lookup n == some .cell) then (n, .cell) else (n, k) }

def cloFrom (cells : List (Str × Addr)) : List (Str × NameKind) → List (Str × Addr) → List (Str × Addr)
  | [], acc => acc
  | (n, k) :: r, acc => if k == .free then cloFrom cells r ((n, (cells.lookup n).getD 0) :: acc) else cloFrom cells r acc

theorem closure_loop (env : Env) (f : Str × NameKind → List (Str × Addr) → Sem (ForInStep (List (Str × Addr))))
    (hf : ∀ n k c, f (n, k) c = if k == .free then (do let a ← cellOf env n; pure (.yield ((n, a) :: c))) else pure (.yield c)) :
    ∀ (names : List (Str × NameKind)) (acc : List (Str × Addr)), (∀ y ∈ names, y.2 = .free → ∃ c, env.cells.lookup y.1 = some c) → forIn names acc f = pure (cloFrom env.cells names acc)
  | [], acc, _ => by rw [List.forIn_nil]; rfl
  | (n, k) :: r, acc, h => by
    rw [List.forIn_cons, hf]
    have ih := fun acc => closure_loop env f hf r acc fun y hy => h y (List.mem_cons_of_mem _ hy)
    unfold cloFrom
    by_cases hk : (k == NameKind.free) = true
    · rw [if_pos hk, if_pos hk]
      obtain ⟨c, hc⟩ := h (n, k) List.mem_cons_self (by simpa using hk)
      have e : cellOf env n = pure c := by unfold cellOf; rw [hc]
      rw [e]
      have e2 : (env.cells.lookup n).getD 0 = c := by rw [hc]; rfl
      rw [e2]
      exact ih _
    · rw [if_neg hk, if_neg hk]
      exact ih _
theorem closure_ok {scope : Scope} {env : Env} (h : ∀ y ∈ scope.names, y.2 = .free → ∃ c, env.cells.lookup y.1 = some c) : closureFor scope env = pure (cloFrom env.cells scope.names []) := by
  simp only [closureFor]
  rw [closure_loop env _ (fun n k c => rfl) scope.names [] h]
  rfl

theorem mem_lookup {α : Type} : ∀ {l : List (Str × α)} {n : Str} {c : α}, (n, c) ∈ l → ∃ c', l.lookup n = some c'
  | (k, v) :: r, n, c, h => by
    rw [List.lookup_cons]
    cases hb : n == k with
    | true => exact ⟨_, rfl⟩
    | false =>
      rcases List.mem_cons.mp h with e | h
      · cases e; simp at hb
      · exact mem_lookup h

theorem cloFrom_mem {cells : List (Str × Addr)} : ∀ {names : List (Str × NameKind)} {acc : List (Str × Addr)} {n : Str} {c : Addr}, (n, c) ∈ cloFrom cells names acc → (n, c) ∈ acc ∨ ((n, .free) ∈ names ∧ c = (cells.lookup n).getD 0)
  | [], _, _, _, h => .inl h
  | (m, k) :: r, acc, n, c, h => by
    unfold cloFrom at h
    split at h
    · rename_i hk
      have hk : k = .free := by simpa using hk
      rcases cloFrom_mem h with h | ⟨h1, h2⟩
      · rcases List.mem_cons.mp h with e | h
        · cases e; exact .inr ⟨hk ▸ List.mem_cons_self, rfl⟩
        · exact .inl h
      · exact .inr ⟨List.mem_cons_of_mem _ h1, h2⟩
    · rcases cloFrom_mem h with h | ⟨h1, h2⟩
      · exact .inl h
      · exact .inr ⟨List.mem_cons_of_mem _ h1, h2⟩
theorem cloFrom_acc {cells : List (Str × Addr)} : ∀ {names : List (Str × NameKind)} {acc : List (Str × Addr)} {p : Str × Addr}, p ∈ acc → p ∈ cloFrom cells names acc
  | [], _, _, h => h
  | (m, k) :: r, acc, p, h => by
    unfold cloFrom
    split
    · exact cloFrom_acc (List.mem_cons_of_mem _ h)
    · exact cloFrom_acc h
theorem cloFrom_has {cells : List (Str × Addr)} : ∀ {names : List (Str × NameKind)} {acc : List (Str × Addr)} {n : Str}, (n, .free) ∈ names → (n, (cells.lookup n).getD 0) ∈ cloFrom cells names acc
  | (m, k) :: r, acc, n, h => by
    unfold cloFrom
    rcases List.mem_cons.mp h with e | h
    · cases e
      exact cloFrom_acc List.mem_cons_self
    · split
      · exact cloFrom_has h
      · exact cloFrom_has h

theorem cells_mem : ∀ {names : List (Str × NameKind)} {h : Heap} {acc : List (Str × Addr)} {x : Str} {c : Addr}, (x, c) ∈ cellsFrom h.objs.size names acc →
    (x, c) ∈ acc ∨ ((x, .cell) ∈ names ∧ h.objs.size ≤ c ∧ CellAt (pushCells h names) c none)
  | [], _, _, _, _, h => .inl h
  | (n, k) :: r, h, acc, x, c, hm => by
    unfold cellsFrom at hm
    unfold pushCells
    split at hm
    · rename_i hk
      rw [if_pos hk]
      have hk : k = .cell := by simpa using hk
      rw [← Heap.size_push h { cls := .type "cell", data := .cell none }] at hm
      rcases cells_mem hm with hm | ⟨h1, h2, h3⟩
      · rcases List.mem_cons.mp hm with e | hm
        · cases e
          exact .inr ⟨hk ▸ List.mem_cons_self, Nat.le_refl _, _, pushCells_keeps r _ _ _ (Heap.get?_push_size _ rfl), rfl⟩
        · exact .inl hm
      · rw [Heap.size_push] at h2
        exact .inr ⟨List.mem_cons_of_mem _ h1, Nat.le_of_succ_le h2, h3⟩
    · rename_i hk
      rw [if_neg hk]
      rcases cells_mem hm with hm | ⟨h1, h2, h3⟩
      · exact .inl hm
      · exact .inr ⟨List.mem_cons_of_mem _ h1, h2, h3⟩
theorem cells_acc : ∀ {names : List (Str × NameKind)} {n : Nat} {acc : List (Str × Addr)} {p : Str × Addr}, p ∈ acc → p ∈ cellsFrom n names acc
  | [], _, _, _, h => h
  | (m, k) :: r, n, acc, p, h => by
    unfold cellsFrom
    split
    · exact cells_acc (List.mem_cons_of_mem _ h)
    · exact cells_acc h
theorem cells_has : ∀ {names : List (Str × NameKind)} {n : Nat} {acc : List (Str × Addr)} {x : Str}, (x, .cell) ∈ names → ∃ c, (x, c) ∈ cellsFrom n names acc
  | (m, k) :: r, n, acc, x, h => by
    unfold cellsFrom
    rcases List.mem_cons.mp h with e | h
    · cases e
      exact ⟨n, cells_acc List.mem_cons_self⟩
    · split
      · exact cells_has h
      · exact cells_has h
theorem cells_inj : ∀ {names : List (Str × NameKind)} {h : Heap} {acc : List (Str × Addr)} {x y : Str} {c : Addr}, (∀ p ∈ acc, p.2 < h.objs.size) → (∀ x y c, (x, c) ∈ acc → (y, c) ∈ acc → x = y) →
    (x, c) ∈ cellsFrom h.objs.size names acc → (y, c) ∈ cellsFrom h.objs.size names acc → x = y
  | [], _, _, _, _, _, _, hi, h1, h2 => hi _ _ _ h1 h2
  | (n, k) :: r, h, acc, x, y, c, hl, hi, h1, h2 => by
    unfold cellsFrom at h1 h2
    split at h1
    · rename_i hk
      rw [if_pos hk] at h2
      rw [← Heap.size_push h { cls := .type "cell", data := .cell none }] at h1 h2
      refine cells_inj (h := h.push _) (fun p hp => ?_) (fun x y c a b => ?_) h1 h2
      · rw [Heap.size_push]
        rcases List.mem_cons.mp hp with rfl | hp
        · exact Nat.lt_succ_self _
        · exact Nat.lt_succ_of_lt (hl p hp)
      · rcases List.mem_cons.mp a with e | a <;> rcases List.mem_cons.mp b with e' | b
        · cases e; cases e'; rfl
        · cases e; exact absurd (hl _ b) (Nat.lt_irrefl _)
        · cases e'; exact absurd (hl _ a) (Nat.lt_irrefl _)
        · exact hi _ _ _ a b
    · rename_i hk
      rw [if_neg hk] at h2
      exact cells_inj hl hi h1 h2

theorem newEnv_comp {M : Model} {A : Around} {E : Value → Shared → Prop} {s : Shared} {scope : Scope} {globals : Addr} {closure : List (Str × Addr)} {qual : Str} {func : Option Addr} {code : Value} {around : Env} {builtins : Addr} {Q : Env → Shared → Prop}
    (h : Q (newEnv scope s.heap.objs.size globals (cellsFrom (s.heap.objs.size + 1) scope.names closure) qual func code (some around) builtins)
      { s with heap := pushCells (s.heap.push { cls := .type "dict", data := .dict #[] }) scope.names }) :
    wpAny M A (newFunctionEnv scope globals closure [] qual func code (some around) builtins) Q E s := by
  simp only [newFunctionEnv, Option.isSome_some, if_true]
  refine wpAny_bind (wpAny_alloc ?_)
  refine wpAny_bind (wpAny_layCells _ (fun n k c => rfl) scope.names closure _ _ ?_)
  rw [show ({ s with heap := s.heap.push { cls := .type "dict", data := .dict #[] } } : Shared).heap.objs.size = s.heap.objs.size + 1 from Heap.size_push ..]
  rw [List.forIn_nil]
  exact wpAny_bind (wpAny_pure (wpAny_pure h))

/-- every name of the written scope, in the scope that runs -/
theorem lookup_relS {sc : Scope} : ∀ {names : List (Str × NameKind)} {x : Str} {k : NameKind},
    (names.map fun (n, k) => if (k == NameKind.free && sc.kind == .function && sc.names.lookup n == some .cell) then (n, NameKind.cell) else (n, k)).lookup x = some k →
    ∃ k', names.lookup x = some k' ∧ (k = k' ∨ (k' = .free ∧ k = .cell))
  | [], _, _, h => by simp at h
  | (n, k₀) :: r, x, k, h => by
    have ih := @lookup_relS sc r x k
    have h' : List.lookup x ((if (k₀ == NameKind.free && sc.kind == .function && sc.names.lookup n == some .cell) = true then (n, NameKind.cell) else (n, k₀)) :: (r.map _)) = some k := h
    cases hx : x == n with
    | true =>
      simp only [List.lookup_cons, hx]
      by_cases hc : (k₀ == NameKind.free && sc.kind == .function && sc.names.lookup n == some .cell) = true
      · rw [if_pos hc] at h'
        simp only [List.lookup_cons, hx] at h'
        cases h'
        simp only [Bool.and_eq_true, beq_iff_eq] at hc
        exact ⟨k₀, rfl, .inr ⟨hc.1.1, rfl⟩⟩
      · rw [if_neg hc] at h'
        simp only [List.lookup_cons, hx] at h'
        cases h'
        exact ⟨_, rfl, .inl rfl⟩
    | false =>
      simp only [List.lookup_cons, hx]
      by_cases hc : (k₀ == NameKind.free && sc.kind == .function && sc.names.lookup n == some .cell) = true
      · rw [if_pos hc] at h'
        simp only [List.lookup_cons, hx] at h'
        exact ih h'
      · rw [if_neg hc] at h'
        simp only [List.lookup_cons, hx] at h'
        exact ih h'



/-- the names of a comprehension's block: its own (with their places in N), or captured -/
structure BlkOk (N : List Str) (sc scope : Scope) (own : List (Str × Nat)) : Prop where
  kind : scope.kind = .function
  uniq : ∀ y ∈ scope.names, scope.names.lookup y.1 = some y.2
  ix : ∀ p ∈ own, N[p.2]? = some p.1
  free : ∀ y ∈ scope.names, y.2 = .free → sc.names.lookup y.1 = some .cell ∨ sc.names.lookup y.1 = some .free
  own : ∀ y ∈ scope.names, y.2 = .local ∨ y.2 = .cell → y.1 ∈ own.map (·.1) ∨ y.1 ∉ N
/-- the slots of the block's own names forgotten -/
def wipe (σ : St) : List Nat → St
  | [] => σ
  | v :: vs => (wipe σ vs).set v none
theorem wipe_length (σ : St) : ∀ vs : List Nat, (wipe σ vs).length = σ.length
  | [] => rfl
  | v :: vs => by unfold wipe; rw [List.length_set, wipe_length σ vs]
theorem wipe_some {σ : St} {i : Nat} {x : V} : ∀ {vs : List Nat}, (wipe σ vs)[i]? = some (some x) → σ[i]? = some (some x) ∧ i ∉ vs
  | [], h => ⟨h, by simp⟩
  | v :: vs, h => by
    unfold wipe at h
    by_cases hi : v = i
    · subst hi
      by_cases hv : v < (wipe σ vs).length
      · rw [List.getElem?_set_self hv] at h; cases h
      · rw [List.getElem?_eq_none (by simpa using hv)] at h; cases h
    · rw [List.getElem?_set_ne hi] at h
      obtain ⟨h1, h2⟩ := wipe_some h
      exact ⟨h1, by simp only [List.mem_cons, not_or]; exact ⟨fun e => hi e.symm, h2⟩⟩

/-- the context of a block that starts at s, its iterator's objects at fp -/
abbrev Cx.blk (X : Cx) (s : Shared) (H : Hp) (scope : Scope) (cenv : Env) (fp : List Addr) : Cx := { X with s_0 := s, H_0 := H, env := cenv, outer := X.stack, ex := fp, fn := fun x => scope.names.lookup x == some .cell, pn := [], xe := fun _ _ => False }
section
variable {X : Cx} {pins : List (Addr × Obj)} {σ : St} {H : Hp} {s : Shared}
theorem block_start {scope : Scope} {own : List (Str × Nat)} {fp : List Addr} (I : Inv X pins σ H s) (ok : BlkOk X.N X.env.scope scope own) (hN : X.N.Nodup) (hfp : ∀ b ∈ fp, FpOk X pins H b ∧ b < s.heap.objs.size) :
    Inv (X.blk s H scope (compEnvC scope (cellsFrom (s.heap.objs.size + 1) scope.names (cloFrom X.env.cells scope.names [])) s.heap.objs.size X.env) fp) [] (wipe σ (own.map (·.2))) H { s with heap := pushCells (s.heap.push { cls := .type "dict", data := .dict #[] }) scope.names } := by
  have hfree : ∀ y ∈ scope.names, y.2 = .free → ∃ c, X.env.cells.lookup y.1 = some c := fun y hy e => by
    rcases ok.free y hy e with k | k
    · exact I.ok.has _ (.inl k)
    · exact I.ok.has _ (.inr k)
  generalize hcenv : compEnvC scope (cellsFrom (s.heap.objs.size + 1) scope.names (cloFrom X.env.cells scope.names [])) s.heap.objs.size X.env = cenv
  have kp : ∀ b o, s.heap.get? b = some o → (pushCells (s.heap.push { cls := .type "dict", data := .dict #[] }) scope.names).get? b = some o := fun b o e => pushCells_keeps _ _ _ _ (Heap.get?_push_of_some _ e)
  have hL : cenv.locals = s.heap.objs.size := by rw [← hcenv]; rfl
  have hcl : cenv.cells = cellsFrom (s.heap.objs.size + 1) scope.names (cloFrom X.env.cells scope.names []) := by rw [← hcenv]; rfl
  have hsc : cenv.scope = relS scope X.env.scope := by rw [← hcenv]; rfl
  rw [← Heap.size_push s.heap { cls := .type "dict", data := .dict #[] }] at hcl
  have cm : ∀ {y c}, (y, c) ∈ cloFrom X.env.cells scope.names [] → X.env.cells.lookup y = some c ∧ c < s.heap.objs.size := fun {y c} hm => by
    rcases cloFrom_mem hm with hm | ⟨h1, rfl⟩
    · cases hm
    · obtain ⟨c, hc⟩ := hfree _ h1 rfl
      rw [hc]
      obtain ⟨w, z⟩ := I.cell _ _ hc
      exact ⟨rfl, z.lt⟩
  have mem : ∀ {y c}, cenv.cells.lookup y = some c → (X.env.cells.lookup y = some c ∧ c < s.heap.objs.size) ∨ (s.heap.objs.size + 1 ≤ c ∧ CellAt (pushCells (s.heap.push { cls := .type "dict", data := .dict #[] }) scope.names) c none) := fun {y c} e => by
    rw [hcl] at e
    rcases cells_mem (PySem.mem_of_lookup e) with hm | ⟨_, h2, h3⟩
    · exact .inl (cm hm)
    · rw [Heap.size_push] at h2; exact .inr ⟨h2, h3⟩
  have look : ∀ {y}, scope.names.lookup y = some .free → ∃ c, cenv.cells.lookup y = some c ∧ X.env.cells.lookup y = some c := fun {y} hl => by
    have hy : (y, NameKind.free) ∈ scope.names := PySem.mem_of_lookup hl
    obtain ⟨c', e'⟩ := mem_lookup (cells_acc (names := scope.names) (n := (s.heap.push { cls := .type "dict", data := .dict #[] }).objs.size) (cloFrom_has (cells := X.env.cells) (acc := []) hy))
    rw [← hcl] at e'
    refine ⟨c', e', ?_⟩
    rw [hcl] at e'
    rcases cells_mem (PySem.mem_of_lookup e') with hm | ⟨h1, _, _⟩
    · exact (cm hm).1
    · have := ok.uniq _ h1
      rw [hl] at this; cases this
  have okB : (X.blk s H scope cenv fp).Ok := by
    refine ⟨I.ok.mod, by show cenv.scope.kind = _; rw [hsc]; exact ok.kind, by show cenv.globals = _; rw [← hcenv]; exact I.ok.glob, by show cenv.builtins = _; rw [← hcenv]; exact I.ok.blt, by show s.heap.objs.size ≤ cenv.locals; rw [hL]; exact Nat.le_refl _,
      fun y z c e1 e2 => ?_, fun y hy => ?_, fun y c z e => ?_, I.ok.hd, I.ok.frames, .inl rfl, fun b hb => ⟨?_, fun y c e z => ?_⟩, I.bs, Nat.le_trans I.ok.bsz I.sz, fun b o e hb => ?_, fun b hb z => ?_, I.stack, I.stkFree⟩
    · have e1 : cenv.cells.lookup y = some c := e1
      have e2 : cenv.cells.lookup z = some c := e2
      rw [hcl] at e1 e2
      refine cells_inj (fun p hp => ?_) (fun y z c a b => I.ok.inj y z c (cm a).1 (cm b).1) (PySem.mem_of_lookup e1) (PySem.mem_of_lookup e2)
      rw [Heap.size_push]
      exact Nat.lt_succ_of_lt (cm (y := p.1) (c := p.2) hp).2
    · show ∃ c, cenv.cells.lookup y = some c
      have key : ∀ k, cenv.kindOf y = some k → (k = .cell ∨ k = .free) → ∃ c, cenv.cells.lookup y = some c := fun k hk hk' => by
        unfold Env.kindOf at hk
        rw [hsc] at hk
        obtain ⟨k', e, r⟩ := lookup_relS hk
        have : k' = .cell ∨ k' = .free := by
          rcases r with rfl | ⟨rfl, _⟩
          · exact hk'
          · exact .inr rfl
        rcases this with rfl | rfl
        · obtain ⟨c, hm⟩ := cells_has (n := (s.heap.push { cls := .type "dict", data := .dict #[] }).objs.size) (acc := cloFrom X.env.cells scope.names []) (PySem.mem_of_lookup e)
          obtain ⟨c', e'⟩ := mem_lookup hm
          exact ⟨c', by rw [hcl]; exact e'⟩
        · obtain ⟨c, h1, _⟩ := look e
          exact ⟨c, h1⟩
      rcases hy with hy | hy
      · exact key _ hy (.inl rfl)
      · exact key _ hy (.inr rfl)
    · have z : (scope.names.lookup y == some NameKind.cell) = true := z
      have z : scope.names.lookup y = some .cell := by simpa using z
      have e : cenv.cells.lookup y = some c := e
      rw [hcl] at e
      rcases cells_mem (PySem.mem_of_lookup e) with hm | ⟨_, h2, _⟩
      · rcases cloFrom_mem hm with hm | ⟨h1, _⟩
        · cases hm
        · have q := ok.uniq _ h1
          rw [z] at q; cases q
      · rw [Heap.size_push] at h2
        exact Nat.le_of_succ_le h2
    · show b ≠ cenv.locals
      rw [hL]; exact Nat.ne_of_lt (hfp b hb).2
    · have e : cenv.cells.lookup y = some c := e
      rcases mem e with ⟨h1, _⟩ | ⟨h1, _⟩
      · exact (hfp b hb).1.2.2.2.2.1 y c h1 z
      · have h2 : s.heap.objs.size + 1 ≤ b := by rw [← z]; exact h1
        exact absurd (Nat.lt_of_lt_of_le (hfp b hb).2 (Nat.le_of_succ_le h2)) (Nat.lt_irrefl _)
    · rcases (hfp b hb).1.2.2.2.1 with z | z
      · exact I.ok.noex b o e z
      · exact absurd (Nat.lt_of_lt_of_le (Heap.lt_size e) (Nat.le_trans I.ok.bsz z)) (Nat.lt_irrefl _)
    · rcases List.mem_cons.mp (I.stkSub b z) with z | z
      · exact (hfp b hb).1.2.1 z
      · exact (hfp b hb).1.2.2.1 z
  refine ⟨okB, rfl, I.bare, Un.kept kp, ⟨fun _ => none, ?_, fun i y av e1 e2 e3 => ?_⟩, fun y c e => ?_, ?_, fun y c e => ?_, fun p hp => ?_, I.hok.kept kp, by rw [wipe_length]; exact I.len⟩
  · show Heap.Ns _ cenv.locals _
    rw [hL]
    exact Heap.Ns.keeps (Heap.Ns.new ..) fun b o e => pushCells_keeps _ _ _ _ e
  · obtain ⟨e2, hne⟩ := wipe_some e2
    have hfr : scope.names.lookup y = some .free ∧ (cenv.kindOf y = some .cell ∨ cenv.kindOf y = some .free) := by
      have key : ∀ k, cenv.scope.names.lookup y = some k → k = .local ∨ k = .cell ∨ k = .free → scope.names.lookup y = some .free ∧ (cenv.kindOf y = some .cell ∨ cenv.kindOf y = some .free) := fun k hk hk' => by
        have hk0 := hk
        rw [hsc] at hk
        obtain ⟨k', e, r⟩ := lookup_relS hk
        have no : ¬ (k' = .local ∨ k' = .cell) := fun hh => by
          rcases ok.own _ (PySem.mem_of_lookup e) hh with e' | e'
          · obtain ⟨p, hp, hpy⟩ := List.mem_map.mp e'
            have e3 := ok.ix p hp
            have : p.1 = y := hpy
            rw [this] at e3
            exact hne (List.mem_map.mpr ⟨p, hp, nodup_ix hN e3 e1⟩)
          · exact e' (List.mem_of_getElem? e1)
        rcases r with rfl | ⟨rfl, rfl⟩
        · rcases hk' with rfl | rfl | rfl
          · exact absurd (.inl rfl) no
          · exact absurd (.inr rfl) no
          · exact ⟨e, .inr hk0⟩
        · exact ⟨e, .inl hk0⟩
      have e3 : Vis cenv.scope y := e3
      rcases e3 with e3 | e3 | e3
      · exact key _ e3 (.inl rfl)
      · exact key _ e3 (.inr (.inl rfl))
      · exact key _ e3 (.inr (.inr rfl))
    obtain ⟨m, hn, hl⟩ := I.loc
    have hvis : Vis X.env.scope y := (ok.free _ (PySem.mem_of_lookup hfr.1) rfl).elim (fun k => .inr (.inl k)) (fun k => .inr (.inr k))
    obtain ⟨w, r, q⟩ := hl i y av e1 e2 hvis
    refine ⟨w, r, .inr ⟨hfr.2, ?_⟩⟩
    obtain ⟨c, h1, h2⟩ := look hfr.1
    rcases q with ⟨k, _⟩ | ⟨_, c', e', z⟩
    · have k : X.env.scope.names.lookup y = some .local := k
      rcases ok.free _ (PySem.mem_of_lookup hfr.1) rfl with k' | k' <;> rw [show X.env.scope.names.lookup y = _ from k'] at k <;> cases k
    · rw [h2] at e'; cases e'
      exact ⟨c, h1, z.keeps kp⟩
  · have e : cenv.cells.lookup y = some c := e
    rcases mem e with ⟨h1, _⟩ | ⟨_, z⟩
    · obtain ⟨w, z⟩ := I.cell y c h1
      exact ⟨w, z.keeps kp⟩
    · exact ⟨_, z⟩
  · show H cenv.locals = none
    rw [hL]; exact I.hok.fresh (Nat.le_refl _)
  · have e : cenv.cells.lookup y = some c := e
    rcases mem e with ⟨h1, _⟩ | ⟨h1, _⟩
    · exact I.freeC y c h1
    · exact I.hok.fresh (Nat.le_of_succ_le h1)
  · exact absurd (show p ∈ ([] : List (Addr × Obj)) ++ [] from hp) (by simp)

/-- an item appended to a tracked list -/
theorem app_ok {E : Value → Shared → Prop} {D : Addr} {xs : List V} {y : V} {v : Value} {Q : Value → Shared → Prop} (I : Inv X pins σ H s) (hD : H D = some (.lst xs)) (hz : xs.length < sizeLine) (r : RelV y v)
    (h : ∀ s', Inv X pins σ (upd H D (.lst (xs ++ [y]))) s' → Q .none s') : wpAny (model X.prog X.w) X.A (call (.builtin "list.append") [.ref D, v]) Q E s := by
  obtain ⟨hz', its, n, ri, e⟩ := I.hok D _ hD
  have hl := ri.length
  refine append_at (hsz := by rw [List.size_toArray]; omega) e fun h' sb ho' => ?_
  refine h { s with heap := h' } (I.write (t' := s.toks) (by rw [hD]; trivial) (.inl rfl) (fun b u hb q => (sb.2 b hb).trans q) ⟨_, ho'⟩ ⟨by rw [List.length_append]; exact hz, its ++ [v], n + 1, ri.append (.cons r .nil), ?_⟩)
  rw [ho']
  simp

/-- a clause's tests -/
def PTs (X : Cx) (ifs : List Expr) (t : TT) : Prop :=
  ∀ (pins : List (Addr × Obj)) (s : Shared) (σ : St) (H : Hp) (Q : Bool → Hp → Prop), Inv X pins σ H s → t σ H Q →
    wpAny (model X.prog X.w) X.A (forIn ifs true fun c r => if r = true then do let ok ← isTrue c X.env (eval c X.env); pure (ForInStep.yield ok) else pure (ForInStep.yield r)) (TP X pins σ Q) X.xe s
def tYes : TT := fun _ H Q => Q true H
theorem pts_nil : PTs X [] tYes := fun _ _ _ H _ I h => wpAny_tests_nil ⟨H, I, h⟩
end

theorem thnF {α : Type} {t : Sem α} {Q Q' : α → Shared → Prop} {M : Model} {A : Around} {E : Value → Shared → Prop} {s : Shared} (h : wpAny M A t Q (fun _ _ => False) s) (hQ : ∀ a s, Q a s → Q' a s) : wpAny M A t Q' E s := wpAny_mono h hQ fun _ _ z => False.elim z

/-- the loop of a list comprehension's block, the target of any form (codeAny_compLoop_tests asks a target that no tuple goes to; statement and proof follow it, PyProof/CompMap.lean:41-61, with the step letOwnedTupleGo kept) -/
theorem compLoop_any {prog : Program} {w : World} {A : Around} {R : Result → Shared → Prop} {s : Shared} {elt target iter : Expr} {ifs : List Expr} {scope : Scope} {pos : Pos} {it acc : Value} {env : Env} (I : Nat → Shared → Prop)
    (turn : ∀ n s, I n s → wpAny (model prog w) A (pyNext it) (fun r s₁ => match r with
      | none => R (.ok .next) s₁
      | some v => wpAny (model prog w) A (letOwnedTupleGo target it v) (fun _ s₁' => wpAny (model prog w) A (assign target env v) (fun _ s₂ =>
          wpAny (model prog w) A (forIn ifs true fun c r => if r = true then do let ok ← isTrue c env (eval c env); pure (ForInStep.yield ok) else pure (ForInStep.yield r)) (fun ok s₃ =>
            if ok = true then wpAny (model prog w) A (eval elt env) (fun x s₄ =>
              wpAny (model prog w) A (call (.builtin "list.append") [acc, x]) (fun _ s₅ => ∃ m, m < n ∧ I m s₅) (notedBy (model prog w) A env fun e s' => R (.error e) s') s₄) (notedBy (model prog w) A env fun e s' => R (.error e) s') s₃
            else ∃ m, m < n ∧ I m s₃) (notedBy (model prog w) A env fun e s' => R (.error e) s') s₂) (notedBy (model prog w) A env fun e s' => R (.error e) s') s₁') (notedBy (model prog w) A env fun e s' => R (.error e) s') s₁) (notedBy (model prog w) A env fun e s' => R (.error e) s') s)
    (n : Nat) (h : I n s) :
    codeAny (model prog w) A (.compLoop (.ListComp elt [⟨target, iter, ifs, 0⟩] scope pos) 0 it acc env) R s := by
  refine codeAny_loop rfl I (fun n s hI => ?_) n h
  show wpAny _ A ((compTurn (.ListComp elt [⟨target, iter, ifs, 0⟩] scope pos) 0 it acc env).onRaise (fun x => do noteFrame x env; theTreesLotGoes x)) _ _ s
  refine wpAny_noted ?_
  rw [compTurn_list]
  refine wpAny_bind (wpAny_standAt (wpAny_bind (wpAny_mono (turn n s hI) (fun r s₁ h₁ => ?_) fun _ _ h' => h')))
  cases r with
  | none => exact wpAny_pure h₁
  | some v =>
    refine wpAny_bind (wpAny_mono h₁ (fun _ s₁' h₁' => ?_) fun _ _ h' => h')
    refine wpAny_bind (wpAny_mono h₁' (fun _ s₂ h₂ => wpAny_bind (wpAny_mono h₂ (fun ok s₃ h₃ => ?_) fun _ _ h' => h')) fun _ _ h' => h')
    cases ok with
    | false => exact wpAny_pure ⟨rfl, h₃⟩
    | true =>
      exact wpAny_bind (wpAny_bind (wpAny_mono h₃ (fun x s₄ h₄ => wpAny_bind (wpAny_mono h₄ (fun _ s₅ h₅ => wpAny_pure (wpAny_pure ⟨rfl, h₅⟩)) fun _ _ h' => h')) fun _ _ h' => h'))

section
variable {X : Cx}
/-- [elt for target in iter if ..]: D the new list; W by the turn and a measure, Nx what a turn is to reach -/
def tLc (wi : TI) (g : TG) (tt : TT) (te : TE) (vs : List Nat) : TE := fun σ H Q => wi σ H fun J H1 => ∀ D, H1 D = none → ∃ W : Nat → Nat → Hp → Prop, (∃ m, W 0 m (upd H1 D (.lst []))) ∧ ∀ i m H, W i m H →
  (J.stop i H ∧ Q (.ref D) H) ∨ (J.go i H ∧ ∃ Nx : Hp → Prop, (∀ H', Nx H' → ∃ m', m' < m ∧ W (i + 1) m' H') ∧ ∀ x H', J.yld i H x H' → g x (wipe σ vs) H' fun σ2 H2 => wipe σ2 vs = wipe σ vs ∧ tt σ2 H2 fun b H3 =>
    if b = true then te σ2 H3 fun y H4 => ∃ acc, H4 D = some (.lst acc) ∧ acc.length < sizeLine ∧ Nx (upd H4 D (.lst (acc ++ [y]))) else Nx H3)
theorem lc_core {pins : List (Addr × Obj)} {s : Shared} {σ : St} {H : Hp} {Q : VK} {elt tg iter : Expr} {ifs : List Expr} {scope : Scope} {own : List (Str × Nat)} {pos pos' : Pos} {wi : TI} {g : TG} {tt : TT} {te : TE} {use : Option (Value → Sem Unit)} {Qf : Value → Shared → Prop}
    (hc : X.calm = true) (hN : X.N.Nodup) (I : Inv X pins σ H s) (hi : PI X tg iter wi) (ok : BlkOk X.N X.env.scope scope own)
    (hg : ∀ (s : Shared) (H : Hp) (C : Addr) (cl : List (Str × Addr)) (fp : List Addr), PG (X.blk s H scope (compEnvC scope cl C X.env) fp) tg g) (ht : ∀ (s : Shared) (H : Hp) (C : Addr) (cl : List (Str × Addr)) (fp : List Addr), PTs (X.blk s H scope (compEnvC scope cl C X.env) fp) ifs tt)
    (he : ∀ (s : Shared) (H : Hp) (C : Addr) (cl : List (Str × Addr)) (fp : List Addr), PE (X.blk s H scope (compEnvC scope cl C X.env) fp) elt te) (hs : ∀ x, foldedSetIterable iter X.env x = pure x)
    (h : tLc wi g tt te (own.map (·.2)) σ H Q)
    (hRR : ∀ D C s' m H', Inv X pins σ H' s' → Q (.ref D) H' → s'.heap.Ns C m → FpOk X pins H' C → compPost (model X.prog X.w) X.A X.xe use Qf (.ref D) C (.ok .next) s') :
    wpAny (model X.prog X.w) X.A (comprehension (.ListComp elt [⟨tg, iter, ifs, 0⟩] scope pos) scope X.env pos' (newList []) false (eval iter X.env) use) Qf X.xe s := by
  have hfree : ∀ y ∈ scope.names, y.2 = .free → ∃ c, X.env.cells.lookup y.1 = some c := fun y hy e => by
    rcases ok.free y hy e with k | k
    · exact I.ok.has _ (.inl k)
    · exact I.ok.has _ (.inr k)
  refine wpAny_comprehension_free (use := use) rfl hs (closure_ok hfree) ok.kind (fun y hy e => by rw [ok.uniq y hy, e])
    (thn (hi pins s σ H _ I h) fun xv s1 hx => thn hx fun itv s2 h2 => ?_)
  obtain ⟨it, fp, tn, J, H2, e, I2, T, st2, f2, q⟩ := h2
  subst e
  refine wpAny_newObj_type (newEnv_comp ?_) (by show 0 ≤ sizeLine; decide)
  generalize hD : s2.heap.objs.size = D
  have hDn : H2 D = none := I2.hok.fresh (Nat.le_of_eq hD)
  obtain ⟨W, ⟨m0, w0⟩, turn⟩ := q D hDn
  -- the new list
  generalize hs3 : ({ s2 with heap := s2.heap.push { cls := .type "list", data := .seq ([] : List Value).toArray } } : Shared) = s3
  have I3 : Inv X pins σ (upd H2 D (.lst [])) s3 := by
    rw [← hs3]
    refine I2.laid (t' := s2.toks) (fun b o e => Heap.get?_push_of_some _ e) (Nat.le_of_eq hD) ⟨Nat.zero_le _, [], 0, .nil, ?_⟩
    rw [← hD]
    exact Heap.get?_push_size _ rfl
  have h3 : s3.heap = s2.heap.push { cls := .type "list", data := .seq ([] : List Value).toArray } := by rw [← hs3]
  have sz : ∀ b ∈ fp, b < s2.heap.objs.size := fun b hb => by
    obtain ⟨o, e, _⟩ := T.obj _ _ st2 b hb
    exact Heap.lt_size e
  have f3 : ∀ b ∈ fp, FpOk X pins (upd H2 D (.lst [])) b ∧ b < s3.heap.objs.size := fun b hb => by
    have hlt := sz b hb
    refine ⟨⟨?_, (f2 b hb).2⟩, by rw [h3, Heap.size_push]; exact Nat.lt_succ_of_lt hlt⟩
    rw [upd_ne (by rw [← hD]; exact Nat.ne_of_lt hlt)]
    exact (f2 b hb).1
  have st3 : tn 0 s3.heap := T.keep _ _ _ st2 fun b _ o e => by rw [h3]; exact Heap.get?_push_of_some _ e
  have I4 := block_start I3 ok hN f3
  have pg := hg s3 (upd H2 D (.lst [])) s3.heap.objs.size (cellsFrom (s3.heap.objs.size + 1) scope.names (cloFrom X.env.cells scope.names [])) fp
  have pt := ht s3 (upd H2 D (.lst [])) s3.heap.objs.size (cellsFrom (s3.heap.objs.size + 1) scope.names (cloFrom X.env.cells scope.names [])) fp
  have pe := he s3 (upd H2 D (.lst [])) s3.heap.objs.size (cellsFrom (s3.heap.objs.size + 1) scope.names (cloFrom X.env.cells scope.names [])) fp
  show codeAny _ _ (.compStart (.ListComp elt [⟨tg, iter, ifs, 0⟩] scope pos) 0 (.ref it) (.ref D) (compEnvC scope (cellsFrom (s3.heap.objs.size + 1) scope.names (cloFrom X.env.cells scope.names [])) s3.heap.objs.size X.env)) (compPost (model X.prog X.w) X.A X.xe use Qf (.ref D) s3.heap.objs.size) { s3 with heap := pushCells (s3.heap.push { cls := .type "dict", data := .dict #[] }) scope.names }
  have nfp : ∀ b ∈ fp, (upd H2 D (.lst [])) b = none := fun b hb => (f3 b hb).1.1
  generalize hce : compEnvC scope (cellsFrom (s3.heap.objs.size + 1) scope.names (cloFrom X.env.cells scope.names [])) s3.heap.objs.size X.env = ce at I4 pg pt pe ⊢
  have cL : ce.locals = s3.heap.objs.size := by subst hce; rfl
  generalize hH3 : upd H2 D (.lst []) = H3 at I3 I4 pg pt pe w0 nfp f3
  generalize hs4 : ({ s3 with heap := pushCells (s3.heap.push { cls := .type "dict", data := .dict #[] }) scope.names } : Shared) = s4 at I4 ⊢
  have st4 : tn 0 s4.heap := T.keep _ _ _ st3 fun b _ o e => by rw [← hs4]; exact pushCells_keeps _ _ _ _ (Heap.get?_push_of_some _ e)
  have stat : ∀ {σ' : St} {H' : Hp} {s' : Shared}, Inv (X.blk s3 H3 scope ce fp) [] σ' H' s' → (∀ b ∈ fp, H' b = none) → ∀ b ∈ fp, FpOk (X.blk s3 H3 scope ce fp) [] H' b := fun {σ' H' s'} I' hn b hb =>
    ⟨hn b hb, (I'.ok.exf b hb).1, I'.ok.exfs b hb, .inl hb, fun x c e => (I'.ok.exf b hb).2 x c e, fun p hp => absurd (show p ∈ ([] : List (Addr × Obj)) ++ [] from hp) (by simp)⟩
  have loop : codeAny (model X.prog X.w) X.A (.compLoop (.ListComp elt [⟨tg, iter, ifs, 0⟩] scope pos) 0 (.ref it) (.ref D) ce) (compPost (model X.prog X.w) X.A X.xe use Qf (.ref D) s3.heap.objs.size) s4 := by
    refine compLoop_any (fun n s' => ∃ i H', Inv (X.blk s3 H3 scope ce fp) [] (wipe σ (own.map (·.2))) H' s' ∧ tn i s'.heap ∧ (∀ b ∈ fp, H' b = none) ∧ W i n H') ?_ m0 ⟨0, H3, I4, st4, nfp, w0⟩
    rintro n s5 ⟨i, H5, I5, st5, n5, w5⟩
    rcases turn i n H5 w5 with ⟨stop, qq⟩ | ⟨go, Nx, hNx, step⟩
    · have td := T.done (X.blk s3 H3 scope ce fp) rfl rfl rfl hc i [] s5 _ H5 (fun _ _ => False) I5 (stat I5 n5) st5 stop
      refine thnF td fun r s6 ⟨hr, I6⟩ => ?_
      subst hr
      -- back in the def's context
      have I7 : Inv X pins σ H5 s6 := I3.call' (ch := fp) I6.os I6.base I6.hok I6.bare fun b hb => ⟨(f3 b hb).1.2.2.2.1, (f3 b hb).1.2.1, (f3 b hb).1.2.2.2.2.1, (f3 b hb).1.2.2.2.2.2⟩
      have nC : H5 s3.heap.objs.size = none := by
        have z : H5 ce.locals = none := I6.free
        rw [cL] at z
        exact z
      obtain ⟨m, hn, _⟩ := I6.loc
      have hn : s6.heap.Ns ce.locals m := hn
      rw [cL] at hn
      exact hRR D s3.heap.objs.size s6 m H5 I7 qq hn (I3.fpOk (Nat.le_refl _) nC)
    · have ti := T.item (X.blk s3 H3 scope ce fp) rfl rfl rfl hc i [] s5 _ H5 (fun _ _ => False) I5 (stat I5 n5) st5 go
      refine thnF ti fun r s6 ⟨u, hr, h6⟩ => ?_
      subst hr
      refine thnF h6 fun _ s7 ⟨x, H7, I7, r7, y7, st7, n7⟩ => ?_
      have I7' := I7.pinned (stat I7 n7) (T.obj _ _ st7)
      refine thnF (pg _ s7 _ H7 x u _ I7' r7 (step x H7 y7)) fun _ s8 ⟨σ8, H8, I8, hw8, q8⟩ => ?_
      refine thnF (pt _ s8 σ8 H8 _ I8 q8) fun b s9 ⟨H9, I9, q9⟩ => ?_
      -- the turn's end
      have fin : ∀ {s' : Shared} {H' : Hp}, Inv (X.blk s3 H3 scope ce fp) ([] ++ pinsAt fp s7.heap) σ8 H' s' → Nx H' → ∃ m, m < n ∧ ∃ i H', Inv (X.blk s3 H3 scope ce fp) [] (wipe σ (own.map (·.2))) H' s' ∧ tn i s'.heap ∧ (∀ b ∈ fp, H' b = none) ∧ W i m H' := fun {s' H'} I' nx => by
        obtain ⟨m', hm, w'⟩ := hNx H' nx
        have pin' : ∀ b ∈ fp, ∀ o, s7.heap.get? b = some o → s'.heap.get? b = some o ∧ H' b = none := fun b hb o e =>
          let z := I'.pin (b, o) (List.mem_append_right _ (List.mem_append_right _ (mem_pinsAt hb e)))
          ⟨z.1, z.2.1⟩
        have hl : (wipe σ (own.map (·.2))).length = σ8.length := by rw [← hw8, wipe_length]
        refine ⟨m', hm, i + 1, H', (I'.unpinned (pins := [])).weak hl (fun j v e => ?_), T.keep _ _ _ st7 fun b hb o e => (pin' b hb o e).1, fun b hb => ?_, w'⟩
        · rw [← hw8] at e
          exact (wipe_some e).1
        · obtain ⟨o, e, _⟩ := T.obj _ _ st7 b hb
          exact (pin' b hb o e).2
      cases b with
      | false =>
        simp only [Bool.false_eq_true, if_false] at q9 ⊢
        exact fin I9 q9
      | true =>
        simp only [if_true] at q9 ⊢
        refine thnF (pe _ s9 σ8 H9 _ I9 q9) fun z s10 ⟨yv, H10, I10, r10, acc, hD10, hz10, nx⟩ => ?_
        exact app_ok (X := X.blk s3 H3 scope ce fp) I10 hD10 hz10 r10 fun s11 I11 => fin I11 nx
  exact codeAny_compStart_list loop (T.self X.A 0 _ _ _ st4 loop)
/-- as a value -/
theorem pe_lc {elt tg iter : Expr} {ifs : List Expr} {scope : Scope} {own : List (Str × Nat)} {pos : Pos} {wi : TI} {g : TG} {tt : TT} {te : TE} (hc : X.calm = true) (hN : X.N.Nodup) (hi : PI X tg iter wi) (ok : BlkOk X.N X.env.scope scope own)
    (hg : ∀ (s : Shared) (H : Hp) (C : Addr) (cl : List (Str × Addr)) (fp : List Addr), PG (X.blk s H scope (compEnvC scope cl C X.env) fp) tg g) (ht : ∀ (s : Shared) (H : Hp) (C : Addr) (cl : List (Str × Addr)) (fp : List Addr), PTs (X.blk s H scope (compEnvC scope cl C X.env) fp) ifs tt)
    (he : ∀ (s : Shared) (H : Hp) (C : Addr) (cl : List (Str × Addr)) (fp : List Addr), PE (X.blk s H scope (compEnvC scope cl C X.env) fp) elt te) (hs : ∀ x, foldedSetIterable iter X.env x = pure x := by intro _; rfl) :
    PE X (.ListComp elt [⟨tg, iter, ifs, 0⟩] scope pos) (tLc wi g tt te (own.map (·.2))) := by
  intro pins s σ H Q I h
  rw [eval_ListComp]
  refine lc_core hc hN I hi ok hg ht he hs h fun D C s' m H' I' q hn f => ⟨m, hn, fun h'' sb => ?_⟩
  obtain ⟨f0, f1, f2, f3, f4, f5⟩ := f
  exact ⟨.ref D, H', I'.turned (t' := s'.toks) (fun b o hb e => (sb.2 b hb).trans e) f0 f1 f3 f4 f5, rfl, q⟩
end

/-! ### the forms one uses -/
/-- over a list that the block leaves as it is -/
theorem lc_list {K : PySem.W.Frag} {a : Addr} {xs : List V} {g : TG} {tt : TT} {te : TE} {vs : List Nat} {σ : St} {H1 : Hp} {D : Addr} {Qd : Hp → Prop} (Pv : Nat → Hp → Prop) (h0 : Pv 0 (upd H1 D (.lst []))) (hl : ∀ i H, i ≤ xs.length → Pv i H → SqL K H a xs)
    (hs : ∀ i x H, xs[i]? = some x → Pv i H → g x (wipe σ vs) H fun σ2 H2 => wipe σ2 vs = wipe σ vs ∧ tt σ2 H2 fun b H3 =>
      if b = true then te σ2 H3 fun y H4 => ∃ acc, H4 D = some (.lst acc) ∧ acc.length < sizeLine ∧ Pv (i + 1) (upd H4 D (.lst (acc ++ [y]))) else Pv (i + 1) H3) (hd : ∀ H, Pv xs.length H → Qd H) :
    ∃ W : Nat → Nat → Hp → Prop, (∃ m, W 0 m (upd H1 D (.lst []))) ∧ ∀ i m H, W i m H →
      ((Itl K a).stop i H ∧ Qd H) ∨ ((Itl K a).go i H ∧ ∃ Nx : Hp → Prop, (∀ H', Nx H' → ∃ m', m' < m ∧ W (i + 1) m' H') ∧ ∀ x H', (Itl K a).yld i H x H' → g x (wipe σ vs) H' fun σ2 H2 => wipe σ2 vs = wipe σ vs ∧ tt σ2 H2 fun b H3 =>
        if b = true then te σ2 H3 fun y H4 => ∃ acc, H4 D = some (.lst acc) ∧ acc.length < sizeLine ∧ Nx (upd H4 D (.lst (acc ++ [y]))) else Nx H3) := by
  refine ⟨fun i m H => m = xs.length - i ∧ i ≤ xs.length ∧ Pv i H, ⟨xs.length, by simp, Nat.zero_le _, h0⟩, ?_⟩
  rintro i m H ⟨rfl, hi, p⟩
  have q := hl i H hi p
  by_cases hlt : i < xs.length
  · refine .inr ⟨⟨xs, xs[i], q, by simp [hlt]⟩, Pv (i + 1), fun H' p' => ⟨xs.length - (i + 1), by omega, rfl, hlt, p'⟩, fun x H' y => ?_⟩
    obtain ⟨e, y⟩ := y
    subst e
    exact hs i x _ (y xs q) p
  · have e : i = xs.length := by omega
    subst e
    exact .inl ⟨⟨xs, q, Nat.le_refl _⟩, hd H p⟩
def blkC (N : List Str) (sc scope : Scope) (own : List (Str × Nat)) : Bool :=
  (match scope.kind with | .function => true | _ => false) && (scope.names.all fun y => decide (scope.names.lookup y.1 = some y.2)) && (own.all fun p => decide (N[p.2]? = some p.1)) &&
    (scope.names.all fun y => match y.2 with
      | .free => (match sc.names.lookup y.1 with | some .cell => true | some .free => true | _ => false)
      | .local => decide (y.1 ∈ own.map (·.1)) || decide (y.1 ∉ N)
      | .cell => decide (y.1 ∈ own.map (·.1)) || decide (y.1 ∉ N)
      | _ => true)
theorem blkOk_by {N : List Str} {sc scope : Scope} {own : List (Str × Nat)} (h : blkC N sc scope own = true) : BlkOk N sc scope own := by
  unfold blkC at h
  simp only [Bool.and_eq_true, List.all_eq_true, decide_eq_true_eq] at h
  obtain ⟨⟨⟨h1, h2⟩, h3⟩, h4⟩ := h
  refine ⟨?_, h2, h3, fun y hy e => ?_, fun y hy e => ?_⟩
  · split at h1
    · assumption
    · cases h1
  · have q := h4 y hy
    simp only [e] at q
    split at q <;> first | exact .inl (by assumption) | exact .inr (by assumption) | cases q
  · have q := h4 y hy
    rcases e with e | e <;> (simp only [e, Bool.or_eq_true, decide_eq_true_eq] at q; exact q)
end L2

namespace L2
open PySem PySem.Spec PyProof.Rows


section
variable {prog : Program} {w : World} {A : Around} {R : Result → Shared → Prop} {s : Shared} {elt t0 i0 t1 i1 : Expr} {ifs0 ifs1 : List Expr} {scope : Scope} {pos : Pos} {it acc : Value} {env : Env}
end

section
variable {X : Cx}
/-- [elt for tg in iter if .. for tg1 in iter1 if ..]: behind the first clause's store and tests the second source's own loop, from which Nx is reached. vs: the block's names; vs1: those of the second target -/
def tLc2 (wi : TI) (g : TG) (tt : TT) (wi1 : TI) (g1 : TG) (tt1 : TT) (te : TE) (vs vs1 : List Nat) : TE := fun σ H Q => wi σ H fun J H1 => ∀ D, H1 D = none → ∃ W : Nat → Nat → Hp → Prop, (∃ m, W 0 m (upd H1 D (.lst []))) ∧ ∀ i m H, W i m H →
  (J.stop i H ∧ Q (.ref D) H) ∨ (J.go i H ∧ ∃ Nx : Hp → Prop, (∀ H', Nx H' → ∃ m', m' < m ∧ W (i + 1) m' H') ∧ ∀ x H', J.yld i H x H' → g x (wipe σ vs) H' fun σ2 H2 => wipe σ2 vs = wipe σ vs ∧ tt σ2 H2 fun b H3 =>
    if b = true then wi1 σ2 H3 fun J1 H4 => ∃ W1 : Nat → Nat → Hp → Prop, (∃ m, W1 0 m H4) ∧ ∀ j k H, W1 j k H →
      (J1.stop j H ∧ Nx H) ∨ (J1.go j H ∧ ∃ Nx1 : Hp → Prop, (∀ H', Nx1 H' → ∃ k', k' < k ∧ W1 (j + 1) k' H') ∧ ∀ x H', J1.yld j H x H' → g1 x (wipe σ2 vs1) H' fun σ3 H5 => wipe σ3 vs1 = wipe σ2 vs1 ∧ tt1 σ3 H5 fun b H6 =>
        if b = true then te σ3 H6 fun y H7 => ∃ acc, H7 D = some (.lst acc) ∧ acc.length < sizeLine ∧ Nx1 (upd H7 D (.lst (acc ++ [y]))) else Nx1 H6)
    else Nx H3)
end
end L2

namespace L2
open PySem PySem.Spec PyProof.Rows

/-! ### lists of pairs as tables -/
section
variable {κ : Type} [DecidableEq κ]
def valV (kvs : List (κ × V)) (k : κ) : Option V := (kvs.find? fun kv => decide (kv.1 = k)).map (·.2)
/-- in its place, or at the end -/
def putK (kvs : List (κ × V)) (k : κ) (v : V) : List (κ × V) :=
  if (kvs.any fun kv => decide (kv.1 = k)) = true then kvs.map (fun kv => if kv.1 = k then (kv.1, v) else kv) else kvs ++ [(k, v)]
def dropK (kvs : List (κ × V)) (k : κ) : List (κ × V) := kvs.filter fun kv => decide (kv.1 ≠ k)



end


/-! ### a tracked dict, its keys ints and texts or tuples of these -/

/-- raw entries of a dict with tuple keys -/
abbrev KT (H : Hp) : List (List Key × V) → List (List Key × Addr × Value) → Prop := Paired fun p q => p.1 = q.1 ∧ H q.2.1 = some (.tup (p.1.map kV)) ∧ RelV p.2 q.2.2

section
variable {P : Program} {w : World} {H : Hp} {h : Heap} {a : Addr}
end

/-- what the dict at a holds at the key y -/
def DGet (H : Hp) (a : Addr) (y : V) (r : Option V) : Prop :=
  (∃ kvs k, Rd H a (.dK kvs) ∧ y = kV k ∧ r = valV kvs k) ∨ ∃ kvs k b, Rd H a (.dT kvs) ∧ y = .ref b ∧ H b = some (.tup (k.map kV)) ∧ r = valV kvs k
/-- the heap behind a[y] = v -/
def DPut (H : Hp) (a : Addr) (y v : V) (H' : Hp) : Prop :=
  (∃ kvs k, H a = some (.dK kvs) ∧ y = kV k ∧ kvs.length < sizeLine ∧ H' = upd H a (.dK (putK kvs k v))) ∨
  ∃ kvs k b, H a = some (.dT kvs) ∧ y = .ref b ∧ H b = some (.tup (k.map kV)) ∧ kvs.length < sizeLine ∧ H' = upd H a (.dT (putK kvs k v))


section
variable {X : Cx} {pins : List (Addr × Obj)} {σ : St} {H : Hp} {s : Shared} {a : Addr} {y v : V} {u r : Value} {o : Option V} {A : Around} {E : Value → Shared → Prop}


end

section
variable {X : Cx} {pins : List (Addr × Obj)} {σ : St} {H : Hp} {s : Shared} {a : Addr} {kvs : List (Key × V)} {k : Key} {u : Value} {A : Around} {E : Value → Shared → Prop}
end


/-! ### readings and rules -/
/-- the element of a subscription, not a slice -/
def NoSl (i : Expr) : Prop := ∀ ov iv, subscripted i false ov iv = operate [ov, iv] (getItem ov iv)


/-- d[y] -/
def tDGet (td ty : TE) : TE := fun σ H Q => td σ H fun x H1 => ty σ H1 fun y H2 => ∃ a v, x = .ref a ∧ DGet H2 a y (some v) ∧ Q v H2
/-- y in d, y not in d -/
def tDIn (ty td : TE) : TE := fun σ H Q => ty σ H fun y H1 => td σ H1 fun x H2 => ∃ a o, x = .ref a ∧ DGet H2 a y o ∧ Q (.bl o.isSome) H2
def tDNotIn (ty td : TE) : TE := fun σ H Q => ty σ H fun y H1 => td σ H1 fun x H2 => ∃ a o, x = .ref a ∧ DGet H2 a y o ∧ Q (.bl (!o.isSome)) H2
/-- d[y] = v -/
def sDPut (td ty tv : TE) : TS := fun D σ H => tv σ H fun v H1 => td σ H1 fun x H2 => ty σ H2 fun y H3 => ∃ a H4, x = .ref a ∧ DPut H3 a y v H4 ∧ D.nx σ H4
/-- d[y] op= v -/
def sDAug (td ty tv : TE) (rd : V → V → Hp → VK → Prop) : TS := fun D σ H => td σ H fun x H1 => ty σ H1 fun y H2 => ∃ a v, x = .ref a ∧ DGet H2 a y (some v) ∧
  tv σ H2 fun y2 H3 => rd v y2 H3 fun z H4 => ∃ H5, DPut H4 a y z H5 ∧ D.nx σ H5
/-- del d[y] -/
def sDDel (td ty : TE) : TS := fun D σ H => td σ H fun x H1 => ty σ H1 fun y H2 => ∃ a kvs k, x = .ref a ∧ H2 a = some (.dK kvs) ∧ y = kV k ∧ (valV kvs k).isSome = true ∧ D.nx σ (upd H2 a (.dK (dropK kvs k)))

section
variable {X : Cx} {o i e value : Expr} {pos pos' tpos : Pos} {td ty tv : TE}
end


/-! ### displays -/
/-- {}, to be a dict of the kind that is wanted -/
def tDNewK : TE := fun _ H Q => ∀ p, H p = none → Q (.ref p) (upd H p (.dK []))
def tDNewT : TE := fun _ H Q => ∀ p, H p = none → Q (.ref p) (upd H p (.dT []))
section
variable {X : Cx} {pos : Pos}
end

/-- the pairs of a display, from the left -/
def tPairs : List (TE × TE) → St → Hp → (List (V × V) → Hp → Prop) → Prop
  | [], _, H, Q => Q [] H
  | (tk, tv) :: r, σ, H, Q => tk σ H fun x H1 => tv σ H1 fun y H2 => tPairs r σ H2 fun ps H3 => Q ((x, y) :: ps) H3
abbrev VV : List (V × V) → List (Value × Value) → Prop := Paired fun p q => RelV p.1 q.1 ∧ RelV p.2 q.2
def PPs (X : Cx) (pos : Pos) (keys : List (Option Expr)) (values : List Expr) (trs : List (TE × TE)) : Prop :=
  ∀ (pins : List (Addr × Obj)) (s : Shared) (σ : St) (H : Hp) (Q : List (V × V) → Hp → Prop), Inv X pins σ H s → tPairs trs σ H Q →
    wpAny (model X.prog X.w) X.A (evalPairs (pairTrees keys values X.env pos)) (fun vs s' => ∃ ps H', Inv X pins σ H' s' ∧ VV ps vs ∧ Q ps H') X.xe s

def mergeK (kvs more : List (Key × V)) : List (Key × V) := more.foldl (fun acc kv => putK acc kv.1 kv.2) kvs
/-- {k: v, ..} with keys ints and texts; the new dict stands empty while the pairs are made -/
def tDisp (trs : List (TE × TE)) : TE := fun σ H Q => ∀ p, H p = none → tPairs trs σ (upd H p (.dK [])) fun ps H2 => H2 p = some (.dK []) ∧ ∃ kvs : List (Key × V), ps = kvs.map (fun kv => (kV kv.1, kv.2)) ∧ kvs.length ≤ 15 ∧ Q (.ref p) (upd H2 p (.dK (mergeK [] kvs)))


/-! ### methods -/
/-- a method call o.m(e) of a built-in, with one argument: what must be seen of the text -/
structure M1 (X : Cx) (o : Expr) (m : Str) (apos : Pos) (e : Expr) (cpos : Pos) : Prop where
  base : attributeBase o m X.env (eval o X.env) = eval o X.env
  few : ((backTo cpos (starEach [e] X.env)).all (fun x => !x.1) && (backToKw cpos (keywordEach [] X.env)).all (fun x => x.1.isSome)
    && decide (([e] : List Expr).length + ([] : List Keyword).length + (if ([] : List Keyword).isEmpty then 0 else 1) < 30)) = true
  line : (apos.endLine == cpos.line) = true
  trees : backTo cpos (starEach [e] X.env) = [(false, eval e X.env)]
structure M2 (X : Cx) (o : Expr) (m : Str) (apos : Pos) (e f : Expr) (cpos : Pos) : Prop where
  base : attributeBase o m X.env (eval o X.env) = eval o X.env
  few : ((backTo cpos (starEach [e, f] X.env)).all (fun x => !x.1) && (backToKw cpos (keywordEach [] X.env)).all (fun x => x.1.isSome)
    && decide (([e, f] : List Expr).length + ([] : List Keyword).length + (if ([] : List Keyword).isEmpty then 0 else 1) < 30)) = true
  line : (apos.endLine == cpos.line) = true
  trees : backTo cpos (starEach [e, f] X.env) = [(false, eval e X.env), (false, eval f X.env)]

/-- a is a dict, whatever its keys -/
def IsD (H : Hp) (a : Addr) : Prop := (∃ kvs, Rd H a (.dK kvs)) ∨ ∃ kvs, Rd H a (.dT kvs)

section
variable {X : Cx} {pins : List (Addr × Obj)} {σ : St} {H : Hp} {s : Shared} {a : Addr} {y d : V} {u r : Value} {o : Option V} {A : Around} {E : Value → Shared → Prop}
end

def tDGet1 (td ty : TE) : TE := fun σ H Q => td σ H fun x H1 => ∃ a, x = .ref a ∧ IsD H1 a ∧ ty σ H1 fun y H2 => ∃ o, DGet H2 a y o ∧ Q (o.getD .non) H2
def tDGet2 (td ty tx : TE) : TE := fun σ H Q => td σ H fun x H1 => ∃ a, x = .ref a ∧ IsD H1 a ∧ ty σ H1 fun y H2 => tx σ H2 fun z H3 => ∃ o, DGet H3 a y o ∧ Q (o.getD z) H3
/-- d.pop(k): there; d.pop(k, x): there or not -/
def tDPop1 (td ty : TE) : TE := fun σ H Q => td σ H fun x H1 => ∃ a, x = .ref a ∧ IsD H1 a ∧ ty σ H1 fun y H2 => ∃ kvs k v, H2 a = some (.dK kvs) ∧ y = kV k ∧ valV kvs k = some v ∧ Q v (upd H2 a (.dK (dropK kvs k)))
def tDPop2 (td ty tx : TE) : TE := fun σ H Q => td σ H fun x H1 => ∃ a, x = .ref a ∧ IsD H1 a ∧ ty σ H1 fun y H2 => tx σ H2 fun z H3 => ∃ kvs k, H3 a = some (.dK kvs) ∧ y = kV k ∧
  (∀ v, valV kvs k = some v → Q v (upd H3 a (.dK (dropK kvs k)))) ∧ (valV kvs k = none → Q z H3)
section
variable {X : Cx} {o e f : Expr} {apos cpos : Pos} {td ty tx : TE}
end

/-! ### dict(d): a copy -/
section
variable {X : Cx} {pins : List (Addr × Obj)} {σ : St} {H : Hp} {s : Shared} {a : Addr} {kvs : List (Key × V)} {A : Around} {E : Value → Shared → Prop}
end


section
variable {X : Cx} {pins : List (Addr × Obj)} {σ : St} {H : Hp} {s : Shared} {a : Addr} {y : V} {u : Value} {A : Around} {E : Value → Shared → Prop}
end
end L2

namespace L2
open PySem PySem.Spec PyProof.Rows


section
variable {prog : Program} {w : World} {A : Around} {E : Value → Shared → Prop}


end

section
variable {X : Cx}
end
end L2

namespace L2
open PySem PySem.Spec PyProof.Rows


section
variable {X : Cx} {pins : List (Addr × Obj)} {σ : St} {H : Hp} {s : Shared} {h' : Heap}

/-! ### locking a thing while a statement runs -/
end
/-- the statement runs while the thing at d is locked (read, not written); d and what stands there are the reading's choice -/
def tLock (t : TS) : TS := fun D σ H => ∃ d u, H d = some u ∧ Mut (some u) ∧ ∀ od, t ⟨fun σ' H' => H' d = some (.frz od u) ∧ D.nx σ' (upd H' d u), fun v H' => H' d = some (.frz od u) ∧ D.rt v (upd H' d u), fun σ' H' => H' d = some (.frz od u) ∧ D.bk σ' (upd H' d u), fun σ' H' => H' d = some (.frz od u) ∧ D.ct σ' (upd H' d u)⟩ σ (upd H d (.frz od u))
def tLockE (t : TE) : TE := fun σ H Q => ∃ d u, H d = some u ∧ Mut (some u) ∧ ∀ od, t σ (upd H d (.frz od u)) fun v H' => H' d = some (.frz od u) ∧ Q v (upd H' d u)
section
variable {X : Cx}

/-! ### one iterator just laid -/
end

/-! ### range with a step -/
/-- lo, lo + c, .. (n of them) -/
def Itc (lo c : Int) (n : Nat) : It := ⟨fun i _ => i < n, fun i H x H' => H' = H ∧ x = .int (lo + (i : Nat) * c), fun i _ => n ≤ i⟩
/-- range(i, j, c): small bounds, n items -/
def RgC (i j c : Int) (n : Nat) : Prop := c ≠ 0 ∧ c.natAbs < 1073741824 ∧ Builtin.Range.small i j c = true ∧ Builtin.Range.rangeSize i j c = n
def iRng3 (ta : TA) : TI := fun σ H R => ta σ H fun vs H1 => ∃ (i j c : Int) (n : Nat), vs = [.int i, .int j, .int c] ∧ RgC i j c n ∧ R (Itc i c n) H1
section
variable {X : Cx} {tg : Expr}
end

/-! ### reversed(list) -/
/-- the list at a (n items at the start, which the loop leaves there), from its end -/
def Itv (K : PySem.W.Frag) (a : Addr) (n : Nat) : It :=
  ⟨fun i H => i < n ∧ ∃ (xs : List V) (x : V), SqL K H a xs ∧ xs[n - 1 - i]? = some x, fun i H x H' => H' = H ∧ ∀ xs, SqL K H a xs → xs[n - 1 - i]? = some x, fun i _ => n ≤ i⟩
def iRev (K : PySem.W.Frag) (ta : TA) : TI := fun σ H R => ta σ H fun vs H1 => ∃ (a : Addr) (xs : List V), vs = [.ref a] ∧ SqL K H1 a xs ∧ R (Itv K a xs.length) H1
section
variable {X : Cx} {tg : Expr}
end

/-! ### a str -/
def Its (x : Str) : It := ⟨fun i _ => i < x.cps.size, fun i H v H' => H' = H ∧ ∃ c, x.cps[i]? = some c ∧ v = .str ⟨#[c]⟩, fun i _ => x.cps.size ≤ i⟩
def iStr (te : TE) : TI := fun σ H R => te σ H fun v H1 => ∃ x, v = .str x ∧ R (Its x) H1

/-! ### a dict's keys: any dict's entries -/
section
variable {prog : Program} {w : World} {A : Around} {E : Value → Shared → Prop} {s : Shared}
end

/-! ### a locked dict -/
theorem paired_get {α β : Type} {G : α → β → Prop} {l₁ : List α} {l₂ : List β} (h : Paired G l₁ l₂) : ∀ {i : Nat} {a : α}, l₁[i]? = some a → ∃ b, l₂[i]? = some b ∧ G a b := by
  induction h with
  | nil => intro i a e; simp at e
  | @cons a b l₁ l₂ r t ih =>
    intro i a' e
    cases i with
    | zero =>
      simp only [List.getElem?_cons_zero, Option.some.injEq] at e
      subst e
      exact ⟨b, rfl, r⟩
    | succ j =>
      simp only [List.getElem?_cons_succ] at e ⊢
      exact ih e
section
variable {X : Cx} {pins : List (Addr × Obj)} {σ : St} {H : Hp} {s : Shared} {d : Addr} {o : Obj}
end

/-- the keys of the locked dict at d, in their order -/
def Itk (d : Addr) (o : Obj) (kvs : List (Key × V)) : It :=
  ⟨fun i H => H d = some (.frz o (.dK kvs)) ∧ i < kvs.length, fun i H x H' => H' = H ∧ ∃ k v, kvs[i]? = some (k, v) ∧ x = kV k, fun i H => H d = some (.frz o (.dK kvs)) ∧ kvs.length ≤ i⟩
/-- .. of tuple keys: the key's own tuple -/
def Itkt (d : Addr) (o : Obj) (kvs : List (List Key × V)) : It :=
  ⟨fun i H => H d = some (.frz o (.dT kvs)) ∧ i < kvs.length, fun i H x H' => H' = H ∧ ∃ (k : List Key) (v : V) (q : Addr), kvs[i]? = some (k, v) ∧ x = .ref q ∧ H q = some (.tup (k.map kV)), fun i H => H d = some (.frz o (.dT kvs)) ∧ kvs.length ≤ i⟩
/-- the values -/
def Itd (d : Addr) (o : Obj) (kvs : List (Key × V)) : It :=
  ⟨fun i H => H d = some (.frz o (.dK kvs)) ∧ i < kvs.length, fun i H x H' => H' = H ∧ ∃ k, kvs[i]? = some (k, x), fun i H => H d = some (.frz o (.dK kvs)) ∧ kvs.length ≤ i⟩
/-- the pairs, each a new tuple -/
def Iti (d : Addr) (o : Obj) (kvs : List (Key × V)) : It :=
  ⟨fun i H => H d = some (.frz o (.dK kvs)) ∧ i < kvs.length, fun i H x H' => ∃ T k v, kvs[i]? = some (k, v) ∧ x = .ref T ∧ H T = none ∧ H' = upd H T (.tup [kV k, v]), fun i H => H d = some (.frz o (.dK kvs)) ∧ kvs.length ≤ i⟩
section
variable {P : Program} {w : World} {K : PySem.W.Frag} {tg : Expr} {d : Addr} {o : Obj} {es : Array DictEntry} {ep : Nat}
end

/-! ### for k in d, d.keys(), d.values(), d.items() -/
/-- the dict is locked (tLock, or by the caller) -/
def iKeys (td : TE) : TI := fun σ H R => td σ H fun x H1 => ∃ d o, x = .ref d ∧ ((∃ kvs, H1 d = some (.frz o (.dK kvs)) ∧ R (Itk d o kvs) H1) ∨ ∃ kvs, H1 d = some (.frz o (.dT kvs)) ∧ R (Itkt d o kvs) H1)
def iVals (td : TE) : TI := fun σ H R => td σ H fun x H1 => ∃ d o kvs, x = .ref d ∧ H1 d = some (.frz o (.dK kvs)) ∧ R (Itd d o kvs) H1
def iItems (td : TE) : TI := fun σ H R => td σ H fun x H1 => ∃ d o kvs, x = .ref d ∧ H1 d = some (.frz o (.dK kvs)) ∧ R (Iti d o kvs) H1
def iKeysM (td : TE) : TI := fun σ H R => td σ H fun x H1 => ∃ d o kvs, x = .ref d ∧ H1 d = some (.frz o (.dK kvs)) ∧ R (Itk d o kvs) H1
section
variable {X : Cx} {tg e : Expr} {td : TE} {apos cpos : Pos}
end

/-! ### enumerate(list) -/
/-- the list at a as it stands at each turn, each item in a new pair -/
def Ite (K : PySem.W.Frag) (a : Addr) : It :=
  ⟨fun i H => ∃ (xs : List V) (x : V), SqL K H a xs ∧ xs[i]? = some x, fun i H v H' => ∃ T x, v = .ref T ∧ H T = none ∧ H' = upd H T (.tup [.int (i : Nat), x]) ∧ ∀ xs, SqL K H a xs → xs[i]? = some x, fun i H => ∃ xs : List V, SqL K H a xs ∧ xs.length ≤ i⟩
def iEnum (K : PySem.W.Frag) (ta : TA) : TI := fun σ H R => ta σ H fun vs H1 => ∃ a xs, vs = [.ref a] ∧ SqL K H1 a xs ∧ R (Ite K a) H1
/-! ### zip(list, list) -/
/-- the lists at a and b as they stand at each turn, the items in new pairs -/
def Itz (K : PySem.W.Frag) (a b : Addr) : It :=
  ⟨fun i H => ∃ (xs ys : List V) (x y : V), SqL K H a xs ∧ SqL K H b ys ∧ xs[i]? = some x ∧ ys[i]? = some y,
    fun i H v H' => ∃ T x y, v = .ref T ∧ H T = none ∧ H' = upd H T (.tup [x, y]) ∧ (∀ xs, SqL K H a xs → xs[i]? = some x) ∧ ∀ ys, SqL K H b ys → ys[i]? = some y,
    fun i H => ∃ xs ys : List V, SqL K H a xs ∧ SqL K H b ys ∧ (xs.length ≤ i ∨ ys.length ≤ i)⟩
def iZip (K : PySem.W.Frag) (ta : TA) : TI := fun σ H R => ta σ H fun vs H1 => ∃ a b xs ys, vs = [.ref a, .ref b] ∧ SqL K H1 a xs ∧ SqL K H1 b ys ∧ R (Itz K a b) H1
end L2

section 
namespace Bits
open PySem PyProof.Rows








end Bits
end 

section 
namespace TL
open PySem PySem.Builtin PySem.Builtin.Str PySem.StrLaws

abbrev tl (x : Str) : List Nat := x.cps.toList

/-! ### the list functions -/
/-- S stands at the head of l -/
def pre (S l : List Nat) : Bool := l.take S.length == S
/-- l cut at each S from the left; k signs are still to be passed over -/
def spl (S : List Nat) : Nat → List Nat → List Nat → List (List Nat)
  | _, acc, [] => [acc]
  | 0, acc, c :: r => if pre S (c :: r) = true then acc :: spl S (S.length - 1) [] r else spl S 0 (acc ++ [c]) r
  | k + 1, acc, _ :: r => spl S k acc r
/-- what stands before the first S, and behind it -/
def par (S : List Nat) : List Nat → List Nat → Option (List Nat × List Nat)
  | _, [] => none
  | acc, c :: r => if pre S (c :: r) = true then some (acc, (c :: r).drop S.length) else par S (acc ++ [c]) r




/-! ### the model's split and partition are these -/




/-! ### computing spl and par -/

/-- joined lists -/
def joinL (S : List Nat) : List (List Nat) → List Nat
  | [] => []
  | [p] => p
  | p :: q :: r => p ++ (S ++ joinL S (q :: r))
theorem join_eq (y : Str) (parts : List Str) : Txt.join y parts = Str.join y parts := glued_eq_join y parts

/-! ### digits -/
/-- the signs of a number -/
def numL (n : Nat) : List Nat := (Nat.toDigits 10 n).map Char.toNat

/-! ### words: x.split() -/
def wstep (st : List (List Nat) × List Nat) (c : Nat) : List (List Nat) × List Nat :=
  if Unicode.isSpace c = true then (if st.2 = [] then st else (st.1 ++ [st.2], [])) else (st.1, st.2 ++ [c])
def wfin (st : List (List Nat) × List Nat) : List (List Nat) := if st.2 = [] then st.1 else st.1 ++ [st.2]
end TL
end 

namespace L2
open PySem PySem.Spec PyProof.Rows


theorem strs_of_vals : ∀ {ys : List Str} {us : List Value}, Vals (ys.map V.str) us → StrsAre us ys
  | [], _, .nil => .nil
  | y :: ys, _, .cons r t => by
    obtain ⟨k, rfl⟩ := r
    exact .cons y k (strs_of_vals t)

/-- a new list of texts, tracked -/
def rNewStrs (ys : List Str) : Hp → VK → Prop := fun H Q => ∀ p, H p = none → Q (.ref p) (upd H p (.lst (ys.map V.str)))

section
variable {X : Cx} {pins : List (Addr × Obj)} {σ : St} {H : Hp} {s : Shared} {Q : VK}
end

section
variable {X : Cx}




/-- sep.join(a list | a tuple of texts) -/
theorem mt_join : MtR X "str.join" (fun x xs H Q => ∃ a p, ∃ ys : List Str, x = .str a ∧ xs = [.ref p] ∧ (SqL X.K H p (ys.map V.str) ∨ SqT X.K H p (ys.map V.str)) ∧
    (ys.map (·.length)).sum + ys.length * a.length ≤ 16777216 ∧ Q (.str (Txt.join a ys)) H) := by
  intro pins s σ H x xs v us Q I rx rs h
  obtain ⟨a, p, ys, rfl, rfl, hp, hz, h⟩ := h
  obtain ⟨t, rfl⟩ := rx
  cases rs with
  | cons r1 rs =>
    cases rs
    cases r1
    rcases hp with hp | hp
    · obtain ⟨its, r, ⟨o, n, ho, hc, _, hd⟩, _⟩ := I.list hp
      exact PyProof.Rows.join_list (items := its.toArray) ⟨o, ho, hc, n, hd⟩ (by rw [List.toList_toArray]; exact strs_of_vals r) hz fun t' k => ⟨.str _, H, I.tok k, ⟨t', rfl⟩, h⟩
    · obtain ⟨its, r, ht, _⟩ := I.tuple hp
      exact PyProof.Rows.join_tuple (items := its.toArray) ht (by rw [List.toList_toArray]; exact strs_of_vals r) hz fun t' k => ⟨.str _, H, I.tok k, ⟨t', rfl⟩, h⟩

/-! ### of a text alone -/

/-! ### of a text and a text -/

end

section
variable {X : Cx} {o e : Expr} {to te : TE}
def tM0 (r : V → List V → Hp → VK → Prop) (to : TE) : TE := fun σ H Q => to σ H fun x H1 => (∃ a, x = .str a) ∧ r x [] H1 Q
def tM1 (r : V → List V → Hp → VK → Prop) (to te : TE) : TE := fun σ H Q => to σ H fun x H1 => (∃ a, x = .str a) ∧ te σ H1 fun y H2 => r x [y] H2 Q
theorem pe_m1 {id : String} {name : Str} {apos pos : Pos} {r : V → List V → Hp → VK → Prop} (slot : Slot "str" name id) (ty : typeOf (.builtin id) = pure (.type "method_descriptor")) (rule : MtR X id r) (ho : PE X o to) (he : PE X e te)
    (hs : starEach [e] X.env = [(false, eval e X.env)] := by rfl) (hbase : attributeBase o name X.env (eval o X.env) = eval o X.env := by rfl) (hline : (apos.endLine == pos.line) = true := by rfl) :
    PE X (.Call (.Attribute o name apos) [e] [] pos) (tM1 r to te) := by
  intro pins s σ H Q I h
  refine PySem.Call_method1 hbase hs hline (thn (ho pins s σ H _ I h) fun v s1 ⟨x, H1, I1, r1, q1⟩ => ?_)
  obtain ⟨⟨a, rfl⟩, q1⟩ := q1
  obtain ⟨t, rfl⟩ := _root_.id r1
  refine ⟨"str", _, F.plainAttrs_str, slot, ty, typeIs_str _ _ _, (fun _ e => nomatch e), Calls.callWith_builtin rfl (Calls.evalArgs_plain (Calls.spliced_cons ?_))⟩
  exact thn (he pins s1 σ H1 _ I1 q1) fun u s2 ⟨y, H2, I2, r2, q2⟩ => Calls.spliced_nil (rule pins s2 σ H2 _ [y] _ [u] Q I2 r1 (.cons r2 .nil) q2)

theorem pe_join {apos pos : Pos} (ho : PE X o to) (he : PE X e te) (hs : starEach [e] X.env = [(false, eval e X.env)] := by rfl) (hbase : attributeBase o "join" X.env (eval o X.env) = eval o X.env := by rfl) (hline : (apos.endLine == pos.line) = true := by rfl) :
    PE X (.Call (.Attribute o "join" apos) [e] [] pos) (tM1 (fun x xs H Q => ∃ a p, ∃ ys : List Str, x = .str a ∧ xs = [.ref p] ∧ (SqL X.K H p (ys.map V.str) ∨ SqT X.K H p (ys.map V.str)) ∧
      (ys.map (·.length)).sum + ys.length * a.length ≤ 16777216 ∧ Q (.str (Txt.join a ys)) H) to te) :=
  pe_m1 F.slot_str_join F.type_str_join mt_join ho he hs hbase hline
end
end L2

namespace L2
open PySem PySem.Spec PyProof.Rows

section
variable {X : Cx}
end

/-! ### slices of a text -/

/-- a part, clipped, as the text's slice reckons it -/
def clipS (n d : Nat) : Option Int → Int
  | none => (d : Int)
  | some i => max 0 (min (if i < 0 then i + (n : Int) else i) (n : Int))

/-- z[lo:hi] -/
def cutS (z : Str) (lo hi : Option Int) : Str :=
  ⟨((z.cps.toList.drop (HT.sIx z.length 0 lo)).take (HT.sIx z.length z.length hi - HT.sIx z.length 0 lo)).toArray⟩
def rSlS : V → Option Int → Option Int → Hp → VK → Prop := fun x lo hi H Q => ∃ z, x = .str z ∧ z.length ≤ sizeLine ∧ Q (.str (cutS z lo hi)) H
end L2

namespace Att
open PySem PySem.W PySem.Calls PyProof.Rows

/-! ### the script -/



/-! ### the attachment: holds_open's last premise (the goal 'hc' behind k_head) from a wpAny of the law's body -/



/-! ### rules over ANY heap (no ledger) from facts about the written part K: the library's own take a ledger (News) for what they write -/
section
variable {prog : Program} {w : World} {A : Around} {E : Value → Shared → Prop} {s : Shared} {K : Frag}





/-! the whole heap as the ledger: makes every rule that writes through a ledger a rule over any heap -/
def noObjs (h : Heap) : Heap := { h with objs := #[] }
def ledger (h : Heap) (L d : Addr) : List (Addr × Obj) := (List.range h.objs.size).filterMap fun a => if a = L ∨ a = d then none else (h.get? a).map fun o => (a, o)

end
end Att

namespace L2
open PySem PySem.Spec PyProof.Rows


/-- nothing is tracked but the script, known to the object (or it is an object of the module) -/
def Only (H : Hp) : Prop := ∀ b, H b = none ∨ ∃ o xs, H b = some (.frz o (.lst xs))

end L2

namespace L2
open PySem PySem.Spec PyProof.Rows

abbrev KOf {K : PySem.W.Frag} {h : Heap} (_ : K.In h) : PySem.W.Frag := K

end L2

/- THE LAST THEOREM (shape; LID, My.* are yours):
   My.Adr: a structure of the addresses that your layer names (classes, functions); My.Txt K t: a structure (Prop) of the equations over K;
   My.txt_mk : {K} {implicit addresses ..} (e1 : nsIn K mainGlobals "law" = some (some (.ref f))) (e2 : K.lookup f = some ⟨oc, od, .func (fnOf "law" "law" params body scope dV kV doc pm an cdv ct), sl⟩) (e3 : codeIn K cdv "law" = true) .. : ∃ t, My.Txt K t

set_option maxRecDepth 100000 in
set_option maxHeartbeats 0 in
theorem PySem.Challenge.cw_LID_holds : PySem.Challenge.rw_LID.Holds := by
  w_on; o_law; k_head; (case hw => w_witness2)
  k_fill
  refine L2.walk_of (l := PySem.Challenge.rw_LID) (n := 63) (k := 40) (x := "script") (CX := fun w => ..) (sp := fun _ => My.sp_law) rfl (by decide) rfl ⟨rfl, by decide, by decide⟩ (fun w h Y => PySem.W.kIn_of Y) ?F ?S ?C
  case F =>
    intro w mg fa h KX G hmg
    have T : ∃ t, My.Txt (L2.KOf KX) t := by
      dsimp only [L2.KOf]                          -- K must stand as «<heap const> w.params» for k_is
      refine' My.txt_mk ?e1 ?e2 ?e3 ..
      (case e1 => PySem.W.k_is)                    -- in the order: a name -> its address -> its object -> its parts
      (case e2 => PySem.W.k_is)
      ..
    obtain ⟨t, T⟩ := T
    have e0 := hmg.symm.trans (PySem.W.mg_of KX G T.law)
    cases e0                                       -- fa is the law's own address
    exact ⟨_, fun s u => .of_eq rfl, fun base kb nb => My.law_fn T kb nb⟩     -- if «.of_eq rfl» comes too early: refine' ⟨_, ?b, fun base kb nb => My.law_fn T kb nb⟩; exact fun s u => .of_eq rfl
  case S => exact fun w H a ns hl hO hS => ..
  case C => exact ..
(the tactic k_is has no namespace: write k_is) -/

/-! SHORT WORDS over the layer: a def of the text, its body, what a loop and a test want. -/
namespace L2
open PySem PySem.Spec PyProof.Rows

/-! ### the text by places -/
/-- the j-th statement of a class's body -/
def inClass (s : Stmt) (j : Nat) : Stmt := match s with
  | .ClassDef _ _ _ body _ _ _ _ _ _ _ => body.getD j (.Pass ⟨0, 0, 0, 0⟩)
  | _ => .Pass ⟨0, 0, 0, 0⟩
def defArgs (s : Stmt) : Arguments := match s with
  | .FunctionDef _ a _ _ _ _ _ _ _ _ => a
  | _ => { posonlyargs := [], args := [], vararg := none, kwonlyargs := [], kw_defaults := [], kwarg := none, defaults := [] }
def defBody (s : Stmt) : List Stmt := match s with
  | .FunctionDef _ _ b _ _ _ _ _ _ _ => b
  | _ => []
def defScope (s : Stmt) : Scope := match s with
  | .FunctionDef _ _ _ _ _ _ sc _ _ _ => sc
  | _ => { kind := .function, names := [], isGenerator := false, isCoroutine := false }

/-! ### no exception leaves a def -/
abbrev CX0 : CXT := fun _ _ _ _ _ _ => False
abbrev E0 : XK := fun _ _ _ => False
theorem pass0 {X : Cx} : Passes CX0 X E0 := fun _ _ _ _ _ _ _ h => h.elim

/-! ### a def (or method) of the text as it stands behind the top -/
structure Fun (K : PySem.W.Frag) (x qual : Str) (st : Stmt) (f : Addr) (fd : FuncData) : Prop where
  ex : ∃ (oc : Value) (od : Option Addr) (kV doc pm : Value) (an : Option Addr) (cdv ct : Value) (osl : Array (Option Value)),
    fd = PySem.W.fnOf x qual (defArgs st) (defBody st) (defScope st) .none kV doc pm an cdv ct ∧ K.lookup f = some ⟨oc, od, .func fd, osl⟩ ∧ PySem.W.codeIn K cdv qual = true
  kp : PySem.W.keepIn K (.ref f) = true
section
variable {P : Program} {w : World} {K : PySem.W.Frag} {mg : Str → Option Value} {base : Heap}
/-- THE RULE for a def: its body as a term of rules, and the reading of that term -/
theorem Fun.ok {x qual : Str} {st : Stmt} {f : Addr} {fd : FuncData} {N ps : List Str} {k : Nat} {sp : Sp} (F : Fun K x qual st f fd) (S : FnScope N ps (defScope st)) (len : ∀ vs H Q E, sp vs H Q E → vs.length = ps.length)
    (hbody : ∀ (cdv : Value) (A : Around) (outer : List Env) (s : Shared) (H : Hp) (vs : List V) (Q : VK) (E : XK), Room k (A.deeper (envOfC qual (defScope st) s.heap.objs.size f cdv)) → sp vs H Q E →
      ∃ t, PSs (cxOf CX0 P w K mg base N qual (defScope st) f cdv A outer s H E).nox (defBody st) t ∧ t { nx := fun _ H' => Q .non H', rt := Q } (start N vs) H) : FnOk P w K mg base CX0 (k + 1) f fd ps sp := by
  obtain ⟨oc, od, kV, doc, pm, an, cdv, ct, osl, rfl, lk, hcd⟩ := F.ex
  refine fn_of lk hcd S len fun A outer s H vs Q E hr hsp => ?_
  obtain ⟨t, h, q⟩ := hbody cdv A outer s H vs Q E hr hsp
  exact ⟨t, h.nox, q⟩
/-- how its arguments bind (no defaults): h is «fun _ _ _ _ _ _ us hl => match us, hl with | [_, _], _ => rfl», one _ a parameter -/
theorem Fun.binds {x qual : Str} {st : Stmt} {f : Addr} {fd : FuncData} {ps : List Str} (F : Fun K x qual st f fd)
    (h : ∀ (kV doc pm : Value) (an : Option Addr) (cdv ct : Value) (us : List Value), us.length = ps.length → bindArgs (PySem.W.fnOf x qual (defArgs st) (defBody st) (defScope st) .none kV doc pm an cdv ct) ⟨us, []⟩ = pure (ps.zip us)) : Binds K fd ps [] := by
  obtain ⟨oc, od, kV, doc, pm, an, cdv, ct, osl, rfl, lk, hcd⟩ := F.ex
  exact .all (h kV doc pm an cdv ct)
theorem fun_mk {x qual : Str} {st : Stmt} {f : Addr} {oc : Value} {od an : Option Addr} {osl : Array (Option Value)} {kV doc pm cdv ct : Value} (l : K.lookup f = some ⟨oc, od, .func (PySem.W.fnOf x qual (defArgs st) (defBody st) (defScope st) .none kV doc pm an cdv ct), osl⟩)
    (c : PySem.W.codeIn K cdv qual = true) (k : PySem.W.keepIn K (.ref f) = true) : Fun K x qual st f (PySem.W.fnOf x qual (defArgs st) (defBody st) (defScope st) .none kV doc pm an cdv ct) := ⟨⟨oc, od, kV, doc, pm, an, cdv, ct, osl, rfl, l, c⟩, k⟩
end

/-! ### expressions in short: the name that stands in the i-th slot -/
section
variable {X : Cx}
theorem pv (i : Nat) {x : Str} {pos : Pos} (hN : X.N[i]? = some x := by rfl) (hv : Vis X.env.scope x := by first | exact Or.inl rfl | exact Or.inr (Or.inl rfl) | exact Or.inr (Or.inr rfl)) (hd : (x == ("__debug__" : Str)) = false := by decide)
    (hcd : (x == ("__classdict__" : Str)) = false := by decide) : PE X (.Name x pos) (tVar i) := pe_var hN hv hd hcd
end

/-! ### tests -/
theorem iteF {A B : Prop} (h : B) : if false = true then A else B := by
  rw [if_neg Bool.false_ne_true]
  exact h
theorem iteT {A B : Prop} (h : A) : if true = true then A else B := by
  rw [if_pos rfl]
  exact h
theorem ite2 {c A B : Prop} [Decidable c] (h1 : c → A) (h2 : ¬ c → B) : if c then A else B := by
  by_cases h : c
  · rw [if_pos h]
    exact h1 h
  · rw [if_neg h]
    exact h2 h

/-! ### heaps -/
/-- all that was tracked is as it was -/
def Same (H H' : Hp) : Prop := ∀ b o, H b = some o → H' b = some o
theorem Same.refl (H : Hp) : Same H H := fun _ _ h => h
theorem Same.trans {H H1 H2 : Hp} (a : Same H H1) (b : Same H1 H2) : Same H H2 := fun c o h => b c o (a c o h)
theorem Same.free {H H' : Hp} (e : Same H H') {l : Addr} (h : H' l = Option.none) : H l = Option.none := by
  cases q : H l with
  | none => rfl
  | some o =>
    rw [e l o q] at h
    cases h
theorem Same.seq {K : PySem.W.Frag} {H H' : Hp} {a : Addr} {xs : List V} (e : Same H H') (h : SqL K H a xs) : SqL K H' a xs := by
  rcases h with (h | ⟨o, h⟩) | h
  · exact .inl (.inl (e _ _ h))
  · exact .inl (.inr ⟨o, e _ _ h⟩)
  · exact .inr h

/-! ### a dict's pairs: keys that differ -/
section
variable {κ : Type} [DecidableEq κ]
end
/-! ### lists -/
theorem at_of {xs : List V} {z : Int} {j : Nat} {v : V} (e : z = (j : Int)) (h : xs[j]? = some v) : atI xs z = some v := by
  rw [e]
  exact atI_nat h
/-- a new instance and its __init__ leave all that was tracked as it was -/
theorem Same.made {H H1 : Hp} {x dx C : Addr} (nx : H x = Option.none) (nd : H dx = Option.none) (k : ∀ b o, (upd (upd H dx (.own x)) x (.ins C dx [])) b = some o → b ≠ x → H1 b = some o) : Same H H1 := fun b o e =>
  k b o (by rw [upd_ne (ne_of_none e nx), upd_ne (ne_of_none e nd)]; exact e) (ne_of_none e nx)
end L2
end
section
section
set_option Elab.async false
set_option linter.all false
set_option maxRecDepth 100000
set_option maxHeartbeats 2000000
namespace L2
open PySem PySem.Spec PyProof.Rows
open PySem.W (WData Codec OpenSpec Well WellAll ReadsW ReadsAllW)
/-! ### an answer as data -/
mutual
/-- x stands for the datum d, lists and tuples all the way -/
inductive Dw (K : PySem.W.Frag) (H : Hp) : V → WData → Prop
  | non : Dw K H .non .none
  | bl (b : Bool) : Dw K H (.bl b) (.bool b)
  | int (i : Int) : Dw K H (.int i) (.int i)
  | str (x : Str) : Dw K H (.str x) (.str x)
  | byt (b : Array UInt8) : Dw K H (.byt b) (.bytes b.toList)
  | lst {a : Addr} {xs : List V} {ds : List WData} : SqL K H a xs → DwAll K H xs ds → Dw K H (.ref a) (.list ds)
  | tup {a : Addr} {xs : List V} {ds : List WData} : SqT K H a xs → DwAll K H xs ds → Dw K H (.ref a) (.tuple ds)
inductive DwAll (K : PySem.W.Frag) (H : Hp) : List V → List WData → Prop
  | nil : DwAll K H [] []
  | cons {v : V} {vs : List V} {d : WData} {ds : List WData} : Dw K H v d → DwAll K H vs ds → DwAll K H (v :: vs) (d :: ds)
end
theorem dw_ints {K : PySem.W.Frag} {H : Hp} : ∀ ns : List Int, DwAll K H (ns.map V.int) (ns.map WData.int)
  | [] => .nil
  | n :: r => .cons (.int n) (dw_ints r)
theorem ints_dw {K : PySem.W.Frag} {H : Hp} : ∀ (ns : List Int) (xs : List V), DwAll K H xs (ns.map WData.int) → xs = ns.map V.int
  | [], xs, h => by
    cases h
    rfl
  | n :: r, xs, h => by
    cases h with
    | cons h1 h2 =>
      cases h1
      rw [ints_dw r _ h2] <;> rfl
section
variable {P : Program} {w : World} {K : PySem.W.Frag} {H : Hp} {h : Heap} {R : PySem.W.WRecords} {cl : Str → Option Addr}
theorem sqL_at {a : Addr} {xs : List V} (hok : HOk P w H h) (KX : K.In h) (q : SqL K H a xs) : ∃ (its : List Value) (o : Obj) (n : Nat), Vals xs its ∧ h.get? a = some o ∧ o.cls = .type "list" ∧ o.data = .seq its.toArray n := by
  rcases q with q | ⟨o, its, n, e, hc, _, hd, _, hv⟩
  · obtain ⟨_, its, n, hv, e⟩ := (show ObjOk P w H h a (.lst xs) from q.ok hok)
    exact ⟨its, _, n, hv, e, rfl, rfl⟩
  · exact ⟨its.toList, o, n, hv, KX _ _ e, hc, by simp [hd]⟩
theorem sqT_at {a : Addr} {xs : List V} (hok : HOk P w H h) (KX : K.In h) (q : SqT K H a xs) : ∃ (its : List Value) (o : Obj) (n : Nat), Vals xs its ∧ h.get? a = some o ∧ o.cls = .type "tuple" ∧ o.data = .seq its.toArray n := by
  rcases q with q | ⟨o, its, n, e, hc, hd, _, hv⟩
  · obtain ⟨_, its, hv, o, e, hc, n, hd⟩ := (show ObjOk P w H h a (.tup xs) from q.ok hok)
    exact ⟨its, o, n, hv, e, hc, hd⟩
  · exact ⟨its.toList, o, n, hv, KX _ _ e, hc, by simp [hd]⟩
mutual
theorem Dw.reads (hok : HOk P w H h) (KX : K.In h) : ∀ (d : WData) (v : V) (u : Value), Dw K H v d → RelV v u → ∃ as, ReadsW R cl h u d as
  | .none, _, _, x, r => by
    cases x
    cases r
    exact ⟨_, ReadsW.none⟩
  | .bool b, _, _, x, r => by
    cases x
    cases r
    exact ⟨_, ReadsW.bool b⟩
  | .int i, _, _, x, r => by
    cases x
    obtain ⟨t, rfl⟩ := r
    exact ⟨_, ReadsW.int i t⟩
  | .str s, _, _, x, r => by
    cases x
    obtain ⟨t, rfl⟩ := r
    exact ⟨_, ReadsW.str s t⟩
  | .bytes b, _, _, x, r => by
    cases x
    obtain ⟨t, rfl⟩ := r
    exact ⟨_, ReadsW.bytes _ t⟩
  | .list ds, _, _, x, r => by
    cases x with
    | lst hs ha =>
      cases r
      obtain ⟨its, o, n, rv, ho, hc, hd⟩ := sqL_at hok KX hs
      obtain ⟨as, hr⟩ := Dw.readsAll hok KX ds _ its ha rv
      exact ⟨_, ReadsW.list ho hc hd hr⟩
  | .tuple ds, _, _, x, r => by
    cases x with
    | tup hs ha =>
      cases r
      obtain ⟨its, o, n, rv, ho, hc, hd⟩ := sqT_at hok KX hs
      obtain ⟨as, hr⟩ := Dw.readsAll hok KX ds _ its ha rv
      exact ⟨_, ReadsW.tuple ho hc hd hr⟩
  | .float _, _, _, x, _ => by cases x
  | .dict _, _, _, x, _ => by cases x
  | .bytearray _, _, _, x, _ => by cases x
  | .set _, _, _, x, _ => by cases x
  | .frozenset _, _, _, x, _ => by cases x
  | .obj _ _, _, _, x, _ => by cases x
theorem Dw.readsAll (hok : HOk P w H h) (KX : K.In h) : ∀ (ds : List WData) (vs : List V) (us : List Value), DwAll K H vs ds → Vals vs us → ∃ as, ReadsAllW R cl h us ds as
  | [], _, _, x, r => by
    cases x
    cases r
    exact ⟨_, ReadsAllW.nil⟩
  | d :: ds, _, _, x, r => by
    cases x with
    | cons h1 h2 =>
      cases r with
      | cons r1 r2 =>
        obtain ⟨as, q1⟩ := Dw.reads hok KX d _ _ h1 r1
        obtain ⟨bs, q2⟩ := Dw.readsAll hok KX ds _ _ h2 r2
        exact ⟨_, ReadsAllW.cons q1 q2⟩
end
end
/-! ### the arguments -/
mutual
/-- data that a codec tells -/
def plW : WData → Bool
  | .none => true
  | .bool _ => true
  | .int _ => true
  | .str _ => true
  | .bytes _ => true
  | .list xs => plWs xs
  | .tuple xs => plWs xs
  | _ => false
def plWs : List WData → Bool
  | [] => true
  | x :: r => plW x && plWs r
end
theorem plWs_map {α : Type} {f : α → WData} (h : ∀ a, plW (f a) = true) : ∀ l : List α, plWs (l.map f) = true
  | [] => rfl
  | x :: r => by
    show (plW (f x) && plWs (r.map f)) = true
    rw [h x, plWs_map h r] <;> rfl
theorem pl_enc : ∀ (c : Codec) (a : c.denote), plW (c.enc a) = true
  | .unit, _ => rfl
  | .bool, _ => rfl
  | .int _ _, _ => rfl
  | .nat _ _, _ => rfl
  | .u8, _ => rfl
  | .bytes _ _, _ => rfl
  | .text _ _ _ _, _ => rfl
  | .list _ _ c, a => plWs_map (fun x => pl_enc c x) a
  | .pair c d, a => by
    show (plW (c.enc a.1) && (plW (d.enc a.2) && true)) = true
    rw [pl_enc c a.1, pl_enc d a.2] <;> rfl
  | .triple c d e, a => by
    show (plW (c.enc a.1) && (plW (d.enc a.2.1) && (plW (e.enc a.2.2) && true))) = true
    rw [pl_enc c a.1, pl_enc d a.2.1, pl_enc e a.2.2] <;> rfl
  | .option c, none => rfl
  | .option c, some x => pl_enc c x
theorem pl_encAll : ∀ (cs : List Codec) (a : Codec.denoteAll cs), plWs (Codec.encAll cs a) = true
  | [], _ => rfl
  | c :: cs, a => by
    show (plW (c.enc a.1) && plWs (Codec.encAll cs a.2)) = true
    rw [pl_enc c a.1, pl_encAll cs a.2] <;> rfl
theorem weight_mem : ∀ {xs : List WData} {d : WData}, d ∈ xs → d.weight ≤ WData.weightAll xs
  | [], d, h => absurd h (by simp)
  | x :: r, d, h => by
    show d.weight ≤ x.weight + 1 + WData.weightAll r
    rcases List.mem_cons.mp h with e | m
    · rw [e]
      omega
    · have z := weight_mem m
      omega
def toV : Value → V
  | .none => .non
  | .bool b => .bl b
  | .int i _ => .int i
  | .str x _ => .str x
  | .bytes b _ => .byt b
  | .ref a => .ref a
  | _ => .non
/-- a value of the arguments, its objects among A -/
def OkU (A : List Addr) : Value → Prop
  | .none => True
  | .bool _ => True
  | .int _ _ => True
  | .str _ _ => True
  | .bytes _ _ => True
  | .ref a => a ∈ A
  | _ => False
theorem OkU.mono {A B : List Addr} (h : ∀ a ∈ A, a ∈ B) : ∀ {u : Value}, OkU A u → OkU B u := fun {u} x => by
  cases u with
  | ref a => exact h a x
  | none => trivial
  | bool b => trivial
  | int i t => trivial
  | str s t => trivial
  | bytes b t => trivial
  | _ => exact False.elim x
theorem relV_toV {A : List Addr} {u : Value} (x : OkU A u) : RelV (toV u) u := by
  cases u with
  | ref a => rfl
  | none => rfl
  | bool b => rfl
  | int i t => exact ⟨t, rfl⟩
  | str s t => exact ⟨t, rfl⟩
  | bytes b t => exact ⟨t, rfl⟩
  | _ => exact False.elim x
theorem vals_toV {A : List Addr} : ∀ {vs : List Value}, (∀ u ∈ vs, OkU A u) → Vals (vs.map toV) vs
  | [], _ => .nil
  | u :: r, h => .cons (relV_toV (h u (List.mem_cons_self ..))) (vals_toV fun x hx => h x (List.mem_cons_of_mem _ hx))
/-- an object of the arguments -/
def ArgOb (h : Heap) (A : List Addr) (a : Addr) : Prop := ∃ vs : List Value, vs.length ≤ sizeLine ∧ (∀ u ∈ vs, OkU A u) ∧
  (h.get? a = some { cls := .type "list", data := .seq vs.toArray } ∨ h.get? a = some { cls := .type "tuple", data := .seq vs.toArray })
theorem ArgOb.mono {h : Heap} {A B : List Addr} {a : Addr} (k : ∀ a ∈ A, a ∈ B) (x : ArgOb h A a) : ArgOb h B a := by
  obtain ⟨vs, h1, h2, h3⟩ := x
  exact ⟨vs, h1, fun u hu => (h2 u hu).mono k, h3⟩
theorem wellAll_len {P : Params} {h : Heap} : ∀ {vs : List Value} {ds : List WData}, WellAll P h vs ds → vs.length = ds.length
  | _, _, .nil => rfl
  | _, _, .cons _ b => by
    show _ + 1 = _ + 1
    rw [wellAll_len b]
theorem well_list {P : Params} {h : Heap} {v : Value} {ds : List WData} (x : Well P h v (.list ds)) : ∃ (a : Addr) (vs : List Value), v = .ref a ∧ h.get? a = some { cls := .type "list", data := .seq vs.toArray } ∧ WellAll P h vs ds := by
  cases x with
  | list ho hall => exact ⟨_, _, rfl, ho, hall⟩
theorem well_tuple {P : Params} {h : Heap} {v : Value} {ds : List WData} (x : Well P h v (.tuple ds)) : ∃ (a : Addr) (vs : List Value), v = .ref a ∧ h.get? a = some { cls := .type "tuple", data := .seq vs.toArray } ∧ WellAll P h vs ds := by
  cases x with
  | tuple ho hall => exact ⟨_, _, rfl, ho, hall⟩
theorem well_cons {P : Params} {h : Heap} {us : List Value} {d : WData} {ds : List WData} (x : WellAll P h us (d :: ds)) : ∃ (v : Value) (vs : List Value), us = v :: vs ∧ Well P h v d ∧ WellAll P h vs ds := by
  cases x with
  | cons a b => exact ⟨_, _, rfl, a, b⟩
theorem line_of {n : Nat} (h : n ≤ 1048576) : n ≤ sizeLine := Nat.le_trans h (by decide)
section
variable {P : Params} {h : Heap}
mutual
theorem area_one : ∀ (d : WData) (v : Value), Well P h v d → plW d = true → d.weight ≤ 1048576 → ∃ A : List Addr, OkU A v ∧ ∀ a ∈ A, ArgOb h A a
  | .none, _, x, _, _ => by
    cases x
    exact ⟨[], trivial, fun a m => absurd m (by simp)⟩
  | .bool b, _, x, _, _ => by
    cases x
    exact ⟨[], trivial, fun a m => absurd m (by simp)⟩
  | .int i, _, x, _, _ => by
    cases x
    exact ⟨[], trivial, fun a m => absurd m (by simp)⟩
  | .str s, _, x, _, _ => by
    cases x
    exact ⟨[], trivial, fun a m => absurd m (by simp)⟩
  | .bytes b, _, x, _, _ => by
    cases x
    exact ⟨[], trivial, fun a m => absurd m (by simp)⟩
  | .list ds, _, x, p, z => by
    obtain ⟨a, vs, rfl, ho, hall⟩ := well_list x
    have z2 : WData.weightAll ds ≤ 1048576 := z
    obtain ⟨A, h1, h2⟩ := area_all ds _ hall p fun d hd => Nat.le_trans (weight_mem hd) z2
    have k : ∀ b ∈ A, b ∈ a :: A := fun b hb => List.mem_cons_of_mem _ hb
    refine ⟨a :: A, List.mem_cons_self .., fun b hb => ?_⟩
    rcases List.mem_cons.mp hb with e | m
    · rw [e]
      exact ⟨vs, line_of (by rw [wellAll_len hall]; exact Nat.le_trans (PySem.W.length_le_weightAllW ds) z2), fun u hu => (h1 u hu).mono k, .inl ho⟩
    · exact (h2 b m).mono k
  | .tuple ds, _, x, p, z => by
    obtain ⟨a, vs, rfl, ho, hall⟩ := well_tuple x
    have z2 : WData.weightAll ds ≤ 1048576 := z
    obtain ⟨A, h1, h2⟩ := area_all ds _ hall p fun d hd => Nat.le_trans (weight_mem hd) z2
    have k : ∀ b ∈ A, b ∈ a :: A := fun b hb => List.mem_cons_of_mem _ hb
    refine ⟨a :: A, List.mem_cons_self .., fun b hb => ?_⟩
    rcases List.mem_cons.mp hb with e | m
    · rw [e]
      exact ⟨vs, line_of (by rw [wellAll_len hall]; exact Nat.le_trans (PySem.W.length_le_weightAllW ds) z2), fun u hu => (h1 u hu).mono k, .inr ho⟩
    · exact (h2 b m).mono k
  | .float _, _, _, p, _ => Bool.noConfusion (show false = true from p)
  | .dict _, _, _, p, _ => Bool.noConfusion (show false = true from p)
  | .bytearray _, _, _, p, _ => Bool.noConfusion (show false = true from p)
  | .set _, _, _, p, _ => Bool.noConfusion (show false = true from p)
  | .frozenset _, _, _, p, _ => Bool.noConfusion (show false = true from p)
  | .obj _ _, _, _, p, _ => Bool.noConfusion (show false = true from p)
theorem area_all : ∀ (ds : List WData) (vs : List Value), WellAll P h vs ds → plWs ds = true → (∀ d ∈ ds, d.weight ≤ 1048576) → ∃ A : List Addr, (∀ u ∈ vs, OkU A u) ∧ ∀ a ∈ A, ArgOb h A a
  | [], _, x, _, _ => by
    cases x
    exact ⟨[], fun u m => absurd m (by simp), fun a m => absurd m (by simp)⟩
  | d :: ds, _, x, p, z => by
    obtain ⟨v, vs, rfl, x1, x2⟩ := well_cons x
    have q : plW d = true ∧ plWs ds = true := Bool.and_eq_true_iff.mp p
    obtain ⟨A, a1, a2⟩ := area_one d v x1 q.1 (z d (List.mem_cons_self ..))
    obtain ⟨B, b1, b2⟩ := area_all ds vs x2 q.2 fun e he => z e (List.mem_cons_of_mem _ he)
    have kA : ∀ b ∈ A, b ∈ A ++ B := fun b hb => List.mem_append.mpr (.inl hb)
    have kB : ∀ b ∈ B, b ∈ A ++ B := fun b hb => List.mem_append.mpr (.inr hb)
    refine ⟨A ++ B, fun u hu => ?_, fun b hb => ?_⟩
    · rcases List.mem_cons.mp hu with e | m
      · rw [e]
        exact a1.mono kA
      · exact (b1 u m).mono kB
    · rcases List.mem_append.mp hb with m | m
      · exact (a2 b m).mono kA
      · exact (b2 b m).mono kB
end
end
/-- what is tracked of an argument's object -/
def hoOf (o : Obj) : Option HO := match o.data with
  | .seq vs _ => if (o.cls == Value.type "list") = true then some (.frz o (.lst (vs.toList.map toV))) else some (.frz o (.tup (vs.toList.map toV)))
  | _ => none
def argH (K : PySem.W.Frag) (h : Heap) (A : List Addr) : Hp := fun b => if b ∈ A then (if (K.lookup b).isNone = true then (h.get? b).bind hoOf else none) else none
/-- nothing is tracked but what is known to the object -/
def OnlyF (H : Hp) : Prop := ∀ b, H b = none ∨ ∃ o u, H b = some (.frz o u)
theorem hoOf_lst (vs : List Value) : hoOf { cls := .type "list", data := .seq vs.toArray } = some (.frz { cls := .type "list", data := .seq vs.toArray } (.lst (vs.map toV))) := by
  show (if (Value.type "list" == Value.type "list") = true then some (HO.frz { cls := .type "list", data := .seq vs.toArray } (.lst (vs.toArray.toList.map toV))) else some (HO.frz { cls := .type "list", data := .seq vs.toArray } (.tup (vs.toArray.toList.map toV)))) = _
  rw [if_pos (beq_self_eq_true _)]
theorem hoOf_tup (vs : List Value) : hoOf { cls := .type "tuple", data := .seq vs.toArray } = some (.frz { cls := .type "tuple", data := .seq vs.toArray } (.tup (vs.map toV))) := by
  show (if (Value.type "tuple" == Value.type "list") = true then some (HO.frz { cls := .type "tuple", data := .seq vs.toArray } (.lst (vs.toArray.toList.map toV))) else some (HO.frz { cls := .type "tuple", data := .seq vs.toArray } (.tup (vs.toArray.toList.map toV)))) = _
  rw [if_neg (by decide)]
section
variable {P : Program} {w : World} {K : PySem.W.Frag} {h : Heap} {A : List Addr}
theorem argH_at {b : Addr} {o : Obj} (hb : b ∈ A) (hk : K.lookup b = none) (e : h.get? b = some o) : argH K h A b = hoOf o := by
  unfold argH
  rw [if_pos hb, hk, if_pos (show (none : Option Obj).isNone = true from rfl), e] <;> rfl
theorem of_argH {b : Addr} {u : HO} (q : argH K h A b = some u) : b ∈ A ∧ K.lookup b = none := by
  unfold argH at q
  by_cases hb : b ∈ A
  · rw [if_pos hb] at q
    cases hk : K.lookup b with
    | none => exact ⟨hb, rfl⟩
    | some o =>
      rw [hk, if_neg (by simp)] at q
      cases q
  · rw [if_neg hb] at q
    cases q
/-- what stands tracked -/
theorem argH_is (ar : ∀ a ∈ A, ArgOb h A a) {b : Addr} {u : HO} (q : argH K h A b = some u) : K.lookup b = none ∧ ∃ vs : List Value, vs.length ≤ sizeLine ∧ (∀ u ∈ vs, OkU A u) ∧
    ((h.get? b = some { cls := .type "list", data := .seq vs.toArray } ∧ u = .frz { cls := .type "list", data := .seq vs.toArray } (.lst (vs.map toV))) ∨
     (h.get? b = some { cls := .type "tuple", data := .seq vs.toArray } ∧ u = .frz { cls := .type "tuple", data := .seq vs.toArray } (.tup (vs.map toV)))) := by
  obtain ⟨hb, hk⟩ := of_argH q
  obtain ⟨vs, h1, h2, h3⟩ := ar b hb
  refine ⟨hk, vs, h1, h2, ?_⟩
  rcases h3 with e | e
  · rw [argH_at hb hk e, hoOf_lst] at q
    exact .inl ⟨e, (Option.some.inj q).symm⟩
  · rw [argH_at hb hk e, hoOf_tup] at q
    exact .inr ⟨e, (Option.some.inj q).symm⟩
theorem argH_only (ar : ∀ a ∈ A, ArgOb h A a) : OnlyF (argH K h A) := fun b => by
  cases q : argH K h A b with
  | none => exact .inl rfl
  | some u =>
    obtain ⟨_, vs, _, _, ⟨_, e⟩ | ⟨_, e⟩⟩ := argH_is ar q
    · exact .inr ⟨_, _, by rw [e]⟩
    · exact .inr ⟨_, _, by rw [e]⟩
theorem argH_ok (ar : ∀ a ∈ A, ArgOb h A a) : HOk P w (argH K h A) h := fun b u q => by
  obtain ⟨_, vs, h1, h2, ⟨e, rfl⟩ | ⟨e, rfl⟩⟩ := argH_is ar q
  · exact ⟨e, by rw [List.length_map]; exact h1, vs, _, vals_toV h2, e⟩
  · exact ⟨e, by rw [List.length_map]; exact h1, vs, vals_toV h2, _, e, rfl, _, rfl⟩
theorem seq_inj {c c' : Value} {vs us : List Value} (e : (some { cls := c, data := .seq vs.toArray } : Option Obj) = some { cls := c', data := .seq us.toArray }) : c = c' ∧ vs = us := by
  have e1 := Option.some.inj e
  have e2 : c = c' := congrArg Obj.cls e1
  have e3 : Data.seq vs.toArray = Data.seq us.toArray := congrArg Obj.data e1
  injection e3 with e4
  refine ⟨e2, ?_⟩
  have e5 := congrArg Array.toList e4
  simpa using e5
/-- a list argument -/
theorem argL (KX : K.In h) (ar : ∀ a ∈ A, ArgOb h A a) {a : Addr} {vs : List Value} (ha : a ∈ A) (e : h.get? a = some { cls := .type "list", data := .seq vs.toArray }) : (∀ u ∈ vs, OkU A u) ∧ SqL K (argH K h A) a (vs.map toV) := by
  obtain ⟨us, h1, h2, h3⟩ := ar a ha
  have hu : us = vs := by
    rcases h3 with q | q
    · rw [e] at q
      exact (seq_inj q).2.symm
    · rw [e] at q
      exact absurd (Value.type.inj (seq_inj q).1) (by decide)
  subst hu
  refine ⟨h2, ?_⟩
  cases hk : K.lookup a with
  | none => exact .inl (.inr ⟨_, by rw [argH_at ha hk e, hoOf_lst]⟩)
  | some o =>
    have e2 := KX a o hk
    rw [e] at e2
    obtain rfl := Option.some.inj e2
    exact .inr ⟨_, us.toArray, _, hk, rfl, rfl, rfl, by rw [List.size_toArray]; exact h1, by simpa using vals_toV h2⟩
theorem argT (KX : K.In h) (ar : ∀ a ∈ A, ArgOb h A a) {a : Addr} {vs : List Value} (ha : a ∈ A) (e : h.get? a = some { cls := .type "tuple", data := .seq vs.toArray }) : (∀ u ∈ vs, OkU A u) ∧ SqT K (argH K h A) a (vs.map toV) := by
  obtain ⟨us, h1, h2, h3⟩ := ar a ha
  have hu : us = vs := by
    rcases h3 with q | q
    · rw [e] at q
      exact absurd (Value.type.inj (seq_inj q).1) (by decide)
    · rw [e] at q
      exact (seq_inj q).2.symm
  subst hu
  refine ⟨h2, ?_⟩
  cases hk : K.lookup a with
  | none => exact .inl (.inr ⟨_, by rw [argH_at ha hk e, hoOf_tup]⟩)
  | some o =>
    have e2 := KX a o hk
    rw [e] at e2
    obtain rfl := Option.some.inj e2
    exact .inr ⟨_, us.toArray, _, hk, rfl, rfl, by rw [List.size_toArray]; exact h1, by simpa using vals_toV h2⟩
mutual
theorem dw_one {Pm : Params} (KX : K.In h) (ar : ∀ a ∈ A, ArgOb h A a) : ∀ (d : WData) (v : Value), Well Pm h v d → plW d = true → OkU A v → Dw K (argH K h A) (toV v) d
  | .none, _, x, _, _ => by
    cases x
    exact .non
  | .bool b, _, x, _, _ => by
    cases x
    exact .bl b
  | .int i, _, x, _, _ => by
    cases x
    exact .int i
  | .str s, _, x, _, _ => by
    cases x
    exact .str s
  | .bytes b, _, x, _, _ => by
    cases x
    have z := Dw.byt (K := K) (H := argH K h A) b.toArray
    exact z
  | .list ds, _, x, p, hu => by
    obtain ⟨a, vs, rfl, ho, hall⟩ := well_list x
    obtain ⟨h2, hs⟩ := argL KX ar hu ho
    exact .lst hs (dw_all KX ar ds _ hall p h2)
  | .tuple ds, _, x, p, hu => by
    obtain ⟨a, vs, rfl, ho, hall⟩ := well_tuple x
    obtain ⟨h2, hs⟩ := argT KX ar hu ho
    exact .tup hs (dw_all KX ar ds _ hall p h2)
  | .float _, _, _, p, _ => Bool.noConfusion (show false = true from p)
  | .dict _, _, _, p, _ => Bool.noConfusion (show false = true from p)
  | .bytearray _, _, _, p, _ => Bool.noConfusion (show false = true from p)
  | .set _, _, _, p, _ => Bool.noConfusion (show false = true from p)
  | .frozenset _, _, _, p, _ => Bool.noConfusion (show false = true from p)
  | .obj _ _, _, _, p, _ => Bool.noConfusion (show false = true from p)
theorem dw_all {Pm : Params} (KX : K.In h) (ar : ∀ a ∈ A, ArgOb h A a) : ∀ (ds : List WData) (vs : List Value), WellAll Pm h vs ds → plWs ds = true → (∀ u ∈ vs, OkU A u) → DwAll K (argH K h A) (vs.map toV) ds
  | [], _, x, _, _ => by
    cases x
    exact .nil
  | d :: ds, _, x, p, hu => by
    obtain ⟨v, vs, rfl, x1, x2⟩ := well_cons x
    have q : plW d = true ∧ plWs ds = true := Bool.and_eq_true_iff.mp p
    exact .cons (dw_one KX ar d v x1 q.1 (hu _ (List.mem_cons_self ..))) (dw_all KX ar ds vs x2 q.2 fun u m => hu u (List.mem_cons_of_mem _ m))
end
end
/-! ### the call -/
theorem spec_call {P : Program} {w : World} {K : PySem.W.Frag} {mg mb : Str → Option Value} {CX : CXT} {k : Nat} {fa : Addr} {fd : FuncData} {ps : List Str} {sp : Sp} {s₁ : Shared} {vals : List Value} {ds : List WData} {R : PySem.W.WRecords} {cl : Str → Option Addr} {d0 : WData}
    (KX : K.In s₁.heap) (hns : s₁.heap.Ns mainGlobals mg) (hb : s₁.heap.Ns builtinsNs mb) (hbb : ∀ x : Str, x ≠ "__name__" → mb x = bootBuiltins x) (hlim : s₁.heap.NoLimit) (hg : s₁.gens = #[])
    (hwl : WellAll w.params s₁.heap vals ds) (hpl : plWs ds = true) (hwt : ∀ d ∈ ds, d.weight ≤ 1048576) (hr : Room k callerA)
    (F : ∀ base : Heap, K.In base → base.Ns mainGlobals mg → FnOk P w K mg base CX k fa fd ps sp) (hbind : ∀ (s : Shared) (us : List Value), us.length = ps.length → BindsTo s fd ⟨us, []⟩ (ps.zip us)) (hlen : ds.length = ps.length)
    (hsp : ∀ (H : Hp) (xs : List V), OnlyF H → DwAll K H xs ds → sp xs H (fun v H' => Dw K H' v d0) fun _ _ _ => False)
    (hCX : ∀ H e s', CX [] H s₁ (fun _ _ _ => False) e s' → False) :
    codeAny (model P w) callerA (.call (.ref fa) ⟨vals, []⟩) (fun r s' => ∃ u as, r = .ok (.ret u) ∧ ReadsW R cl s'.heap u d0 as ∧ OldK s₁.heap s'.heap ∧ s'.os = s₁.os ∧ AllBare s'.gens) s₁ := by
  obtain ⟨A, ho, ar⟩ := area_all ds vals hwl hpl hwt
  have hO : OnlyF (argH K s₁.heap A) := argH_only ar
  have hok : HOk P w (argH K s₁.heap A) s₁.heap := argH_ok ar
  have hS := dw_all KX ar ds vals hwl hpl ho
  have hV := vals_toV ho
  have hK : ∀ b u, argH K s₁.heap A b = some u → K.lookup b = none := fun b u q => (argH_is ar q).1
  have noA : ∀ {b : Addr} {o : Obj} {es : Array DictEntry} {ep : Nat}, s₁.heap.get? b = some o → o.data = .dict es ep → argH K s₁.heap A b = none := fun {b o es ep} e d => by
    cases q : argH K s₁.heap A b with
    | none => rfl
    | some u =>
      obtain ⟨_, vs, _, _, ⟨e2, _⟩ | ⟨e2, _⟩⟩ := argH_is ar q
      · rw [e2] at e
        cases e
        have d' : Data.seq vs.toArray _ = Data.dict es ep := d
        cases d'
      · rw [e2] at e
        cases e
        have d' : Data.seq vs.toArray _ = Data.dict es ep := d
        cases d'
  generalize argH K s₁.heap A = H at hO hok hS hK noA
  have base_of : ∀ {b : Addr} {o : Obj}, s₁.heap.get? b = some o → H b = none → (hidT s₁.heap H).get? b = some o := fun e n => hidT_get e n
  have nsK : ∀ {b : Addr} {m : Str → Option Value}, s₁.heap.Ns b m → (hidT s₁.heap H).Ns b m := fun {b m} ⟨o, es, ep, e, d, r⟩ => ⟨o, es, ep, base_of e (noA e d), d, r⟩
  have nK : ∀ b o, K.lookup b = some o → H b = none := fun b o e => by
    cases q : H b with
    | none => rfl
    | some u =>
      rw [hK b u q] at e
      cases e
  have hKb : K.In (hidT s₁.heap H) := fun b o e => base_of (KX b o e) (nK b o e)
  have hM : Mod K mg (hidT s₁.heap H) := ⟨hKb, nsK hns, ⟨mb, nsK hb, hbb⟩, let ⟨mc, h1, h2⟩ := hlim; ⟨mc, nsK h1, h2⟩⟩
  have e0 : Env0 P w K mg (hidT s₁.heap H) callerA [] s₁ H := ⟨rfl, hM, fun b o e => of_hidT e, Nat.le_of_eq (hidT_size _ _), trivial, fun b hb => absurd (show b ∈ ([] : List Addr) from hb) (by simp), hok, .of_eq hg⟩
  have hl : vals.length = ps.length := by rw [wellAll_len hwl]; exact hlen
  refine codeAny_mono ((F _ hKb (nsK hns)).run callerA [] s₁ H ⟨vals, []⟩ vals (vals.map toV) _ _ hr e0 (hbind s₁ vals hl) hV (hsp H _ hO hS)) fun r s' x => ?_
  cases r with
  | error e => exact (hCX H e s' x).elim
  | ok fl =>
    cases fl with
    | next => exact False.elim x
    | brk => exact False.elim x
    | cont => exact False.elim x
    | ret u =>
      obtain ⟨v, H', os, bare, un, hok', r', q⟩ := x
      have kept : ∀ b o, s₁.heap.get? b = some o → s'.heap.get? b = some o := fun b o e => by
        cases q2 : H b with
        | none => exact un.keep b o e q2 (by intro z; exact absurd (show b ∈ ([] : List Addr) from z) (by simp)) (by simp)
        | some u2 =>
          rcases hO b with z | ⟨ob, u3, z⟩
          · rw [q2] at z
            cases z
          · have z2 := un.frzs b ob _ z
            obtain ⟨e1, _⟩ := hok b _ z
            obtain ⟨e2, _⟩ := hok' b _ z2
            rw [e] at e1
            cases e1
            exact e2
      have KX' : K.In s'.heap := fun b o e => kept b o (KX b o e)
      obtain ⟨as, hrd⟩ := Dw.reads (R := R) (cl := cl) hok' KX' d0 v u q r'
      exact ⟨u, as, rfl, hrd, OldK.of_keep kept, os, bare⟩
/-! ### the row -/
theorem layable_weight {ds : List WData} (h : WData.layableAll ds = true) : ∀ d ∈ ds, d.weight ≤ 1048576 := fun d hd =>
  (PySem.W.layableW_iff.mp (List.all_eq_true.mp h d hd)).2.2
theorem encAll_len : ∀ (cs : List Codec) (a : Codec.denoteAll cs), (Codec.encAll cs a).length = cs.length
  | [], _ => rfl
  | c :: cs, a => by
    show (Codec.encAll cs a.2).length + 1 = cs.length + 1
    rw [encAll_len cs a.2]
/-- the goal that k_headS leaves (case hc), from the promise of the row's def: whatever the arguments that the codecs let and the row asks for, the def gives what stands for enc (f ..) -/
theorem walk_spec {r : OpenSpec} {k : Nat} {q : Program} {loose : List Str} {XP : (Str → Option Value) → Heap → Prop} {YP : World → Heap → Prop} {d : DefRec} {K : Params → PySem.W.Frag} {CX : World → CXT} {ps : List Str} {sp : World → Sp}
    (hwell : r.wellSaid = true) (hdf : d.params.defaults = []) (hlen : r.args.length = ps.length) (hr : Room k callerA)
    (hY : ∀ (w : World) (h : Heap), YP w h → (K w.params).In h)
    (F : ∀ (w : World) (mg : Str → Option Value) (fa : Addr) (h : Heap), YP w h → (K w.params).In h → h.Ns mainGlobals mg → mg d.name = some (.ref fa) →
      ∃ fd : FuncData, (∀ (s : Shared) (us : List Value), us.length = ps.length → BindsTo s fd ⟨us, []⟩ (ps.zip us)) ∧
        ∀ base : Heap, (K w.params).In base → base.Ns mainGlobals mg → FnOk r.prog w (K w.params) mg base (CX w) k fa fd ps (sp w))
    (hsp : ∀ (w : World) (H : Hp) (xs : List V) (a : Codec.denoteAll r.args), OnlyF H → Codec.withinAll r.args a = true → Codec.app r.args r.asked a = true → DwAll (K w.params) H xs (Codec.encAll r.args a) →
      sp w xs H (fun v H' => Dw (K w.params) H' v (r.ret.enc (Codec.app r.args r.f a))) fun _ _ _ => False)
    (hCX : ∀ (w : World) (H : Hp) (s : Shared) (e : Value) (s' : Shared), CX w [] H s (fun _ _ _ => False) e s' → False) :
    PySem.W.WalkOS q loose XP YP r d [] (fun f vs => PySem.call f vs) := by
  intro w s_0 s₁ mg mb G Y fa o pm cd doc dV kV ho hd hcd hD hmg hg args vals as hpre hlay hrd hwl hlo
  obtain ⟨a, e1, e2⟩ := PySem.W.os_pre_some hpre
  obtain ⟨e3, hwi⟩ := Codec.encAll_of_decAll r.args args a e1
  subst e3
  have KX := hY w _ Y
  obtain ⟨fd, hb, hF⟩ := F w mg fa _ Y KX G.T.g hmg
  refine PySem.W.enter_call (codeAny_mono (spec_call (R := []) (cl := classAt s_0.heap) (d0 := r.ret.enc (Codec.app r.args r.f a)) KX G.T.g G.T.b G.T.builtins G.T.nolimit hg hwl (pl_encAll _ _) (layable_weight hlay) hr hF hb (by rw [encAll_len]; exact hlen)
    (fun H xs hO hS => hsp w H xs a hO hwi e2 hS) fun H e s' => hCX w H s₁ e s') fun r' s' hq => ?_)
  obtain ⟨u, as', rfl, h1, h2, h3, h4⟩ := hq
  exact ⟨.inl ⟨u, _, as', rfl, fun _ => rfl, h1, (OpenSpec.post_iff hwell hwi _ _).mpr rfl, fun z => Bool.noConfusion (show false = true from z)⟩, h2, h3, h4⟩
/-- the same where the promise hangs on the written part alone -/
theorem walk_specK {r : OpenSpec} {k : Nat} {q : Program} {loose : List Str} {XP : (Str → Option Value) → Heap → Prop} {YP : World → Heap → Prop} {d : DefRec} {K : Params → PySem.W.Frag} {CX : CXT} {ps : List Str} {sp : PySem.W.Frag → Sp}
    (hwell : r.wellSaid = true) (hdf : d.params.defaults = []) (hlen : r.args.length = ps.length) (hr : Room k callerA)
    (hY : ∀ (w : World) (h : Heap), YP w h → (K w.params).In h)
    (F : ∀ (w : World) (mg : Str → Option Value) (fa : Addr) (h : Heap), YP w h → (K w.params).In h → h.Ns mainGlobals mg → mg d.name = some (.ref fa) →
      ∃ fd : FuncData, (∀ (s : Shared) (us : List Value), us.length = ps.length → BindsTo s fd ⟨us, []⟩ (ps.zip us)) ∧
        ∀ base : Heap, (K w.params).In base → base.Ns mainGlobals mg → FnOk r.prog w (K w.params) mg base CX k fa fd ps (sp (K w.params)))
    (hsp : ∀ (K : PySem.W.Frag) (H : Hp) (xs : List V) (a : Codec.denoteAll r.args), OnlyF H → Codec.withinAll r.args a = true → Codec.app r.args r.asked a = true → DwAll K H xs (Codec.encAll r.args a) →
      sp K xs H (fun v H' => Dw K H' v (r.ret.enc (Codec.app r.args r.f a))) fun _ _ _ => False)
    (hCX : ∀ (H : Hp) (s : Shared) (e : Value) (s' : Shared), CX [] H s (fun _ _ _ => False) e s' → False) :
    PySem.W.WalkOS q loose XP YP r d [] (fun f vs => PySem.call f vs) :=
  walk_spec (K := K) (CX := fun _ => CX) (sp := fun w => sp (K w.params)) hwell hdf hlen hr hY F (fun w H xs a h1 h2 h3 h4 => hsp (K w.params) H xs a h1 h2 h3 h4) fun _ H s e s' => hCX H s e s'
end L2
-- rests on (row put in by the clerk, for the bench that shows a file only what it spells): KE.SpHead KE.OsShapes
end
end
section
set_option linter.all false
namespace TW
open EwTree
abbrev By := List UInt8

/-! ### lists -/
theorem tw_take {α : Type} (p : α → Bool) : ∀ (l : List α) (n : Nat), (l.takeWhile p).length ≤ n → (l.take n).takeWhile p = l.takeWhile p
  | [], n, _ => by simp
  | a :: l, 0, h => by
    cases e : p a with
    | false => simp [List.takeWhile_cons, e]
    | true => simp [List.takeWhile_cons, e] at h
  | a :: l, n + 1, h => by
    cases e : p a with
    | false => simp [List.takeWhile_cons, e]
    | true =>
      simp only [List.take_succ_cons, List.takeWhile_cons, e, if_true]
      rw [tw_take p l n (by simpa [List.takeWhile_cons, e] using h)]
theorem dw_take {α : Type} (p : α → Bool) : ∀ (l : List α) (n : Nat), (l.takeWhile p).length ≤ n → (l.take n).dropWhile p = (l.dropWhile p).take (n - (l.takeWhile p).length)
  | [], n, _ => by simp
  | a :: l, 0, h => by
    cases e : p a with
    | false => simp [List.dropWhile_cons, e, List.takeWhile_cons]
    | true => simp [List.takeWhile_cons, e] at h
  | a :: l, n + 1, h => by
    cases e : p a with
    | false => simp [List.takeWhile_cons, List.dropWhile_cons, e]
    | true =>
      simp only [List.take_succ_cons, List.takeWhile_cons, List.dropWhile_cons, e, if_true, List.length_cons]
      rw [dw_take p l n (by simpa [List.takeWhile_cons, e] using h)]
      congr 1; omega
theorem dw_eq_drop {α : Type} (p : α → Bool) : ∀ (l : List α), l.dropWhile p = l.drop (l.takeWhile p).length
  | [] => rfl
  | a :: l => by
    cases e : p a with
    | false => simp [List.takeWhile_cons, List.dropWhile_cons, e]
    | true =>
      simp only [List.takeWhile_cons, List.dropWhile_cons, e, if_true, List.length_cons, List.drop_succ_cons]
      exact dw_eq_drop p l
theorem tw_eq_take {α : Type} (p : α → Bool) : ∀ (l : List α), l.takeWhile p = l.take (l.takeWhile p).length
  | [] => rfl
  | a :: l => by
    cases e : p a with
    | false => simp [List.takeWhile_cons, e]
    | true =>
      simp only [List.takeWhile_cons, e, if_true, List.length_cons, List.take_succ_cons]
      rw [← tw_eq_take p l]
theorem tw_len {α : Type} (p : α → Bool) (l : List α) : (l.takeWhile p).length + (l.dropWhile p).length = l.length := by
  have := congrArg List.length (List.takeWhile_append_dropWhile (p := p) (l := l))
  rw [List.length_append] at this; exact this
theorem tw_all {α : Type} (p : α → Bool) : ∀ (l : List α), (l.takeWhile p).all p = true
  | [] => rfl
  | a :: l => by
    cases e : p a with
    | false => simp [List.takeWhile_cons, e]
    | true =>
      simp only [List.takeWhile_cons, e, if_true, List.all_cons, Bool.true_and]
      exact tw_all p l
theorem dw_head {α : Type} (p : α → Bool) : ∀ {l : List α} {a : α} {r : List α}, l.dropWhile p = a :: r → p a = false
  | [], a, r, h => by simp at h
  | b :: l, a, r, h => by
    cases e : p b with
    | false => simp [List.dropWhile_cons, e] at h; rw [← h.1]; exact e
    | true => simp [List.dropWhile_cons, e] at h; exact dw_head p h

/-! ### bytes -/
theorem u_le {a b : UInt8} : a ≤ b ↔ a.toNat ≤ b.toNat := UInt8.le_iff_toNat_le
theorem u_eq {a b : UInt8} : a = b ↔ a.toNat = b.toNat := ⟨fun h => by rw [h], fun h => UInt8.toNat_inj.mp h⟩
theorem dec_le {n : Nat} {c : UInt8} {m : UInt8} (h : m.toNat = n) : decide ((n : Int) ≤ (c.toNat : Int)) = decide (m ≤ c) := by
  by_cases q : m ≤ c
  · rw [decide_eq_true q]; exact decide_eq_true (by have := u_le.mp q; omega)
  · rw [decide_eq_false q]; exact decide_eq_false (fun z => q (u_le.mpr (by omega)))
theorem dec_ge {n : Nat} {c : UInt8} {m : UInt8} (h : m.toNat = n) : decide ((c.toNat : Int) ≤ (n : Int)) = decide (c ≤ m) := by
  by_cases q : c ≤ m
  · rw [decide_eq_true q]; exact decide_eq_true (by have := u_le.mp q; omega)
  · rw [decide_eq_false q]; exact decide_eq_false (fun z => q (u_le.mpr (by omega)))
theorem dec_eq {n : Nat} {c : UInt8} {m : UInt8} (h : m.toNat = n) : decide ((c.toNat : Int) = (n : Int)) = decide (c = m) := by
  by_cases q : c = m
  · rw [decide_eq_true q]; exact decide_eq_true (by rw [q]; omega)
  · rw [decide_eq_false q]; exact decide_eq_false (fun z => q (u_eq.mpr (by omega)))
/-- the program's tests, over whole numbers -/
def pSmall (n : Int) : Bool := decide (97 ≤ n) && decide (n ≤ 122)
def pBig (n : Int) : Bool := decide (65 ≤ n) && decide (n ≤ 90)
def pDigit (n : Int) : Bool := decide (48 ≤ n) && decide (n ≤ 57)
def pSeen (n : Int) : Bool := decide (32 ≤ n) && decide (n ≤ 126)
def pWord (n : Int) : Bool := pSmall n || (pDigit n || decide (n = 95))
def pCode (n : Int) : Bool := pBig n || pDigit n
def pMark (n : Int) : Bool := pWord n || pBig n
theorem pSmall_u (c : UInt8) : pSmall c.toNat = isSmall c := by
  unfold pSmall isSmall; rw [← dec_le (n := 97) (m := 97) rfl, ← dec_ge (n := 122) (m := 122) rfl]; rfl
theorem pBig_u (c : UInt8) : pBig c.toNat = isBig c := by
  unfold pBig isBig; rw [← dec_le (n := 65) (m := 65) rfl, ← dec_ge (n := 90) (m := 90) rfl]; rfl
theorem pDigit_u (c : UInt8) : pDigit c.toNat = isDigit c := by
  unfold pDigit isDigit; rw [← dec_le (n := 48) (m := 48) rfl, ← dec_ge (n := 57) (m := 57) rfl]; rfl
theorem pSeen_u (c : UInt8) : pSeen c.toNat = isSeen c := by
  unfold pSeen isSeen; rw [← dec_le (n := 32) (m := 32) rfl, ← dec_ge (n := 126) (m := 126) rfl]; rfl
theorem pWord_u (c : UInt8) : pWord c.toNat = isWordByte c := by
  unfold pWord isWordByte; rw [pSmall_u, pDigit_u]
  have : decide ((c.toNat : Int) = 95) = (c == 95) := by
    show decide ((c.toNat : Int) = ((95 : Nat) : Int)) = _
    rw [dec_eq (n := 95) (m := 95) rfl]; by_cases q : c = 95 <;> simp [q]
  rw [this]
theorem pCode_u (c : UInt8) : pCode c.toNat = isCodeByte c := by unfold pCode isCodeByte; rw [pBig_u, pDigit_u]
theorem pMark_u (c : UInt8) : pMark c.toNat = isMarkByte c := by unfold pMark isMarkByte; rw [pWord_u, pBig_u]

/-- byte_at -/
def bAt (b : By) (p : Nat) : Int := match b[p]? with | some c => (c.toNat : Int) | none => -1
/-- run_end -/
def runE (q : UInt8 → Bool) (b : By) (p : Nat) : Nat := p + ((b.drop p).takeWhile q).length
theorem runE_le (q : UInt8 → Bool) {b : By} {p : Nat} (h : p ≤ b.length) : runE q b p ≤ b.length := by
  unfold runE
  have := tw_len q (b.drop p)
  rw [List.length_drop] at this; omega
theorem runE_ge (q : UInt8 → Bool) (b : By) (p : Nat) : p ≤ runE q b p := Nat.le_add_right _ _
theorem drop_of_get {b : By} {p : Nat} {c : UInt8} (h : b[p]? = some c) : b.drop p = c :: b.drop (p + 1) := by
  obtain ⟨hp, e⟩ := List.getElem?_eq_some_iff.mp h
  rw [List.drop_eq_getElem_cons hp, e]
theorem get_of_drop {b : By} {p : Nat} {c : UInt8} {r : By} (h : b.drop p = c :: r) : b[p]? = some c ∧ r = b.drop (p + 1) := by
  have hp : p < b.length := by
    have := congrArg List.length h
    rw [List.length_drop, List.length_cons] at this; omega
  have e := List.drop_eq_getElem_cons hp
  rw [h] at e
  injection e with e1 e2
  exact ⟨by rw [List.getElem?_eq_getElem hp, e1], e2⟩
theorem runE_step {q : UInt8 → Bool} {b : By} {p : Nat} {c : UInt8} (h : b[p]? = some c) (hq : q c = true) : runE q b p = runE q b (p + 1) := by
  unfold runE
  rw [drop_of_get h, List.takeWhile_cons, if_pos hq, List.length_cons]; omega
theorem runE_stop {q : UInt8 → Bool} {b : By} {p : Nat} {c : UInt8} (h : b[p]? = some c) (hq : q c = false) : runE q b p = p := by
  unfold runE
  rw [drop_of_get h, List.takeWhile_cons, if_neg (by rw [hq]; decide)]; rfl
theorem runE_end {q : UInt8 → Bool} {b : By} {p : Nat} (h : b[p]? = none) : runE q b p = p := by
  unfold runE
  rw [List.drop_eq_nil_of_le (List.getElem?_eq_none_iff.mp h)]; rfl
theorem runE_drop (q : UInt8 → Bool) (b : By) (p : Nat) : b.drop (runE q b p) = (b.drop p).dropWhile q := by
  rw [dw_eq_drop, List.drop_drop]; rfl
end TW
end
section
set_option linter.all false
namespace TW
open EwTree

/-! ### what is left of a token lies behind it -/
theorem items_ok : ∀ (n k p : Nat) (b : By) (x : Bytes × Nat × Bytes), b.length ≤ n → itemsIn k p b = .ok x → p < x.2.1 ∧ x.2.1 ≤ p + b.length ∧ x.2.2 = b.drop (x.2.1 - p) := by
  intro n
  induction n with
  | zero =>
    intro k p b x hb h
    have : b = [] := List.eq_nil_of_length_eq_zero (by omega)
    subst this
    rw [itemsIn] at h; cases h
  | succ n ih =>
    intro k p b x hb h
    cases b with
    | nil => rw [itemsIn] at h; cases h
    | cons c r =>
      have hr : r.length ≤ n := by simp at hb; exact hb
      unfold itemsIn at h
      split at h
      · cases h
        refine ⟨Nat.lt_succ_self _, by simp, ?_⟩
        show r = (c :: r).drop (p + 1 - p)
        rw [Nat.add_sub_cancel_left]; rfl
      split at h
      · cases h
      split at h
      · cases h
      have two : ∀ (a d : UInt8) (s : By), r = d :: s → ((itemsIn (k + 1) (p + 2) s).map fun (x : Bytes × Nat × Bytes) => (a :: x.1, x.2)) = .ok x → p < x.2.1 ∧ x.2.1 ≤ p + (c :: r).length ∧ x.2.2 = (c :: r).drop (x.2.1 - p) := by
        intro a d s e h
        cases q : itemsIn (k + 1) (p + 2) s with
        | error z => rw [q] at h; cases h
        | ok y =>
          rw [q] at h
          have h : (a :: y.1, y.2) = x := by injection h
          obtain ⟨i1, i2, i3⟩ := ih (k + 1) (p + 2) s y (by rw [e] at hr; simp at hr; omega) q
          subst h
          dsimp only
          refine ⟨by omega, by rw [e]; simp; omega, ?_⟩
          rw [i3, e]
          obtain ⟨m, hm⟩ : ∃ m, y.2.1 = p + 2 + m := ⟨y.2.1 - (p + 2), by omega⟩
          rw [hm, show p + 2 + m - (p + 2) = m from by omega, show p + 2 + m - p = m + 2 from by omega]
          rfl
      split at h
      · split at h
        · exact two _ _ _ rfl h
        · exact two _ _ _ rfl h
        · exact two _ _ _ rfl h
        · cases h
      · split at h
        · cases q : itemsIn (k + 1) (p + 1) r with
          | error z => rw [q] at h; cases h
          | ok y =>
            rw [q] at h
            have h : (c :: y.1, y.2) = x := by injection h
            obtain ⟨i1, i2, i3⟩ := ih (k + 1) (p + 1) r y hr q
            subst h
            dsimp only
            refine ⟨by omega, by simp; omega, ?_⟩
            rw [i3]
            obtain ⟨m, hm⟩ : ∃ m, y.2.1 = p + 1 + m := ⟨y.2.1 - (p + 1), by omega⟩
            rw [hm, show p + 1 + m - (p + 1) = m from by omega, show p + 1 + m - p = m + 1 from by omega]
            rfl
        · cases h

theorem pointIn_suf (b : By) : ∃ k, k ≤ b.length ∧ (pointIn b).2 = b.drop k := by
  unfold pointIn
  split
  · rename_i c r
    split
    · refine ⟨1 + ((c :: r).takeWhile isDigit).length, ?_, ?_⟩
      · have := tw_len isDigit (c :: r); simp only [List.length_cons] at this ⊢; omega
      · show (c :: r).dropWhile isDigit = (46 :: c :: r).drop (1 + _)
        rw [dw_eq_drop, Nat.add_comm 1, List.drop_succ_cons]
    · exact ⟨0, Nat.zero_le _, rfl⟩
  · exact ⟨0, Nat.zero_le _, rfl⟩
theorem expoIn_suf (b : By) : ∃ k, k ≤ b.length ∧ (expoIn b).2 = b.drop k := by
  unfold expoIn
  split
  · rename_i c r
    split
    · refine ⟨2 + ((c :: r).takeWhile isDigit).length, ?_, ?_⟩
      · have := tw_len isDigit (c :: r); simp only [List.length_cons] at this ⊢; omega
      · show (c :: r).dropWhile isDigit = (101 :: 45 :: c :: r).drop (2 + _)
        rw [dw_eq_drop, Nat.add_comm 2, List.drop_succ_cons, List.drop_succ_cons]
    · exact ⟨0, Nat.zero_le _, rfl⟩
  · rename_i c r _
    split
    · refine ⟨1 + ((c :: r).takeWhile isDigit).length, ?_, ?_⟩
      · have := tw_len isDigit (c :: r); simp only [List.length_cons] at this ⊢; omega
      · show (c :: r).dropWhile isDigit = (101 :: c :: r).drop (1 + _)
        rw [dw_eq_drop, Nat.add_comm 1, List.drop_succ_cons]
    · exact ⟨0, Nat.zero_le _, rfl⟩
  · exact ⟨0, Nat.zero_le _, rfl⟩
theorem digitsIn_suf (b : By) : ∃ k, k ≤ b.length ∧ (digitsIn b).2 = b.drop k := by
  obtain ⟨k1, h1, e1⟩ := pointIn_suf (b.dropWhile isDigit)
  obtain ⟨k2, h2, e2⟩ := expoIn_suf (pointIn (b.dropWhile isDigit)).2
  have l0 := tw_len isDigit b
  have l3 := tw_len isMarkByte (expoIn (pointIn (b.dropWhile isDigit)).2).2
  refine ⟨(b.takeWhile isDigit).length + k1 + k2 + ((expoIn (pointIn (b.dropWhile isDigit)).2).2.takeWhile isMarkByte).length, ?_, ?_⟩
  · rw [e2, e1] at l3
    rw [e1] at h2
    rw [e2, e1]
    simp only [List.length_drop] at l3 h2 ⊢
    omega
  · show (expoIn (pointIn (b.dropWhile isDigit)).2).2.dropWhile isMarkByte = _
    rw [dw_eq_drop, e2, e1, dw_eq_drop, List.drop_drop, List.drop_drop, List.drop_drop]
    congr 1; omega
theorem suf_eq {b s : By} (h : ∃ k, k ≤ b.length ∧ s = b.drop k) : s = b.drop (b.length - s.length) := by
  obtain ⟨k, hk, rfl⟩ := h
  rw [List.length_drop]; congr 1; omega

theorem tok_ok {p : Nat} {b : By} {t : Tok} {s : By} (h : tokenIn p b = .ok (t, s)) : t.place = p ∧ p < t.halt_ ∧ t.halt_ ≤ p + b.length ∧ s = b.drop (t.halt_ - p) := by
  unfold tokenIn at h
  cases b with
  | nil => cases h
  | cons c r =>
    dsimp only at h
    split at h
    · rename_i hs
      have hw : isWordByte c = true := by unfold isWordByte; rw [hs]; rfl
      have hl : 0 < ((c :: r).takeWhile isWordByte).length := by rw [List.takeWhile_cons, if_pos hw]; simp
      have hle : ((c :: r).takeWhile isWordByte).length ≤ (c :: r).length := by have := tw_len isWordByte (c :: r); omega
      split at h
      · cases h; exact ⟨rfl, Nat.lt_add_of_pos_right hl, Nat.add_le_add_left hle _, by dsimp only; rw [Nat.add_sub_cancel_left]⟩
      · split at h
        · cases h; exact ⟨rfl, Nat.lt_add_of_pos_right hl, Nat.add_le_add_left hle _, by dsimp only; rw [Nat.add_sub_cancel_left]⟩
        · cases h
    split at h
    · rename_i hs
      have hw : isCodeByte c = true := by unfold isCodeByte; rw [hs]; rfl
      have hl : 0 < ((c :: r).takeWhile isCodeByte).length := by rw [List.takeWhile_cons, if_pos hw]; simp
      have hle : ((c :: r).takeWhile isCodeByte).length ≤ (c :: r).length := by have := tw_len isCodeByte (c :: r); omega
      split at h
      · cases h; exact ⟨rfl, Nat.lt_add_of_pos_right hl, Nat.add_le_add_left hle _, by dsimp only; rw [Nat.add_sub_cancel_left]⟩
      · cases h
    split at h
    · split at h
      · rename_i hn
        cases h
        have hl : 0 < ((c :: r).take ((c :: r).length - (digitsIn (c :: r)).2.length)).length := by
          cases e : (c :: r).take ((c :: r).length - (digitsIn (c :: r)).2.length) with
          | nil => rw [e] at hn; cases hn
          | cons _ _ => simp
        refine ⟨rfl, Nat.lt_add_of_pos_right hl, Nat.add_le_add_left (List.length_take_le' _ _) _, ?_⟩
        dsimp only
        rw [Nat.add_sub_cancel_left, List.length_take, Nat.min_eq_left (Nat.sub_le _ _)]
        exact suf_eq (digitsIn_suf _)
      · cases h
    split at h
    · split at h
      · cases h
      · rename_i x hx
        cases h
        obtain ⟨i1, i2, i3⟩ := items_ok _ 0 (p + 1) r x (Nat.le_refl _) hx
        refine ⟨rfl, by dsimp only; omega, by dsimp only; rw [List.length_cons]; omega, ?_⟩
        dsimp only
        rw [i3]
        obtain ⟨m, hm⟩ : ∃ m, x.2.1 = p + 1 + m := ⟨x.2.1 - (p + 1), by omega⟩
        rw [hm, show p + 1 + m - (p + 1) = m from by omega, show p + 1 + m - p = m + 1 from by omega]
        rfl
    · split at h
      · rename_i z hz
        cases h
        have hp := List.find?_some hz
        have hm := List.mem_of_find?_eq_some hz
        have hl : 0 < z.length := by
          have : ∀ y ∈ SIGNS, 0 < y.length := by decide
          exact this z hm
        have hle : z.length ≤ (c :: r).length := by
          have := List.IsPrefix.length_le (List.isPrefixOf_iff_prefix.mp hp)
          exact this
        exact ⟨rfl, Nat.lt_add_of_pos_right hl, Nat.add_le_add_left hle _, by dsimp only; rw [Nat.add_sub_cancel_left]⟩
      · cases h

/-! ### the row of tokens, without fuel -/
def Tn (p : Nat) (b : By) : List Tok × Option Fault := tokensIn (b.length + 1) p b

theorem fuel_any : ∀ (n : Nat) (b : By), b.length ≤ n → ∀ (f g p : Nat), b.length < f → b.length < g → tokensIn f p b = tokensIn g p b := by
  intro n
  induction n with
  | zero =>
    intro b hb f g p hf hg
    have : b = [] := List.eq_nil_of_length_eq_zero (by omega)
    subst this
    cases f <;> cases g <;> simp_all [tokensIn]
  | succ n ih =>
    intro b hb f g p hf hg
    cases b with
    | nil => cases f <;> cases g <;> simp_all [tokensIn]
    | cons c r =>
      cases f with
      | zero => simp at hf
      | succ f =>
        cases g with
        | zero => simp at hg
        | succ g =>
          simp only [List.length_cons] at hb hf hg
          have hr : r.length ≤ n := by omega
          simp only [tokensIn]
          split
          · exact ih r hr f g _ (by omega) (by omega)
          · split
            · split
              · rfl
              · exact ih _ (by rw [List.length_drop]; omega) f g _ (by rw [List.length_drop]; omega) (by rw [List.length_drop]; omega)
            · cases e : tokenIn p (c :: r) with
              | error z => rfl
              | ok x =>
                obtain ⟨t, s⟩ := x
                obtain ⟨h1, h2, h3, h4⟩ := tok_ok e
                have hs : s.length ≤ r.length := by rw [h4, List.length_drop, List.length_cons]; omega
                dsimp only
                rw [ih s (by omega) f g _ (by omega) (by omega)]
theorem Tn_fuel {f p : Nat} {b : By} (h : b.length < f) : tokensIn f p b = Tn p b := fuel_any b.length b (Nat.le_refl _) f _ p h (Nat.lt_succ_self _)
theorem tokens_Tn (b : By) : tokens b = Tn 0 b := rfl
theorem Tn_nil (p : Nat) : Tn p [] = ([], none) := rfl
theorem Tn_blank {p : Nat} {c : UInt8} {r : By} (h : isBlank c = true) : Tn p (c :: r) = Tn (p + 1) r := by
  unfold Tn
  simp only [List.length_cons, tokensIn]
  rw [if_pos h]
theorem Tn_tok {p : Nat} {c : UInt8} {r : By} (h : isBlank c = false) (h35 : c ≠ 35) :
    Tn p (c :: r) = (match tokenIn p (c :: r) with | .error e => ([], some e) | .ok (t, s) => (t :: (Tn t.halt_ s).1, (Tn t.halt_ s).2)) := by
  unfold Tn
  simp only [List.length_cons, tokensIn]
  rw [if_neg (by rw [h]; decide), if_neg h35]
  cases e : tokenIn p (c :: r) with
  | error z => rfl
  | ok x =>
    obtain ⟨t, s⟩ := x
    obtain ⟨h1, h2, h3, h4⟩ := tok_ok e
    have hs : s.length ≤ r.length := by rw [h4, List.length_drop, List.length_cons]; omega
    dsimp only
    rw [Tn_fuel (by omega : s.length < r.length + 1)]
    rfl
/-- a byte that begins no token -/
theorem bad_byte {p : Nat} {c : UInt8} {r : By} (h : isSeen c = false) : tokenIn p (c :: r) = .error (1, p) := by
  have hn : ¬ (32 ≤ c.toNat ∧ c.toNat ≤ 126) := by
    intro z
    unfold isSeen at h
    rw [decide_eq_true (show (32 : UInt8) ≤ c from u_le.mpr z.1), decide_eq_true (show c ≤ (126 : UInt8) from u_le.mpr z.2)] at h
    cases h
  have b1 : ∀ (a m : UInt8), 32 ≤ a.toNat → m.toNat ≤ 126 → (decide (a ≤ c) && decide (c ≤ m)) = false := by
    intro a m ha hm
    by_cases z : a ≤ c
    · by_cases y : c ≤ m
      · have := u_le.mp z; have := u_le.mp y; exact absurd ⟨by omega, by omega⟩ hn
      · rw [decide_eq_false y, Bool.and_false]
    · rw [decide_eq_false z]; rfl
  have ne : ∀ (d : UInt8), 32 ≤ d.toNat → d.toNat ≤ 126 → c ≠ d := fun d h1 h2 e => hn (by rw [e]; exact ⟨h1, h2⟩)
  unfold tokenIn
  dsimp only
  rw [if_neg (by unfold isSmall; rw [b1 97 122 (by decide) (by decide)]; decide), if_neg (by unfold isBig; rw [b1 65 90 (by decide) (by decide)]; decide),
    if_neg (by unfold isDigit; rw [b1 48 57 (by decide) (by decide)]; decide), if_neg (ne 34 (by decide) (by decide))]
  have hf : (SIGNS.find? fun (s : Bytes) => s.isPrefixOf (c :: r)) = none := by
    rw [List.find?_eq_none]
    intro s hs hp
    have hh : ∀ y ∈ SIGNS, ∃ d z, y = d :: z ∧ 32 ≤ d.toNat ∧ d.toNat ≤ 126 := by
      have q : SIGNS.all (fun y => match y with | [] => false | d :: z => decide (32 ≤ d.toNat) && decide (d.toNat ≤ 126)) = true := by decide
      intro y hy
      have := List.all_eq_true.mp q y hy
      cases y with
      | nil => cases this
      | cons d z => simp only [Bool.and_eq_true, decide_eq_true_eq] at this; exact ⟨d, z, rfl, this.1, this.2⟩
    obtain ⟨d, z, rfl, h1, h2⟩ := hh s hs
    have := List.isPrefixOf_iff_prefix.mp hp
    have e : d = c := by
      obtain ⟨t, ht⟩ := this
      injection ht
    exact ne d h1 h2 e.symm
  rw [hf]
theorem Tn_hash {p : Nat} {r : By} : Tn p (35 :: r) = Tn (p + ((35 :: r).takeWhile isSeen).length) ((35 :: r).drop ((35 :: r).takeWhile isSeen).length) := by
  have e35 : isSeen 35 = true := by decide
  rw [List.takeWhile_cons, if_pos e35, List.length_cons, List.drop_succ_cons]
  have key : ∀ (r : By), (match (r.takeWhile fun (x : UInt8) => x != 10).findIdx? fun (x : UInt8) => !isSeen x with
      | some i => i = (r.takeWhile isSeen).length ∧ ∃ c z, r.drop i = c :: z ∧ isSeen c = false ∧ c ≠ 10
      | none => r.takeWhile isSeen = r.takeWhile fun (x : UInt8) => x != 10) := by
    intro r
    induction r with
    | nil => simp
    | cons c r ih =>
      by_cases h10 : c = 10
      · subst h10
        simp [List.takeWhile_cons, show isSeen 10 = false from by decide]
      · have hb : (c != 10) = true := by simp [h10]
        rw [List.takeWhile_cons, if_pos hb, List.findIdx?_cons]
        cases hs : isSeen c with
        | false =>
          simp only [Bool.not_false, if_true]
          rw [List.takeWhile_cons, if_neg (by rw [hs]; decide)]
          exact ⟨rfl, c, r, rfl, hs, h10⟩
        | true =>
          simp only [Bool.not_true, Bool.false_eq_true, if_false]
          rw [List.takeWhile_cons, if_pos hs]
          cases hf : (r.takeWhile fun (x : UInt8) => x != 10).findIdx? fun (x : UInt8) => !isSeen x with
          | none =>
            rw [hf] at ih
            simp only [Option.map_none]
            rw [show r.takeWhile isSeen = _ from ih]
          | some i =>
            rw [hf] at ih
            simp only [Option.map_some]
            obtain ⟨h1, h2⟩ := ih
            exact ⟨by rw [h1]; rfl, h2⟩
  have hk := key r
  have hL : Tn p (35 :: r) = (match (r.takeWhile fun (x : UInt8) => x != 10).findIdx? fun (x : UInt8) => !isSeen x with
        | some i => ([], some (1, p + 1 + i))
        | none => tokensIn (r.length + 1) (p + 1 + (r.takeWhile fun (x : UInt8) => x != 10).length) (r.drop (r.takeWhile fun (x : UInt8) => x != 10).length)) := by
    show tokensIn ((35 :: r).length + 1) p (35 :: r) = _
    simp only [List.length_cons, tokensIn]
    rw [if_neg (by decide), if_pos True.intro]
    rfl
  rw [hL]
  cases hf : (r.takeWhile fun (x : UInt8) => x != 10).findIdx? fun (x : UInt8) => !isSeen x with
  | none =>
    rw [hf] at hk
    have hk : r.takeWhile isSeen = r.takeWhile fun (x : UInt8) => x != 10 := hk
    dsimp only
    rw [Tn_fuel (by rw [List.length_drop]; omega), hk]
    congr 1; omega
  | some i =>
    rw [hf] at hk
    obtain ⟨h1, c, z, h2, h3, h4⟩ := hk
    dsimp only
    rw [← h1, h2]
    have hb : isBlank c = false := by
      unfold isBlank
      have e1 : c ≠ 32 := fun e => by rw [e] at h3; exact absurd h3 (by decide)
      have e2 : c ≠ 59 := fun e => by rw [e] at h3; exact absurd h3 (by decide)
      simp [e1, e2, h4]
    have h35 : c ≠ 35 := fun e => by rw [e] at h3; exact absurd h3 (by decide)
    rw [Tn_tok hb h35, bad_byte h3]
    dsimp only
    rw [show p + (i + 1) = p + 1 + i from by omega]
end TW
end
section
set_option linter.all false
namespace TW
open EwTree

/-! ### numbers -/
theorem point_some {c : UInt8} {r : By} (h : isDigit c = true) : pointIn (46 :: c :: r) = (some ((c :: r).takeWhile isDigit), (c :: r).dropWhile isDigit) := by
  simp [pointIn, h]
theorem point_none {x : By} (h : ∀ c r, x = 46 :: c :: r → isDigit c = false) : pointIn x = (none, x) := by
  unfold pointIn
  split
  · rename_i c r
    rw [if_neg (by rw [h c r rfl]; decide)]
  · rfl
theorem expo_neg {c : UInt8} {r : By} (h : isDigit c = true) : expoIn (101 :: 45 :: c :: r) = (some (true, (c :: r).takeWhile isDigit), (c :: r).dropWhile isDigit) := by
  simp [expoIn, h]
theorem expo_pos {c : UInt8} {r : By} (h : isDigit c = true) : expoIn (101 :: c :: r) = (some (false, (c :: r).takeWhile isDigit), (c :: r).dropWhile isDigit) := by
  have hc : c ≠ 45 := fun e => by rw [e] at h; exact absurd h (by decide)
  unfold expoIn
  split
  · rename_i heq
    injection heq with _ h2
    injection h2 with h3 _
    exact absurd h3 hc
  · rename_i heq
    injection heq with _ h2
    injection h2 with h3 h4
    subst h3; subst h4
    rw [if_pos h]
  · rename_i h1 h2
    exact absurd rfl (h2 c r)
theorem expo_none {x : By} (h1 : ∀ c r, x = 101 :: 45 :: c :: r → isDigit c = false) (h2 : ∀ c r, x = 101 :: c :: r → isDigit c = false) : expoIn x = (none, x) := by
  unfold expoIn
  split
  · rename_i c r
    rw [if_neg (by rw [h1 c r rfl]; decide)]
  · rename_i c r _
    rw [if_neg (by rw [h2 c r rfl]; decide)]
  · rfl
theorem take_pre {x : By} {m : Nat} {l s : By} (h : x.take m = l ++ s) : ∃ s', x = l ++ s' := by
  have := List.take_append_drop m x
  rw [h, List.append_assoc] at this
  exact ⟨_, this.symm⟩
theorem point_take (x : By) (m : Nat) (h : x.length - (pointIn x).2.length ≤ m) :
    pointIn (x.take m) = ((pointIn x).1, (pointIn x).2.take (m - (x.length - (pointIn x).2.length))) := by
  by_cases q : ∃ c r, x = 46 :: c :: r ∧ isDigit c = true
  · obtain ⟨c, r, rfl, hc⟩ := q
    rw [point_some hc] at h ⊢
    dsimp only at h ⊢
    have l := tw_len isDigit (c :: r)
    have l1 : 1 ≤ ((c :: r).takeWhile isDigit).length := by rw [List.takeWhile_cons, if_pos hc]; simp
    simp only [List.length_cons] at h l ⊢
    obtain ⟨n, rfl⟩ : ∃ n, m = n + 2 := ⟨m - 2, by omega⟩
    show pointIn (46 :: c :: r.take n) = _
    rw [point_some hc]
    have e1 : c :: r.take n = (c :: r).take (n + 1) := rfl
    rw [e1, tw_take _ _ _ (by omega), dw_take _ _ _ (by omega)]
    congr 2; omega
  · have ex : pointIn x = (none, x) := point_none fun c r e => by
      cases z : isDigit c with
      | false => rfl
      | true => exact absurd ⟨c, r, e, z⟩ q
    have et : pointIn (x.take m) = (none, x.take m) := point_none fun c r e => by
      cases z : isDigit c with
      | false => rfl
      | true =>
        obtain ⟨s', es⟩ := take_pre (l := [46, c]) (s := r) (by rw [e]; rfl)
        exact absurd ⟨c, s', es, z⟩ q
    rw [et, ex]
    dsimp only
    rw [Nat.sub_self, Nat.sub_zero]
theorem expo_take (x : By) (m : Nat) (h : x.length - (expoIn x).2.length ≤ m) :
    expoIn (x.take m) = ((expoIn x).1, (expoIn x).2.take (m - (x.length - (expoIn x).2.length))) := by
  by_cases q1 : ∃ c r, x = 101 :: 45 :: c :: r ∧ isDigit c = true
  · obtain ⟨c, r, rfl, hc⟩ := q1
    rw [expo_neg hc] at h ⊢
    dsimp only at h ⊢
    have l := tw_len isDigit (c :: r)
    have l1 : 1 ≤ ((c :: r).takeWhile isDigit).length := by rw [List.takeWhile_cons, if_pos hc]; simp
    simp only [List.length_cons] at h l ⊢
    obtain ⟨n, rfl⟩ : ∃ n, m = n + 3 := ⟨m - 3, by omega⟩
    show expoIn (101 :: 45 :: c :: r.take n) = _
    rw [expo_neg hc]
    have e1 : c :: r.take n = (c :: r).take (n + 1) := rfl
    rw [e1, tw_take _ _ _ (by omega), dw_take _ _ _ (by omega)]
    congr 2; omega
  by_cases q2 : ∃ c r, x = 101 :: c :: r ∧ isDigit c = true
  · obtain ⟨c, r, rfl, hc⟩ := q2
    rw [expo_pos hc] at h ⊢
    dsimp only at h ⊢
    have l := tw_len isDigit (c :: r)
    have l1 : 1 ≤ ((c :: r).takeWhile isDigit).length := by rw [List.takeWhile_cons, if_pos hc]; simp
    simp only [List.length_cons] at h l ⊢
    obtain ⟨n, rfl⟩ : ∃ n, m = n + 2 := ⟨m - 2, by omega⟩
    show expoIn (101 :: c :: r.take n) = _
    rw [expo_pos hc]
    have e1 : c :: r.take n = (c :: r).take (n + 1) := rfl
    rw [e1, tw_take _ _ _ (by omega), dw_take _ _ _ (by omega)]
    congr 2; omega
  · have ex : expoIn x = (none, x) := expo_none (fun c r e => by
      cases z : isDigit c with
      | false => rfl
      | true => exact absurd ⟨c, r, e, z⟩ q1) (fun c r e => by
      cases z : isDigit c with
      | false => rfl
      | true => exact absurd ⟨c, r, e, z⟩ q2)
    have et : expoIn (x.take m) = (none, x.take m) := expo_none (fun c r e => by
      cases z : isDigit c with
      | false => rfl
      | true =>
        obtain ⟨s', es⟩ := take_pre (l := [101, 45, c]) (s := r) (by rw [e]; rfl)
        exact absurd ⟨c, s', es, z⟩ q1) (fun c r e => by
      cases z : isDigit c with
      | false => rfl
      | true =>
        obtain ⟨s', es⟩ := take_pre (l := [101, c]) (s := r) (by rw [e]; rfl)
        exact absurd ⟨c, s', es, z⟩ q2)
    rw [et, ex]
    dsimp only
    rw [Nat.sub_self, Nat.sub_zero]
theorem digits_take (b : By) : digitsIn (b.take (b.length - (digitsIn b).2.length)) = ((digitsIn b).1, []) := by
  obtain ⟨k1, h1, e1⟩ := pointIn_suf (b.dropWhile isDigit)
  obtain ⟨k2, h2, e2⟩ := expoIn_suf (pointIn (b.dropWhile isDigit)).2
  have l0 := tw_len isDigit b
  have l3 := tw_len isMarkByte (expoIn (pointIn (b.dropWhile isDigit)).2).2
  have lr : (digitsIn b).2 = (expoIn (pointIn (b.dropWhile isDigit)).2).2.dropWhile isMarkByte := rfl
  have lp : (pointIn (b.dropWhile isDigit)).2.length ≤ (b.dropWhile isDigit).length := by rw [e1, List.length_drop]; omega
  have le : (expoIn (pointIn (b.dropWhile isDigit)).2).2.length ≤ (pointIn (b.dropWhile isDigit)).2.length := by rw [e2, List.length_drop]; omega
  generalize hn : b.length - (digitsIn b).2.length = n
  rw [lr] at hn
  have a1 := tw_take isDigit b n (by omega)
  have a2 := dw_take isDigit b n (by omega)
  have a3 := point_take (b.dropWhile isDigit) (n - (b.takeWhile isDigit).length) (by omega)
  generalize hm : n - (b.takeWhile isDigit).length - ((b.dropWhile isDigit).length - (pointIn (b.dropWhile isDigit)).2.length) = m at a3
  have a4 := expo_take (pointIn (b.dropWhile isDigit)).2 m (by omega)
  generalize hm' : m - ((pointIn (b.dropWhile isDigit)).2.length - (expoIn (pointIn (b.dropWhile isDigit)).2).2.length) = m' at a4
  have a5 := tw_take isMarkByte (expoIn (pointIn (b.dropWhile isDigit)).2).2 m' (by omega)
  have a6 := dw_take isMarkByte (expoIn (pointIn (b.dropWhile isDigit)).2).2 m' (by omega)
  unfold digitsIn
  dsimp only
  rw [a1, a2, a3]
  dsimp only
  rw [a4]
  dsimp only
  rw [a5, a6, show m' - ((expoIn (pointIn (b.dropWhile isDigit)).2).2.takeWhile isMarkByte).length = 0 from by omega, List.take_zero]
theorem isNumber_take {c : UInt8} {r : By} (hc : isDigit c = true) : isNumber ((c :: r).take ((c :: r).length - (digitsIn (c :: r)).2.length)) =
    (decide ((c :: r).length - (digitsIn (c :: r)).2.length ≤ 255) && (digitsIn (c :: r)).1.right) := by
  have hs : (digitsIn (c :: r)).2.length ≤ r.length := by
    have l0 := tw_len isDigit (c :: r)
    rw [List.takeWhile_cons, if_pos hc, List.length_cons] at l0
    obtain ⟨k1, h1, e1⟩ := pointIn_suf ((c :: r).dropWhile isDigit)
    obtain ⟨k2, h2, e2⟩ := expoIn_suf (pointIn ((c :: r).dropWhile isDigit)).2
    have l3 := tw_len isMarkByte (expoIn (pointIn ((c :: r).dropWhile isDigit)).2).2
    show ((expoIn (pointIn ((c :: r).dropWhile isDigit)).2).2.dropWhile isMarkByte).length ≤ _
    rw [e2, e1] at l3 ⊢
    simp only [List.length_drop, List.length_cons] at l3 l0 ⊢
    omega
  unfold isNumber
  rw [digits_take]
  have hh : ((c :: r).take ((c :: r).length - (digitsIn (c :: r)).2.length)).head?.any isDigit = true := by
    obtain ⟨n, hn⟩ : ∃ n, (c :: r).length - (digitsIn (c :: r)).2.length = n + 1 := ⟨r.length - (digitsIn (c :: r)).2.length, by rw [List.length_cons]; omega⟩
    rw [hn]; simp [hc]
  rw [hh]
  simp only [List.isEmpty_nil, Bool.true_and, List.length_take, Nat.min_eq_left (Nat.sub_le _ _)]
  rfl

/-! the program's way -/
def endFrac (b : By) (q : Nat) : Nat := if bAt b q = 46 ∧ pDigit (bAt b (q + 1)) = true then runE isDigit b (q + 1) else q
def expDig (b : By) (q : Nat) : Nat := if bAt b (q + 1) = 45 then q + 2 else q + 1
def endExp (b : By) (q : Nat) : Nat := if bAt b q = 101 then (if pDigit (bAt b (expDig b q)) = true then runE isDigit b (expDig b q) else q) else q
def cut (b : By) (i j : Nat) : By := (b.drop i).take (j - i)
theorem bAt_some {b : By} {q : Nat} {c : UInt8} (h : b[q]? = some c) : bAt b q = c.toNat := by unfold bAt; rw [h]
theorem bAt_none {b : By} {q : Nat} (h : b[q]? = none) : bAt b q = -1 := by unfold bAt; rw [h]
theorem bAt_eq {b : By} {q n : Nat} {m : UInt8} (hm : m.toNat = n) : bAt b q = (n : Int) ↔ b[q]? = some m := by
  cases h : b[q]? with
  | none => rw [bAt_none h]; exact ⟨fun z => by omega, fun z => by cases z⟩
  | some c =>
    rw [bAt_some h]
    constructor
    · intro z; rw [show c = m from u_eq.mpr (by omega)]
    · intro z; cases z; omega
theorem bAt_digit {b : By} {q : Nat} : pDigit (bAt b q) = true ↔ ∃ c, b[q]? = some c ∧ isDigit c = true := by
  cases h : b[q]? with
  | none => rw [bAt_none h]; exact ⟨fun z => by exact absurd z (by decide), fun ⟨c, e, _⟩ => by cases e⟩
  | some c =>
    rw [bAt_some h, pDigit_u]
    exact ⟨fun z => ⟨c, rfl, z⟩, fun ⟨d, e, z⟩ => by cases e; exact z⟩
theorem cut_run (q : UInt8 → Bool) (b : By) (p : Nat) : cut b p (runE q b p) = (b.drop p).takeWhile q := by
  unfold cut runE
  rw [Nat.add_sub_cancel_left, ← tw_eq_take]
theorem frac_ok (b : By) (q : Nat) : (pointIn (b.drop q)).2 = b.drop (endFrac b q) ∧ ((pointIn (b.drop q)).1 = none ↔ endFrac b q = q) ∧ q ≤ endFrac b q ∧ (q ≤ b.length → endFrac b q ≤ b.length) := by
  unfold endFrac
  by_cases h : bAt b q = 46 ∧ pDigit (bAt b (q + 1)) = true
  · rw [if_pos h]
    obtain ⟨c, e2, hc⟩ := bAt_digit.mp h.2
    have e1 := (bAt_eq (m := 46) (n := 46) rfl).mp h.1
    have d1 := drop_of_get e1
    have d2 := drop_of_get e2
    rw [d1, d2, point_some hc]
    dsimp only
    have hlt : q + 1 < b.length := (List.getElem?_eq_some_iff.mp e2).1
    refine ⟨by rw [runE_drop, d2], ⟨(fun z => by cases z), fun z => ?_⟩, (by have := runE_ge isDigit b (q + 1); omega), fun _ => runE_le _ (by omega)⟩
    have := runE_ge isDigit b (q + 1); omega
  · rw [if_neg h, point_none fun c r e => by
      cases z : isDigit c with
      | false => rfl
      | true =>
        obtain ⟨g1, g2⟩ := get_of_drop e
        obtain ⟨g3, g4⟩ := get_of_drop g2.symm
        exact absurd ⟨(bAt_eq (m := 46) (n := 46) rfl).mpr g1, bAt_digit.mpr ⟨c, g3, z⟩⟩ h]
    exact ⟨rfl, ⟨fun _ => rfl, fun _ => rfl⟩, Nat.le_refl _, fun z => z⟩
/-- what an exponent's bytes are -/
def expBytes : Option (Bool × By) → By
  | none => []
  | some (true, d) => 101 :: 45 :: d
  | some (false, d) => 101 :: d
theorem exp_ok (b : By) (q : Nat) : (expoIn (b.drop q)).2 = b.drop (endExp b q) ∧ cut b q (endExp b q) = expBytes (expoIn (b.drop q)).1 ∧ q ≤ endExp b q ∧ (q ≤ b.length → endExp b q ≤ b.length) ∧
    (∀ x, (expoIn (b.drop q)).1 = some x → ∃ c d, x.2 = c :: d ∧ isDigit c = true) := by
  have none_case : endExp b q = q → expoIn (b.drop q) = (none, b.drop q) → (expoIn (b.drop q)).2 = b.drop (endExp b q) ∧ cut b q (endExp b q) = expBytes (expoIn (b.drop q)).1 ∧ q ≤ endExp b q ∧ (q ≤ b.length → endExp b q ≤ b.length) ∧
      (∀ x, (expoIn (b.drop q)).1 = some x → ∃ c d, x.2 = c :: d ∧ isDigit c = true) := fun h1 h2 => by
    rw [h1, h2]
    refine ⟨rfl, ?_, Nat.le_refl _, fun z => z, fun x e => by cases e⟩
    unfold cut; rw [Nat.sub_self, List.take_zero]; rfl
  by_cases h : bAt b q = 101
  · have e1 := (bAt_eq (m := 101) (n := 101) rfl).mp h
    have d1 := drop_of_get e1
    by_cases hm : bAt b (q + 1) = 45
    · have e2 := (bAt_eq (m := 45) (n := 45) rfl).mp hm
      have d2 := drop_of_get e2
      have hd : expDig b q = q + 2 := by unfold expDig; rw [if_pos hm]
      by_cases hc : pDigit (bAt b (q + 2)) = true
      · obtain ⟨c, e3, hc'⟩ := bAt_digit.mp hc
        have d3 := drop_of_get e3
        have hE : endExp b q = runE isDigit b (q + 2) := by unfold endExp; rw [if_pos h, hd, if_pos hc]
        have hlt : q + 2 < b.length := (List.getElem?_eq_some_iff.mp e3).1
        have ge := runE_ge isDigit b (q + 2)
        rw [hE, d1, d2, d3, expo_neg hc']
        dsimp only
        refine ⟨by rw [runE_drop, d3], ?_, by omega, fun _ => runE_le _ (by omega), fun x e => ?_⟩
        · unfold cut expBytes
          rw [d1, d2, d3]
          have : runE isDigit b (q + 2) - q = ((c :: b.drop (q + 2 + 1)).takeWhile isDigit).length + 2 := by
            unfold runE; rw [d3]; omega
          rw [this, List.take_succ_cons, List.take_succ_cons, ← tw_eq_take]
        · cases e
          exact ⟨c, _, by dsimp only; rw [List.takeWhile_cons, if_pos hc'], hc'⟩
      · refine none_case (by unfold endExp; rw [if_pos h, hd, if_neg hc]) ?_
        rw [d1, d2]
        refine expo_none (fun c r e => ?_) (fun c r e => ?_)
        · injection e with _ e; injection e with _ e
          cases z : isDigit c with
          | false => rfl
          | true => exact absurd (bAt_digit.mpr ⟨c, (get_of_drop e).1, z⟩) hc
        · injection e with _ e; injection e with e _
          rw [← e]; decide
    · have hd : expDig b q = q + 1 := by unfold expDig; rw [if_neg hm]
      by_cases hc : pDigit (bAt b (q + 1)) = true
      · obtain ⟨c, e3, hc'⟩ := bAt_digit.mp hc
        have d3 := drop_of_get e3
        have hE : endExp b q = runE isDigit b (q + 1) := by unfold endExp; rw [if_pos h, hd, if_pos hc]
        have hlt : q + 1 < b.length := (List.getElem?_eq_some_iff.mp e3).1
        have ge := runE_ge isDigit b (q + 1)
        rw [hE, d1, d3, expo_pos hc']
        dsimp only
        refine ⟨by rw [runE_drop, d3], ?_, by omega, fun _ => runE_le _ (by omega), fun x e => ?_⟩
        · unfold cut expBytes
          rw [d1, d3]
          have : runE isDigit b (q + 1) - q = ((c :: b.drop (q + 1 + 1)).takeWhile isDigit).length + 1 := by
            unfold runE; rw [d3]; omega
          rw [this, List.take_succ_cons, ← tw_eq_take]
        · cases e
          exact ⟨c, _, by dsimp only; rw [List.takeWhile_cons, if_pos hc'], hc'⟩
      · refine none_case (by unfold endExp; rw [if_pos h, hd, if_neg hc]) ?_
        rw [d1]
        refine expo_none (fun c r e => ?_) (fun c r e => ?_)
        · injection e with _ e
          obtain ⟨g1, g2⟩ := get_of_drop e
          exact absurd ((bAt_eq (m := 45) (n := 45) rfl).mpr g1) hm
        · injection e with _ e
          cases z : isDigit c with
          | false => rfl
          | true => exact absurd (bAt_digit.mpr ⟨c, (get_of_drop e).1, z⟩) hc
  · refine none_case (by unfold endExp; rw [if_neg h]) ?_
    refine expo_none (fun c r e => ?_) (fun c r e => ?_)
    · exact absurd ((bAt_eq (m := 101) (n := 101) rfl).mpr (get_of_drop e).1) h
    · exact absurd ((bAt_eq (m := 101) (n := 101) rfl).mpr (get_of_drop e).1) h
def MK : List UInt8 := [109, 120, 100, 115, 104, 105, 112]
def markP (m : By) : Bool := decide (m = []) || (decide (m.length = 1) && (match m with | [] => false | a :: _ => MK.contains a))
def packP (d f e : By) : Bool := (decide (f = []) && decide (e = [])) && decide (d.length ≤ 31)
def isNeg (e : By) : Bool := decide (bAt e 1 = 45)
def expDs (e : By) : By := if isNeg e = true then e.drop 2 else e.drop 1
def expP (e : By) : Bool := if bAt (expDs e) 0 = 48 then decide ((expDs e).length = 1) && !isNeg e else decide ((expDs e).length ≤ 5)
def rightP (d f e m : By) : Bool :=
  if 255 < d.length + f.length + e.length + m.length then false
  else if markP m = false then false
  else if m = [112] then packP d f e
  else if 1 < d.length ∧ bAt d 0 = 48 then false
  else if e = [] then true
  else !decide (m = []) && expP e
theorem markP_ok (m : By) : markP m = MARKS.contains m := by
  have hM : MARKS = [[], [109], [120], [100], [115], [104], [105], [112]] := by decide
  rw [hM]
  unfold markP MK
  match m with
  | [] => rfl
  | [a] =>
    simp only [List.length_cons, List.length_nil, List.contains_cons, List.contains_nil, Bool.or_false]
    have : ∀ x y : UInt8, ([x] == [y]) = (x == y) := fun x y => by
      by_cases h : x = y <;> simp [h]
    simp [this]
  | a :: c :: r => 
    simp
theorem plain_ok {c : UInt8} {d : By} : plain (c :: d) = !(decide (1 < (c :: d).length) && decide (bAt (c :: d) 0 = 48)) := by
  have hb : bAt (c :: d) 0 = c.toNat := rfl
  have e0 : decide (bAt (c :: d) 0 = 48) = decide (c = 48) := by rw [hb]; exact dec_eq (n := 48) (m := 48) rfl
  rw [e0]
  unfold plain
  by_cases h : c = 48
  · subst h
    cases d with
    | nil => rfl
    | cons _ _ => simp
  · simp [h]
theorem expP_ok {neg : Bool} {c : UInt8} {d : By} (hc : isDigit c = true) (mk : By) : expP (expBytes (some (neg, c :: d))) = (plain (c :: d) && (decide ((c :: d).length ≤ 5) && (!(neg && (c :: d) == [48])))) := by
  have n1 : isNeg (expBytes (some (neg, c :: d))) = neg := by
    cases neg with
    | true => rfl
    | false =>
      show decide (bAt (101 :: c :: d) 1 = 45) = false
      have hb : bAt (101 :: c :: d) 1 = c.toNat := rfl
      rw [hb, show decide ((c.toNat : Int) = 45) = decide (c = 45) from dec_eq (n := 45) (m := 45) rfl]
      exact decide_eq_false fun e => by rw [e] at hc; exact absurd hc (by decide)
  have n2 : expDs (expBytes (some (neg, c :: d))) = c :: d := by unfold expDs; rw [n1]; cases neg <;> rfl
  unfold expP
  rw [n1, n2]
  have hb : bAt (c :: d) 0 = c.toNat := rfl
  rw [plain_ok, hb]
  by_cases h : c = 48
  · subst h
    rw [if_pos (by decide)]
    cases d with
    | nil => cases neg <;> rfl
    | cons x y => simp
  · have hn : ¬ ((c.toNat : Int) = 48) := fun e => h (u_eq.mpr (by have : (48 : UInt8).toNat = 48 := rfl; omega))
    rw [if_neg hn, decide_eq_false hn]
    simp [h]
theorem num_ok {b : By} {p : Nat} {c : UInt8} {r : By} (hb : b.drop p = c :: r) (hc : isDigit c = true) :
    (digitsIn (b.drop p)).2 = b.drop (runE isMarkByte b (endExp b (endFrac b (runE isDigit b p)))) ∧ p < runE isDigit b p ∧ runE isDigit b p ≤ endFrac b (runE isDigit b p) ∧
    endFrac b (runE isDigit b p) ≤ endExp b (endFrac b (runE isDigit b p)) ∧ runE isMarkByte b (endExp b (endFrac b (runE isDigit b p))) ≤ b.length ∧
    (b.drop p).length - (digitsIn (b.drop p)).2.length = runE isMarkByte b (endExp b (endFrac b (runE isDigit b p))) - p ∧
    isNumber ((b.drop p).take ((b.drop p).length - (digitsIn (b.drop p)).2.length)) = rightP (cut b p (runE isDigit b p)) (cut b (runE isDigit b p) (endFrac b (runE isDigit b p)))
      (cut b (endFrac b (runE isDigit b p)) (endExp b (endFrac b (runE isDigit b p)))) (cut b (endExp b (endFrac b (runE isDigit b p))) (runE isMarkByte b (endExp b (endFrac b (runE isDigit b p))))) := by
  have hp : p < b.length := by
    have := congrArg List.length hb
    rw [List.length_drop, List.length_cons] at this; omega
  have cf := cut_run isDigit b p
  have r1 := runE_drop isDigit b p
  have g1 : p < runE isDigit b p := by
    unfold runE; rw [hb, List.takeWhile_cons, if_pos hc, List.length_cons]; omega
  have l1 := runE_le isDigit (b := b) (p := p) (by omega)
  generalize hde : runE isDigit b p = de at *
  obtain ⟨f1, f2, f3, f4⟩ := frac_ok b de
  have l2 := f4 l1
  generalize hfe : endFrac b de = fe at *
  obtain ⟨x1, x2, x3, x4, x5⟩ := exp_ok b fe
  have l3 := x4 l2
  generalize hee : endExp b fe = ee at *
  have cm := cut_run isMarkByte b ee
  have r4 := runE_drop isMarkByte b ee
  have g4 := runE_ge isMarkByte b ee
  have l4 := runE_le isMarkByte (b := b) (p := ee) l3
  generalize hme : runE isMarkByte b ee = me at *
  have hD : digitsIn (b.drop p) = (⟨cut b p de, (pointIn (b.drop de)).1, (expoIn (b.drop fe)).1, cut b ee me⟩, b.drop me) := by
    unfold digitsIn
    dsimp only
    rw [cf, ← r1, f1, x1, cm, ← r4]
  have hlen : (b.drop p).length - (digitsIn (b.drop p)).2.length = me - p := by
    rw [hD]; simp only [List.length_drop]; omega
  refine ⟨by rw [hD], g1, f3, x3, l4, hlen, ?_⟩
  have hN := isNumber_take (c := c) (r := r) hc
  rw [← hb] at hN
  rw [hN, hlen, hD]
  have L1 : (cut b p de).length = de - p := by unfold cut; rw [List.length_take, List.length_drop]; omega
  have L2 : (cut b de fe).length = fe - de := by unfold cut; rw [List.length_take, List.length_drop]; omega
  have L3 : (cut b fe ee).length = ee - fe := by unfold cut; rw [List.length_take, List.length_drop]; omega
  have L4 : (cut b ee me).length = me - ee := by unfold cut; rw [List.length_take, List.length_drop]; omega
  have hsum : (cut b p de).length + (cut b de fe).length + (cut b fe ee).length + (cut b ee me).length = me - p := by omega
  have hpt : (pointIn (b.drop de)).1.isNone = decide (cut b de fe = []) := by
    by_cases z : fe = de
    · rw [f2.mpr z]
      rw [decide_eq_true (List.eq_nil_of_length_eq_zero (by omega))]; rfl
    · have : cut b de fe ≠ [] := fun e => by rw [e] at L2; simp at L2; omega
      rw [decide_eq_false this]
      cases e : (pointIn (b.drop de)).1 with
      | none => exact absurd (f2.mp e) z
      | some _ => rfl
  obtain ⟨c1, d1, hcd⟩ : ∃ c1 d1, cut b p de = c1 :: d1 := by
    cases e : cut b p de with
    | nil => rw [e] at L1; simp at L1; omega
    | cons x y => exact ⟨x, y, rfl⟩
  unfold rightP
  rw [hsum]
  by_cases h255 : 255 < me - p
  · rw [if_pos h255, decide_eq_false (by omega)]; rfl
  rw [if_neg h255, decide_eq_true (by omega), Bool.true_and]
  unfold Digits.right
  dsimp only
  rw [← markP_ok]
  cases hmk : markP (cut b ee me) with
  | false => rfl
  | true =>
    rw [if_neg (show ¬ (true = false) by decide), Bool.true_and]
    have hw : word "p" = [112] := by decide
    rw [hw]
    by_cases hpk : cut b ee me = [112]
    · rw [if_pos hpk, if_pos hpk, hpt]
      unfold packP
      have hx : (expoIn (b.drop fe)).1.isNone = decide (cut b fe ee = []) := by
        rw [x2]
        cases e : (expoIn (b.drop fe)).1 with
        | none => rfl
        | some y => obtain ⟨n, z⟩ := y; cases n <;> rfl
      rw [hx, Bool.and_assoc]
    · rw [if_neg hpk, if_neg hpk, hcd, plain_ok]
      by_cases hz : 1 < (c1 :: d1).length ∧ bAt (c1 :: d1) 0 = 48
      · rw [if_pos hz, decide_eq_true hz.1, decide_eq_true hz.2]; rfl
      · have : (decide (1 < (c1 :: d1).length) && decide (bAt (c1 :: d1) 0 = 48)) = false := by
          by_cases z1 : 1 < (c1 :: d1).length
          · rw [decide_eq_true z1, decide_eq_false (fun z2 => hz ⟨z1, z2⟩)]; rfl
          · rw [decide_eq_false z1]; rfl
        rw [if_neg hz, this, Bool.not_false, Bool.true_and, x2]
        cases e : (expoIn (b.drop fe)).1 with
        | none => rfl
        | some y =>
          obtain ⟨neg, ds⟩ := y
          obtain ⟨c2, d2, e2, hc2⟩ := x5 _ e
          dsimp only at e2
          subst e2
          have hne : expBytes (some (neg, c2 :: d2)) ≠ [] := by cases neg <;> exact List.cons_ne_nil _ _
          rw [if_neg hne, expP_ok hc2 []]
          dsimp only
          have hem : (cut b ee me).isEmpty = decide (cut b ee me = []) := by cases cut b ee me <;> rfl
          rw [hem]
          cases plain (c2 :: d2) <;> cases decide ((c2 :: d2).length ≤ 5) <;> cases (neg && (c2 :: d2) == [48]) <;> cases decide (cut b ee me = []) <;> rfl
end TW
end
section
set_option linter.all false
namespace TW
open EwTree
open PySem (Str)

/-! ### texts of bytes -/
def sOf (w : By) : Str := ⟨(w.map UInt8.toNat).toArray⟩
theorem sOf_inj {v w : By} (h : sOf v = sOf w) : v = w := by
  have h1 : (v.map UInt8.toNat) = (w.map UInt8.toNat) := by
    have := congrArg (fun z : Str => z.cps.toList) h
    simpa [sOf] using this
  have : ∀ (v w : By), v.map UInt8.toNat = w.map UInt8.toNat → v = w := by
    intro v
    induction v with
    | nil => intro w e; cases w with
      | nil => rfl
      | cons _ _ => simp at e
    | cons a v ih => intro w e; cases w with
      | nil => simp at e
      | cons b w => simp only [List.map_cons, List.cons.injEq] at e; rw [u_eq.mpr e.1, ih w e.2]
  exact this v w h1
/-- spelled -/
def spelt (w : By) : Str := if w.all isSmall = true then sOf w else Str.empty
def lookOf (t : Tok) : Str :=
  if t.kind = 0 then sOf t.bytes else if t.kind = 1 then "NAME" else if t.kind = 2 then "CODE" else if t.kind = 3 then "NUMBER" else if t.kind = 4 then "TEXT"
  else if t.bytes = [37] then "percent" else sOf t.bytes
def KEYS : List Str := KEYWORDS.map sOf
theorem keys_small : ∀ w ∈ KEYWORDS, w.all isSmall = true ∧ w ≠ [] := by
  have : (KEYWORDS.all fun w => w.all isSmall && !w.isEmpty) = true := by decide +kernel
  intro w hw
  have := List.all_eq_true.mp this w hw
  simp only [Bool.and_eq_true, Bool.not_eq_true'] at this
  exact ⟨this.1, fun e => by rw [e] at this; exact absurd this.2 (by decide)⟩
theorem spelt_key (w : By) : decide (spelt w ∈ KEYS) = isKeyword w := by
  unfold isKeyword
  by_cases h : w ∈ KEYWORDS
  · have hs := (keys_small w h).1
    rw [List.contains_iff_mem.mpr h]
    refine decide_eq_true ?_
    unfold spelt; rw [if_pos hs]
    exact List.mem_map.mpr ⟨w, h, rfl⟩
  · have : KEYWORDS.contains w = false := by
      cases e : KEYWORDS.contains w with
      | false => rfl
      | true => exact absurd (List.contains_iff_mem.mp e) h
    rw [this]
    refine decide_eq_false fun m => ?_
    unfold spelt at m
    split at m
    · obtain ⟨v, hv, e⟩ := List.mem_map.mp m
      exact h (by rw [← sOf_inj e]; exact hv)
    · obtain ⟨v, hv, e⟩ := List.mem_map.mp m
      have : v = [] := sOf_inj (v := v) (w := []) e
      exact (keys_small v hv).2 this

/-! ### tokens that there are -/
def Good (t : Tok) : Prop := (t.kind = 0 ∧ t.bytes ∈ KEYWORDS) ∨ (1 ≤ t.kind ∧ t.kind ≤ 4) ∨ (t.kind = 5 ∧ t.bytes ∈ SIGNS)
theorem tok_good {p : Nat} {b : By} {t : Tok} {s : By} (h : tokenIn p b = .ok (t, s)) : Good t := by
  unfold tokenIn at h
  cases b with
  | nil => cases h
  | cons c r =>
    dsimp only at h
    split at h
    · split at h
      · rename_i hk; cases h; exact .inl ⟨rfl, List.contains_iff_mem.mp hk⟩
      · split at h
        · cases h; exact .inr (.inl ⟨Nat.le_refl _, (by show 1 ≤ 4; decide)⟩)
        · cases h
    split at h
    · split at h
      · cases h; exact .inr (.inl ⟨(by show 1 ≤ 2; decide), (by show 2 ≤ 4; decide)⟩)
      · cases h
    split at h
    · split at h
      · cases h; exact .inr (.inl ⟨(by show 1 ≤ 3; decide), (by show 3 ≤ 4; decide)⟩)
      · cases h
    split at h
    · split at h
      · cases h
      · cases h; exact .inr (.inl ⟨(by show 1 ≤ 4; decide), (by show 4 ≤ 4; decide)⟩)
    · split at h
      · rename_i hz; cases h; exact .inr (.inr ⟨rfl, List.mem_of_find?_eq_some hz⟩)
      · cases h

/-! ### depth -/
def OPENS : List Str := ["(", "[", "{"]
def CLOSES : List Str := [")", "]", "}"]
def RISES : List Str := ["-", "+", "*", "/", "//", "percent", "^", "==", "!=", "<", "<=", ">", ">=", "->", ".", "not", "or", "and", "as", "of", "then", "spawn", "resume", "giving", "picture"]
def CLEARS : List Str := [",", "=", ":", "let", "fn", "record", "account", "use", "return", "raise", "say", "yield", "post", "from", "match", "is", "while", "for", "in", "to", "with", "try", "catch"]
def gcls (x : Str) : Nat := if x ∈ OPENS then 1 else if x ∈ CLOSES then (if x = "}" then 3 else 2) else if x ∈ RISES then 4 else if x ∈ CLEARS then 5 else 0
def stp (c : Nat) (l : List Nat) : List Nat := match c with
  | 1 => 0 :: l
  | 2 => (match l.drop 1 with | [] => [1] | k :: r => (k + 1) :: r)
  | 3 => (match l.drop 1 with | [] => [0] | _ :: r => 0 :: r)
  | 4 => (match l with | [] => [1] | k :: r => (k + 1) :: r)
  | 5 => 0 :: l.drop 1
  | _ => l
def kcls (b : By) : Nat := if ADDWORDS.contains b = true then 4 else if RESETWORDS.contains b = true then 5 else 0
def icls (b : By) : Nat := if b = word "(" ∨ b = word "[" ∨ b = word "{" then 1 else if b = word ")" ∨ b = word "]" then 2 else if b = word "}" then 3 else if ADDING.contains b = true then 4 else if RESETS.contains b = true then 5 else 0
theorem depthStep_0 {l : List Nat} {t : Tok} (h : t.kind = 0) : depthStep l t = stp (kcls t.bytes) l := by
  unfold depthStep kcls
  dsimp only
  rw [h, if_neg (by decide), if_pos rfl]
  by_cases h1 : ADDWORDS.contains t.bytes = true
  · rw [if_pos h1, if_pos h1]; rfl
  · rw [if_neg h1, if_neg h1]
    by_cases h2 : RESETWORDS.contains t.bytes = true
    · rw [if_pos h2, if_pos h2]; rfl
    · rw [if_neg h2, if_neg h2]; rfl
theorem depthStep_5 {l : List Nat} {t : Tok} (h : t.kind = 5) : depthStep l t = stp (icls t.bytes) l := by
  unfold depthStep icls
  dsimp only
  rw [h, if_pos rfl]
  by_cases h1 : t.bytes = word "(" ∨ t.bytes = word "[" ∨ t.bytes = word "{"
  · rw [if_pos h1, if_pos h1]; rfl
  rw [if_neg h1, if_neg h1]
  by_cases h2 : t.bytes = word ")" ∨ t.bytes = word "]"
  · rw [if_pos h2, if_pos h2]; rfl
  rw [if_neg h2, if_neg h2]
  by_cases h3 : t.bytes = word "}"
  · rw [if_pos h3, if_pos h3]; rfl
  rw [if_neg h3, if_neg h3]
  by_cases h4 : ADDING.contains t.bytes = true
  · rw [if_pos h4, if_pos h4]; rfl
  rw [if_neg h4, if_neg h4]
  by_cases h5 : RESETS.contains t.bytes = true
  · rw [if_pos h5, if_pos h5]; rfl
  rw [if_neg h5, if_neg h5]; rfl
theorem kcls_all : ∀ w ∈ KEYWORDS, gcls (sOf w) = kcls w := by
  have : (KEYWORDS.all fun w => decide (gcls (sOf w) = kcls w)) = true := by decide +kernel
  intro w hw
  exact of_decide_eq_true (List.all_eq_true.mp this w hw)
theorem icls_all : ∀ w ∈ SIGNS, gcls (if w = [37] then "percent" else sOf w) = icls w := by
  have : (SIGNS.all fun w => decide (gcls (if w = [37] then "percent" else sOf w) = icls w)) = true := by decide +kernel
  intro w hw
  exact of_decide_eq_true (List.all_eq_true.mp this w hw)
theorem depthStep_ok {l : List Nat} {t : Tok} (g : Good t) : depthStep l t = stp (gcls (lookOf t)) l := by
  rcases g with ⟨h, hb⟩ | ⟨h1, h2⟩ | ⟨h, hb⟩
  · rw [depthStep_0 h, ← kcls_all _ hb]; unfold lookOf; rw [if_pos h]
  · have hd : depthStep l t = l := by
      unfold depthStep; dsimp only
      rw [if_neg (by omega), if_neg (by omega)]
    rw [hd]
    have : gcls (lookOf t) = 0 := by
      unfold lookOf
      rw [if_neg (by omega)]
      have k : t.kind = 1 ∨ t.kind = 2 ∨ t.kind = 3 ∨ t.kind = 4 := by omega
      rcases k with k | k | k | k
      · rw [if_pos k]; decide +kernel
      · rw [if_neg (by omega), if_pos k]; decide +kernel
      · rw [if_neg (by omega), if_neg (by omega), if_pos k]; decide +kernel
      · rw [if_neg (by omega), if_neg (by omega), if_neg (by omega), if_pos k]; decide +kernel
    rw [this]; rfl
  · have e : lookOf t = (if t.bytes = [37] then Str.ofString "percent" else sOf t.bytes) := by
      unfold lookOf
      rw [if_neg (by rw [h]; decide), if_neg (by rw [h]; decide), if_neg (by rw [h]; decide), if_neg (by rw [h]; decide), if_neg (by rw [h]; decide)]
    rw [depthStep_5 h, e, icls_all _ hb]
theorem stp_ne {c : Nat} {l : List Nat} (h : l ≠ []) : stp c l ≠ [] := by
  unfold stp
  split
  · exact List.cons_ne_nil _ _
  · split <;> exact List.cons_ne_nil _ _
  · split <;> exact List.cons_ne_nil _ _
  · split <;> exact List.cons_ne_nil _ _
  · exact List.cons_ne_nil _ _
  · exact h
/-- the depth behind so many tokens: the numbers, the greatest -/
def dRun : List Tok → List Nat × Nat
  | ts => ts.foldl (fun x t => (depthStep x.1 t, max x.2 (depthNow (depthStep x.1 t)))) ([0], 0)
theorem depthFrom_fold : ∀ (ts : List Tok) (l : List Nat) (m : Nat), depthFrom l m ts = (ts.foldl (fun x t => (depthStep x.1 t, max x.2 (depthNow (depthStep x.1 t)))) (l, m)).2
  | [], l, m => rfl
  | t :: r, l, m => by
    rw [depthFrom, List.foldl_cons]
    exact depthFrom_fold r _ _
theorem depth_run (b : By) : depth b = (dRun (tokens b).1).2 := depthFrom_fold _ _ _
theorem dRun_snoc (ts : List Tok) (t : Tok) : dRun (ts ++ [t]) = (depthStep (dRun ts).1 t, max (dRun ts).2 (depthNow (depthStep (dRun ts).1 t))) := by
  unfold dRun; rw [List.foldl_append]; rfl
theorem dRun_ne (ts : List Tok) (g : ∀ t ∈ ts, Good t) : (dRun ts).1 ≠ [] := by
  have : ∀ (ts : List Tok) (x : List Nat × Nat), x.1 ≠ [] → (∀ t ∈ ts, Good t) → (ts.foldl (fun x t => (depthStep x.1 t, max x.2 (depthNow (depthStep x.1 t)))) x).1 ≠ [] := by
    intro ts
    induction ts with
    | nil => intro x h _; exact h
    | cons t ts ih =>
      intro x h g
      rw [List.foldl_cons]
      exact ih _ (by dsimp only; rw [depthStep_ok (g t (by simp))]; exact stp_ne h) fun u hu => g u (by simp [hu])
  exact this ts _ (List.cons_ne_nil _ _) g
theorem good_all : ∀ (n : Nat) (p : Nat) (b : By), b.length ≤ n → ∀ t ∈ (Tn p b).1, Good t := by
  intro n
  induction n with
  | zero =>
    intro p b hb t ht
    have : b = [] := List.eq_nil_of_length_eq_zero (by omega)
    subst this
    rw [Tn_nil] at ht; simp at ht
  | succ n ih =>
    intro p b hb t ht
    cases b with
    | nil => rw [Tn_nil] at ht; simp at ht
    | cons c r =>
      simp only [List.length_cons] at hb
      cases h1 : isBlank c with
      | true => rw [Tn_blank h1] at ht; exact ih _ r (by omega) t ht
      | false =>
        by_cases h2 : c = 35
        · subst h2
          rw [Tn_hash, List.takeWhile_cons, if_pos (by decide), List.length_cons, List.drop_succ_cons] at ht
          exact ih _ _ (by rw [List.length_drop]; omega) t ht
        · rw [Tn_tok h1 h2] at ht
          cases e : tokenIn p (c :: r) with
          | error z => rw [e] at ht; simp at ht
          | ok x =>
            obtain ⟨u, s⟩ := x
            rw [e] at ht
            obtain ⟨q1, q2, q3, q4⟩ := tok_ok e
            rcases List.mem_cons.mp ht with z | z
            · rw [z]; exact tok_good e
            · exact ih _ s (by rw [q4, List.length_drop, List.length_cons]; omega) t z

/-! ### the answer -/
def row3 (t : Tok) : List Int := [(t.kind : Int), (t.place : Int), (t.halt_ : Int)]
def due (b : By) : List Int :=
  if 65536 < b.length then [-1] else if 100 < depth b then [-6] else match tokens b with
    | (_, some e) => [-2, (e.1 : Int), (e.2 : Int)]
    | (l, none) => 0 :: (l.length : Int) :: l.flatMap row3
theorem due_ok (ns : List Int) : PyWrxthh.tokens ns = due (WrxthhNeutral.text ns) := by
  show WrxthhNeutral.told (Wrxthh.answer (.tokens (WrxthhNeutral.text ns))) = _
  unfold due Wrxthh.answer Wrxthh.fits
  generalize WrxthhNeutral.text ns = b
  simp only [List.any_cons, List.any_nil, Bool.or_false, decide_eq_true_eq]
  have hl : Wrxthh.LONG = 65536 := rfl
  have hd : DEEPEST = 100 := rfl
  rw [hl, hd]
  by_cases h1 : 65536 < b.length
  · rw [if_pos h1, if_pos h1]; rfl
  rw [if_neg h1, if_neg h1]
  by_cases h2 : 100 < depth b
  · rw [if_pos h2, if_pos h2]; rfl
  rw [if_neg h2, if_neg h2]
  obtain ⟨l, f⟩ := tokens b
  cases f with
  | some e => rfl
  | none =>
    show (0 : Int) :: ((l.map fun (x : Tok) => (x.kind, x.place, x.halt_)).length : Int) :: ((l.map fun (x : Tok) => (x.kind, x.place, x.halt_)).flatMap fun (x : Nat × Nat × Nat) => WrxthhNeutral.ofNats [x.1, x.2.1, x.2.2]) = _
    rw [List.length_map, List.flatMap_map]
    rfl
theorem u8_int {n : Int} (h : 0 ≤ n ∧ n ≤ 255) : ((UInt8.ofNat n.toNat).toNat : Int) = n := by
  rw [UInt8.toNat_ofNat', Nat.mod_eq_of_lt (by omega)]; omega
theorem text_back : ∀ (ns : List Int), (∀ n ∈ ns, 0 ≤ n ∧ n ≤ 255) → ns = (WrxthhNeutral.text ns).map fun c => (c.toNat : Int)
  | [], _ => rfl
  | n :: ns, h => by
    show n :: ns = ((UInt8.ofNat n.toNat).toNat : Int) :: (WrxthhNeutral.text ns).map _
    rw [u8_int (h n (by simp)), ← text_back ns fun m hm => h m (by simp [hm])]
end TW
end
section
set_option linter.all false
namespace TW
open EwTree
open PySem (Str)

/-! ### each sort of token, by places -/
theorem word_ok {b : By} {p : Nat} {c : UInt8} {r : By} (hb : b.drop p = c :: r) (hc : isSmall c = true) :
    tokenIn p (b.drop p) = (if isKeyword (cut b p (runE isWordByte b p)) = true then .ok (⟨0, p, runE isWordByte b p, cut b p (runE isWordByte b p)⟩, b.drop (runE isWordByte b p))
      else if runE isWordByte b p - p ≤ 31 then .ok (⟨1, p, runE isWordByte b p, cut b p (runE isWordByte b p)⟩, b.drop (runE isWordByte b p)) else .error (1, p)) := by
  have hw := cut_run isWordByte b p
  have hl : ((b.drop p).takeWhile isWordByte).length = runE isWordByte b p - p := by unfold runE; omega
  have hd : (b.drop p).drop (runE isWordByte b p - p) = b.drop (runE isWordByte b p) := by rw [List.drop_drop]; congr 1; have := runE_ge isWordByte b p; omega
  have he : p + (runE isWordByte b p - p) = runE isWordByte b p := by have := runE_ge isWordByte b p; omega
  rw [hw]
  rw [hb] at hl hd ⊢
  unfold tokenIn
  dsimp only
  rw [if_pos hc, hl, hd, he]
  rfl
theorem code_ok {b : By} {p : Nat} {c : UInt8} {r : By} (hb : b.drop p = c :: r) (hs : isSmall c = false) (hc : isBig c = true) :
    tokenIn p (b.drop p) = (if 2 ≤ runE isCodeByte b p - p ∧ runE isCodeByte b p - p ≤ 8 then .ok (⟨2, p, runE isCodeByte b p, cut b p (runE isCodeByte b p)⟩, b.drop (runE isCodeByte b p)) else .error (1, p)) := by
  have hw := cut_run isCodeByte b p
  have hl : ((b.drop p).takeWhile isCodeByte).length = runE isCodeByte b p - p := by unfold runE; omega
  have hd : (b.drop p).drop (runE isCodeByte b p - p) = b.drop (runE isCodeByte b p) := by rw [List.drop_drop]; congr 1; have := runE_ge isCodeByte b p; omega
  have he : p + (runE isCodeByte b p - p) = runE isCodeByte b p := by have := runE_ge isCodeByte b p; omega
  have hk : isCode ((b.drop p).takeWhile isCodeByte) = decide (2 ≤ runE isCodeByte b p - p ∧ runE isCodeByte b p - p ≤ 8) := by
    unfold isCode
    rw [tw_all, hl, hb, List.takeWhile_cons, if_pos (by unfold isCodeByte; rw [hc]; rfl)]
    simp only [List.head?_cons, Option.any_some, hc, Bool.true_and]
    by_cases h1 : 2 ≤ runE isCodeByte b p - p
    · by_cases h2 : runE isCodeByte b p - p ≤ 8 <;> simp [h1, h2]
    · simp [h1]
  rw [hw]
  rw [hb] at hl hd hk ⊢
  unfold tokenIn
  dsimp only
  rw [if_neg (by rw [hs]; decide), if_pos hc, hk, hl, hd, he]
  simp only [decide_eq_true_eq]
theorem number_ok {b : By} {p : Nat} {c : UInt8} {r : By} (hb : b.drop p = c :: r) (hs : isSmall c = false) (hg : isBig c = false) (hc : isDigit c = true) :
    ∃ w, tokenIn p (b.drop p) = (if rightP (cut b p (runE isDigit b p)) (cut b (runE isDigit b p) (endFrac b (runE isDigit b p)))
      (cut b (endFrac b (runE isDigit b p)) (endExp b (endFrac b (runE isDigit b p)))) (cut b (endExp b (endFrac b (runE isDigit b p))) (runE isMarkByte b (endExp b (endFrac b (runE isDigit b p))))) = true
      then .ok (⟨3, p, runE isMarkByte b (endExp b (endFrac b (runE isDigit b p))), w⟩, b.drop (runE isMarkByte b (endExp b (endFrac b (runE isDigit b p))))) else .error (1, p)) := by
  obtain ⟨n1, n2, n3, n4, n5, n6, n7⟩ := num_ok hb hc
  refine ⟨(b.drop p).take ((b.drop p).length - (digitsIn (b.drop p)).2.length), ?_⟩
  rw [← n7]
  have hl : ((b.drop p).take ((b.drop p).length - (digitsIn (b.drop p)).2.length)).length = runE isMarkByte b (endExp b (endFrac b (runE isDigit b p))) - p := by
    rw [List.length_take, Nat.min_eq_left (Nat.sub_le _ _), n6]
  have he : p + (runE isMarkByte b (endExp b (endFrac b (runE isDigit b p))) - p) = runE isMarkByte b (endExp b (endFrac b (runE isDigit b p))) := by
    have := runE_ge isMarkByte b (endExp b (endFrac b (runE isDigit b p))); omega
  rw [← n1]
  have hgoal : tokenIn p (b.drop p) = (if isNumber ((b.drop p).take ((b.drop p).length - (digitsIn (b.drop p)).2.length)) = true then
      .ok (⟨3, p, p + ((b.drop p).take ((b.drop p).length - (digitsIn (b.drop p)).2.length)).length, (b.drop p).take ((b.drop p).length - (digitsIn (b.drop p)).2.length)⟩, (digitsIn (b.drop p)).2) else .error (1, p)) := by
    rw [hb]
    unfold tokenIn
    dsimp only
    rw [if_neg (by rw [hs]; decide), if_neg (by rw [hg]; decide), if_pos hc]
  rw [hgoal, hl, he]
theorem text_ok {b : By} {p : Nat} {r : By} (hb : b.drop p = 34 :: r) :
    tokenIn p (b.drop p) = (match itemsIn 0 (p + 1) (b.drop (p + 1)) with | .error e => .error e | .ok x => .ok (⟨4, p, x.2.1, x.1⟩, x.2.2)) := by
  rw [← (get_of_drop hb).2, hb]
  unfold tokenIn
  dsimp only
  rw [if_neg (by decide), if_neg (by decide), if_neg (by decide), if_pos rfl]
  rfl

/-! items -/
theorem it_unf (k p : Nat) (c : UInt8) (r : By) : itemsIn k p (c :: r) = (if c = 34 then .ok ([], p + 1, r) else if ITEMS ≤ k then .error (1, p) else if c = 92 ∧ r = [] then .error (3, p + 1) else
    if c = 92 then (match r with
      | 34 :: s => (itemsIn (k + 1) (p + 2) s).map fun (x : Bytes × Nat × Bytes) => (34 :: x.1, x.2)
      | 92 :: s => (itemsIn (k + 1) (p + 2) s).map fun (x : Bytes × Nat × Bytes) => (92 :: x.1, x.2)
      | 110 :: s => (itemsIn (k + 1) (p + 2) s).map fun (x : Bytes × Nat × Bytes) => (10 :: x.1, x.2)
      | _ => .error (1, p))
    else if isSeen c = true then (itemsIn (k + 1) (p + 1) r).map fun (x : Bytes × Nat × Bytes) => (c :: x.1, x.2) else .error (1, p)) := by
  conv => lhs; unfold itemsIn
  rfl
def two? (b : By) (p : Nat) : Nat := if bAt b p = 92 then 2 else 1
def itemEnd (b : By) (p : Nat) : Except Fault Nat :=
  if b.length < p + two? b p then .error (3, b.length)
  else if two? b p = 1 ∧ pSeen (bAt b p) = false then .error (1, p)
  else if two? b p = 2 ∧ ¬ (bAt b (p + 1) = 34 ∨ bAt b (p + 1) = 92 ∨ bAt b (p + 1) = 110) then .error (1, p)
  else .ok (p + two? b p)
def E2 (x : Except Fault (Bytes × Nat × Bytes)) : Except Fault (Nat × Bytes) := match x with | .error e => .error e | .ok y => .ok y.2
theorem E2_map (x : Except Fault (Bytes × Nat × Bytes)) (a : UInt8) : E2 (x.map fun (y : Bytes × Nat × Bytes) => (a :: y.1, y.2)) = E2 x := by
  cases x <;> rfl
theorem it_quote {b : By} {k p : Nat} (h : bAt b p = 34) : itemsIn k p (b.drop p) = .ok ([], p + 1, b.drop (p + 1)) := by
  have e := (bAt_eq (m := 34) (n := 34) rfl).mp h
  rw [drop_of_get e, it_unf, if_pos rfl]
theorem it_many {b : By} {k p : Nat} (h : bAt b p ≠ 34) (hk : 1024 ≤ k) (hp : p < b.length) : itemsIn k p (b.drop p) = .error (1, p) := by
  rw [List.drop_eq_getElem_cons hp]
  have hne : b[p] ≠ 34 := fun e => h ((bAt_eq (m := 34) (n := 34) rfl).mpr (by rw [List.getElem?_eq_getElem hp, e]))
  rw [it_unf, if_neg hne, if_pos (show ITEMS ≤ k from hk)]
theorem it_end {b : By} {k p : Nat} (h : bAt b p ≠ 34) (hk : k < 1024 ∨ b.length ≤ p) (hp : p ≤ b.length) :
    E2 (itemsIn k p (b.drop p)) = (match itemEnd b p with | .error e => .error e | .ok q => E2 (itemsIn (k + 1) q (b.drop q))) := by
  by_cases hl : p < b.length
  · have hk' : ¬ ITEMS ≤ k := fun z => by
      rcases hk with q | q
      · exact absurd z (Nat.not_le.mpr q)
      · omega
    have hc : b[p]? = some b[p] := List.getElem?_eq_getElem hl
    have hd := drop_of_get hc
    have hB := bAt_some hc
    generalize b[p] = c at hc hd hB
    have hne : c ≠ 34 := fun e => h (by rw [hB, e]; rfl)
    rw [hd, it_unf, if_neg hne, if_neg hk']
    by_cases h92 : c = 92
    · subst h92
      have t2 : two? b p = 2 := by unfold two?; rw [if_pos (by rw [hB]; rfl)]
      unfold itemEnd
      rw [t2]
      by_cases hn : b.length < p + 2
      · have hr : b.drop (p + 1) = [] := List.drop_eq_nil_of_le (by omega)
        rw [if_pos ⟨rfl, hr⟩, if_pos hn]
        show (Except.error (3, p + 1) : Except Fault (Nat × Bytes)) = .error (3, b.length)
        rw [show p + 1 = b.length from by omega]
      · have hl1 : p + 1 < b.length := by omega
        have hc1 : b[p + 1]? = some b[p + 1] := List.getElem?_eq_getElem hl1
        have hd1 := drop_of_get hc1
        have hB1 := bAt_some hc1
        generalize b[p + 1] = d at hc1 hd1 hB1
        rw [if_neg (show ¬ ((92 : UInt8) = 92 ∧ b.drop (p + 1) = []) from fun z => by rw [hd1] at z; cases z.2), if_neg hn, if_neg (show ¬ (2 = 1 ∧ pSeen (bAt b p) = false) from fun z => absurd z.1 (by decide)), if_pos (show (92 : UInt8) = 92 from rfl), hd1, hB1]
        have hd2 : ∀ m : UInt8, ∀ n : Nat, m.toNat = n → ((d.toNat : Int) = (n : Int) ↔ d = m) := fun m n hm => ⟨fun z => u_eq.mpr (by omega), fun z => by rw [z]; omega⟩
        have q34 := hd2 34 34 rfl
        have q92 := hd2 92 92 rfl
        have q110 := hd2 110 110 rfl
        by_cases e1 : d = 34
        · subst e1
          rw [if_neg (fun z => z.2 (.inl rfl))]
          exact E2_map _ _
        by_cases e2 : d = 92
        · subst e2
          rw [if_neg (fun z => z.2 (.inr (.inl rfl)))]
          exact E2_map _ _
        by_cases e3 : d = 110
        · subst e3
          rw [if_neg (fun z => z.2 (.inr (.inr rfl)))]
          exact E2_map _ _
        rw [if_pos ⟨rfl, fun z => by
          rcases z with z | z | z
          · exact e1 (q34.mp z)
          · exact e2 (q92.mp z)
          · exact e3 (q110.mp z)⟩]
        split
        · rename_i heq; injection heq with z _; exact absurd z e1
        · rename_i heq; injection heq with z _; exact absurd z e2
        · rename_i heq; injection heq with z _; exact absurd z e3
        · rfl
    · have hbn : ¬ bAt b p = 92 := fun z => h92 (u_eq.mpr (by rw [hB] at z; have : (92 : UInt8).toNat = 92 := rfl; omega))
      have t1 : two? b p = 1 := by unfold two?; rw [if_neg hbn]
      unfold itemEnd
      rw [t1, if_neg (show ¬ (c = 92 ∧ b.drop (p + 1) = []) from fun z => h92 z.1), if_neg h92, if_neg (show ¬ b.length < p + 1 by omega), hB, pSeen_u]
      cases hs : isSeen c with
      | true =>
        rw [if_pos rfl, if_neg (show ¬ (1 = 1 ∧ true = false) from fun z => by cases z.2), if_neg (show ¬ (1 = 2 ∧ ¬ (bAt b (p + 1) = 34 ∨ bAt b (p + 1) = 92 ∨ bAt b (p + 1) = 110)) from fun z => absurd z.1 (by decide))]
        exact E2_map _ _
      | false =>
        rw [if_neg (show ¬ (false = true) by decide), if_pos (show 1 = 1 ∧ false = false from ⟨rfl, rfl⟩)]
        rfl
  · have hp' : p = b.length := by omega
    subst hp'
    have hB : bAt b b.length = -1 := bAt_none (List.getElem?_eq_none_iff.mpr (Nat.le_refl _))
    have t1 : two? b b.length = 1 := by unfold two?; rw [hB, if_neg (by decide)]
    unfold itemEnd
    rw [t1, List.drop_length, if_pos (Nat.lt_succ_self _)]
    rfl
theorem itemEnd_ok {b : By} {p q : Nat} (h : itemEnd b p = .ok q) : p < q ∧ q ≤ b.length := by
  unfold itemEnd at h
  split at h
  · cases h
  split at h
  · cases h
  split at h
  · cases h
  · cases h
    rename_i h1 _ _
    have : 1 ≤ two? b p := by unfold two?; split <;> decide
    omega

/-! signs -/
def TWO : List (Int × Str) := [(11822, ".."), (11582, "->"), (15677, "=="), (8509, "!="), (15421, "<="), (15933, ">="), (12079, "//")]
def ONE : List (Int × Str) := [(40, "("), (41, ")"), (91, "["), (93, "]"), (123, "{"), (125, "}"), (44, ","), (58, ":"), (46, "."), (61, "="), (60, "<"), (62, ">"), (43, "+"), (45, "-"), (42, "*"), (47, "/"), (37, "percent"), (94, "^")]
def lk (l : List (Int × Str)) (k : Int) : Option Str := (l.find? fun kv => decide (kv.1 = k)).map (·.2)
def pairOf (b : By) (p : Nat) : Int := bAt b p * 256 + max (bAt b (p + 1)) 0
theorem lk_some {l : List (Int × Str)} {k : Int} {x : Str} (h : lk l k = some x) : (k, x) ∈ l := by
  unfold lk at h
  obtain ⟨y, h1, h2⟩ := Option.map_eq_some_iff.mp h
  have h3 := List.find?_some h1
  have h4 := List.mem_of_find?_eq_some h1
  have h5 := of_decide_eq_true h3
  obtain ⟨y1, y2⟩ := y
  dsimp only at h2 h5
  rw [← h2, ← h5]; exact h4
theorem lk_none {l : List (Int × Str)} {k : Int} (h : lk l k = none) : ∀ x, (k, x) ∉ l := by
  intro x m
  unfold lk at h
  rw [Option.map_eq_none_iff, List.find?_eq_none] at h
  exact h _ m (decide_eq_true rfl)
theorem sign_pre {s b : By} : s.isPrefixOf b = true ↔ s <+: b := List.isPrefixOf_iff_prefix
theorem signs_form : ∀ s ∈ SIGNS, (∃ x y, s = [x, y] ∧ ∃ z, ((x.toNat : Int) * 256 + y.toNat, z) ∈ TWO) ∨ (∃ x, s = [x] ∧ ∃ z, ((x.toNat : Int), z) ∈ ONE) := by
  have : (SIGNS.all fun s => match s with
    | [x, y] => (lk TWO ((x.toNat : Int) * 256 + y.toNat)).isSome
    | [x] => (lk ONE (x.toNat : Int)).isSome
    | _ => false) = true := by decide +kernel
  intro s hs
  have := List.all_eq_true.mp this s hs
  match s, this with
  | [x, y], h =>
    obtain ⟨z, hz⟩ := Option.isSome_iff_exists.mp h
    exact .inl ⟨x, y, rfl, z, lk_some hz⟩
  | [x], h =>
    obtain ⟨z, hz⟩ := Option.isSome_iff_exists.mp h
    exact .inr ⟨x, rfl, z, lk_some hz⟩
theorem two_form : ∀ kv ∈ TWO, ∃ x y : UInt8, kv.1 = (x.toNat : Int) * 256 + y.toNat ∧ kv.2 = sOf [x, y] ∧ [x, y] ≠ [37] ∧ ∀ r : By, (SIGNS.find? fun (s : Bytes) => s.isPrefixOf (x :: y :: r)) = some [x, y] := by
  intro kv h
  simp only [TWO, List.mem_cons, List.not_mem_nil, or_false] at h
  rcases h with rfl | rfl | rfl | rfl | rfl | rfl | rfl
  · exact ⟨46, 46, by decide, by decide +kernel, by decide, fun r => rfl⟩
  · exact ⟨45, 62, by decide, by decide +kernel, by decide, fun r => rfl⟩
  · exact ⟨61, 61, by decide, by decide +kernel, by decide, fun r => rfl⟩
  · exact ⟨33, 61, by decide, by decide +kernel, by decide, fun r => rfl⟩
  · exact ⟨60, 61, by decide, by decide +kernel, by decide, fun r => rfl⟩
  · exact ⟨62, 61, by decide, by decide +kernel, by decide, fun r => rfl⟩
  · exact ⟨47, 47, by decide, by decide +kernel, by decide, fun r => rfl⟩
theorem one_form : ∀ kv ∈ ONE, ∃ x : UInt8, kv.1 = (x.toNat : Int) ∧ kv.2 = (if ([x] : By) = [37] then Str.ofString "percent" else sOf [x]) ∧ [x] ∈ SIGNS := by
  have : (ONE.all fun kv => decide (kv.1 = ((UInt8.ofNat kv.1.toNat).toNat : Int)) && (decide (kv.2 = (if ([UInt8.ofNat kv.1.toNat] : By) = [37] then Str.ofString "percent" else sOf [UInt8.ofNat kv.1.toNat])) && SIGNS.contains [UInt8.ofNat kv.1.toNat])) = true := by decide +kernel
  intro kv h
  have := List.all_eq_true.mp this kv h
  simp only [Bool.and_eq_true, decide_eq_true_eq] at this
  exact ⟨_, this.1, this.2.1, List.contains_iff_mem.mp this.2.2⟩
theorem sign_ok {b : By} {p : Nat} {c : UInt8} {r : By} (hb : b.drop p = c :: r) (hs : isSmall c = false) (hg : isBig c = false) (hd : isDigit c = false) (hq : c ≠ 34) :
    (∀ x, lk TWO (pairOf b p) = some x → ∃ t, tokenIn p (b.drop p) = .ok (t, b.drop (p + 2)) ∧ t.kind = 5 ∧ t.place = p ∧ t.halt_ = p + 2 ∧ lookOf t = x) ∧
    (lk TWO (pairOf b p) = none → (∀ x, lk ONE (bAt b p) = some x → ∃ t, tokenIn p (b.drop p) = .ok (t, b.drop (p + 1)) ∧ t.kind = 5 ∧ t.place = p ∧ t.halt_ = p + 1 ∧ lookOf t = x) ∧
      (lk ONE (bAt b p) = none → tokenIn p (b.drop p) = .error (1, p))) := by
  obtain ⟨hc, hr⟩ := get_of_drop hb
  have hB := bAt_some hc
  have htok : tokenIn p (b.drop p) = (match SIGNS.find? fun (s : Bytes) => s.isPrefixOf (c :: r) with | some s => .ok (⟨5, p, p + s.length, s⟩, (b.drop p).drop s.length) | none => .error (1, p)) := by
    rw [hb]
    unfold tokenIn
    dsimp only
    rw [if_neg (by rw [hs]; decide), if_neg (by rw [hg]; decide), if_neg (by rw [hd]; decide), if_neg hq]
    rfl
  have lt256 : ∀ u : UInt8, u.toNat < 256 := fun u => UInt8.toNat_lt u
  have tail : r = [] ∧ pairOf b p = (c.toNat : Int) * 256 ∨ ∃ d r', r = d :: r' ∧ pairOf b p = (c.toNat : Int) * 256 + d.toNat := by
    cases r with
    | nil =>
      left
      refine ⟨rfl, ?_⟩
      unfold pairOf
      rw [hB, bAt_none (List.getElem?_eq_none_iff.mpr (by have := congrArg List.length hr; rw [List.length_drop, List.length_nil] at this; omega)), show max (-1 : Int) 0 = 0 from rfl, Int.add_zero]
    | cons d r' =>
      right
      refine ⟨d, r', rfl, ?_⟩
      unfold pairOf
      rw [hB, bAt_some (get_of_drop hr.symm).1]
      omega
  have look5 : ∀ (s : By) (t : Tok), t.kind = 5 → t.bytes = s → lookOf t = (if s = [37] then Str.ofString "percent" else sOf s) := by
    intro s t h e
    unfold lookOf
    rw [if_neg (by rw [h]; decide), if_neg (by rw [h]; decide), if_neg (by rw [h]; decide), if_neg (by rw [h]; decide), if_neg (by rw [h]; decide), e]
  refine ⟨fun x hx => ?_, fun hn => ?_⟩
  · obtain ⟨x1, y1, e1, e2, e3, e4⟩ := two_form _ (lk_some hx)
    dsimp only at e1 e2
    rcases tail with ⟨_, hp⟩ | ⟨d, r', rfl, hp⟩
    · have hy : y1.toNat = 0 := by rw [hp] at e1; have := lt256 y1; omega
      have : ∀ kv ∈ TWO, kv.1 % 256 ≠ 0 := by decide
      exact absurd (by show pairOf b p % 256 = 0; rw [hp]; omega) (this _ (lk_some hx))
    · have hx1 : x1 = c := u_eq.mpr (by rw [hp] at e1; have := lt256 y1; have := lt256 d; omega)
      have hy1 : y1 = d := u_eq.mpr (by rw [hp] at e1; have := lt256 y1; have := lt256 d; omega)
      subst hx1; subst hy1
      rw [htok, e4 r']
      dsimp only
      refine ⟨_, by rw [List.drop_drop]; rfl, rfl, rfl, rfl, ?_⟩
      rw [look5 _ _ rfl rfl, if_neg e3, e2]
  · have no2 : ∀ s ∈ SIGNS, s.isPrefixOf (c :: r) = true → ∃ x, s = [x] ∧ x = c ∧ ∃ z, ((x.toNat : Int), z) ∈ ONE := by
      intro s hsn hp
      obtain ⟨u, hu⟩ := sign_pre.mp hp
      rcases signs_form s hsn with ⟨x, y, rfl, z, hz⟩ | ⟨x, rfl, z, hz⟩
      · exfalso
        rcases tail with ⟨rfl, hp'⟩ | ⟨d, r', rfl, hp'⟩
        · cases hu
        · injection hu with h1 h2
          injection h2 with h2 _
          subst h1; subst h2
          rw [← hp'] at hz
          exact lk_none hn z hz
      · injection hu with h1 _
        exact ⟨x, rfl, h1, z, hz⟩
    refine ⟨fun x hx => ?_, fun hn1 => ?_⟩
    · obtain ⟨x1, e1, e2, e3⟩ := one_form _ (lk_some hx)
      dsimp only at e1 e2
      have hxc : x1 = c := u_eq.mpr (by rw [hB] at e1; omega)
      subst hxc
      have hfind : (SIGNS.find? fun (s : Bytes) => s.isPrefixOf (x1 :: r)) = some [x1] := by
        cases hf : SIGNS.find? fun (s : Bytes) => s.isPrefixOf (x1 :: r) with
        | none =>
          rw [List.find?_eq_none] at hf
          exact absurd (sign_pre.mpr ⟨r, rfl⟩) (hf _ e3)
        | some s =>
          obtain ⟨y, hy, hyc, _⟩ := no2 s (List.mem_of_find?_eq_some hf) (by have z := List.find?_some hf; exact z)
          rw [hy, hyc]
      rw [htok, hfind]
      dsimp only
      refine ⟨_, by rw [List.drop_drop]; rfl, rfl, rfl, rfl, ?_⟩
      rw [look5 _ _ rfl rfl, e2]
    · have hfind : (SIGNS.find? fun (s : Bytes) => s.isPrefixOf (c :: r)) = none := by
        rw [List.find?_eq_none]
        intro s hsn hp
        obtain ⟨y, _, hyc, z, hz⟩ := no2 s hsn hp
        rw [hyc, ← hB] at hz
        exact lk_none hn1 z hz
      rw [htok, hfind]
end TW
end
section
set_option Elab.async false
set_option linter.all false
set_option maxRecDepth 100000
namespace L2
open PySem PySem.Spec PyProof.Rows

/-! ### an exception in flight: its record, its first entry (new since n, not tracked), what stands in the entry's fourth field -/
def FlyAt (H : Hp) (n : Nat) (fl : Value) (h : Heap) (e : Addr) : Prop :=
  ∃ (oe : Obj) (vs : Array Value) (T : Addr) (oT : Obj) (ts : Array Value), h.get? e = some oe ∧ oe.data = .fields vs ∧ vs[1]? = some (.ref T) ∧ n ≤ T ∧ H T = none ∧ T ≠ e ∧ h.get? T = some oT ∧ oT.data = .fields ts ∧ ts[3]? = some fl
/-- no entry yet -/
def FlyNew (h : Heap) (e : Addr) : Prop := ∃ (oe : Obj) (vs : Array Value), h.get? e = some oe ∧ oe.data = .fields vs ∧ vs[1]? = some .none
/-- in the frame at L -/
def Flies (H : Hp) (n : Nat) (L : Addr) (h : Heap) (e : Addr) : Prop := FlyNew h e ∨ FlyAt H n .none h e ∨ FlyAt H n (rawInt L) h e

/-- what flight changes -/
structure Flew (H : Hp) (n : Nat) (fs : List Addr) (e : Addr) (h h' : Heap) : Prop where
  keep : ∀ b o, h.get? b = some o → b ∉ fs → b ≠ e → (b < n ∨ H b ≠ none ∨ ∀ ts, o.data ≠ .fields ts) → h'.get? b = some o
  slot : ∀ b o, h.get? b = some o → b ∈ fs → ∃ sl, h'.get? b = some { o with slots := sl }
  exc : ∀ o, h.get? e = some o → ∃ vs, h'.get? e = some { o with data := .fields vs }
  there : ∀ b o, h.get? b = some o → ∃ o', h'.get? b = some o'
theorem Flew.refl {H : Hp} {n : Nat} {fs : List Addr} {e : Addr} {h : Heap} {oe : Obj} {vs : Array Value} (he : h.get? e = some oe) (hd : oe.data = .fields vs) : Flew H n fs e h h :=
  ⟨fun _ _ q _ _ _ => q, fun _ o q _ => ⟨o.slots, q⟩, fun o q => by
    rw [he] at q; cases q
    exact ⟨vs, by rw [he]; obtain ⟨_, _, _, _⟩ := oe; cases hd; rfl⟩, fun _ o q => ⟨o, q⟩⟩
theorem Flew.trans {H : Hp} {n : Nat} {fs : List Addr} {e : Addr} {h h1 h2 : Heap} (a : Flew H n fs e h h1) (b : Flew H n fs e h1 h2) : Flew H n fs e h h2 where
  keep := fun c o q hc he hk => b.keep c o (a.keep c o q hc he hk) hc he hk
  slot := fun c o q hc => by
    obtain ⟨s1, e1⟩ := a.slot c o q hc
    obtain ⟨s2, e2⟩ := b.slot c _ e1 hc
    exact ⟨s2, e2⟩
  exc := fun o q => by
    obtain ⟨v1, e1⟩ := a.exc o q
    obtain ⟨v2, e2⟩ := b.exc _ e1
    exact ⟨v2, e2⟩
  there := fun c o q => by
    obtain ⟨o1, e1⟩ := a.there c o q
    exact b.there c o1 e1

theorem obj_eta_fields {o : Obj} {vs : Array Value} (hd : o.data = .fields vs) : o = { o with data := .fields vs } := by
  obtain ⟨_, _, _, _⟩ := o; cases hd; rfl

section
variable {M : Model} {A : Around} {E : Value → Shared → Prop} {s : Shared} {H : Hp} {n : Nat} {fs : List Addr} {e : Addr} {Q : Unit → Shared → Prop}
/-- a field of a record that is new and not tracked, or of the exception itself, is stored -/
theorem upd_get {h : Heap} {a : Addr} {o : Obj} {vs : Array Value} (f : Array Value → Array Value) (ho : h.get? a = some o) (hd : o.data = .fields vs) : (h.update a (Obj.mapFields f)).get? a = some { o with data := .fields (f vs) } := by
  have z := Heap.get?_update_self (Obj.mapFields f) ho (Obj.isFreed_of_fields (Obj.data_mapFields hd f))
  rw [z]
  obtain ⟨oc, od, odt, osl⟩ := o
  cases hd
  rfl
theorem fly_set {fl fl' : Value} (hx : FlyAt H n fl s.heap e) (hQ : ∀ h', FlyAt H n fl' h' e → Flew H n fs e s.heap h' → Q () { s with heap := h' }) (hfs : ∀ T oT ts, s.heap.get? T = some oT → oT.data = .fields ts → T ∉ fs)
    (f : Option Addr) (hf : (f.elim Value.none fun g => rawInt g) = fl') : wpAny M A (setFlight (.ref e) f) Q E s := by
  obtain ⟨oe, vs, T, oT, ts, he, hd, h1, hn, hT0, hTe, hT, hdT, h3⟩ := hx
  have hsz : 3 < ts.size := (Array.getElem?_eq_some_iff.mp h3).1
  unfold setFlight
  refine wpAny_bind (wpAny_field he hd h1 ?_)
  rw [if_pos (show (Value.ref T != Value.none) = true from by simp)]
  refine wpAny_setField hT hdT hsz ?_
  rw [hf]
  have hT' := upd_get (fun a => a.setIfInBounds 3 fl') hT hdT
  have other : ∀ b, b ≠ T → (s.heap.update T (Obj.mapFields fun a => a.setIfInBounds 3 fl')).get? b = s.heap.get? b := fun b hb => Heap.get?_update_other _ _ (Ne.symm hb)
  refine hQ _ ⟨oe, vs, T, _, _, (other e (Ne.symm hTe)).trans he, hd, h1, hn, hT0, hTe, hT', rfl, ?_⟩ ⟨fun b o q hb hbe hk => ?_, fun b o q hb => ?_, fun o q => ?_, fun b o q => ?_⟩
  · rw [Array.getElem?_setIfInBounds_self_of_lt hsz]
  · refine (other b fun z => ?_).trans q
    subst z
    rw [hT] at q; cases q
    rcases hk with k | k | k
    · exact absurd k (Nat.not_lt.mpr hn)
    · exact k hT0
    · exact k ts hdT
  · refine ⟨o.slots, (other b fun z => ?_).trans q⟩
    subst z
    rw [hT] at q; cases q
    exact hfs b oT ts hT hdT hb
  · rw [he] at q; cases q
    exact ⟨vs, by rw [other e (Ne.symm hTe), he, ← obj_eta_fields hd]⟩
  · by_cases z : b = T
    · subst z; exact ⟨_, hT'⟩
    · exact ⟨o, (other b z).trans q⟩
end

section
variable {M : Model} {A : Around} {E : Value → Shared → Prop} {s : Shared} {H : Hp} {n : Nat} {e : Addr} {Q : Unit → Shared → Prop} {base : Heap} {env : Env} {outer : List Env} {L : Addr}
theorem frs_noRec {h : Heap} {l : List Env} (hl : h.FunFrames base l) {T : Addr} {oT : Obj} {ts : Array Value} (hT : h.get? T = some oT) (hd : oT.data = .fields ts) : T ∉ frs l := fun hm => by
  obtain ⟨_, o, ho, hnf⟩ := hl.mem hm
  rw [hT] at ho; cases ho
  exact hnf ts hd
/-- a new first entry -/
theorem fly_entry {oe : Obj} {vs : Array Value} {head : Value} {had : Bool} (hfr : A.frames = some (env :: outer)) (hl : s.heap.FunFrames base (env :: outer)) (hf : env.frame = some L) (he : s.heap.get? e = some oe) (hd : oe.data = .fields vs) (h1 : 1 < vs.size)
    (hn : n ≤ s.heap.objs.size) (hH : ∀ b, s.heap.objs.size ≤ b → H b = none)
    (hQ : ∀ h', FlyAt H n (rawInt L) h' e → Flew H n (frs (env :: outer)) e s.heap h' → Q () { s with heap := h' }) :
    wpAny M A (do let a ← frameOf env; let pl ← entryPlaceOf L had; let b ← EntryCells.newEntry head a .none (rawInt L) .none pl; setField (.ref e) 1 b) Q E s := by
  have hef : e ∉ frs (env :: outer) := frs_noRec hl he hd
  refine wpAny_bind (wpAny_frameOf_fun hfr hl hf fun g1 hs => ?_)
  refine wpAny_bind (wpAny_entryPlaceOf fun pl hpl => ?_)
  unfold EntryCells.newEntry newFields
  refine wpAny_bind (wpAny_newObj_type ?_ (hpl.sizeOk5 _ _ _ _ _))
  have e1 : g1.get? e = some oe := (hs.2.1 e hef).trans he
  generalize hob : ({ cls := Value.type "traceback", dict := none, data := Data.fields ([head, Value.ref L, Value.none, rawInt L, Value.none] ++ (if pl.isEmpty then List.replicate 6 Value.none else pl)).toArray } : Obj) = ob
  have hobd : ∃ ts : Array Value, ob.data = .fields ts ∧ ts[3]? = some (rawInt L) := by
    rw [← hob]
    refine ⟨_, rfl, ?_⟩
    simp
  obtain ⟨ts, hts, h3⟩ := hobd
  have e2 : (g1.push ob).get? e = some oe := Heap.get?_push_of_some _ e1
  refine wpAny_setField e2 hd h1 ?_
  have hsz : g1.objs.size = s.heap.objs.size := hs.1
  have hTe : g1.objs.size ≠ e := Nat.ne_of_gt (Heap.lt_size e1)
  have hT : ((g1.push ob).update e (Obj.mapFields fun a => a.setIfInBounds 1 (Value.ref g1.objs.size))).get? g1.objs.size = some ob :=
    (Heap.get?_update_other _ _ (Ne.symm hTe)).trans (Heap.get?_push_at rfl (by rw [Obj.isFreed_of_fields hts]))
  have he' := upd_get (fun a => a.setIfInBounds 1 (Value.ref g1.objs.size)) e2 hd
  have keep : ∀ b o, b ≠ e → g1.get? b = some o → ((g1.push ob).update e (Obj.mapFields fun a => a.setIfInBounds 1 (Value.ref g1.objs.size))).get? b = some o := fun b o hbe q =>
    (Heap.get?_update_other _ _ (Ne.symm hbe)).trans (Heap.get?_push_of_some _ q)
  refine hQ _ ⟨_, _, g1.objs.size, ob, ts, he', rfl, by rw [Array.getElem?_setIfInBounds_self_of_lt h1], by omega, hH _ (by omega), hTe, hT, hts, h3⟩ ⟨fun b o q hb hbe _ => keep b o hbe ((hs.2.1 b hb).trans q), fun b o q hb => ?_, fun o q => ?_, fun b o q => ?_⟩
  · obtain ⟨sl, z⟩ := hs.2.2 b o q
    exact ⟨sl, keep b _ (fun z => hef (z ▸ hb)) z⟩
  · rw [he] at q; cases q
    exact ⟨_, he'⟩
  · by_cases z : b = e
    · subst z; exact ⟨_, he'⟩
    · obtain ⟨sl, q2⟩ := hs.2.2 b o q
      exact ⟨_, keep b _ z q2⟩
/-- the frame is noted -/
theorem fly_note (hfr : A.frames = some (env :: outer)) (hl : s.heap.FunFrames base (env :: outer)) (hf : env.frame = some L) (hx : Flies H n L s.heap e)
    (hn : n ≤ s.heap.objs.size) (hH : ∀ b, s.heap.objs.size ≤ b → H b = none)
    (hQ : ∀ h', FlyAt H n (rawInt L) h' e → Flew H n (frs (env :: outer)) e s.heap h' → Q () { s with heap := h' }) : wpAny M A (noteFrame (.ref e) env) Q E s := by
  unfold noteFrame
  simp only [hf]
  rcases hx with ⟨oe, vs, he, hd, h1⟩ | hx | hx
  · refine wpAny_bind (wpAny_field he hd h1 ?_)
    rw [if_neg (by decide)]
    exact fly_entry hfr hl hf he hd (Array.getElem?_eq_some_iff.mp h1).1 hn hH hQ
  · obtain ⟨oe, vs, T, oT, ts, he, hd, h1, hnT, hT0, hTe, hT, hdT, h3⟩ := hx
    refine wpAny_bind (wpAny_field he hd h1 ?_)
    rw [if_pos (show (Value.ref T != Value.none) = true from by simp)]
    refine wpAny_bind (wpAny_field hT hdT h3 ?_)
    rw [if_neg (show ¬ ((Value.none == rawInt L) = true) from by simp [rawInt])]
    refine wpAny_bind (wpAny_setField hT hdT (Array.getElem?_eq_some_iff.mp h3).1 ?_)
    have hT' := upd_get (fun a => a.setIfInBounds 3 Value.none) hT hdT
    have other : ∀ b, b ≠ T → (s.heap.update T (Obj.mapFields fun a => a.setIfInBounds 3 Value.none)).get? b = s.heap.get? b := fun b hb => Heap.get?_update_other _ _ (Ne.symm hb)
    have hTf : T ∉ frs (env :: outer) := frs_noRec hl hT hdT
    have fw : Flew H n (frs (env :: outer)) e s.heap (s.heap.update T (Obj.mapFields fun a => a.setIfInBounds 3 Value.none)) := by
      refine ⟨fun b o q hb hbe hk => ?_, fun b o q hb => ?_, fun o q => ?_, fun b o q => ?_⟩
      · refine (other b fun z => ?_).trans q
        subst z
        rw [hT] at q; cases q
        rcases hk with k | k | k
        · exact absurd k (Nat.not_lt.mpr hnT)
        · exact k hT0
        · exact k ts hdT
      · exact ⟨o.slots, (other b fun z => hTf (z ▸ hb)).trans q⟩
      · rw [he] at q; cases q
        exact ⟨vs, by rw [other e (Ne.symm hTe), he, ← obj_eta_fields hd]⟩
      · by_cases z : b = T
        · subst z; exact ⟨_, hT'⟩
        · exact ⟨o, (other b z).trans q⟩
    refine fly_entry hfr (hl.of_keeps fun b o q hnf => ⟨o, (other b fun z => ?_).trans q, rfl⟩) hf ((other e (Ne.symm hTe)).trans he) hd (Array.getElem?_eq_some_iff.mp h1).1 (by rw [Heap.size_after_update]; exact hn)
      (fun b hb => hH b (by rw [Heap.size_after_update] at hb; exact hb)) fun h' a b => hQ h' a (fw.trans b)
    subst z
    rw [hT] at q; cases q
    exact hnf ts hdT
  · obtain ⟨oe, vs, T, oT, ts, he, hd, h1, hnT, hT0, hTe, hT, hdT, h3⟩ := id hx
    refine wpAny_bind (wpAny_field he hd h1 ?_)
    rw [if_pos (show (Value.ref T != Value.none) = true from by simp)]
    refine wpAny_bind (wpAny_field hT hdT h3 ?_)
    rw [if_pos (show (rawInt L == rawInt L) = true from by first | (simp; done) | exact beq_self_eq_true _)]
    exact wpAny_pure (hQ s.heap hx (Flew.refl he hd))
theorem FlyAt.noRec {fl : Value} {h h' : Heap} {fs : List Addr} (hl : h.FunFrames base (env :: outer)) (fw : Flew H n (frs (env :: outer)) e h h') : ∀ T oT ts, h'.get? T = some oT → oT.data = .fields ts → T ∉ frs (env :: outer) := fun T oT ts hT hd hm => by
  obtain ⟨_, o, ho, hnf⟩ := hl.mem hm
  obtain ⟨sl, q⟩ := fw.slot T o ho hm
  rw [hT] at q; cases q
  exact hnf ts hd
/-- noted, and landed -/
theorem fly_land (hfr : A.frames = some (env :: outer)) (hl : s.heap.FunFrames base (env :: outer)) (hf : env.frame = some L) (hx : Flies H n L s.heap e)
    (hn : n ≤ s.heap.objs.size) (hH : ∀ b, s.heap.objs.size ≤ b → H b = none)
    (hQ : ∀ h', FlyAt H n .none h' e → Flew H n (frs (env :: outer)) e s.heap h' → Q () { s with heap := h' }) : wpAny M A (noteFrame (.ref e) env) (fun _ s2 => wpAny M A (setFlight (.ref e) none) Q E s2) E s := by
  refine fly_note hfr hl hf hx hn hH fun h1 a1 f1 => ?_
  refine fly_set (s := { s with heap := h1 }) (fs := frs (env :: outer)) a1 (fun h2 a2 f2 => hQ h2 a2 (f1.trans f2)) (FlyAt.noRec (fl := .none) (fs := []) hl f1) none rfl
theorem fly_leave (hfr : A.frames = some (env :: outer)) (hl : s.heap.FunFrames base (env :: outer)) (hf : env.frame = some L) (hx : Flies H n L s.heap e)
    (hn : n ≤ s.heap.objs.size) (hH : ∀ b, s.heap.objs.size ≤ b → H b = none)
    (hQ : ∀ h', FlyAt H n .none h' e → Flew H n (frs (env :: outer)) e s.heap h' → Q () { s with heap := h' }) : wpAny M A (leaving env (.ref e)) Q E s := wpAny_bind (fly_land hfr hl hf hx hn hH hQ)
end
end L2
end
section
set_option Elab.async false
set_option linter.all false
set_option maxRecDepth 100000
namespace XM
open PySem PySem.W
open Sem (wp)

/-- of a class of exceptions: what stands behind it in its line -/
structure Line (B : String) (bm : List Value) : Prop where
  b : bm.contains (.type B) = true
  base : bm.contains (.type "BaseException") = true
  attr : bm.contains (.type "AttributeError") = false
  name : bm.contains (.type "NameError") = false

section
variable {prog : Program} {w : World} {A : Around} {E : Value → Shared → Prop} {h : Heap} {g : Array GenState} {d : Drawn} {t : Nat} {os : OsState}
variable {nm q : Str} {C N : Addr} {bs bm bmB : List Value} {hdct : Bool} {sn : List Str} {sub : List Value} {ab : Bool} {col : Option Bool} {dd : Option Addr} {k0 k1 k2 k3 k5 : Option Value} {B newId initId : String}

theorem new_check {M : Model} (F : ExcBaseFacts B newId initId bmB) (l : Line B bm) {rest : List Value} {Q : Unit → Shared → Prop}
    (hC : h.get? C = some (excClassObj nm q C N bs bm hdct sn sub ab col dd k0 k1 k2 k3 k5 newId)) (z : Q () ⟨h, g, d, t, os⟩) : wpAny M A (checkBuiltinCall newId ⟨.ref C :: rest, []⟩) Q E ⟨h, g, d, t, os⟩ := by
  have c1 : (Value.ref C :: bm).contains (.type B) = true := by
    rw [List.contains_cons, l.b, Bool.or_true]
  have c2 := F.noStar
  simp only [checkBuiltinCall, F.newKind, F.newSplit, F.newRow]
  repeat (first
    | refine wpAny_loadPart_at hC ?_
    | (refine wpAny_isSubtype_exc hC ?_; rw [c1])
    | refine wpAny_staticBase_exc hC ?_
    | refine wpAny_madeBy_exc hC ?_
    | simp only [bne_self_eq_false, Bool.false_eq_true, if_false]
    | wp_step)
  exact z

theorem new_runs {R : Result → Shared → Prop} (F : ExcBaseFacts B newId initId bmB) (l : Line B bm) {rest : List Value}
    (hC : h.get? C = some (excClassObj nm q C N bs bm hdct sn sub ab col dd k0 k1 k2 k3 k5 newId))
    (z : R (.ok (.ret (.ref (h.objs.size + 1))))
      ⟨(h.push { cls := .type "tuple", data := .seq rest.toArray }).push { cls := .ref C, data := .fields #[.ref h.objs.size, .none, .none, .none, .bool false, .none] }, g, d, t, os⟩)
    (hz : rest.length ≤ sizeLine) : codeAny (model prog w) A (.builtin newId ⟨.ref C :: rest, []⟩) R ⟨h, g, d, t, os⟩ := by
  have c0 := F.ends
  have c1 : (Value.ref C :: bm).contains (.type B) = true := by
    rw [List.contains_cons, l.b, Bool.or_true]
  have c2 : (Value.ref C :: bm).contains (.type "AttributeError") = false := by
    rw [List.contains_cons, l.attr]
    rfl
  have c3 : (Value.ref C :: bm).contains (.type "NameError") = false := by
    rw [List.contains_cons, l.name]
    rfl
  refine codeAny_builtinAt F.entry ?_
  unfold Builtin.«BaseException.__new__»
  refine wpAt_bind ?_
  show wpAt _ _ _ (stack >>= _) _ _ _
  refine wpAt_bind (wpAt_stack fun p below => wpAt_of_wpAny ?_)
  wp_walk
  refine wpAt_of_wpAny ?_
  rw [F.owner]
  repeat (first
    | with_reducible refine wpAny_madeHere_exc F.canon hC ?_
    | with_reducible refine wpAny_loadPart_at hC ?_
    | (with_reducible refine wpAny_isSubtype_exc hC ?_; first | rw [c1] | rw [c2] | rw [c3])
    | wp_step)
  show R _ _
  rw [Heap.size_push]
  exact z

/-- type.__call__ on such a class: the record and its tuple are laid, then the __init__ of one's own is called -/
theorem tcall (F : ExcBaseFacts B newId initId bmB) (l : Line B bm) {rest : List Value} {fI : Addr} {oI : Obj} {Q : Fin → Shared → Prop}
    (hC : h.get? C = some (excClassObj nm q C N bs bm hdct sn sub ab col dd k0 k1 k2 k3 k5 newId)) (hi : Looks (model prog w) h (typeLookup (.ref C) "__init__") (some (.ref fI)))
    (hfI : h.get? fI = some oI) (hfc : oI.cls = .type "function") (hz : rest.length ≤ sizeLine)
    (z : wpAny (model prog w) A (call (.ref fI) (.ref (h.objs.size + 1) :: rest)) (fun r s' => r = .none ∧ Q (.done (.ret (.ref (h.objs.size + 1)))) s') E
      ⟨(h.push { cls := .type "tuple", data := .seq rest.toArray }).push { cls := .ref C, data := .fields #[.ref h.objs.size, .none, .none, .none, .bool false, .none] }, g, d, t, os⟩) :
    wpAny (model prog w) A (Builtin.«type.__call__» ⟨.ref C :: rest, []⟩) Q E ⟨h, g, d, t, os⟩ := by
  repeat (first
    | with_reducible refine wpAny_loadPart_at hC ?_
    | with_reducible refine wpAny_madeBy_exc hC ?_
    | wp_step)
  refine codeAny_call_builtin_code (Code.quiet_builtin _ F.quiet) (new_check F l hC ?_)
  refine new_runs F l hC ?_ hz
  show wpAny _ _ _ _ _ _
  have kp : ∀ b o, h.get? b = some o → ((h.push { cls := .type "tuple", data := .seq rest.toArray }).push { cls := .ref C, data := .fields #[.ref h.objs.size, .none, .none, .none, .bool false, .none] }).get? b = some o := fun b o e =>
    Heap.get?_push_of_some _ (Heap.get?_push_of_some _ e)
  have hget : ((h.push { cls := .type "tuple", data := .seq rest.toArray }).push { cls := .ref C, data := .fields #[.ref h.objs.size, .none, .none, .none, .bool false, .none] }).get? (h.objs.size + 1) =
      some { cls := .ref C, data := .fields #[.ref h.objs.size, .none, .none, .none, .bool false, .none] } := by heap_get
  have hC1 := kp _ _ hC
  have cC : (Value.ref C :: bm).contains (.ref C) = true := by simp
  unfold isInstance
  repeat (first
    | with_reducible refine wpAny_loadPart_at hget ?_
    | (with_reducible refine wpAny_isSubtype_exc hC1 ?_; rw [cC])
    | wp_step)
  show wpAny _ _ (typeLookup (.ref C) _) _ _ _
  refine hi _ _ _ _ kp ?_
  refine wpAny_holding (wpAny_bind ?_)
  unfold bindSpecial
  refine wpAny_bind (wpAny_typeOf (T := "function") ⟨_, kp _ _ hfI, hfc⟩ ?_)
  rw [if_pos (by decide)]
  refine wpAny_pure (wpAny_bind (wpAny_mono z (fun r s' hr => ?_) fun _ _ x => x))
  obtain ⟨rfl, hQ⟩ := hr
  wp_walk
  exact hQ
/-- C(..) -/
theorem made (F : ExcBaseFacts B newId initId bmB) (l : Line B bm) {rest : List Value} {fI : Addr} {oI : Obj} {Q : Value → Shared → Prop}
    (hC : h.get? C = some (excClassObj nm q C N bs bm hdct sn sub ab col dd k0 k1 k2 k3 k5 newId)) (hi : Looks (model prog w) h (typeLookup (.ref C) "__init__") (some (.ref fI)))
    (hfI : h.get? fI = some oI) (hfc : oI.cls = .type "function") (hz : rest.length ≤ sizeLine)
    (z : wpAny (model prog w) (A.under (.builtin "type.__call__" ⟨.ref C :: rest, []⟩)) (call (.ref fI) (.ref (h.objs.size + 1) :: rest)) (fun r s' => r = .none ∧ Q (.ref (h.objs.size + 1)) s') E
      ⟨(h.push { cls := .type "tuple", data := .seq rest.toArray }).push { cls := .ref C, data := .fields #[.ref h.objs.size, .none, .none, .none, .bool false, .none] }, g, d, t, os⟩) :
    wpAny (model prog w) A (call (.ref C) rest) Q E ⟨h, g, d, t, os⟩ := by
  have f1 := tc_lookup
  have f2 := tc_bind (.ref C)
  have f3 : (⟨h, g, d, t, os⟩ : Shared).TypeIs (.ref C) "type" := ⟨_, hC, rfl⟩
  refine wpAny_call (codeAny_of_tree ?_)
  show wpAny _ _ (callAny (.ref C) _) _ _ _
  repeat (any_goals (first
    | assumption
    | with_reducible refine wpAny_loadPart_at hC ?_
    | wp_step))
  refine ⟨rfl, ?_⟩
  exact codeAny_call_builtin_at (Code.quiet_builtin _ (by decide +kernel)) entry_typeCall (wpAny_check_type_call_sub hC (tcall F l hC hi hfI hfc hz z))

/-- raise x, x an exception without entries -/
theorem raises {M : Model} {s : Shared} {env : Env} {x : Sem Value} {Q : Flow → Shared → Prop} (hbase : bm.contains (.type "BaseException") = true) (hh : A.handled = none)
    (z : wpAny M A x (fun v s₁ => ∃ (e : Addr) (oe : Obj) (vs : Array Value), v = .ref e ∧ s₁.heap.get? C = some (excClassObj nm q C N bs bm hdct sn sub ab col dd k0 k1 k2 k3 k5 newId) ∧
      s₁.heap.get? e = some oe ∧ oe.cls = .ref C ∧ oe.data = .fields vs ∧ vs[1]? = some .none ∧ E (.ref e) s₁) E s) : wpAny M A (raiseStmt env (some x) none) Q E s := by
  have cB : (Value.ref C :: bm).contains (.type "BaseException") = true := by
    rw [List.contains_cons, hbase, Bool.or_true]
  unfold raiseStmt
  refine wpAny_bind (wpAny_mono z (fun v s₁ h₁ => ?_) fun _ _ x => x)
  obtain ⟨e, oe, vs, rfl, hC, he, hcl, hd, h1, hE⟩ := h₁
  obtain ⟨oc, od, odt, osl⟩ := oe
  cases hcl
  cases hd
  obtain ⟨hp, g, d, tk, os⟩ := s₁
  repeat (first
    | with_reducible refine wpAny_loadPart_at he ?_
    | with_reducible refine wpAny_loadPart_at hC ?_
    | (with_reducible refine wpAny_isSubtype_exc hC ?_; rw [cB])
    | with_reducible refine wpAny_field he rfl h1 ?_
    | wp_step)
  exact wpAny_raiseNew_none hh hE
end
end XM
end
section
set_option Elab.async false
set_option linter.all false
set_option maxRecDepth 100000
namespace XM
open PySem PySem.W
open Builtin Builtin.ObjectAttr

/-! ### an exception's attribute is stored: its line of classes holds Exception and BaseException -/
def excLine : List Value → Bool
  | [] => false
  | v :: r => (match v with | .ref _ => excLine r | _ => false) || decide (v :: r = [.type "Exception", .type "BaseException", .type "object"])
theorem excLine_cons {v : Value} {r : List Value} (e : excLine (v :: r) = true) : (∃ c, v = .ref c ∧ excLine r = true) ∨ v :: r = [.type "Exception", .type "BaseException", .type "object"] := by
  unfold excLine at e
  rw [Bool.or_eq_true] at e
  rcases e with e | e
  · cases v <;> first | exact .inl ⟨_, rfl, e⟩ | cases e
  · exact .inr (of_decide_eq_true e)
theorem excLine_pass (self : Value) : ∀ (l : List Value), excLine l = true → refuseLoop self "__setattr__" l = pure ()
  | [], e => by cases e
  | v :: r, e => by
    rcases excLine_cons e with ⟨c, rfl, e'⟩ | e'
    · rw [refuseLoop_ref]; exact excLine_pass self r e'
    · rw [e']; exact PySem.F.store_Exception.passes self
theorem excLine_obj : ∀ (l : List Value), excLine l = true → l.contains (.type "object") = true
  | [], e => by cases e
  | v :: r, e => by
    rcases excLine_cons e with ⟨c, rfl, e'⟩ | e'
    · rw [List.contains_cons, excLine_obj r e', Bool.or_true]
    · rw [e']; decide +kernel
/-- object.__setattr__ on an exception, up to where the value goes -/
theorem store_opens {prog : Program} {w : World} {A : Around} {K : Frag} {s : Shared} {x C : Addr} {R : Result → Shared → Prop} {obj : Obj} {dobj : Option Obj} {field : Str} {tok : Tok} {val : Value} {cd : ClassData} (KX : K.In s.heap) (J : InstAt s.heap x obj C dobj)
    (cls : clsIn K C = some cd) (line : excLine cd.mro = true) (free : takerIn K C field = some none)
    (go : ∀ had, wpAny (model prog w) A.in1 (storeInOwnDict (.ref x) (.ref C) (.str field tok) field val had) (fun fin s' => match fin with | .done f => R (.ok f) s' | .again c' => c'.quiet = true ∧ codeAny (model prog w) A c' R s') (fun e s' => R (.error e) s') s) :
    codeAny (model prog w) A (.call (.builtin "object.__setattr__") ⟨[.ref x, .str field tok, val], []⟩) R s := by
  have facts := PySem.F.store_Exception
  have full : cd.mro.isEmpty = false := by
    cases q : cd.mro with
    | nil => rw [q] at line; cases line
    | cons _ _ => rfl
  have isObj : Looks (model prog w) s.heap (isInstance (.ref x) (.type "object")) true := by
    refine J.type.andThen (looks_mroIn KX ?_)
    unfold mroIn
    rw [cls, Option.bind_some, if_neg (by rw [full]; decide), excLine_obj _ line]
  refine codeAny_call_builtin facts.slot.plain facts.entry ?_
  refine @check_slot (model prog w) _ _ s "object.__setattr__" "object" "__setattr__" (.ref x) [.str field tok, val] [] _ facts.kind facts.split isObj (facts.args (.ref x) (.str field tok) val) ?_
  obtain ⟨attr, found, taken⟩ := Option.bind_eq_some_iff.mp free
  have lmro : Looks (model prog w) s.heap (mroOf (.ref C)) cd.mro := (looks_clsIn KX cls).andThen .now
  have ltak : Looks (model prog w) s.heap (storeTaker? attr) none := by
    cases attr with
    | none => exact .now
    | some v =>
      obtain ⟨b, hb, hbn⟩ := Option.map_eq_some_iff.mp taken
      refine (looks_takesIn KX hb).andThen ?_
      cases b
      · exact .now
      · cases hbn
  rw [osa_eq, refuse_eq]
  refine wpAny_bind (wpAny_bind (J.type.here (wpAny_bind (lmro.here ?_))))
  rw [excLine_pass (.ref x) _ line]
  exact wpAny_pure (wpAny_bind (J.type.here (wpAny_bind ((looks_findIn KX found).here (wpAny_bind (ltak.here (go _)))))))

section
variable {prog : Program} {w : World} {A : Around} {E : Value → Shared → Prop} {s : Shared} {K : Frag} {x dx C : Addr} {mA : Str → Option Value} {name : Str} {v : Value} {vs : Array Value} {sl : Array (Option Value)}
/-- x.name = v where the exception at x has no dict yet -/
theorem set_first {Q : Unit → Shared → Prop} (X : K.In s.heap) (hx : s.heap.get? x = some ⟨.ref C, none, .fields vs, sl⟩)
    (hs : findIn K (.ref C) "__setattr__" = some (some (.builtin "object.__setattr__"))) {cd0 : ClassData} (hp0 : clsIn K C = some cd0) (hp : excLine cd0.mro = true) (ht : takerIn K C name = some none) (hh : hasDictIn K C = true)
    (z : ∀ h', h'.Ns1 s.heap.objs.size (fun y => if y = name then some v else none) → h'.get? x = some ⟨.ref C, some s.heap.objs.size, .fields vs, sl⟩ → (∀ b o, b ≠ x → s.heap.get? b = some o → h'.get? b = some o) → Q () { s with heap := h', toks := s.toks + 2 }) :
    wpAny (model prog w) A (setAttr (.ref x) name v) Q E s := by
  have J : PySem.W.InstAt s.heap x ⟨.ref C, none, .fields vs, sl⟩ C none := ⟨hx, rfl, rfl, trivial⟩
  refine PySem.W.set_plain X J hs (store_opens (s := { s with toks := s.toks + 1 }) X J hp0 hp ht fun b => ?_)
  obtain ⟨cd, hc, hd'⟩ := PySem.W.any_some hh
  refine wpAny_bind (wpAny_pure (wpAny_bind (wpAny_bind (wpAny_loadPart hx (wpAny_bind (PySem.W.Looks.here (s := { s with toks := s.toks + 1 }) (PySem.W.looks_clsIn X hc) ?_))))))
  rw [hd']
  have hx1 : (s.heap.push { cls := .type "dict", data := .dict #[] }).get? x = some ⟨.ref C, none, .fields vs, sl⟩ := Heap.get?_push_of_some _ hx
  have hxs : x ≠ s.heap.objs.size := Nat.ne_of_lt (Heap.lt_size hx)
  show wpAny _ _ (do
    let d ← alloc { cls := .type "dict", data := .dict #[] }
    update x fun o => { o with dict := some d }
    dictMade (.ref C) x d) _ _ _
  refine wpAny_bind (wpAny_alloc' (wpAny_bind (wpAny_update' hx1 ?_)))
  refine wpAny_pure (a := some s.heap.objs.size) (wpAny_bind (wpAny_pure (wpAny_bind ?_)))
  have gx : ((s.heap.push { cls := .type "dict", data := .dict #[] }).update x fun o => { o with dict := some s.heap.objs.size }).get? x = some ⟨.ref C, some s.heap.objs.size, .fields vs, sl⟩ := Heap.get?_update_self _ hx1 rfl
  have gd : ((s.heap.push { cls := .type "dict", data := .dict #[] }).update x fun o => { o with dict := some s.heap.objs.size }).get? s.heap.objs.size = some { cls := .type "dict", data := .dict #[] } :=
    (Heap.get?_update_other _ _ hxs).trans (Heap.get?_push_at rfl rfl)
  have nd : ((s.heap.push { cls := .type "dict", data := .dict #[] }).update x fun o => { o with dict := some s.heap.objs.size }).Ns s.heap.objs.size (fun _ => none) :=
    ⟨_, #[], _, gd, rfl, fun e he => absurd he (by simp), fun _ => rfl⟩
  refine wpAny_nsSet1 (s := { s with heap := _, toks := s.toks + 1 }) (Heap.Ns1.of_empty nd) fun h' hn2 hs2 => ?_
  obtain ⟨oD, esD, epD, hoD, hdD, hcD⟩ := hn2.count (PySem.Within.cons name v PySem.Within.nil)
  refine wpAny_bind (wpAny_lookBehind hoD (by rw [hdD]; exact pastItsLine_dict (Nat.le_trans hcD (by rw [List.length_cons, List.length_nil, sizeLine_eq]; omega))) ?_)
  refine wpAny_pure (z _ hn2 ((hs2.2 x hxs).trans gx) fun b o hb e => ?_)
  exact (hs2.2 b (Nat.ne_of_lt (Heap.lt_size e))).trans ((Heap.get?_update_other _ _ (Ne.symm hb)).trans (Heap.get?_push_of_some _ e))
/-- .. where it has one -/
theorem set_more {ns : List Str} {Q : Unit → Shared → Prop} (X : K.In s.heap) (hx : s.heap.get? x = some ⟨.ref C, some dx, .fields vs, sl⟩) (hn : s.heap.Ns1 dx mA) (hne : dx ≠ x)
    (hs : findIn K (.ref C) "__setattr__" = some (some (.builtin "object.__setattr__"))) {cd0 : ClassData} (hp0 : clsIn K C = some cd0) (hp : excLine cd0.mro = true) (ht : takerIn K C name = some none) (hh : hasDictIn K C = true) (hw : PySem.Within mA ns) (hsz : ns.length ≤ sizeLine)
    (z : ∀ h', h'.Ns1 dx (fun y => if y = name then some v else mA y) → Heap.SameBut dx s.heap h' → Q () { s with heap := h', toks := s.toks + 2 }) :
    wpAny (model prog w) A (setAttr (.ref x) name v) Q E s := by
  have J : ∃ od, PySem.W.InstAt s.heap x ⟨.ref C, some dx, .fields vs, sl⟩ C (some od) := by
    obtain ⟨o, _, _, ho, _⟩ := hn
    exact ⟨o, hx, rfl, rfl, ho⟩
  obtain ⟨od, J⟩ := J
  refine PySem.W.set_plain X J hs (store_opens (s := { s with toks := s.toks + 1 }) X J hp0 hp ht fun b => ?_)
  obtain ⟨cd, hc, hd'⟩ := PySem.W.any_some hh
  refine wpAny_bind (wpAny_pure (wpAny_bind (wpAny_bind (wpAny_loadPart hx (wpAny_bind (PySem.W.Looks.here (s := { s with toks := s.toks + 1 }) (PySem.W.looks_clsIn X hc) ?_))))))
  rw [hd']
  refine wpAny_pure (a := some dx) (wpAny_bind (wpAny_pure (wpAny_bind ?_)))
  refine wpAny_nsSet1 (s := { s with toks := s.toks + 1 }) hn fun h' hn2 hs2 => ?_
  obtain ⟨oD, esD, epD, hoD, hdD, hcD⟩ := hn2.count (PySem.Within.cons name v hw)
  refine wpAny_bind (wpAny_lookBehind hoD (by rw [hdD]; exact pastItsLine_dict (Nat.le_trans hcD (by rw [List.length_cons]; omega))) ?_)
  exact wpAny_pure (z _ hn2 hs2)
/-- what an exception's attribute is read by -/
theorem get_exc {expr : Bool} {ox : Obj} {od : Option Obj} {Q : Value → Shared → Prop} (X : K.In s.heap) (I : PySem.W.InstAt s.heap x ox C od) (hga : findIn K (.ref C) "__getattribute__" = some (some (.builtin "BaseException.__getattribute__")))
    (hgt : findIn K (.ref C) "__getattr__" = some none) (hsub : mroIn K C (.type "BaseException") = some true) (hf : findObj K C od name = some (.value v)) (hv : handedIn v = true) (z : Q v { s with toks := s.toks + 1 }) :
    wpAny (model prog w) A (getAttr (.ref x) name expr) Q E s := by
  obtain ⟨hp, g, d, t, os⟩ := s
  have L0 := I.type (M := model prog w)
  have L1 := looks_findIn (M := model prog w) X hga
  have L2 := looks_findIn (M := model prog w) X hgt
  have L3 := looks_find (M := model prog w) X I hf
  have L4 : Looks (model prog w) hp (isInstance (.ref x) (.type "BaseException")) true := L0.andThen (looks_mroIn X hsub)
  unfold getAttr getAttrBy
  refine wpAny_bind (wpAny_mkText (wpAny_holding (wpAny_bind (L0.at (wpAny_bind (L1.at ?_))))))
  have ne : (onTheHeap (Value.ref C) && Value.builtin "BaseException.__getattribute__" == Value.builtin "object.__getattribute__") = false := by
    rw [show (Value.builtin "BaseException.__getattribute__" == Value.builtin "object.__getattribute__") = false from by decide +kernel, Bool.and_false]
  show wpAny _ _ (if (onTheHeap (Value.ref C) && Value.builtin "BaseException.__getattribute__" == Value.builtin "object.__getattribute__") = true then _ else getAttrByItsOwn _ _ _ _ _ _) _ _ _
  rw [ne, if_neg (by decide)]
  unfold getAttrByItsOwn
  refine wpAny_bind (L2.at (wpAny_bind (wpAny_attempt (wpAny_holding ?_))))
  unfold callGetattribute
  rw [show (expr && onTheHeap (Value.builtin "BaseException.__getattribute__")) = false from Bool.and_false _, if_neg (by decide)]
  unfold boundAndCalled
  rw [PySem.F.excAttr_ValueError.ga.bind]
  refine wpAny_bind (wpAny_pure ?_)
  show wpAny _ _ (call (.builtin "BaseException.__getattribute__") [.ref x, .str name t]) _ _ _
  refine wpAny_call (codeAny_call_builtin PySem.F.excAttr_ValueError.ga.plain PySem.F.entry_bexc_ga ?_)
  refine @check_slot (model prog w) _ _ ⟨hp, g, d, t + 1, os⟩ "BaseException.__getattribute__" "BaseException" "__getattribute__" (.ref x) [.str name t] [] _ (by decide +kernel) (by decide +kernel) L4 (PySem.F.args_bexc_ga (.ref x) (.str name t)) ?_
  unfold Builtin.«object.__getattribute__»
  refine wpAny_bind (wpAny_pure ?_)
  refine wpAny_bind (wpAny_pure ?_)
  refine wpAny_bind (L0.at (wpAny_bind (L3.at ?_)))
  refine wpAny_pure ?_
  show wpAny _ _ (handedOut v) _ _ _
  rw [handedOut_of hv]
  exact wpAny_pure z
end
end XM
end
section
set_option Elab.async false
set_option linter.all false
set_option maxRecDepth 100000
set_option maxHeartbeats 1000000
namespace L2
open PySem PySem.Spec PyProof.Rows

/-! ### exceptions that are tracked: the record (new: without entries), its dict -/
def ExcO (e C : Addr) (dx : Option Addr) : HO := .ext fun h => ∃ (vs : Array Value) (sl : Array (Option Value)), h.get? e = some ⟨.ref C, dx, .fields vs, sl⟩
def ExcN (e C : Addr) (dx : Option Addr) : HO := .ext fun h => ∃ (vs : Array Value) (sl : Array (Option Value)), h.get? e = some ⟨.ref C, dx, .fields vs, sl⟩ ∧ vs[1]? = some .none
def XdO (d : Addr) (fs : List (Str × V)) : HO := .ext fun h => ∃ mA, h.Ns1 d mA ∧ (∀ f, RelO (fs.lookup f) (mA f)) ∧ PySem.Within mA (fs.map (·.1)) ∧ fs.length ≤ 1000
section
variable {P : Program} {w : World} {H : Hp} {h : Heap} {e C d : Addr} {dx : Option Addr} {vs : Array Value} {sl : Array (Option Value)} {fs : List (Str × V)} {mA : Str → Option Value}
theorem excO_ok (q : h.get? e = some ⟨.ref C, dx, .fields vs, sl⟩) : ObjOk P w H h e (ExcO e C dx) :=
  ⟨⟨vs, sl, q⟩, ⟨_, q⟩, fun _ _ ⟨vs, sl, z⟩ k => ⟨vs, sl, k _ z⟩⟩
theorem excN_ok (q : h.get? e = some ⟨.ref C, dx, .fields vs, sl⟩) (q1 : vs[1]? = some .none) : ObjOk P w H h e (ExcN e C dx) :=
  ⟨⟨vs, sl, q, q1⟩, ⟨_, q⟩, fun _ _ ⟨vs, sl, z, z1⟩ k => ⟨vs, sl, k _ z, z1⟩⟩
theorem xdO_ok (n : h.Ns1 d mA) (r : ∀ f, RelO (fs.lookup f) (mA f)) (wi : PySem.Within mA (fs.map (·.1))) (l : fs.length ≤ 1000) : ObjOk P w H h d (XdO d fs) :=
  ⟨⟨mA, n, r, wi, l⟩, let ⟨o, _, _, q, _⟩ := n; ⟨o, q⟩, fun _ _ ⟨mA, n, r⟩ k => ⟨mA, n.at k, r⟩⟩
theorem excO_get (hok : HOk P w H h) (q : H e = some (ExcO e C dx)) : ∃ vs sl, h.get? e = some ⟨.ref C, dx, .fields vs, sl⟩ := (hok e _ q).1
theorem excN_get (hok : HOk P w H h) (q : H e = some (ExcN e C dx)) : ∃ vs sl, h.get? e = some ⟨.ref C, dx, .fields vs, sl⟩ ∧ vs[1]? = some .none := (hok e _ q).1
theorem xdO_get (hok : HOk P w H h) (q : H d = some (XdO d fs)) : ∃ mA, h.Ns1 d mA ∧ (∀ f, RelO (fs.lookup f) (mA f)) ∧ PySem.Within mA (fs.map (·.1)) ∧ fs.length ≤ 1000 := (hok d _ q).1
end
def IsExc (H : Hp) (e : Addr) : Prop := ∃ C dx, H e = some (ExcO e C dx)

section
variable {X : Cx} {σ : St} {H : Hp} {s : Shared} {e : Addr} {h' : Heap}
/-- flight keeps what is known -/
theorem Inv.flew (I : Inv X [] σ H s) (hpn : X.pn = []) (he : IsExc H e) (fw : Flew H X.s_0.heap.objs.size (frs X.stack) e s.heap h') : Inv X [] σ H { s with heap := h' } := by
  obtain ⟨C, dx, he⟩ := he
  obtain ⟨vs, sl, hge⟩ := excO_get I.hok he
  let isR : Addr → Bool := fun b => match s.heap.get? b with | some o => (match o.data with | .fields _ => true | _ => false) | none => false
  let ch : List Addr := (List.range s.heap.objs.size).filter fun b => decide (X.s_0.heap.objs.size ≤ b) && ((H b).isNone && isR b)
  have mem : ∀ b ∈ ch, X.s_0.heap.objs.size ≤ b ∧ H b = none ∧ ∃ o ts, s.heap.get? b = some o ∧ o.data = .fields ts := fun b hb => by
    have q := (List.mem_filter.mp hb).2
    simp only [Bool.and_eq_true, decide_eq_true_eq, Option.isNone_iff_eq_none] at q
    refine ⟨q.1, q.2.1, ?_⟩
    have z : isR b = true := q.2.2
    dsimp only [isR] at z
    split at z
    · rename_i o ho
      split at z
      · rename_i ts hd; exact ⟨o, ts, ho, hd⟩
      · cases z
    · cases z
  have nmem : ∀ b o, s.heap.get? b = some o → b ∉ ch → H b = none → b < X.s_0.heap.objs.size ∨ H b ≠ none ∨ ∀ ts, o.data ≠ .fields ts := fun b o q hb n => by
    by_cases h1 : X.s_0.heap.objs.size ≤ b
    · right; right
      intro ts hd
      apply hb
      refine List.mem_filter.mpr ⟨List.mem_range.mpr (Heap.lt_size q), ?_⟩
      have z : isR b = true := by dsimp only [isR]; rw [q]; dsimp only; rw [hd]
      rw [decide_eq_true h1, n, z]; rfl
    · exact .inl (Nat.lt_of_not_le h1)
  have ne : ∀ b, H b = none → b ≠ e := fun b n z => by rw [z, he] at n; cases n
  have inS : ∀ b, b ∈ X.fs → b ∈ frs X.stack := fun b hb => by
    rcases I.ok.stk with z | ⟨z, hf⟩
    · rw [z]; exact hb
    · rw [z]; unfold frs; rw [List.filterMap_cons, hf]; exact List.mem_cons_of_mem _ hb
  obtain ⟨m0, ⟨oL, esL, epL, hoL, hdL, rL⟩, _⟩ := id I.loc
  have dictL : ∀ ts, oL.data ≠ .fields ts := fun ts z => by rw [hdL] at z; cases z
  have locK : ∃ sl, h'.get? X.env.locals = some { oL with slots := sl } := by
    by_cases hb : X.env.locals ∈ frs X.stack
    · exact fw.slot _ _ hoL hb
    · exact ⟨oL.slots, fw.keep _ _ hoL hb (ne _ I.free) (.inr (.inr dictL))⟩
  refine I.step (g' := s.gens) (d' := s.drawn) (t' := s.toks) (ch := ch) (fun b hb => ?_) (fun b o h1 h2 h3 q n => ?_) (fun b o h1 h2 h3 q n => fw.slot b o q (inS b h2)) (fun _ _ _ _ n => n) (fun b o _ q => fw.there b o q)
    (fun _ _ q => q) (fun _ _ _ q => q) (fun b ps q => ⟨#[], by rw [q]; simp⟩) (fun m hm => ?_) (fun b u q => ?_) I.bare
  · obtain ⟨h1, h2, o, ts, h3, h4⟩ := mem b hb
    refine ⟨.inr h1, fun z => ?_, fun x c hc z => ?_, fun p hp => ?_⟩
    · subst z; rw [hoL] at h3; cases h3; exact dictL ts h4
    · subst z
      obtain ⟨v, o', q1, q2⟩ := I.cell x c hc
      rw [h3] at q1; cases q1
      rw [h4] at q2; cases q2
    · rw [hpn] at hp; exact absurd hp (by simp)
  · refine fw.keep b o q (fun hb => ?_) (ne b n) (nmem b o q h3 n)
    rcases List.mem_cons.mp (I.stkSub b hb) with z | z
    · exact h1 z
    · exact h2 z
  · obtain ⟨o', es', ep', ho', r'⟩ := hm
    rw [hoL] at ho'; cases ho'
    obtain ⟨sl, z⟩ := locK
    exact ⟨_, es', ep', z, r'⟩
  · have tr : ∀ c v, H c = some v → c ≠ e → ∀ o, s.heap.get? c = some o → h'.get? c = some o := fun c v hc hce o ho => fw.keep c o ho (fun hb => by rw [I.stkFree c hb] at hc; cases hc) hce (.inr (.inl (by rw [hc]; exact fun z => by cases z)))
    by_cases hbe : b = e
    · subst hbe
      rw [he] at q; cases q
      obtain ⟨vs', z⟩ := fw.exc _ hge
      exact excO_ok z
    · refine (I.hok b u q).stay (fun c v hc r => ?_) (fun _ r => r) fun _ _ r => r
      rcases hc with z | z
      · rw [z] at r ⊢; exact tr b u q hbe _ r
      · refine tr c _ z (fun y => ?_) _ r
        rw [y, he] at z; cases z
end

/-! ### what is wanted of an exception in a body -/
def Exn (X : Cx) (R : St → Addr → Hp → Prop) : Value → Shared → Prop := fun v s' => ∃ (e : Addr) (σ : St) (H : Hp), v = .ref e ∧ Inv X [] σ H s' ∧ Flies H X.s_0.heap.objs.size X.env.locals s'.heap e ∧ IsExc H e ∧ R σ e H
abbrev xw (X : Cx) (R : St → Addr → Hp → Prop) : Cx := X.wish (Exn X R)
/-- how an exception lies behind a call -/
def CX1 (P : Program) (w : World) : CXT := fun outer H s E v s' => ∃ (e : Addr) (H' : Hp), v = .ref e ∧ s'.os = s.os ∧ AllBare s'.gens ∧ Un (frs outer) [] H H' s.heap s'.heap ∧ HOk P w H' s'.heap ∧
  FlyAt H' s.heap.objs.size .none s'.heap e ∧ IsExc H' e ∧ E (.ref e) none H'
/-- a body's frame -/
structure Top (X : Cx) : Prop where
  st : X.stack = X.env :: X.outer
  fr : X.env.frame = some X.env.locals
  pn : X.pn = []
section
variable {X : Cx} {R : St → Addr → Hp → Prop}
theorem FlyAt.mono {H : Hp} {n m : Nat} {fl : Value} {h : Heap} {e : Addr} (x : FlyAt H n fl h e) (k : m ≤ n) : FlyAt H m fl h e := by
  obtain ⟨oe, vs, T, oT, ts, a, b, c, d, r⟩ := x
  exact ⟨oe, vs, T, oT, ts, a, b, c, Nat.le_trans k d, r⟩
theorem exn_own (T : Top X) : PassesOwn (model X.prog X.w) X.A X.env (Exn X R) := by
  rintro v s' ⟨e, σ, H, rfl, I, fl, he, r⟩
  have hl : s'.heap.FunFrames X.base (X.env :: X.outer) := by have := I.stack; rw [T.st] at this; exact this
  refine fly_note (by rw [I.ok.frames, T.st]) hl T.fr fl I.sz (fun b hb => I.hok.fresh hb) fun h1 a1 f1 => ?_
  have I1 := I.flew T.pn he (by rw [T.st]; exact f1)
  obtain ⟨oe, vs, Tb, oT, ts, q1, q2, q3, q4⟩ := id a1
  show wpAny _ _ (do
    if (← field (.ref e) 1) == .none then unsupported "frame.own-activation:exception-without-traceback"
    setFlight (.ref e) X.env.frame) _ _ _
  refine wpAny_bind (wpAny_field (s := { s' with heap := h1 }) q1 q2 q3 ?_)
  rw [if_neg (show ¬ ((Value.ref Tb == Value.none) = true) from by simp), T.fr]
  refine fly_set (s := { s' with heap := h1 }) (fs := frs (X.env :: X.outer)) a1 (fun h2 a2 f2 => ?_) (FlyAt.noRec (fl := .none) (fs := []) hl f1) (some X.env.locals) rfl
  have I2 := Inv.flew (s := { s' with heap := h1 }) I1 T.pn he (by rw [T.st]; exact f2)
  exact ⟨e, σ, H, rfl, I2, .inr (.inr a2), he, r⟩
theorem cx1_exn {E : XK} {pins : List (Addr × Obj)} {σ : St} {H : Hp} {s s' : Shared} {v : Value} (I : Inv X pins σ H s) (hq : CX1 X.prog X.w X.stack H s E v s') (hE : ∀ e H', E (.ref e) none H' → R σ e H') : Exn X R v s' := by
  obtain ⟨e, H', rfl, os, bare, un, hok, fl, he, z⟩ := hq
  have I1 := I.call' os un hok bare (ch := []) (fun b z => absurd z (by simp))
  exact ⟨e, σ, H', rfl, I1.pins_of (pins' := []) (fun p hp => absurd hp (by simp)), .inr (.inl (fl.mono I.sz)), he, hE e H' z⟩
theorem passX {E : XK} (hE : ∀ σ e H', E (.ref e) none H' → R σ e H') : Passes (CX1 X.prog X.w) (xw X R) E := fun pins σ H s v s' I hq => cx1_exn I.unwish hq (hE σ)
theorem SP.mo {pins : List (Addr × Obj)} {D D' : Ends} {f : Flow} {s' : Shared} (h : SP X pins D f s') (h1 : ∀ σ H, D.nx σ H → D'.nx σ H) (h2 : ∀ v H, D.rt v H → D'.rt v H) (h3 : ∀ σ H, D.bk σ H → D'.bk σ H) (h4 : ∀ σ H, D.ct σ H → D'.ct σ H) : SP X pins D' f s' := by
  cases f with
  | next => obtain ⟨σ', H', I, q⟩ := h; exact ⟨σ', H', I, h1 _ _ q⟩
  | brk => obtain ⟨σ', H', I, q⟩ := h; exact ⟨σ', H', I, h3 _ _ q⟩
  | cont => obtain ⟨σ', H', I, q⟩ := h; exact ⟨σ', H', I, h4 _ _ q⟩
  | ret u => obtain ⟨v, σ', H', I, r, q⟩ := h; exact ⟨v, σ', H', I, r, h2 _ _ q⟩
end

/-! ### a def whose body may raise -/
section
variable {P : Program} {w : World} {K : PySem.W.Frag} {mg : Str → Option Value} {base : Heap}
theorem exn_leave {N : List Str} {qual : Str} {scope : Scope} {f : Addr} {cd : Value} {A : Around} {outer : List Env} {s : Shared} {H : Hp} {E : XK} {R : St → Addr → Hp → Prop} {v : Value} {s' : Shared}
    (h : Exn (cxOf (CX1 P w) P w K mg base N qual scope f cd A outer s H E) R v s') (hR : ∀ σ e H', R σ e H' → E (.ref e) none H') : (cxOf (CX1 P w) P w K mg base N qual scope f cd A outer s H E).xe v s' := by
  obtain ⟨e, σ, H', rfl, I, fl, he, r⟩ := h
  have T : Top (cxOf (CX1 P w) P w K mg base N qual scope f cd A outer s H E) := ⟨rfl, rfl, rfl⟩
  refine fly_leave (base := base) (L := s.heap.objs.size) (env := envOfC qual scope s.heap.objs.size f cd) (outer := outer) I.ok.frames I.stack rfl fl I.sz (fun b hb => I.hok.fresh hb) fun h1 a1 f1 => ?_
  have I1 := I.flew T.pn he f1
  exact ⟨e, H', rfl, I1.os, I1.bare, I1.base, I1.hok, a1, he, hR σ e H' r⟩
/-- THE RULE for a def that may raise -/
theorem Fun.okX {x qual : Str} {st : Stmt} {f : Addr} {fd : FuncData} {N ps : List Str} {k : Nat} {sp : Sp} (F : Fun K x qual st f fd) (S : FnScope N ps (defScope st)) (len : ∀ vs H Q E, sp vs H Q E → vs.length = ps.length)
    (hbody : ∀ (cdv : Value) (A : Around) (outer : List Env) (s : Shared) (H : Hp) (vs : List V) (Q : VK) (E : XK), Room k (A.deeper (envOfC qual (defScope st) s.heap.objs.size f cdv)) → sp vs H Q E →
      ∃ t, PSs (xw (cxOf (CX1 P w) P w K mg base N qual (defScope st) f cdv A outer s H E) fun _ e H' => E (.ref e) none H') (defBody st) t ∧ t { nx := fun _ H' => Q .non H', rt := Q } (start N vs) H) : FnOk P w K mg base (CX1 P w) (k + 1) f fd ps sp := by
  obtain ⟨oc, od, kV, doc, pm, an, cdv, ct, osl, rfl, lk, hcd⟩ := F.ex
  refine fn_of lk hcd S len fun A outer s H vs Q E hr hsp => ?_
  obtain ⟨t, h, q⟩ := hbody cdv A outer s H vs Q E hr hsp
  refine ⟨t, fun pins s1 σ H1 D I hw => wpAny_mono (h pins s1 σ H1 D (I.wish _) hw) (fun _ _ z => z.unwish) fun v s2 z => exn_leave z fun _ _ _ y => y, q⟩
/-- a def that never raises, where exceptions are spoken of -/
theorem FnOk.x {k : Nat} {f : Addr} {fd : FuncData} {ps : List Str} {sp : Sp} (F : FnOk P w K mg base CX0 k f fd ps sp) : FnOk P w K mg base (CX1 P w) k f fd ps sp :=
  ⟨F.len, fun A outer s H args us vs Q E a b c d e => codeAny_mono (F.run A outer s H args us vs Q E a b c d e) fun r s' z => by
    cases r with
    | error e => exact (show False from z).elim
    | ok fl => cases fl <;> exact z⟩
end
end L2
end
section
set_option Elab.async false
set_option linter.all false
set_option maxRecDepth 100000
set_option maxHeartbeats 1000000
namespace L2
open PySem PySem.Spec PyProof.Rows

/-! ### what a class of exceptions must have -/
structure XCls (K : PySem.W.Frag) (C : Addr) : Prop where
  sa : PySem.W.findIn K (.ref C) "__setattr__" = some (some (.builtin "object.__setattr__"))
  po : ∃ cd, PySem.W.clsIn K C = some cd ∧ XM.excLine cd.mro = true
  hd : PySem.W.hasDictIn K C = true
  ga : PySem.W.findIn K (.ref C) "__getattribute__" = some (some (.builtin "BaseException.__getattribute__"))
  gt : PySem.W.findIn K (.ref C) "__getattr__" = some none
  sub : PySem.W.mroIn K C (.type "BaseException") = some true
/-- it can be made and raised -/
structure XMk (K : PySem.W.Frag) (C f : Addr) : Prop where
  at_ : ∃ (nm q : Str) (N : Addr) (bs bm : List Value) (hdct : Bool) (sn : List Str) (sub : List Value) (ab : Bool) (col : Option Bool) (dd : Option Addr) (k0 k1 k2 k3 k5 : Option Value),
    K.lookup C = some (excClassObj nm q C N bs bm hdct sn sub ab col dd k0 k1 k2 k3 k5 "Exception.__new__") ∧ XM.Line "Exception" bm
  init : PySem.W.findIn K (.ref C) "__init__" = some (some (.ref f))
  fn : PySem.W.isFn K (.ref f) = true
  kp : PySem.W.keepIn K (.ref C) = true

section
variable {X : Cx} {pins : List (Addr × Obj)} {σ : St} {H : Hp} {s : Shared} {e C d : Addr} {fs : List (Str × V)} {f : Str} {A : Around} {E : Value → Shared → Prop}
theorem xset_first {y : V} {u : Value} {Q : Unit → Shared → Prop} (I : Inv X pins σ H s) (he : H e = some (ExcN e C none)) (c : XCls X.K C) (n : NoAttr X.K C f) (ry : RelV y u)
    (h : ∀ d s', H d = none → Inv X pins σ (upd (upd H d (XdO d [(f, y)])) e (ExcN e C (some d))) s' → Q () s') : wpAny (model X.prog X.w) A (setAttr (.ref e) f u) Q E s := by
  obtain ⟨vs, sl, q, q1⟩ := excN_get I.hok he
  obtain ⟨cd0, cd1, cd2⟩ := c.po
  refine XM.set_first I.kIn q c.sa cd1 cd2 n.taker c.hd fun h' n1 g1 kp => ?_
  have hf : H s.heap.objs.size = none := I.hok.fresh (Nat.le_refl _)
  have hne : e ≠ s.heap.objs.size := Nat.ne_of_lt (Heap.lt_size q)
  refine h s.heap.objs.size _ hf ?_
  have u1 : Un X.fs [] H (upd H s.heap.objs.size (XdO s.heap.objs.size [(f, y)])) s.heap (s.heap) := Un.laid (fun _ _ z => z) (Nat.le_refl _) hf
  have hmu : Mut (upd H s.heap.objs.size (XdO s.heap.objs.size [(f, y)]) e) := by rw [upd_ne hne, he]; exact True.intro
  have u2 : Un X.fs [] (upd H s.heap.objs.size (XdO s.heap.objs.size [(f, y)])) (upd (upd H s.heap.objs.size (XdO s.heap.objs.size [(f, y)])) e (ExcN e C (some s.heap.objs.size))) s.heap h' :=
    Un.write hmu (.inl rfl) (fun b o hb z => kp b o hb z) ⟨_, g1⟩
  have hok : HOk X.prog X.w (upd (upd H s.heap.objs.size (XdO s.heap.objs.size [(f, y)])) e (ExcN e C (some s.heap.objs.size))) h' := fun b o z => by
    by_cases hb : b = e
    · subst hb; rw [upd_same] at z; cases z; exact excN_ok g1 q1
    · rw [upd_ne hb] at z
      by_cases hb2 : b = s.heap.objs.size
      · subst hb2; rw [upd_same] at z; cases z
        refine xdO_ok n1 (fun g => ?_) (fun g hg => ?_) (by simp)
        · show RelO (List.lookup g [(f, y)]) (if g = f then some u else none)
          by_cases gf : g = f
          · subst gf; simp only [List.lookup, beq_self_eq_true, if_true]; exact ry
          · simp only [List.lookup, beq_eq_false_iff_ne.mpr gf, if_neg gf]; trivial
        · by_cases gf : g = f
          · subst gf; simp
          · simp [gf] at hg
      · rw [upd_ne hb2] at z
        refine (I.hok b o z).stay (fun c v hc r => kp c v ?_ r) (fun c r => ?_) fun c xs r => ?_
        · rcases hc with y | y
          · rw [y]; exact hb
          · exact fun w' => by rw [w', he] at y; cases y
        · rw [upd_ne (ne_of r he (by intro w'; cases w')), upd_ne (ne_of_none r hf)]; exact r
        · rw [upd_ne (ne_of r he (by intro w'; cases w')), upd_ne (ne_of_none r hf)]; exact r
  exact I.un (t' := s.toks + 2) (u1.trans u2) hok
theorem xset_more {y : V} {u : Value} {Q : Unit → Shared → Prop} (I : Inv X pins σ H s) (he : H e = some (ExcN e C (some d))) (hd : H d = some (XdO d fs)) (c : XCls X.K C) (n : NoAttr X.K C f) (hl : fs.length < 1000) (ry : RelV y u)
    (h : ∀ s', Inv X pins σ (upd H d (XdO d (putF f y fs))) s' → Q () s') : wpAny (model X.prog X.w) A (setAttr (.ref e) f u) Q E s := by
  obtain ⟨vs, sl, q, q1⟩ := excN_get I.hok he
  obtain ⟨mA, n1, r, wi, _⟩ := xdO_get I.hok hd
  have hz : (fs.map (·.1)).length ≤ sizeLine := by rw [List.length_map, sizeLine_eq]; omega
  have hne : d ≠ e := fun z => by
    subst z
    obtain ⟨o, _, _, ho, hdt, _⟩ := id n1
    rw [q] at ho; cases ho; cases hdt
  obtain ⟨cd0, cd1, cd2⟩ := c.po
  refine XM.set_more I.kIn q n1 hne c.sa cd1 cd2 n.taker c.hd wi hz fun h' n2 sb => h _ ?_
  have hdo : ∃ o, h'.get? d = some o := let ⟨o, _, _, e', _⟩ := n2; ⟨o, e'⟩
  refine I.write (x := d) (e := d) (by rw [hd]; exact True.intro) (.inl rfl) (fun b q hb z => (sb.2 b hb).trans z) hdo ?_
  refine xdO_ok n2 (fun g => ?_) (fun g hg => ?_) (by have := length_putF f y fs; omega)
  · show RelO ((putF f y fs).lookup g) (if g = f then some u else mA g)
    rw [lookup_putF]
    by_cases q : g = f
    · rw [if_pos q, if_pos q]; exact ry
    · rw [if_neg q, if_neg q]; exact r g
  · by_cases q : g = f
    · rw [q]; exact (keys_putF f y fs).1
    · refine (keys_putF f y fs).2 g (wi g fun z => hg ?_)
      show (if g = f then some u else mA g) = none
      rw [if_neg q]; exact z
theorem xget {b : Bool} {v : V} {Q : Value → Shared → Prop} (I : Inv X pins σ H s) (he : H e = some (ExcO e C (some d))) (hd : H d = some (XdO d fs)) (c : XCls X.K C) (n : NoAttr X.K C f) (l : fs.lookup f = some v)
    (h : ∀ u s', Inv X pins σ H s' → RelV v u → Q u s') : wpAny (model X.prog X.w) A (getAttr (.ref e) f b) Q E s := by
  obtain ⟨vs, sl, q⟩ := excO_get I.hok he
  obtain ⟨mA, n1, r, _, _⟩ := xdO_get I.hok hd
  obtain ⟨u, hu, ru⟩ := RelO.some_of (v := v) (o := mA f) (by rw [← l]; exact r f)
  obtain ⟨od, ho, hl⟩ := lookIn_ns n1
  have J : PySem.W.InstAt s.heap e ⟨.ref C, some d, .fields vs, sl⟩ C (some od) := ⟨q, rfl, rfl, ho⟩
  exact XM.get_exc I.kIn J c.ga c.gt c.sub (PySem.W.findObj_own c.hd n rfl (by rw [hl, hu])) (handed_of ru) (h u _ (I.tok _) ru)
end

/-- self.f = value, in an exception's own __init__ -/
def sXset (K : PySem.W.Frag) (ta tv : TE) (f : Str) : TS := fun D σ H => tv σ H fun y H1 => ta σ H1 fun x H2 => ∃ e C, x = .ref e ∧ XCls K C ∧ NoAttr K C f ∧
  ((H2 e = some (ExcN e C none) ∧ ∀ d, H2 d = none → D.nx σ (upd (upd H2 d (XdO d [(f, y)])) e (ExcN e C (some d)))) ∨
   ∃ d fs, H2 e = some (ExcN e C (some d)) ∧ H2 d = some (XdO d fs) ∧ fs.length < 1000 ∧ D.nx σ (upd H2 d (XdO d (putF f y fs))))
/-- e.f of a caught exception -/
def tXget (K : PySem.W.Frag) (ta : TE) (f : Str) : TE := fun σ H Q => ta σ H fun x H1 => ∃ e C d fs v, x = .ref e ∧ H1 e = some (ExcO e C (some d)) ∧ H1 d = some (XdO d fs) ∧ XCls K C ∧ NoAttr K C f ∧ fs.lookup f = some v ∧ Q v H1
section
variable {X : Cx} {o e value : Expr} {f : Str} {pos pos' apos : Pos} {ta tv : TE}
theorem ps_xset (ha : PE X o ta) (hv : PE X value tv) (hs : swapsWith value (some (.Attribute o f pos')) pos.line X.env = pure false) : PS X (.Assign [.Attribute o f pos'] value pos) (sXset X.K ta tv f) := by
  intro pins s σ H D I h
  refine plainObj_wpAny_Assign_Attribute (thn (hv pins s σ H _ I h) fun u s1 ⟨y, H1, I1, ry, q⟩ => thn (ha pins s1 σ H1 _ I1 q) fun ov s2 ⟨x, H2, I2, rx, a, C, ex, c, n, q2⟩ => ?_) hs
  subst ex
  obtain rfl : ov = Value.ref a := rx
  rcases q2 with ⟨z1, z2⟩ | ⟨d, fs, z1, z2, z3, z4⟩
  · exact xset_first I2 z1 c n ry fun d s3 hd I3 => ⟨σ, _, I3, z2 d hd⟩
  · exact xset_more I2 z1 z2 c n z3 ry fun s3 I3 => ⟨σ, _, I3, z4⟩
theorem pe_xget (he : PE X e ta) (hb : attributeBase e f X.env (eval e X.env) = eval e X.env) : PE X (.Attribute e f pos) (tXget X.K ta f) := by
  intro pins s σ H Q I h
  refine attr_of hb (thn (he pins s σ H _ I h) fun u s1 ⟨x, H1, I1, rx, a, C, d, fs, v, ex, ea, ed, c, n, l, q⟩ => ?_)
  subst ex
  obtain rfl : u = Value.ref a := rx
  exact xget I1 ea ed c n l fun u' s2 I2 ru => ⟨v, H1, I2, ru, q⟩
end

/-! ### C.m(..), m a def of the class C (not bound) -/
structure CMeth (K : PySem.W.Frag) (C : Addr) (m : Str) (f : Addr) : Prop where
  sp : PySem.W.specialIn K (.ref C) "__getattribute__" = some (some (.builtin "type.__getattribute__"))
  rd : PySem.W.readsIn K C (.type "type") = true
  at_ : PySem.W.findCls K (.ref C) (.type "type") m = some (.val (.ref f))
  kp : PySem.W.keepIn K (.ref f) = true
section
variable {X : Cx} {CX : CXT} {k : Nat} {f C : Addr} {fd : FuncData} {ps : List Str} {sp : Sp} {dvs : List V} {ds : List Value} {E : XK} {x m : Str} {p pos apos : Pos} {e o : Expr} {es : List Expr} {ta : TE} {t : TA}
theorem pe_mcls {pl : Sem Bool} (hg : Gl X x) (hm : X.mg x = some (.ref C)) (c : CMeth X.K C m f) (F : FnOk X.prog X.w X.K X.mg X.base CX k f fd ps sp) (hr : Room k X.A) (hb : Binds X.K fd ps ds) (hd : Vals dvs ds) (hx : Passes CX X E) (ha : PA X (e :: es) t)
    (hdb : (x == ("__debug__" : Str)) = false := by decide) (hst : starEach (e :: es) X.env = (false, eval e X.env) :: starEach es X.env := by rfl) (hpl : (backTo pos (starEach es X.env)).any (·.1) = false := by rfl)
    (ht : eval (.Call (.Attribute (.Name x p) m apos) (e :: es) [] pos) X.env = (do
      let ov ← eval (.Name x p) X.env
      standAt apos.atName
      let (f, first) ← holding [ov] (getMethod ov m pl)
      callWith pos f first (backTo pos (starEach (e :: es) X.env)) (backToKw pos (keywordEach [] X.env))) := by rfl) :
    PE X (.Call (.Attribute (.Name x p) m apos) (e :: es) [] pos) (tCall sp dvs E t) := by
  intro pins s σ H Q I h
  refine PySem.W.methodCall_KW (pl := pl) (ld_glob I hg hm ?_ hdb) ht
  refine PySem.W.method_cls I.kIn c.sp (PySem.W.cls_value I.kIn c.rd c.at_ rfl ?_)
  have I1 := I.tok (s.toks + 1)
  refine PySem.W.callWith_K (first := []) (h₀ := X.base) I.ok.mod.kin c.kp (thn (ha pos pins _ σ H _ I1 h) fun us s2 ⟨vs, H2, I2, r, q2⟩ => ⟨I2.kIn, ?_⟩) hst hpl
  exact run_fn (us := us) (vs := vs) F hr hb hd hx I2 r q2
/-- C(..), C a class of exceptions with an __init__ of its own -/
def tXmake (C : Addr) (sp : Sp) (dvs : List V) (E : XK) (t : TA) : TE := fun σ H Q => t σ H fun vs H1 => vs.length ≤ 1000 ∧ ∀ e, H1 e = none → sp (.ref e :: (vs ++ dvs)) (upd H1 e (ExcN e C none)) (fun v H2 => v = .non ∧ Q (.ref e) H2) E
theorem run_xmake {pins : List (Addr × Obj)} {σ : St} {H : Hp} {s : Shared} {Q : VK} {us : List Value} {vs : List V} (M : XMk X.K C f) (F : FnOk X.prog X.w X.K X.mg X.base CX k f fd ps sp) (hr : Room (k + 1) X.A) (hb : Binds X.K fd ps ds) (hd : Vals dvs ds)
    (hx : Passes CX X E) (I : Inv X pins σ H s) (r : Vals vs us) (hl : vs.length ≤ 1000)
    (h : ∀ e, H e = none → sp (.ref e :: (vs ++ dvs)) (upd H e (ExcN e C none)) (fun v H2 => v = .non ∧ Q (.ref e) H2) E) : wpAny (model X.prog X.w) X.A (call (.ref C) us) (EP X pins σ Q) X.xe s := by
  have hq := h (s.heap.objs.size + 1) (I.hok.fresh (Nat.le_succ _))
  obtain ⟨nm, q, N, bs, bm, hdct, sn, sub, ab, col, dd, k0, k1, k2, k3, k5, hC, ln⟩ := M.at_
  obtain ⟨oI, hoI, hoc⟩ : ∃ oI, X.K.lookup f = some oI ∧ oI.cls = .type "function" := by
    have z := beq_iff_eq.mp M.fn
    obtain ⟨o, ho, z⟩ := Option.map_eq_some_iff.mp z
    exact ⟨o, ho, z⟩
  have hu : us.length ≤ sizeLine := by rw [← r.length, sizeLine_eq]; omega
  have g1 : ((s.heap.push { cls := .type "tuple", data := .seq us.toArray }).push { cls := .ref C, data := .fields #[.ref s.heap.objs.size, .none, .none, .none, .bool false, .none] }).get? (s.heap.objs.size + 1) =
      some ⟨.ref C, none, .fields #[.ref s.heap.objs.size, .none, .none, .none, .bool false, .none], #[]⟩ := by
    have := Heap.get?_push_size (s.heap.push { cls := .type "tuple", data := .seq us.toArray }) (o := { cls := .ref C, data := .fields #[.ref s.heap.objs.size, .none, .none, .none, .bool false, .none] }) rfl
    rwa [Heap.size_push] at this
  have I2 : Inv X pins σ (upd H (s.heap.objs.size + 1) (ExcN (s.heap.objs.size + 1) C none)) { s with heap := (s.heap.push { cls := .type "tuple", data := .seq us.toArray }).push { cls := .ref C, data := .fields #[.ref s.heap.objs.size, .none, .none, .none, .bool false, .none] } } :=
    I.laid (t' := s.toks) (fun b u z => Heap.get?_push_of_some _ (Heap.get?_push_of_some _ z)) (Nat.le_succ _) (excN_ok g1 rfl)
  have r2 : Vals (V.ref (s.heap.objs.size + 1) :: (vs ++ dvs)) (Value.ref (s.heap.objs.size + 1) :: (us ++ ds)) := .cons rfl (r.append hd)
  have hl2 : (Value.ref (s.heap.objs.size + 1) :: us ++ ds).length = ps.length := by
    have e := r2.length
    rw [F.len _ _ _ _ hq] at e
    exact e.symm
  obtain ⟨hh, g, d, t, os⟩ := s
  refine XM.made PySem.F.excBase_Exception ln (I.kIn _ _ hC) (PySem.W.looks_findIn I.kIn M.init) (I.kIn _ _ hoI) hoc hu ?_
  refine wpAny_call (codeAny_mono (F.run _ X.stack _ _ ⟨Value.ref (hh.objs.size + 1) :: us, []⟩ (Value.ref (hh.objs.size + 1) :: (us ++ ds)) _ _ E (hr.make C us [])
    (I2.env0.make C us []) (hb _ (Value.ref (hh.objs.size + 1) :: us) I2.kIn hl2) r2 hq) fun r s' hq' => ?_)
  cases r with
  | error e => exact hx pins σ _ _ e s' I2 hq'
  | ok fl =>
    cases fl with
    | ret u =>
      obtain ⟨v, H', I3, rv, ev, q3⟩ := I2.after hq'
      subst ev
      exact ⟨rv, ⟨V.ref (hh.objs.size + 1), H', I3, rfl, q3⟩⟩
    | next => exact False.elim hq'
    | brk => exact False.elim hq'
    | cont => exact False.elim hq'
theorem pe_xmake (M : XMk X.K C f) (F : FnOk X.prog X.w X.K X.mg X.base CX k f fd ps sp) (hr : Room (k + 1) X.A) (hg : Gl X x) (hm : X.mg x = some (.ref C)) (hb : Binds X.K fd ps ds) (hd : Vals dvs ds) (hx : Passes CX X E)
    (ha : PA X (e :: es) t) (hdb : (x == ("__debug__" : Str)) = false := by decide) (he : starEach (e :: es) X.env = (false, eval e X.env) :: starEach es X.env := by rfl) (hpl : (backTo pos (starEach es X.env)).any (·.1) = false := by rfl) :
    PE X (.Call (.Name x p) (e :: es) [] pos) (tXmake C sp dvs E t) := by
  intro pins s σ H Q I h
  refine wpAny_Call_Name_kw (ld_glob I hg hm ?_ hdb)
  refine PySem.W.callWith_K (h₀ := X.base) I.ok.mod.kin M.kp (thn (ha pos pins s σ H _ I h) fun us s1 ⟨vs, H1, I1, r, hl, q⟩ => ⟨I1.kIn, ?_⟩) he hpl
  exact run_xmake M F hr hb hd hx I1 r hl q
theorem pe_xmake0 (M : XMk X.K C f) (F : FnOk X.prog X.w X.K X.mg X.base CX k f fd ps sp) (hr : Room (k + 1) X.A) (hg : Gl X x) (hm : X.mg x = some (.ref C)) (hb : Binds X.K fd ps ds) (hd : Vals dvs ds) (hx : Passes CX X E)
    (hdb : (x == ("__debug__" : Str)) = false := by decide) : PE X (.Call (.Name x p) [] [] pos) (tXmake C sp dvs E tNil) := by
  intro pins s σ H Q I h
  refine wpAny_Call_Name_kw (ld_glob I hg hm ?_ hdb)
  exact PySem.W.callWith_K0 I.kIn M.kp (run_xmake (us := []) M F hr hb hd hx I .nil h.1 h.2)
end

/-! ### raise -/
def tRaise (K : PySem.W.Frag) (R : St → Addr → Hp → Prop) (te : TE) : TS := fun _ σ H => te σ H fun x H1 => ∃ e C f dx, x = .ref e ∧ H1 e = some (ExcN e C dx) ∧ XMk K C f ∧ R σ e (upd H1 e (ExcO e C dx))
theorem ps_raise {X : Cx} {R : St → Addr → Hp → Prop} {e : Expr} {te : TE} {pos : Pos} (hh : X.A.handled = none) (he : PE (xw X R) e te) : PS (xw X R) (.Raise (some e) none pos) (tRaise X.K R te) := by
  intro pins s σ H D I h
  rw [arm_exec_Raise]
  refine wpAny_bind (wpAny_standAt ?_)
  show wpAny _ _ (raiseStmt _ (some (do let v ← eval e X.env; standAt pos; pure v)) none) _ _ _
  have key : wpAny (model X.prog X.w) X.A (do let v ← eval e X.env; standAt pos; pure v) (fun v s1 => ∃ (a C : Addr) (f : Addr) (dx : Option Addr) (H1 : Hp), v = .ref a ∧ Inv X pins σ H1 s1 ∧ H1 a = some (ExcN a C dx) ∧ XMk X.K C f ∧ R σ a (upd H1 a (ExcO a C dx))) (Exn X R) s := by
    refine wpAny_bind (thn (he pins s σ H _ I h) fun u s1 ⟨x, H1, I1, rx, a, C, f, dx, ex, h1, h2, h3⟩ => wpAny_bind (wpAny_standAt (wpAny_pure ?_)))
    subst ex
    obtain rfl : u = Value.ref a := rx
    exact ⟨a, C, f, dx, H1, rfl, I1.unwish, h1, h2, h3⟩
  -- the class is known behind the value: so the rule is used for each
  unfold raiseStmt
  refine wpAny_bind (wpAny_mono key (fun v s1 z => ?_) fun _ _ z => z)
  obtain ⟨a, C, f, dx, H1, rfl, I1, h1, M, h3⟩ := z
  obtain ⟨nm, q, N, bs, bm, hdct, sn, sub, ab, col, dd, k0, k1, k2, k3, k5, hC, ln⟩ := M.at_
  obtain ⟨vs, sl, hge, hv1⟩ := excN_get I1.hok h1
  have r0 := XM.raises (M := model X.prog X.w) (A := X.A) (E := Exn X R) (s := s1) (env := X.env) (x := pure (.ref a)) (Q := SP (xw X R) pins D) (C := C) (nm := nm) (q := q) (N := N) (bs := bs) (bm := bm) (hdct := hdct) (sn := sn) (sub := sub) (ab := ab) (col := col) (dd := dd) (k0 := k0) (k1 := k1) (k2 := k2) (k3 := k3) (k5 := k5) (newId := "Exception.__new__") ln.base hh
    (wpAny_pure ⟨a, _, vs, rfl, I1.kIn _ _ hC, hge, rfl, rfl, hv1, ?_⟩)
  · exact r0
  · have I2 : Inv X pins σ (upd H1 a (ExcO a C dx)) s1 := I1.write (x := a) (e := a) (h' := s1.heap) (t' := s1.toks) (by rw [h1]; exact True.intro) (.inl rfl) (fun b u _ z => z) ⟨_, hge⟩ (excO_ok hge)
    exact ⟨a, σ, _, rfl, I2.pins_of (pins' := []) (fun p hp => absurd hp (by simp)), .inl ⟨_, vs, hge, rfl, hv1⟩, ⟨C, dx, upd_same⟩, h3⟩
end L2
end
section
set_option Elab.async false
set_option linter.all false
set_option maxRecDepth 100000
set_option maxHeartbeats 1000000
namespace L2
open PySem PySem.Spec PyProof.Rows

/-! ### within an except suite -/
abbrev sx (X : Cx) (e : Addr) : Cx := { X with A := X.A.mark (some (.ref e)), calm := false, xe := fun _ _ => False }
section
variable {X : Cx} {pins : List (Addr × Obj)} {σ : St} {H : Hp} {s : Shared} {e : Addr}
theorem Inv.sx (I : Inv X pins σ H s) (e : Addr) : Inv (sx X e) pins σ H s :=
  ⟨⟨I.ok.mod, I.ok.kind, I.ok.glob, I.ok.blt, I.ok.above, I.ok.inj, I.ok.has, I.ok.cab, (fun z => by cases z), I.ok.frames, I.ok.stk, I.ok.exf, I.ok.bs, I.ok.bsz, I.ok.noex, I.ok.exfs, I.ok.funs, I.ok.frf⟩,
    I.os, I.bare, I.base, I.loc, I.cell, I.free, I.freeC, I.pin, I.hok, I.len⟩
theorem Inv.unsx (I : Inv (L2.sx X e) pins σ H s) (ok : X.Ok) : Inv X pins σ H s := ⟨ok, I.os, I.bare, I.base, I.loc, I.cell, I.free, I.freeC, I.pin, I.hok, I.len⟩
/-- the frame's names are forgotten -/
theorem Inv.wiped {m' : Str → Option Value} {h' : Heap} {t' : Nat} (I : Inv X pins σ H s) (hn : h'.Ns X.env.locals m') (hs : Heap.SameBut X.env.locals s.heap h') : Inv X pins (σ.map fun _ => none) H { s with heap := h', toks := t' } := by
  have neL : ∀ b o, X.s_0.heap.get? b = some o → b ≠ X.env.locals := fun b o q => Nat.ne_of_lt (Nat.lt_of_lt_of_le (Heap.lt_size q) I.ok.above)
  refine ⟨I.ok, I.os, I.bare, ⟨fun b o q n hb hx => (hs.2 b (neL b o q)).trans (I.base.keep b o q n hb hx), fun b o q n hb hx => ?_, I.base.free, fun b o q hx => ?_, I.base.tups, I.base.frzs, I.base.tbls⟩,
    ⟨m', hn, fun i x v _ e2 _ => ?_⟩, fun y c q => ?_, I.free, I.freeC, fun p hp => ?_, fun b u q => ?_, by rw [List.length_map]; exact I.len⟩
  · obtain ⟨sl, z⟩ := I.base.slot b o q n hb hx
    exact ⟨sl, (hs.2 b (neL b o q)).trans z⟩
  · obtain ⟨o', z⟩ := I.base.there b o q hx
    exact ⟨o', (hs.2 b (neL b o q)).trans z⟩
  · rw [List.getElem?_map] at e2
    cases z : σ[i]? with
    | none => rw [z] at e2; cases e2
    | some y => rw [z] at e2; cases e2
  · obtain ⟨w', z⟩ := I.cell y c q
    exact ⟨w', z.sameBut hs (I.cne y c q)⟩
  · obtain ⟨q, n, ne, nf, d⟩ := I.pin p hp
    exact ⟨(hs.2 p.1 ne).trans q, n, ne, nf, d⟩
  · refine (I.hok b u q).stay (fun c v hc r => (hs.2 c fun z => ?_).trans r) (fun _ r => r) fun _ _ r => r
    rcases hc with y | y
    · rw [← y, z, I.free] at q; cases q
    · rw [z, I.free] at y; cases y
end

/-! ### statements of a body itself (no loop around them) -/
def PS0 (X : Cx) (st : Stmt) (t : TS) : Prop := ∀ (s : Shared) (σ : St) (H : Hp) (D : Ends), Inv X [] σ H s → t D σ H → wpAny (model X.prog X.w) X.A (exec st X.env) (SP X [] D) X.xe s
def PSs0 (X : Cx) (st : List Stmt) (t : TS) : Prop := ∀ (s : Shared) (σ : St) (H : Hp) (D : Ends), Inv X [] σ H s → t D σ H → wpAny (model X.prog X.w) X.A (execs st X.env) (SP X [] D) X.xe s
section
variable {X : Cx} {st : Stmt} {rest : List Stmt} {t u : TS}
theorem PS.to0 (h : PS X st t) : PS0 X st t := fun s σ H D I q => h [] s σ H D I q
theorem PSs.to0 (h : PSs X rest t) : PSs0 X rest t := fun s σ H D I q => h [] s σ H D I q
theorem pss0_cons (h1 : PS0 X st t) (h2 : PSs0 X rest u) : PSs0 X (st :: rest) (tSeq t u) := by
  intro s σ H D I h
  refine wpAny_execs_cons (thn (h1 s σ H { D with nx := u D } I h) fun f s1 q => ?_)
  cases f with
  | next =>
    obtain ⟨σ', H', I', q⟩ := q
    exact h2 s1 σ' H' D I' q
  | ret v => exact q
  | brk => exact q
  | cont => exact q
end
/-- THE RULE for a def that never raises and has a try of its own -/
theorem Fun.ok0 {P : Program} {w : World} {K : PySem.W.Frag} {mg : Str → Option Value} {base : Heap} {x qual : Str} {st : Stmt} {f : Addr} {fd : FuncData} {N ps : List Str} {k : Nat} {sp : Sp} (F : Fun K x qual st f fd) (S : FnScope N ps (defScope st)) (len : ∀ vs H Q E, sp vs H Q E → vs.length = ps.length)
    (hbody : ∀ (cdv : Value) (A : Around) (outer : List Env) (s : Shared) (H : Hp) (vs : List V) (Q : VK) (E : XK), Room k (A.deeper (envOfC qual (defScope st) s.heap.objs.size f cdv)) → sp vs H Q E →
      ∃ t, PSs0 (cxOf CX0 P w K mg base N qual (defScope st) f cdv A outer s H E).nox (defBody st) t ∧ t { nx := fun _ H' => Q .non H', rt := Q } (start N vs) H) : FnOk P w K mg base CX0 (k + 1) f fd ps sp := by
  obtain ⟨oc, od, kV, doc, pm, an, cdv, ct, osl, rfl, lk, hcd⟩ := F.ex
  refine ⟨len, fun A outer s H args us vs Q E hr e0 hb r hsp => ?_⟩
  have KX : K.In s.heap := e0.mod.kin.keeps fun b o e => (e0.bs b o e).1
  have lim : s.heap.NoLimit := e0.mod.nolimit.keeps fun b o e => (e0.bs b o e).1
  refine codeAny_call_function hr.depth (KX _ _ lk) rfl S.co S.gen rfl (PySem.W.codeRec_of KX hcd) (hb _ _ _ _ ?_)
  refine wpAny_newFunctionEnv_cells S.kind (fun ⟨n, v⟩ hy => ?_) fun env he s1 x => ?_
  · rcases S.par n (List.of_mem_zip hy).1 with q | q
    · exact .inl q
    · exact .inr ⟨q, PySem.W.cellsFrom_some _ _ _ (.inl q)⟩
  · subst he
    refine ⟨lim.keeps x.toInCall.keep, codeAny_func ?_⟩
    obtain ⟨t, ht, hq⟩ := hbody cdv A outer s H vs Q E (hr.deeper _) hsp
    have I : Inv (cxOf CX0 P w K mg base N qual (defScope st) f cdv A outer s H E) [] (start N vs) H s1 := inv_start S hr.hd e0 (len _ _ _ _ hsp) r x
    refine wpAny_mono (ht s1 (start N vs) H _ (I.wish _) hq) (fun fl s' hs => ?_) fun e s' hs => hs.elim
    have fin : ∀ {σ' : St} {H' : Hp} {v : V} {u : Value}, Inv (cxOf CX0 P w K mg base N qual (defScope st) f cdv A outer s H E).nox [] σ' H' s' → RelV v u → Q v H' → CE outer P w H s Q u s' :=
      fun {σ' H' v u} J rv q => ⟨v, H', J.os, J.bare, J.base, J.hok, rv, q⟩
    cases fl with
    | ret u =>
      obtain ⟨v, σ', H', J, rv, q⟩ := hs
      exact fin J rv q
    | next =>
      obtain ⟨σ', H', J, q⟩ := hs
      exact fin (v := V.non) (u := Value.none) J rfl q
    | brk =>
      obtain ⟨_, _, _, q⟩ := hs
      exact False.elim q
    | cont =>
      obtain ⟨_, _, _, q⟩ := hs
      exact False.elim q

/-! ### try, one clause «except C as n», whose suite returns -/
def tTry (K : PySem.W.Frag) (R : St → Addr → Hp → Prop) (C0 : Addr) (i : Nat) (tb ts : TS) : TS := fun D σ H => tb D σ H ∧
  ∀ e σ' H', IsExc H' e → R σ' e H' → (∃ C dx, H' e = some (ExcO e C dx) ∧ PySem.W.exmOne K (.ref C) (.ref C0) = some true) ∧ ts { nx := fun _ _ => False, rt := D.rt } (σ'.set i (some (.ref e))) H'
theorem ps0_try {X : Cx} {R : St → Addr → Hp → Prop} {body suite : List Stmt} {b0 : Stmt} {x n : Str} {np hpos pos : Pos} {tb ts : TS} {i : Nat} {C0 : Addr} (T : Top X) (hb : PSs (xw X R) body tb) (hs : ∀ e, PSs (sx X e) (b0 :: suite) ts)
    (hnd : X.N.Nodup) (hi : X.N[i]? = some n) (hl : X.env.scope.names.lookup n = some .local) (hg : Gl X x) (hm : X.mg x = some (.ref C0)) (hdb : (x == ("__debug__" : Str)) = false := by decide) :
    PS0 X (.Try body [.ExceptHandler (some (.Name x np)) (some n) (b0 :: suite) hpos] [] [] pos) (tTry X.K R C0 i tb ts) := by
  intro s σ H D I h
  obtain ⟨h1, h2⟩ := h
  refine wpAny_Try_except (wpAny_mono (hb [] s σ H D (I.wish _) h1) (fun f s1 q => ?_) fun v s1 q => ?_)
  · have q := SP.unwish q
    cases f with
    | next => exact wpAny_execs_nil q
    | ret v => exact q
    | brk => exact q
    | cont => exact q
  · obtain ⟨e, σ', H', rfl, I1, fl, he, r⟩ := q
    obtain ⟨⟨C, dx, hC, hx⟩, h3⟩ := h2 e σ' H' he r
    have hfr : s1.heap.FunFrames X.base (X.env :: X.outer) := by have := I1.stack; rw [T.st] at this; exact this
    refine fly_land (by rw [I1.ok.frames, T.st]) hfr T.fr fl I1.sz (fun b hb => I1.hok.fresh hb) fun g2 a2 f2 => ?_
    have I2 := I1.flew T.pn he (by rw [T.st]; exact f2)
    have I3 := I2.sx e
    refine wpAny_handleBy_cons (codeAny_handlers_test ?_) (by intro q; cases q)
    refine ld_glob (X := L2.sx X e) I3 hg hm ?_ hdb
    obtain ⟨vs, sl, hge⟩ := excO_get I2.hok hC
    have LT : PySem.W.Looks (model X.prog X.w) g2 (typeOf (.ref e)) (⟨.ref C, dx, .fields vs, sl⟩ : Obj).cls := (PySem.W.Looks.ld hge).andThen .now
    refine PySem.W.Looks.here (s := { s1 with heap := g2 }) (PySem.W.exm_one I2.kIn LT hx) ?_
    refine codeAny_handlers_suite_as ?_
    refine fly_set (s := { s1 with heap := g2 }) (fs := frs (X.env :: X.outer)) a2 (fun g3 a3 f3 => ?_) (FlyAt.noRec (fl := .none) (fs := []) hfr f2) none rfl
    have I4 := (Inv.flew (s := { s1 with heap := g2 }) I2 T.pn he (by rw [T.st]; exact f3)).sx e
    refine store_ok (X := L2.sx X e) I4 hnd hi (.inl hl) (v := .ref e) rfl (fun s5 I5 => ?_) (.inr hl)
    refine wpAny_mono (hs e [] s5 _ H' _ I5 h3) (fun f s6 q6 => ?_) (fun _ _ z => z.elim)
    cases f with
    | next => obtain ⟨_, _, _, z⟩ := q6; exact z.elim
    | brk => obtain ⟨_, _, _, z⟩ := q6; exact z.elim
    | cont => obtain ⟨_, _, _, z⟩ := q6; exact z.elim
    | ret u =>
      obtain ⟨v, σ6, H6, I6, r6, z6⟩ := q6
      obtain ⟨m6, hn6, _⟩ := id I6.loc
      have hp : (X.env.scope.kind == .class || (X.env.scope.kind == .module && X.env.locals != X.env.globals)) = false := by rw [I.ok.kind]; rfl
      refine wpAny_nameGoes hl hn6 hp fun h' m' hn' sb => ?_
      exact ⟨v, _, H6, ((I6.unsx I.ok).wiped hn' sb), r6, z6⟩

/-! ### a call in a body that tries: what is wanted of an exception may speak of the frame -/
abbrev ER (R : St → Addr → Hp → Prop) (σ : St) : XK := fun v _ H' => ∃ e, v = .ref e ∧ R σ e H'
def tCallX (sp : Sp) (R : St → Addr → Hp → Prop) (t : TA) : TE := fun σ H Q => t σ H fun vs H1 => sp vs H1 Q (ER R σ)

/-! ### a def by its name -/
structure Ok (P : Program) (w : World) (K : PySem.W.Frag) (mg : Str → Option Value) (base : Heap) (CX : CXT) (k : Nat) (nm : Str) (ps : List Str) (sp : Sp) : Prop where
  ex : ∃ (f : Addr) (fd : FuncData), FnOk P w K mg base CX k f fd ps sp ∧ Binds K fd ps [] ∧ mg nm = some (.ref f) ∧ PySem.W.keepIn K (.ref f) = true
structure Def (K : PySem.W.Frag) (mg : Str → Option Value) (nm : Str) (st : Stmt) (ps : List Str) : Prop where
  ex : ∃ (f : Addr) (fd : FuncData), Fun K nm nm st f fd ∧ Binds K fd ps [] ∧ mg nm = some (.ref f)
section
variable {P : Program} {w : World} {K : PySem.W.Frag} {mg : Str → Option Value} {base : Heap} {CX : CXT} {k j : Nat} {nm : Str} {ps : List Str} {sp sp' : Sp} {st : Stmt}
theorem Def.ok (d : Def K mg nm st ps) (h : ∀ f fd, Fun K nm nm st f fd → FnOk P w K mg base CX k f fd ps sp) : Ok P w K mg base CX k nm ps sp := by
  obtain ⟨f, fd, F, b, m⟩ := d.ex
  exact ⟨f, fd, h f fd F, b, m, F.kp⟩
theorem Ok.mono (o : Ok P w K mg base CX j nm ps sp) (h : j ≤ k) : Ok P w K mg base CX k nm ps sp := by
  obtain ⟨f, fd, F, r⟩ := o.ex
  exact ⟨f, fd, F.mono h, r⟩
theorem Ok.x (o : Ok P w K mg base CX0 k nm ps sp) : Ok P w K mg base (CX1 P w) k nm ps sp := by
  obtain ⟨f, fd, F, r⟩ := o.ex
  exact ⟨f, fd, F.x, r⟩
end
section
variable {X : Cx} {CX : CXT} {k : Nat} {ps : List Str} {sp : Sp} {E : XK} {x : Str} {p pos : Pos} {e : Expr} {es : List Expr} {t : TA} {R : St → Addr → Hp → Prop}
theorem pe_fn (o : Ok X.prog X.w X.K X.mg X.base CX k x ps sp) (hr : Room k X.A) (hx : Passes CX X E) (ha : PA X (e :: es) t) (hg : Gl X x := by rfl) (hdb : (x == ("__debug__" : Str)) = false := by decide)
    (he : starEach (e :: es) X.env = (false, eval e X.env) :: starEach es X.env := by rfl) (hpl : (backTo pos (starEach es X.env)).any (·.1) = false := by rfl) : PE X (.Call (.Name x p) (e :: es) [] pos) (tCall sp [] E t) := by
  obtain ⟨f, fd, F, b, m, kp⟩ := o.ex
  exact pe_call F hr hg m kp b .nil hx ha hdb he hpl
theorem pe_fn0 (o : Ok X.prog X.w X.K X.mg X.base CX0 k x ps sp) (hr : Room k X.A) (ha : PA X (e :: es) t) (hg : Gl X x := by rfl) (hdb : (x == ("__debug__" : Str)) = false := by decide)
    (he : starEach (e :: es) X.env = (false, eval e X.env) :: starEach es X.env := by rfl) (hpl : (backTo pos (starEach es X.env)).any (·.1) = false := by rfl) : PE X (.Call (.Name x p) (e :: es) [] pos) (tCall sp [] E0 t) :=
  pe_fn o hr pass0 ha hg hdb he hpl
/-- .. in a body that tries -/
theorem pe_fnX (o : Ok X.prog X.w X.K X.mg X.base (CX1 X.prog X.w) k x ps sp) (hr : Room k X.A) (ha : PA (xw X R) (e :: es) t) (hg : Gl X x := by rfl) (hdb : (x == ("__debug__" : Str)) = false := by decide)
    (he : starEach (e :: es) X.env = (false, eval e X.env) :: starEach es X.env := by rfl) (hpl : (backTo pos (starEach es X.env)).any (·.1) = false := by rfl) : PE (xw X R) (.Call (.Name x p) (e :: es) [] pos) (tCallX sp R t) := by
  intro pins s σ H Q I h
  obtain ⟨f, fd, F, hb, m, kp⟩ := o.ex
  refine wpAny_Call_Name_kw (ld_glob I hg m ?_ hdb)
  refine PySem.W.callWith_K (h₀ := X.base) I.ok.mod.kin kp (thn (ha pos pins s σ H _ I h) fun us s1 ⟨vs, H1, I1, r, q⟩ => ⟨I1.kIn, ?_⟩) he hpl
  have hl : (us ++ []).length = ps.length := by rw [List.append_nil, ← r.length]; exact F.len _ _ _ _ q
  have hb' := hb s1 us I1.kIn hl
  rw [List.append_nil] at hb'
  refine wpAny_call (codeAny_mono (F.run X.A X.stack s1 H1 ⟨us, []⟩ us vs Q (ER R σ) hr I1.env0 hb' r q) fun r s' hq => ?_)
  cases r with
  | error v => exact cx1_exn I1.unwish hq fun e H' ⟨e', z, y⟩ => by cases z; exact y
  | ok fl =>
    cases fl with
    | ret u => exact I1.after hq
    | next => exact False.elim hq
    | brk => exact False.elim hq
    | cont => exact False.elim hq
/-- a call of what stands in a slot -/
def tCallV (X : Cx) (i k : Nat) (ps : List Str) (sp : Sp) (t : TA) : TE := fun σ H Q => ∃ (f : Addr) (fd : FuncData), σ[i]? = some (some (.ref f)) ∧ FnOk X.prog X.w X.K X.mg X.base CX0 k f fd ps sp ∧ Binds X.K fd ps [] ∧ PySem.W.keepIn X.K (.ref f) = true ∧ t σ H fun vs H1 => sp vs H1 Q E0
theorem pe_callV (i : Nat) (hr : Room k X.A) (ha : PA X (e :: es) t) (hN : X.N[i]? = some x := by rfl) (hv : Vis X.env.scope x := by first | exact Or.inl rfl | exact Or.inr (Or.inl rfl) | exact Or.inr (Or.inr rfl)) (hdb : (x == ("__debug__" : Str)) = false := by decide)
    (hcd : (x == ("__classdict__" : Str)) = false := by decide) (he : starEach (e :: es) X.env = (false, eval e X.env) :: starEach es X.env := by rfl) (hpl : (backTo pos (starEach es X.env)).any (·.1) = false := by rfl) :
    PE X (.Call (.Name x p) (e :: es) [] pos) (tCallV X i k ps sp t) := by
  rintro pins s σ H Q I ⟨f, fd, hs, F, hb, kp, h⟩
  refine wpAny_Call_Name_kw (thn (pe_var (pos := p) hN hv hdb hcd pins s σ H (fun v H1 => v = .ref f ∧ H1 = H) I ⟨_, hs, rfl, rfl⟩) fun u s0 ⟨v, H0, I0, ru, ev, eh⟩ => ?_)
  subst ev; subst eh
  obtain rfl : u = Value.ref f := ru
  refine PySem.W.callWith_K (h₀ := X.base) I0.ok.mod.kin kp (thn (ha pos pins s0 σ H0 _ I0 h) fun us s1 ⟨vs, H1, I1, r, q⟩ => ⟨I1.kIn, ?_⟩) he hpl
  exact run_fn (dvs := []) (ds := []) F hr hb .nil (pass0 (X := X)) I1 r (by rw [List.append_nil]; exact q)
end
end L2
end
section
set_option Elab.async false
set_option linter.all false
set_option maxRecDepth 100000
set_option maxHeartbeats 1000000
namespace L2
open PySem PySem.Spec PyProof.Rows

/-! ### dicts of the module: written keys -/
def KeysS (P : Params) : List DictEntry → List Str → Prop
  | [], [] => True
  | e :: r, x :: l => (∃ t, e.key = .str x t) ∧ e.hash = PyData.keyHash P x ∧ KeysS P r l
  | _, _ => False
def KeysI : List DictEntry → List (Int × Str) → Prop
  | [], [] => True
  | e :: r, x :: l => (∃ t, e.key = .int x.1 t) ∧ e.hash = hashInt x.1 ∧ (∃ t, e.val = .str x.2 t) ∧ KeysI r l
  | _, _ => False
theorem KeysS.lit {P : Params} : ∀ {es : List DictEntry} {l : List Str}, KeysS P es l → PySem.W.KeysLit P es
  | [], [], _ => True.intro
  | _ :: _, x :: _, ⟨⟨t, h1⟩, h2, r⟩ => ⟨⟨x, t, h1, h2⟩, r.lit⟩
theorem KeysS.find {P : Params} (x : Str) : ∀ {es : List DictEntry} {l : List Str}, KeysS P es l → (es.find? fun d => Value.isStrOf x d.key).isSome = decide (x ∈ l)
  | [], [], _ => by simp
  | e :: _, y :: l, ⟨⟨t, h1⟩, _, r⟩ => by
    rw [List.find?_cons, h1]
    have q : Value.isStrOf x (.str y t) = decide (x = y) := by
      by_cases z : x = y
      · subst z; simp [Value.isStrOf]
      · simp [Value.isStrOf, z, Ne.symm z]
    rw [q]
    by_cases z : x = y
    · subst z; simp
    · rw [decide_eq_false z, r.find x]; simp [z]
theorem KeysI.find (k : Int) : ∀ {es : List DictEntry} {l : List (Int × Str)}, KeysI es l → RelO ((TW.lk l k).map V.str) ((es.find? fun d => Value.isInt k d.key).map (·.val))
  | [], [], _ => True.intro
  | e :: _, y :: l, ⟨⟨t, h1⟩, _, ⟨t', h2⟩, r⟩ => by
    have ih := r.find k
    unfold TW.lk at ih ⊢
    rw [List.find?_cons, List.find?_cons, h1]
    have q : Value.isInt k (.int y.1 t) = decide (y.1 = k) := by
      by_cases z : y.1 = k
      · subst z; simp [Value.isInt]
      · simp [Value.isInt, z, Ne.symm z]
    rw [q]
    by_cases z : y.1 = k
    · rw [decide_eq_true z]
      exact ⟨t', h2⟩
    · rw [decide_eq_false z]; exact ih
theorem KeysI.ok : ∀ {es : List DictEntry} {l : List (Int × Str)}, KeysI es l → ∀ e ∈ es, ∃ k t, e.key = .int k t ∧ e.hash = hashInt k
  | _ :: _, y :: _, ⟨⟨t, h1⟩, h2, _, _⟩, _, .head _ => ⟨y.1, t, h1, h2⟩
  | _ :: _, _ :: _, ⟨_, _, _, r⟩, _, .tail _ m => r.ok _ m
/-- the dict at a has these keys -/
def KDS (K : PySem.W.Frag) (P : Params) (a : Addr) (l : List Str) : Prop := ∃ es n, K.lookup a = some ⟨.type "dict", none, .dict es n, #[]⟩ ∧ KeysS P es.toList l ∧ (a == sysModules) = false
def KDI (K : PySem.W.Frag) (a : Addr) (l : List (Int × Str)) : Prop := ∃ es n, K.lookup a = some ⟨.type "dict", none, .dict es n, #[]⟩ ∧ KeysI es.toList l ∧ (a == sysModules) = false
section
variable {X : Cx}
theorem find_eq {κ : Type} {is : κ → Value → Bool} {es : Array DictEntry} {k : κ} : findBy is es k = (es.toList.find? fun d => is k d.key).map (·.val) := by
  unfold findBy
  rw [← Array.find?_toList]
theorem op_inS : OpR X (compareOp .In) (fun x y H Q => ∃ z a l, x = .str z ∧ y = .ref a ∧ KDS X.K X.w.params a l ∧ Q (.bl (decide (z ∈ l))) H) := by
  rintro pins s σ H x y v u Q I rx ry ⟨z, a, l, rfl, rfl, ⟨es, n, h1, h2, h3⟩, q⟩
  obtain ⟨t, rfl⟩ := (show ∃ t, v = Value.str z t from rx)
  cases (show u = Value.ref a from ry)
  refine wpAny_in_of (strKind_is X.prog X.w z t) h3 (PySem.W.mapOf_K (prog := X.prog) I.kIn h1 h2.lit) ?_
  rw [find_eq, Option.isSome_map, h2.find z]
  exact ⟨.bl _, H, I.tok _, rfl, q⟩
theorem mapI {a : Addr} {l : List (Int × Str)} {h : Heap} (X0 : X.K.In h) {es : Array DictEntry} {n : Nat} (h1 : X.K.lookup a = some ⟨.type "dict", none, .dict es n, #[]⟩) (h2 : KeysI es.toList l) : h.MapOf (PySem.intKind X.prog X.w) a (fun k => findBy Value.isInt es k) :=
  ⟨_, es, n, X0 _ _ h1, ⟨rfl, rfl, rfl⟩, rfl, fun e he => by
    obtain ⟨k, t, e1, e2⟩ := h2.ok e (Array.mem_toList_iff.mpr he)
    exact ⟨k, by rw [e1]; exact intKind_is X.prog X.w k t, e2⟩, fun _ => rfl⟩
theorem op_inI : OpR X (compareOp .In) (fun x y H Q => ∃ k a l, x = .int k ∧ y = .ref a ∧ KDI X.K a l ∧ Q (.bl (TW.lk l k).isSome) H) := by
  rintro pins s σ H x y v u Q I rx ry ⟨k, a, l, rfl, rfl, ⟨es, n, h1, h2, h3⟩, q⟩
  obtain ⟨t, rfl⟩ := (show ∃ t, v = Value.int k t from rx)
  cases (show u = Value.ref a from ry)
  refine wpAny_in_of (intKind_is X.prog X.w k t) h3 (mapI I.kIn h1 h2) ?_
  have z := h2.find k
  rw [find_eq]
  have e : ((es.toList.find? fun d => Value.isInt k d.key).map (·.val)).isSome = (TW.lk l k).isSome := by
    cases q1 : TW.lk l k with
    | none => rw [q1] at z; rw [RelO.none_of z]; rfl
    | some x => rw [q1] at z; obtain ⟨u, hu, _⟩ := RelO.some_of z; rw [hu]; rfl
  rw [e]
  exact ⟨.bl _, H, I.tok _, rfl, q⟩
theorem ix_I : IxR X (fun x y H Q => ∃ k a l z, x = .ref a ∧ y = .int k ∧ KDI X.K a l ∧ TW.lk l k = some z ∧ Q (.str z) H) := by
  rintro value slice pins s σ H x y v u Q I rx ry ⟨k, a, l, z, rfl, rfl, ⟨es, n, h1, h2, h3⟩, e, q⟩ hs
  cases (show v = Value.ref a from rx)
  obtain ⟨t, rfl⟩ := (show ∃ t, u = Value.int k t from ry)
  have r := h2.find k
  rw [e] at r
  obtain ⟨w', hw, rw'⟩ := RelO.some_of r
  have hm := mapI (X := X) I.kIn h1 h2
  exact tail_any hm.typeIs PySem.F.slot_dict_getitem.lookup (wpAny_getItem_of (intKind_is X.prog X.w k t) hm (by rw [find_eq]; exact hw) ⟨.str z, H, I.tok _, rw', q⟩) hs
end

/-! ### constants of the module -/
def GI (mg : Str → Option Value) (nm : Str) (i : Int) : Prop := ∃ t, mg nm = some (.int i t)
def GS (mg : Str → Option Value) (nm : Str) (x : Str) : Prop := ∃ t, mg nm = some (.str x t)
section
variable {X : Cx} {x : Str} {pos : Pos}
theorem pg_i {i : Int} (g : GI X.mg x i) (hg : Gl X x := by rfl) (hd : (x == ("__debug__" : Str)) = false := by decide) : PE X (.Name x pos) (tC (.int i)) := by
  obtain ⟨t, e⟩ := g
  exact pe_glob hg e ⟨t, rfl⟩ hd
theorem pg_s {z : Str} (g : GS X.mg x z) (hg : Gl X x := by rfl) (hd : (x == ("__debug__" : Str)) = false := by decide) : PE X (.Name x pos) (tC (.str z)) := by
  obtain ⟨t, e⟩ := g
  exact pe_glob hg e ⟨t, rfl⟩ hd
theorem pg_r {a : Addr} (e : X.mg x = some (.ref a)) (hg : Gl X x := by rfl) (hd : (x == ("__debug__" : Str)) = false := by decide) : PE X (.Name x pos) (tC (.ref a)) := pe_glob hg e rfl hd
end

/-! ### a def that never raises, called where an exception is being handled too -/
structure RoomH (k : Nat) (A : Around) : Prop where
  dp : A.depth + 3 * k + 5 < recursionLimit
  un : A.units + 16 * k + 200 < cLine
theorem Room.h {k : Nat} {A : Around} (r : Room k A) : RoomH k A := ⟨r.dp, r.un⟩
theorem RoomH.make {k : Nat} {A : Around} (r : RoomH (k + 1) A) (C : Addr) (us : List Value) (kw : List (Str × Value)) : RoomH k (A.under (.builtin "type.__call__" ⟨.ref C :: us, kw⟩)) :=
  ⟨by have := r.dp; rw [make_depth]; omega, by have := r.un; rw [make_units]; omega⟩
structure FnOkH (P : Program) (w : World) (K : PySem.W.Frag) (mg : Str → Option Value) (base : Heap) (k : Nat) (f : Addr) (fd : FuncData) (ps : List Str) (sp : Sp) : Prop where
  len : ∀ vs H Q E, sp vs H Q E → vs.length = ps.length
  run : ∀ (A : Around) (outer : List Env) (s : Shared) (H : Hp) (args : Args) (us : List Value) (vs : List V) (Q : VK) (E : XK), RoomH k A → Env0 P w K mg base A outer s H → BindsTo s fd args (ps.zip us) → Vals vs us → sp vs H Q E →
    codeAny (model P w) A (.call (.ref f) args) (CR CX0 outer P w H s Q E) s
theorem FnOkH.ok {P : Program} {w : World} {K : PySem.W.Frag} {mg : Str → Option Value} {base : Heap} {k : Nat} {f : Addr} {fd : FuncData} {ps : List Str} {sp : Sp} (F : FnOkH P w K mg base k f fd ps sp) : FnOk P w K mg base CX0 k f fd ps sp :=
  ⟨F.len, fun A outer s H args us vs Q E hr => F.run A outer s H args us vs Q E hr.h⟩
def cxH (P : Program) (w : World) (K : PySem.W.Frag) (mg : Str → Option Value) (base : Heap) (N : List Str) (qual : Str) (scope : Scope) (f : Addr) (cd : Value) (A : Around) (outer : List Env) (s : Shared) (H : Hp) : Cx :=
  { cxOf CX0 P w K mg base N qual scope f cd A outer s H E0 with calm := false, xe := fun _ _ => False }
theorem Fun.okH {P : Program} {w : World} {K : PySem.W.Frag} {mg : Str → Option Value} {base : Heap} {x qual : Str} {st : Stmt} {f : Addr} {fd : FuncData} {N ps : List Str} {k : Nat} {sp : Sp} (F : Fun K x qual st f fd) (S : FnScope N ps (defScope st)) (len : ∀ vs H Q E, sp vs H Q E → vs.length = ps.length)
    (hbody : ∀ (cdv : Value) (A : Around) (outer : List Env) (s : Shared) (H : Hp) (vs : List V) (Q : VK) (E : XK), sp vs H Q E →
      ∃ t, PSs (cxH P w K mg base N qual (defScope st) f cdv A outer s H) (defBody st) t ∧ t { nx := fun _ H' => Q .non H', rt := Q } (start N vs) H) : FnOkH P w K mg base (k + 1) f fd ps sp := by
  obtain ⟨oc, od, kV, doc, pm, an, cdv, ct, osl, rfl, lk, hcd⟩ := F.ex
  refine ⟨len, fun A outer s H args us vs Q E hr e0 hb r hsp => ?_⟩
  have KX : K.In s.heap := e0.mod.kin.keeps fun b o e => (e0.bs b o e).1
  have lim : s.heap.NoLimit := e0.mod.nolimit.keeps fun b o e => (e0.bs b o e).1
  refine codeAny_call_function (by have := hr.dp; omega) (KX _ _ lk) rfl S.co S.gen rfl (PySem.W.codeRec_of KX hcd) (hb _ _ _ _ ?_)
  refine wpAny_newFunctionEnv_cells S.kind (fun ⟨n, v⟩ hy => ?_) fun env he s1 x => ?_
  · rcases S.par n (List.of_mem_zip hy).1 with q | q
    · exact .inl q
    · exact .inr ⟨q, PySem.W.cellsFrom_some _ _ _ (.inl q)⟩
  · subst he
    refine ⟨lim.keeps x.toInCall.keep, codeAny_func ?_⟩
    obtain ⟨t, ht, hq⟩ := hbody cdv A outer s H vs Q E hsp
    have e1 : Env0 P w K mg base { A with handled := none } outer s H := ⟨e0.frames, e0.mod, e0.bs, e0.bsz, e0.funs, e0.frf, e0.hok, e0.bare⟩
    have I0 : Inv (cxOf CX0 P w K mg base N qual (defScope st) f cdv { A with handled := none } outer s H E0) [] (start N vs) H s1 := inv_start S rfl e1 (len _ _ _ _ hsp) r x
    have I : Inv (cxH P w K mg base N qual (defScope st) f cdv A outer s H) [] (start N vs) H s1 :=
      ⟨⟨I0.ok.mod, I0.ok.kind, I0.ok.glob, I0.ok.blt, I0.ok.above, I0.ok.inj, I0.ok.has, I0.ok.cab, (fun z => by cases z), Around.frames_deeper e0.frames, I0.ok.stk, I0.ok.exf, I0.ok.bs, I0.ok.bsz, I0.ok.noex, I0.ok.exfs, I0.ok.funs, I0.ok.frf⟩,
        I0.os, I0.bare, I0.base, I0.loc, I0.cell, I0.free, I0.freeC, I0.pin, I0.hok, I0.len⟩
    refine wpAny_mono (ht [] s1 (start N vs) H _ I hq) (fun fl s' hs => ?_) fun e s' hs => hs.elim
    have fin : ∀ {σ' : St} {H' : Hp} {v : V} {u : Value}, Inv (cxH P w K mg base N qual (defScope st) f cdv A outer s H) [] σ' H' s' → RelV v u → Q v H' → CE outer P w H s Q u s' :=
      fun {σ' H' v u} J rv q => ⟨v, H', J.os, J.bare, J.base, J.hok, rv, q⟩
    cases fl with
    | ret u =>
      obtain ⟨v, σ', H', J, rv, q⟩ := hs
      exact fin J rv q
    | next =>
      obtain ⟨σ', H', J, q⟩ := hs
      exact fin (v := V.non) (u := Value.none) J rfl q
    | brk =>
      obtain ⟨_, _, _, q⟩ := hs
      exact False.elim q
    | cont =>
      obtain ⟨_, _, _, q⟩ := hs
      exact False.elim q
section
variable {X : Cx} {k : Nat} {f C : Addr} {fd : FuncData} {ps : List Str} {sp : Sp} {x : Str} {p pos : Pos} {e : Expr} {es : List Expr} {t : TA}
/-- C(..) where an exception is being handled -/
theorem pe_makeH (M : Mk X.K C f) (F : FnOkH X.prog X.w X.K X.mg X.base k f fd ps sp) (hr : RoomH (k + 1) X.A) (hg : Gl X x) (hm : X.mg x = some (.ref C)) (hb : Binds X.K fd ps [])
    (ha : PA X (e :: es) t) (hdb : (x == ("__debug__" : Str)) = false := by decide) (he : starEach (e :: es) X.env = (false, eval e X.env) :: starEach es X.env := by rfl) (hpl : (backTo pos (starEach es X.env)).any (·.1) = false := by rfl) :
    PE X (.Call (.Name x p) (e :: es) [] pos) (tMake C sp [] E0 t) := by
  intro pins s σ H Q I h
  refine wpAny_Call_Name_kw (ld_glob I hg hm ?_ hdb)
  refine PySem.W.callWith_K (h₀ := X.base) I.ok.mod.kin M.kp (thn (ha pos pins s σ H _ I h) fun us s1 ⟨vs, H1, I1, r, q⟩ => ⟨I1.kIn, ?_⟩) he hpl
  have hq := q (s1.heap.objs.size + 1) s1.heap.objs.size (I1.hok.fresh (Nat.le_succ _)) (I1.hok.fresh (Nat.le_refl _)) (Nat.ne_of_lt (Nat.lt_succ_self _))
  rw [List.append_nil] at hq
  have I2 := Inv.made (C := C) I1
  have r2 : Vals (V.ref (s1.heap.objs.size + 1) :: vs) (Value.ref (s1.heap.objs.size + 1) :: us) := .cons rfl r
  have hl : (Value.ref (s1.heap.objs.size + 1) :: us ++ []).length = ps.length := by
    rw [List.append_nil, ← r2.length]; exact F.len _ _ _ _ hq
  have hb' := hb { s1 with heap := (s1.heap.push PySem.W.emptyDict).push (PySem.W.instObj C s1.heap.objs.size) } (Value.ref (s1.heap.objs.size + 1) :: us) I2.kIn hl
  rw [List.append_nil] at hb'
  refine wpAny_call (make_map (f := f) I1.kIn M.makes M.init (beq_iff_eq.mp M.fn) (codeAny_mono (F.run _ X.stack _ _ ⟨Value.ref (s1.heap.objs.size + 1) :: us, []⟩ (Value.ref (s1.heap.objs.size + 1) :: us) _ _ E0 (hr.make C us [])
    (I2.env0.make C us []) hb' r2 hq) fun r s' hq' => ?_))
  cases r with
  | error e => exact (show False from hq').elim
  | ok fl =>
    cases fl with
    | ret u =>
      obtain ⟨v, H', I3, rv, ev, q3⟩ := I2.after hq'
      subst ev
      exact ⟨rv, ⟨V.ref (s1.heap.objs.size + 1), H', I3, rfl, q3⟩⟩
    | next => exact False.elim hq'
    | brk => exact False.elim hq'
    | cont => exact False.elim hq'
end
end L2
end
section
set_option linter.all false
namespace TG
open PySem
/-! ### the text by places: what changes from law to law -/
def top (i : Nat) : Stmt := PySem.Challenge.pw_twigtext_s01_tokens.main.body.getD i (.Pass ⟨0, 0, 0, 0⟩)
abbrev ix_depth : Nat := 5
abbrev ix_growth : Nat := 6
abbrev ix_growth_by_closing : Nat := 7
abbrev ix_growth_by_clearing : Nat := 8
abbrev ix_is_small : Nat := 10
abbrev ix_is_capital : Nat := 11
abbrev ix_is_digit : Nat := 12
abbrev ix_is_printable : Nat := 13
abbrev ix_in_word : Nat := 14
abbrev ix_in_code : Nat := 15
abbrev ix_in_mark : Nat := 16
abbrev ix_byte_at : Nat := 17
abbrev ix_run_end : Nat := 18
abbrev ix_Numeral : Nat := 29
abbrev ix_numeral_at : Nat := 30
abbrev ix_end_of_fraction : Nat := 31
abbrev ix_end_of_exponent : Nat := 32
abbrev ix_is_right : Nat := 33
abbrev ix_mark_is_right : Nat := 34
abbrev ix_packed_is_right : Nat := 35
abbrev ix_exponent_is_right : Nat := 36
abbrev ix_Refused : Nat := 38
abbrev ix_TooLong : Nat := 39
abbrev ix_TooDeep : Nat := 40
abbrev ix_Fault : Nat := 41
abbrev ix_Token : Nat := 64
abbrev ix_Scanned : Nat := 65
abbrev ix_scan : Nat := 66
abbrev ix_token_place : Nat := 67
abbrev ix_token_at : Nat := 68
abbrev ix_word_at : Nat := 69
abbrev ix_spelled : Nat := 70
abbrev ix_code_at : Nat := 71
abbrev ix_number_at : Nat := 72
abbrev ix_text_at : Nat := 73
abbrev ix_item_end : Nat := 74
abbrev ix_sign_at : Nat := 75
abbrev ix_tokens : Nat := 79
abbrev ix_scan_allowed : Nat := 80
abbrev ix_refuse_long : Nat := 81
abbrev ix_scan_shallow : Nat := 82
abbrev ix_refuse_fault : Nat := 83
end TG
end
section
set_option Elab.async false
set_option linter.all false
set_option maxRecDepth 100000
set_option maxHeartbeats 2000000
namespace TG
open PySem PySem.Spec PyProof.Rows L2 TW
open EwTree (isSmall isBig isDigit isSeen isWordByte isCodeByte isMarkByte)

/-- the bytes of a text as values -/
def iv (b : By) : List V := b.map fun c => V.int (c.toNat : Int)
theorem iv_len (b : By) : (iv b).length = b.length := List.length_map _
theorem iv_get {b : By} {p : Nat} {c : UInt8} (h : b[p]? = some c) : (iv b)[p]? = some (.int c.toNat) := by
  unfold iv; rw [List.getElem?_map, h]; rfl
theorem iv_at {b : By} {p : Nat} {c : UInt8} (h : b[p]? = some c) : atI (iv b) (p : Int) = some (.int c.toNat) := by
  have hp : p < b.length := (List.getElem?_eq_some_iff.mp h).1
  exact at_of (j := p) rfl (iv_get h)
section
variable {P : Program} {w : World} {K : PySem.W.Frag} {mg : Str → Option Value} {base : Heap}

/-! ### tests of bytes -/
def pr1 (p : Int → Bool) : Sp := fun vs H Q _ => ∃ n : Int, vs = [.int n] ∧ Q (.bl (p n)) H
theorem pr1_len (p : Int → Bool) : ∀ vs H Q E, pr1 p vs H Q E → vs.length = (["byte"] : List Str).length := by
  rintro vs H Q E ⟨n, rfl, _⟩; rfl
theorem chain_le {lo hi n : Int} {Q : VK} {H : Hp} (k : Q (.bl (decide (lo ≤ n) && decide (n ≤ hi))) H) :
    if decide (lo ≤ n) = true then (∃ i j, V.int n = .int i ∧ V.int hi = .int j ∧ Q (.bl (decide (i ≤ j))) H) else Q (.bl false) H := by
  by_cases h : lo ≤ n
  · rw [decide_eq_true h] at k ⊢
    rw [if_pos rfl]
    exact ⟨n, hi, rfl, rfl, k⟩
  · rw [decide_eq_false h] at k ⊢
    rw [if_neg (by decide)]
    exact k
theorem sc_small : FnScope ["byte"] ["byte"] (defScope (top ix_is_small)) := ⟨rfl, rfl, rfl, by decide +kernel, rfl, by decide +kernel, by decide +kernel⟩
theorem ok_small (d : Def K mg "is_small" (top ix_is_small) ["byte"]) : Ok P w K mg base CX0 1 "is_small" ["byte"] (pr1 pSmall) := d.ok fun f fd F => by
  refine F.ok sc_small (pr1_len _) (fun cdv A outer s H vs Q E hr h => ?_)
  obtain ⟨n, rfl, k⟩ := h
  refine ⟨_, pss_one (ps_ret (pe_chain op_le op_le pe_int (pv 0) pe_int)), ?_⟩
  exact ⟨_, rfl, _, _, rfl, rfl, _, rfl, chain_le k⟩
theorem sc_big : FnScope ["byte"] ["byte"] (defScope (top ix_is_capital)) := ⟨rfl, rfl, rfl, by decide +kernel, rfl, by decide +kernel, by decide +kernel⟩
theorem ok_big (d : Def K mg "is_capital" (top ix_is_capital) ["byte"]) : Ok P w K mg base CX0 1 "is_capital" ["byte"] (pr1 pBig) := d.ok fun f fd F => by
  refine F.ok sc_big (pr1_len _) (fun cdv A outer s H vs Q E hr h => ?_)
  obtain ⟨n, rfl, k⟩ := h
  refine ⟨_, pss_one (ps_ret (pe_chain op_le op_le pe_int (pv 0) pe_int)), ?_⟩
  exact ⟨_, rfl, _, _, rfl, rfl, _, rfl, chain_le k⟩
theorem sc_digit : FnScope ["byte"] ["byte"] (defScope (top ix_is_digit)) := ⟨rfl, rfl, rfl, by decide +kernel, rfl, by decide +kernel, by decide +kernel⟩
theorem ok_digit (d : Def K mg "is_digit" (top ix_is_digit) ["byte"]) : Ok P w K mg base CX0 1 "is_digit" ["byte"] (pr1 pDigit) := d.ok fun f fd F => by
  refine F.ok sc_digit (pr1_len _) (fun cdv A outer s H vs Q E hr h => ?_)
  obtain ⟨n, rfl, k⟩ := h
  refine ⟨_, pss_one (ps_ret (pe_chain op_le op_le pe_int (pv 0) pe_int)), ?_⟩
  exact ⟨_, rfl, _, _, rfl, rfl, _, rfl, chain_le k⟩
theorem sc_seen : FnScope ["byte"] ["byte"] (defScope (top ix_is_printable)) := ⟨rfl, rfl, rfl, by decide +kernel, rfl, by decide +kernel, by decide +kernel⟩
theorem ok_seen (d : Def K mg "is_printable" (top ix_is_printable) ["byte"]) : Ok P w K mg base CX0 1 "is_printable" ["byte"] (pr1 pSeen) := d.ok fun f fd F => by
  refine F.ok sc_seen (pr1_len _) (fun cdv A outer s H vs Q E hr h => ?_)
  obtain ⟨n, rfl, k⟩ := h
  refine ⟨_, pss_one (ps_ret (pe_chain op_le op_le pe_int (pv 0) pe_int)), ?_⟩
  exact ⟨_, rfl, _, _, rfl, rfl, _, rfl, chain_le k⟩
/-- a or b, of truth values -/
theorem or_bl {c d : Bool} {Q : VK} {H : Hp} (k : Q (.bl (c || d)) H) : if c = true then Q (.bl true) H else Q (.bl d) H := by
  cases c
  · exact iteF k
  · exact iteT k
theorem sc_word : FnScope ["byte"] ["byte"] (defScope (top ix_in_word)) := ⟨rfl, rfl, rfl, by decide +kernel, rfl, by decide +kernel, by decide +kernel⟩
theorem ok_word (d : Def K mg "in_word" (top ix_in_word) ["byte"]) (o1 : Ok P w K mg base CX0 1 "is_small" ["byte"] (pr1 pSmall)) (o2 : Ok P w K mg base CX0 1 "is_digit" ["byte"] (pr1 pDigit)) :
    Ok P w K mg base CX0 2 "in_word" ["byte"] (pr1 pWord) := d.ok fun f fd F => by
  refine F.ok sc_word (pr1_len _) (fun cdv A outer s H vs Q E hr h => ?_)
  obtain ⟨n, rfl, k⟩ := h
  refine ⟨_, pss_one (ps_ret (pe_or (pe_fn0 o1 hr (pa_cons (pv 0) pa_nil)) (pe_or (pe_fn0 o2 hr (pa_cons (pv 0) pa_nil)) (pe_one (pe_cmpR op_eq (pv 0) pe_int (nomark _)))))), ?_⟩
  refine ⟨_, rfl, n, rfl, _, rfl, ite2 (fun h1 => ?_) fun h1 => ?_⟩
  · have e : pWord n = true := by unfold pWord; rw [h1]; rfl
    rw [e] at k; exact k
  · refine ⟨_, rfl, n, rfl, _, rfl, ite2 (fun h2 => ?_) fun h2 => ?_⟩
    · have e : pWord n = true := by unfold pWord; rw [h2]; simp
      rw [e] at k; exact k
    · refine ⟨_, rfl, rfl, ?_⟩
      have e : pWord n = decide (n = 95) := by
        unfold pWord
        rw [Bool.not_eq_true] at h1 h2
        rw [h1, h2]; rfl
      rw [e] at k
      have e2 : decide (V.int n = V.int 95) = decide (n = 95) := by
        by_cases z : n = 95
        · subst z; simp
        · simp [z]
      rw [e2]; exact k
theorem sc_code : FnScope ["byte"] ["byte"] (defScope (top ix_in_code)) := ⟨rfl, rfl, rfl, by decide +kernel, rfl, by decide +kernel, by decide +kernel⟩
theorem ok_code (d : Def K mg "in_code" (top ix_in_code) ["byte"]) (o1 : Ok P w K mg base CX0 1 "is_capital" ["byte"] (pr1 pBig)) (o2 : Ok P w K mg base CX0 1 "is_digit" ["byte"] (pr1 pDigit)) :
    Ok P w K mg base CX0 2 "in_code" ["byte"] (pr1 pCode) := d.ok fun f fd F => by
  refine F.ok sc_code (pr1_len _) (fun cdv A outer s H vs Q E hr h => ?_)
  obtain ⟨n, rfl, k⟩ := h
  refine ⟨_, pss_one (ps_ret (pe_or (pe_fn0 o1 hr (pa_cons (pv 0) pa_nil)) (pe_one (pe_fn0 o2 hr (pa_cons (pv 0) pa_nil))))), ?_⟩
  refine ⟨_, rfl, n, rfl, _, rfl, ite2 (fun h1 => ?_) fun h1 => ?_⟩
  · have e : pCode n = true := by unfold pCode; rw [h1]; rfl
    rw [e] at k; exact k
  · refine ⟨_, rfl, n, rfl, ?_⟩
    have e : pCode n = pDigit n := by
      unfold pCode
      rw [Bool.not_eq_true] at h1
      rw [h1]; rfl
    rw [e] at k; exact k
theorem sc_mark : FnScope ["byte"] ["byte"] (defScope (top ix_in_mark)) := ⟨rfl, rfl, rfl, by decide +kernel, rfl, by decide +kernel, by decide +kernel⟩
theorem ok_mark (d : Def K mg "in_mark" (top ix_in_mark) ["byte"]) (o1 : Ok P w K mg base CX0 2 "in_word" ["byte"] (pr1 pWord)) (o2 : Ok P w K mg base CX0 1 "is_capital" ["byte"] (pr1 pBig)) :
    Ok P w K mg base CX0 3 "in_mark" ["byte"] (pr1 pMark) := d.ok fun f fd F => by
  refine F.ok sc_mark (pr1_len _) (fun cdv A outer s H vs Q E hr h => ?_)
  obtain ⟨n, rfl, k⟩ := h
  refine ⟨_, pss_one (ps_ret (pe_or (pe_fn0 o1 hr (pa_cons (pv 0) pa_nil)) (pe_one (pe_fn0 o2 (hr.mono (by decide)) (pa_cons (pv 0) pa_nil))))), ?_⟩
  refine ⟨_, rfl, n, rfl, _, rfl, ite2 (fun h1 => ?_) fun h1 => ?_⟩
  · have e : pMark n = true := by unfold pMark; rw [h1]; rfl
    rw [e] at k; exact k
  · refine ⟨_, rfl, n, rfl, ?_⟩
    have e : pMark n = pBig n := by
      unfold pMark
      rw [Bool.not_eq_true] at h1
      rw [h1]; rfl
    rw [e] at k; exact k
end
end TG
end
section
set_option Elab.async false
set_option linter.all false
set_option maxRecDepth 100000
set_option maxHeartbeats 2000000
namespace TG
open PySem PySem.Spec PyProof.Rows L2 TW
open EwTree (isSmall isBig isDigit isSeen isWordByte isCodeByte isMarkByte)
section
variable {P : Program} {w : World} {K : PySem.W.Frag} {mg : Str → Option Value} {base : Heap}
/-- len(e), e a list or a tuple -/
theorem pe_len {X : Cx} {e : Expr} {te : TE} {p pos : Pos} (ln : X.mg "len" = none) (he : PE X e te) (hg : Gl X "len" := by rfl) (hst : starEach [e] X.env = (false, eval e X.env) :: starEach [] X.env := by rfl) (hpl : (backTo pos (starEach [] X.env)).any (·.1) = false := by rfl) :
    PE X (.Call (.Name "len" p) [e] [] pos) (tCB (fun xs H Q => ∃ p ys, xs = [.ref p] ∧ (SqL X.K H p ys ∨ SqT X.K H p ys) ∧ Q (.int ys.length) H) (tCons te tNil)) :=
  pe_callB (e := e) (es := []) (pos := pos) call_len_seq hg ln PySem.boot_len (pa_cons he pa_nil hst) (by decide) (by decide) hst hpl
theorem ylt {j : Nat} {xs : List V} (h : decide ((j : Int) < ((xs.length : Nat) : Int)) = true) : j < xs.length := by
  have := of_decide_eq_true h
  omega
theorem nlt {j : Nat} {xs : List V} (h : ¬ decide ((j : Int) < ((xs.length : Nat) : Int)) = true) : xs.length ≤ j := by
  have : ¬ ((j : Int) < ((xs.length : Nat) : Int)) := fun z => h (decide_eq_true z)
  omega
/-- byte_at -/
def spByte (K : PySem.W.Frag) : Sp := fun vs H Q _ => ∃ (a : Addr) (b : By) (p : Nat), vs = [.ref a, .int p] ∧ SqL K H a (iv b) ∧ Q (.int (bAt b p)) H
theorem sc_byte : FnScope ["text", "place"] ["text", "place"] (defScope (top ix_byte_at)) := ⟨rfl, rfl, rfl, by decide +kernel, rfl, by decide +kernel, by decide +kernel⟩
theorem ok_byte (d : Def K mg "byte_at" (top ix_byte_at) ["text", "place"]) (ln : mg "len" = none) : Ok P w K mg base CX0 1 "byte_at" ["text", "place"] (spByte K) := d.ok fun f fd F => by
  refine F.ok sc_byte (by rintro vs H Q E ⟨a, b, p, rfl, _⟩; rfl) (fun cdv A outer s H vs Q E hr h => ?_)
  obtain ⟨a, b, p, rfl, hS, k⟩ := h
  refine ⟨_, pss_cons (ps_if (pt_cmpR op_lt (pv 1) (pe_len ln (pv 0)) (nomark _)) (pss_one (ps_ret (pe_ix ix_list (pv 0) (pv 1) (fun _ _ => rfl)))) pss_nil) (pss_one (ps_ret (pe_un un_neg pe_int))), ?_⟩
  refine ⟨_, rfl, _, rfl, a, _, rfl, .inl hS, _, _, rfl, rfl, _, rfl, ite2 (fun h1 => ?_) fun h1 => ?_⟩
  · have hp : p < b.length := by rw [← iv_len]; exact ylt h1
    have hg : b[p]? = some b[p] := List.getElem?_eq_getElem hp
    refine ⟨_, rfl, _, rfl, a, _, _, _, rfl, rfl, hS, iv_at hg, ?_⟩
    rw [bAt_some hg] at k; exact k
  · have hn : b[p]? = none := List.getElem?_eq_none_iff.mpr (by rw [← iv_len]; exact nlt h1)
    rw [bAt_none hn] at k
    exact ⟨_, rfl, k⟩
/-- run_end: fits is a def that tells q of a byte -/
def Fits (P : Program) (w : World) (K : PySem.W.Frag) (mg : Str → Option Value) (base : Heap) (f : Addr) (q : UInt8 → Bool) : Prop :=
  ∃ (fd : FuncData) (pI : Int → Bool), FnOk P w K mg base CX0 3 f fd ["byte"] (pr1 pI) ∧ Binds K fd ["byte"] [] ∧ PySem.W.keepIn K (.ref f) = true ∧ ∀ c : UInt8, pI c.toNat = q c
def spRun (P : Program) (w : World) (K : PySem.W.Frag) (mg : Str → Option Value) (base : Heap) : Sp := fun vs H Q _ => ∃ (a : Addr) (b : By) (p : Nat) (f : Addr) (q : UInt8 → Bool), vs = [.ref a, .int p, .ref f] ∧ SqL K H a (iv b) ∧ p ≤ b.length ∧
  Fits P w K mg base f q ∧ Q (.int (runE q b p)) H
theorem sc_run : FnScope ["text", "place", "fits"] ["text", "place", "fits"] (defScope (top ix_run_end)) := ⟨rfl, rfl, rfl, by decide +kernel, rfl, by decide +kernel, by decide +kernel⟩
theorem ok_run (d : Def K mg "run_end" (top ix_run_end) ["text", "place", "fits"]) (ln : mg "len" = none) : Ok P w K mg base CX0 4 "run_end" ["text", "place", "fits"] (spRun P w K mg base) := d.ok fun f fd F => by
  refine F.ok sc_run (by rintro vs H Q E ⟨a, b, p, f, q, rfl, _⟩; rfl) (fun cdv A outer s H vs Q E hr h => ?_)
  obtain ⟨a, b, p, g, q, rfl, hS, hp, ⟨gd, pI, FG, bG, kG, eG⟩, k⟩ := h
  refine ⟨_, pss_cons (ps_while PassesOwn.never (pw_and (pt_cmpR op_lt (pv 1) (pe_len ln (pv 0)) (nomark _))
    (pw_and1 (pt_val (pe_callV (k := 3) (ps := ["byte"]) (sp := pr1 pI) 2 hr (pa_cons (pe_ix ix_list (pv 0) (pv 1) (fun _ _ => rfl)) pa_nil))))).pt
    (pss_one (ps_aug (i := 1) sc_run.nd rfl (Or.inl rfl) pe_int ip_add))) (pss_one (ps_ret (pv 1))), ?_⟩
  refine ⟨fun m σ H' => ∃ j : Nat, m = b.length - j ∧ σ = [some (.ref a), some (.int j), some (.ref g)] ∧ H' = H ∧ j ≤ b.length ∧ runE q b j = runE q b p, ⟨_, p, rfl, rfl, rfl, hp, rfl⟩, ?_⟩
  rintro m σ H' ⟨j, rfl, rfl, rfl, hj, e⟩
  refine ⟨_, rfl, _, rfl, a, _, rfl, .inl hS, _, _, rfl, rfl, _, rfl, ite2 (fun h1 => ?_) fun h1 => ?_⟩
  · have hjl : j < b.length := by rw [← iv_len]; exact ylt h1
    have hg : b[j]? = some b[j] := List.getElem?_eq_getElem hjl
    refine ⟨g, gd, rfl, FG, bG, kG, _, rfl, _, rfl, a, _, _, _, rfl, rfl, hS, iv_at hg, _, rfl, _, rfl, ite2 (fun h2 => ?_) fun h2 => ?_⟩
    · rw [eG] at h2
      refine ⟨fun σ' H2 => σ' = [some (.ref a), some (.int ((j + 1 : Nat) : Int)), some (.ref g)] ∧ H2 = H', fun σ' H2 ⟨z1, z2⟩ => ⟨b.length - (j + 1), by omega, j + 1, rfl, z1, z2, by omega, ?_⟩, _, rfl, _, _, rfl, rfl, rfl, rfl⟩
      rw [← runE_step hg h2]; exact e
    · rw [eG, Bool.not_eq_true] at h2
      refine ⟨_, rfl, ?_⟩
      rw [← e, runE_stop hg h2] at k; exact k
  · have hn : b[j]? = none := List.getElem?_eq_none_iff.mpr (by rw [← iv_len]; exact nlt h1)
    refine iteF ⟨_, rfl, ?_⟩
    rw [← e, runE_end hn] at k; exact k
/-- a test of bytes, handed over -/
theorem fits_of {nm : Str} {pI : Int → Bool} {q : UInt8 → Bool} {j : Nat} (o : Ok P w K mg base CX0 j nm ["byte"] (pr1 pI)) (hj : j ≤ 3) (e : ∀ c : UInt8, pI c.toNat = q c) : ∃ f, mg nm = some (.ref f) ∧ Fits P w K mg base f q := by
  obtain ⟨f, fd, F, b, m, kp⟩ := o.ex
  exact ⟨f, m, fd, pI, F.mono hj, b, kp, e⟩
end
end TG
end
section
set_option Elab.async false
set_option linter.all false
set_option maxRecDepth 100000
set_option maxHeartbeats 2000000
namespace TG
open PySem PySem.Spec PyProof.Rows L2 TW
open EwTree (depthNow depthStep)

/-! ### two lists of whole numbers compared -/
theorem eqvI : ∀ (xs ys : List Int), PyData.eqvAll (xs.map PyData.int) (ys.map PyData.int) = decide (xs = ys)
  | [], [] => by simp [PyData.eqvAll]
  | [], y :: ys => by simp [PyData.eqvAll]
  | x :: xs, [] => by simp [PyData.eqvAll]
  | x :: xs, y :: ys => by
    rw [List.map_cons, List.map_cons, PyData.eqvAll, eqvI xs ys]
    by_cases h : x = y
    · subst h; simp [PyData.eqv]
    · simp [PyData.eqv, h]
theorem layI : ∀ (xs : List Int), PyData.canLayAll0 (xs.map PyData.int) = true ∧ PyData.depthAll (xs.map PyData.int) ≤ 1
  | [] => by simp [PyData.canLayAll0, PyData.depthAll]
  | x :: xs => by
    have ih := layI xs
    simp only [List.map_cons, PyData.canLayAll0, PyData.depthAll, PyData.canLay0, PyData.depth, ih.1, Bool.and_self, true_and]
    omega
theorem shapedI (xs : List Int) : SeqAt.shaped (.list (xs.map PyData.int)) = true := by
  unfold SeqAt.shaped
  have h := layI xs
  rw [show PyData.canLay0 (.list (xs.map PyData.int)) = PyData.canLayAll0 (xs.map PyData.int) from by rw [PyData.canLay0], h.1, Bool.true_and]
  refine decide_eq_true ?_
  rw [PyData.depth]
  omega
theorem dpI {K : PySem.W.Frag} {H : Hp} : ∀ (xs : List Int), DpAll K H (xs.map V.int) (xs.map PyData.int)
  | [] => .nil
  | x :: xs => .cons (.int x) (dpI xs)
theorem op_eqI {X : Cx} (hu : X.A.units + 64 < cLine) : OpR X (compareOp .Eq) (fun x y H Q => ∃ (a b : Addr) (xs ys : List Int), x = .ref a ∧ y = .ref b ∧ SqL X.K H a (xs.map V.int) ∧ SqL X.K H b (ys.map V.int) ∧ Q (.bl (decide (xs = ys))) H) := by
  rintro pins s σ H x y v u Q I rx ry ⟨a, b, xs, ys, rfl, rfl, h1, h2, q⟩
  refine op_eqD hu pins s σ H _ _ v u Q I rx ry ⟨_, _, .lst h1 (dpI xs), .lst h2 (dpI ys), shapedI xs, shapedI ys, ?_⟩
  have e : PyData.eqv (.list (xs.map PyData.int)) (.list (ys.map PyData.int)) = decide (xs = ys) := by rw [PyData.eqv]; exact eqvI xs ys
  rw [e]; exact q
theorem op_neI {X : Cx} (hu : X.A.units + 64 < cLine) : OpR X (compareOp .NotEq) (fun x y H Q => ∃ (a b : Addr) (xs ys : List Int), x = .ref a ∧ y = .ref b ∧ SqL X.K H a (xs.map V.int) ∧ SqL X.K H b (ys.map V.int) ∧ Q (.bl (!decide (xs = ys))) H) := by
  rintro pins s σ H x y v u Q I rx ry ⟨a, b, xs, ys, rfl, rfl, h1, h2, q⟩
  refine op_neD hu pins s σ H _ _ v u Q I rx ry ⟨_, _, .lst h1 (dpI xs), .lst h2 (dpI ys), shapedI xs, shapedI ys, ?_⟩
  have e : PyData.eqv (.list (xs.map PyData.int)) (.list (ys.map PyData.int)) = decide (xs = ys) := by rw [PyData.eqv]; exact eqvI xs ys
  rw [e]; exact q
/-- xs[i], read ahead of a store -/
theorem get_list {X : Cx} : PGet X (rIxL X.K) := by
  intro pins s σ H x y v u Q I rx ry h
  obtain ⟨p, xs, i, z, rfl, rfl, hq, he, q⟩ := h
  cases rx
  obtain ⟨t, rfl⟩ := ry
  obtain ⟨its, r, pl, hz⟩ := I.list hq
  obtain ⟨j, h1, h2, h3, h4, h5⟩ := atI_get he
  obtain ⟨w', ew, rw'⟩ := r.get h2
  have hl := r.length
  have hn := line63
  have fin : EP X pins σ Q w' s := ⟨z, H, I, rw', q⟩
  by_cases h0 : 0 ≤ i
  · have hj : i.toNat = j := by
      rw [seqIndex_of h0 h5] at h1
      exact Option.some.inj h1
    exact wpAny_getItem_list pl.isList h0 (by omega) (by rw [hj]; simpa using ew) fin
  · have hj : (i + (its.toArray.size : Int)).toNat = j := by
      rw [seqIndex_neg (by omega) h4] at h1
      rw [List.size_toArray, ← hl]
      exact Option.some.inj h1
    exact wpAny_getItem_list_neg pl.isList (by omega) (by rw [List.size_toArray] <;> omega) (by omega) (by rw [hj]; simpa using ew) fin
/-- texts in a written tuple -/
theorem inV_str (x : Str) : ∀ (l : List Str), inV (.str x) (l.map V.str) = decide (x ∈ l)
  | [] => rfl
  | y :: l => by
    have ih := inV_str x l
    unfold inV at ih ⊢
    rw [List.map_cons, List.any_cons, ih]
    by_cases h : y = x
    · subst h; simp [eqV]
    · have h' : ¬ x = y := fun z => h z.symm
      simp [eqV, h, h']
theorem flat_str : ∀ (l : List Str), (l.map V.str).all flatV = true
  | [] => rfl
  | y :: l => by rw [List.map_cons, List.all_cons, flat_str l]; rfl

/-! ### the numbers of the depth -/
def nv (l : List Nat) : List V := l.map fun (n : Nat) => V.int (n : Int)
theorem nv_cons (k : Nat) (r : List Nat) : nv (k :: r).reverse = nv r.reverse ++ [.int k] := by unfold nv; simp
theorem nv_ints (l : List Nat) : nv l = (l.map fun (n : Nat) => (n : Int)).map V.int := by unfold nv; rw [List.map_map]; rfl
theorem at_last (xs : List V) (v : V) : atI (xs ++ [v]) (-1) = some v := by
  unfold atI ixN
  rw [List.length_append, List.length_singleton, if_neg (by decide), if_pos (by omega)]
  have : ((-1 : Int) + ((xs.length + 1 : Nat) : Int)).toNat = xs.length := by omega
  rw [this]
  simp
theorem ix_last (xs : List V) (v : V) : ixN (xs ++ [v]).length (-1) = some xs.length := by
  unfold ixN
  rw [List.length_append, List.length_singleton, if_neg (by decide), if_pos (by omega)]
  congr 1
  omega
theorem set_last (xs : List V) (v u : V) : (xs ++ [v]).set xs.length u = xs ++ [u] := by simp
theorem pop_last (xs : List V) (v : V) : (xs ++ [v])[(xs ++ [v]).length - 1]? = some v ∧ (xs ++ [v]).dropLast = xs := by simp
def dI (l : List Nat) : Int := (depthNow l : Nat)
theorem dI_cons (k : Nat) (r : List Nat) : dI (k :: r) = (r.length : Int) + k + (r.foldr (fun (a b : Nat) => a + b) 0 : Nat) := by
  unfold dI depthNow; simp only [List.length_cons, List.foldr_cons]; omega
def Fr1 (a : Addr) (H H' : Hp) : Prop := ∀ b o, H b = some o → b ≠ a → H' b = some o
section
variable {P : Program} {w : World} {K : PySem.W.Frag} {mg : Str → Option Value} {base : Heap}
def spClr : Sp := fun vs H Q _ => ∃ (a : Addr) (k : Nat) (r : List Nat), vs = [.ref a] ∧ H a = some (.lst (nv (k :: r).reverse)) ∧ Q (.int (0 - (k : Int))) (upd H a (.lst (nv (0 :: r).reverse)))
theorem sc_clr : FnScope ["numbers", "grown"] ["numbers"] (defScope (top ix_growth_by_clearing)) := ⟨rfl, rfl, rfl, by decide +kernel, rfl, by decide +kernel, by decide +kernel⟩
theorem ok_clr (d : Def K mg "growth_by_clearing" (top ix_growth_by_clearing) ["numbers"]) : Ok P w K mg base CX0 1 "growth_by_clearing" ["numbers"] spClr := d.ok fun f fd F => by
  refine F.ok sc_clr (by rintro vs H Q E ⟨a, k, r, rfl, _⟩; rfl) (fun cdv A outer s H vs Q E hr h => ?_)
  obtain ⟨a, k, r, rfl, h1, q⟩ := h
  rw [nv_cons] at h1 q
  refine ⟨_, pss_cons (ps_set (i := 1) sc_clr.nd rfl (Or.inl rfl) (pe_op op_sub pe_int (pe_ix ix_list (pv 0) (pe_un un_neg pe_int) (fun _ _ => rfl))))
    (pss_cons (ps_asg pe_int (pg_sub (pv 0) (pe_un un_neg pe_int) set_list)) (pss_one (ps_ret (pv 1)))), ?_⟩
  refine ⟨_, rfl, _, rfl, a, _, _, _, rfl, rfl, SqL.of h1, at_last _ _, _, _, rfl, rfl, _, rfl, _, rfl, a, _, _, _, rfl, rfl, h1, ix_last _ _, _, rfl, ?_⟩
  rw [set_last]
  exact q
def spCls : Sp := fun vs H Q _ => ∃ (a : Addr) (k : Nat) (r : List Nat) (x : Str), vs = [.ref a, .str x] ∧ H a = some (.lst (nv (k :: r).reverse)) ∧ r.length < 1000000 ∧
  ∀ H', H' a = some (.lst (nv (stp (if x = "}" then 3 else 2) (k :: r)).reverse)) → Fr1 a H H' → Q (.int (dI (stp (if x = "}" then 3 else 2) (k :: r)) - dI (k :: r))) H'
theorem sc_cls : FnScope ["numbers", "look", "grown"] ["numbers", "look"] (defScope (top ix_growth_by_closing)) := ⟨rfl, rfl, rfl, by decide +kernel, rfl, by decide +kernel, by decide +kernel⟩
theorem cls_tail (k k2 : Nat) (r2 : List Nat) (g : Int) (r : List Nat) (hd : (match r with | [] => [0] | k2 :: r2 => k2 :: r2) = k2 :: r2) (hg : g = (if r = [] then 0 - (k : Int) else 0 - (k : Int) - 1)) :
    stp 3 (k :: r) = 0 :: r2 ∧ g + (0 - (k2 : Int)) = dI (0 :: r2) - dI (k :: r) ∧ stp 2 (k :: r) = (k2 + 1) :: r2 ∧ g + 1 = dI ((k2 + 1) :: r2) - dI (k :: r) := by
  cases r with
  | nil =>
    injection hd with h1 h2
    subst h1; subst h2
    rw [if_pos rfl] at hg
    refine ⟨rfl, ?_, rfl, ?_⟩ <;> simp only [dI_cons, List.length_nil, List.foldr_nil] <;> omega
  | cons a b =>
    injection hd with h1 h2
    subst h1; subst h2
    rw [if_neg (by simp)] at hg
    refine ⟨rfl, ?_, rfl, ?_⟩ <;> simp only [dI_cons, List.length_cons, List.foldr_cons] <;> omega
theorem ok_cls (d : Def K mg "growth_by_closing" (top ix_growth_by_closing) ["numbers", "look"]) (oc : Ok P w K mg base CX0 1 "growth_by_clearing" ["numbers"] spClr) : Ok P w K mg base CX0 2 "growth_by_closing" ["numbers", "look"] spCls := d.ok fun f fd F => by
  refine F.ok sc_cls (by rintro vs H Q E ⟨a, k, r, x, rfl, _⟩; rfl) (fun cdv A outer s H vs Q E hr h => ?_)
  obtain ⟨a, k, r, x, rfl, h1, hlen, q⟩ := h
  rw [nv_cons] at h1
  have hp := pop_last (nv r.reverse) (.int k)
  refine ⟨_, pss_cons (ps_set (i := 2) sc_cls.nd rfl (Or.inl rfl) (pe_op op_sub pe_int (pe_bm0 PySem.F.plainAttrs_list PySem.F.slot_list_pop PySem.F.type_list_pop mt_pop (pv 0))))
    (pss_cons (ps_if (pt_cmpR (op_eqI hr.units) (pv 0) (pe_lst pa_nil) (nomark _))
      (pss_one (ps_expr (pe_bm PySem.F.plainAttrs_list PySem.F.slot_list_append PySem.F.type_list_append mt_append (pv 0) (pa_cons pe_int pa_nil))))
      (pss_one (ps_aug (i := 2) sc_cls.nd rfl (Or.inl rfl) pe_int ip_sub)))
    (pss_cons (ps_if (pt_cmpR op_eq (pv 1) pe_str (nomark _)) (pss_one (ps_ret (pe_op op_add (pv 2) (pe_fn0 oc hr (pa_cons (pv 0) pa_nil))))) pss_nil)
    (pss_cons (ps_augS (pv 0) (pe_un un_neg pe_int) get_list pe_int ip_add set_list)
    (pss_one (ps_ret (pe_op op_add (pv 2) pe_int)))))), ?_⟩
  refine ⟨_, rfl, .inl ⟨rfl, _, SqL.of h1⟩, a, _, _, rfl, rfl, h1, hp.1, _, _, rfl, rfl, ?_⟩
  rw [hp.2]
  refine ⟨_, rfl, Nat.zero_le _, fun e he => ?_⟩
  have hne : e ≠ a := fun z => by rw [z, upd_same] at he; cases he
  have s1 : (upd (upd H a (.lst (nv r.reverse))) e (.lst [])) a = some (.lst (nv r.reverse)) := by rw [upd_ne (Ne.symm hne), upd_same]
  have he0 : H e = none := by rw [upd_ne hne] at he; exact he
  -- what follows, once the numbers and grown are known
  have go : ∀ (k2 : Nat) (r2 : List Nat) (H2 : Hp) (g : Int), H2 a = some (.lst (nv (k2 :: r2).reverse)) → Fr1 a H H2 → stp 3 (k :: r) = 0 :: r2 → g + (0 - (k2 : Int)) = dI (0 :: r2) - dI (k :: r) → stp 2 (k :: r) = (k2 + 1) :: r2 → g + 1 = dI ((k2 + 1) :: r2) - dI (k :: r) →
      tSeq (tIfS (tTest (tOp rEq (tVar 1) (tC (.str "}")))) (tRet (tOp (rI0 fun i j => .int (i + j)) (tVar 2) (tCall spClr [] E0 (tCons (tVar 0) tNil)))) tNext)
        (tSeq (tAugS (tVar 0) (tUn (rU fun i => .int (-i)) (tC (.int 1))) (tC (.int 1)) (rIxL K) (ipI fun i j => i + j) rSetL) (tRet (tOp (rI0 fun i j => .int (i + j)) (tVar 2) (tC (.int 1)))))
        { nx := fun _ H' => Q .non H', rt := Q } [some (.ref a), some (.str x), some (.int g)] H2 := by
    intro k2 r2 H2 g hH2 fr e3 d3 e2 d2
    refine ⟨_, rfl, rfl, _, rfl, ite2 (fun hx => ?_) fun hx => ?_⟩
    · have hx : x = "}" := by have := of_decide_eq_true hx; injection this
      rw [if_pos hx, e3, ← d3] at q
      refine ⟨_, rfl, _, rfl, a, k2, r2, rfl, hH2, _, _, rfl, rfl, ?_⟩
      exact q _ upd_same fun b o hb hba => by rw [upd_ne hba]; exact fr b o hb hba
    · have hx : ¬ x = "}" := fun z => hx (decide_eq_true (by rw [z]))
      rw [if_neg hx, e2, ← d2] at q
      rw [nv_cons] at hH2
      refine ⟨_, rfl, _, rfl, a, _, _, _, rfl, rfl, SqL.of hH2, at_last _ _, _, _, rfl, rfl, a, _, _, _, rfl, rfl, hH2, ix_last _ _, _, rfl, _, _, rfl, rfl, ?_⟩
      refine q _ ?_ fun b o hb hba => by rw [upd_ne hba]; exact fr b o hb hba
      rw [upd_same, set_last, nv_cons]
      rfl
  refine ⟨a, e, r.reverse.map (fun (n : Nat) => (n : Int)), [], rfl, rfl, SqL.of (by rw [s1, nv_ints]), SqL.of upd_same, _, rfl, ite2 (fun hx => ?_) fun hx => ?_⟩
  · have hx := of_decide_eq_true hx
    have hr0 : r = [] := by
      have := congrArg List.length hx
      simp at this; exact this
    subst hr0
    refine ⟨_, rfl, .inl ⟨rfl, _, SqL.of s1⟩, a, _, _, rfl, rfl, s1, (by show 0 < sizeLine; decide), ?_⟩
    obtain ⟨t1, t2, t3, t4⟩ := cls_tail k 0 [] _ [] rfl rfl
    refine go 0 [] _ _ (by rw [upd_same]; rfl) (fun b o hb hba => ?_) t1 t2 t3 t4
    rw [upd_ne hba, upd_ne (ne_of_none hb he0), upd_ne hba]; exact hb
  · have hr0 : r ≠ [] := fun z => hx (decide_eq_true (by rw [z]; rfl))
    obtain ⟨k2, r2, rfl⟩ : ∃ k2 r2, r = k2 :: r2 := by
      cases r with
      | nil => exact absurd rfl hr0
      | cons x y => exact ⟨x, y, rfl⟩
    refine ⟨_, rfl, _, _, rfl, rfl, ?_⟩
    obtain ⟨t1, t2, t3, t4⟩ := cls_tail k k2 r2 _ (k2 :: r2) rfl rfl
    rw [if_neg hr0] at t2 t4
    refine go k2 r2 _ _ s1 (fun b o hb hba => ?_) t1 t2 t3 t4
    rw [upd_ne (ne_of_none hb he0), upd_ne hba]; exact hb
end
end TG
end
section
set_option Elab.async false
set_option linter.all false
set_option maxRecDepth 100000
set_option maxHeartbeats 2000000
namespace TG
open PySem PySem.Spec PyProof.Rows L2 TW
open EwTree (depthNow depthStep)

/-- a written tuple of texts, a dict by texts -/
def GT (K : PySem.W.Frag) (mg : Str → Option Value) (nm : Str) (l : List V) : Prop := ∃ a, mg nm = some (.ref a) ∧ ∀ H, SqT K H a l
def GD (K : PySem.W.Frag) (P : Params) (mg : Str → Option Value) (nm : Str) (l : List Str) : Prop := ∃ a, mg nm = some (.ref a) ∧ KDS K P a l
def GDI (K : PySem.W.Frag) (mg : Str → Option Value) (nm : Str) (l : List (Int × Str)) : Prop := ∃ a, mg nm = some (.ref a) ∧ KDI K a l

theorem gcls_1 {x : Str} (h : x ∈ OPENS) : gcls x = 1 := by unfold gcls; rw [if_pos h]
theorem gcls_2 {x : Str} (h1 : ¬ x ∈ OPENS) (h : x ∈ CLOSES) : gcls x = (if x = "}" then 3 else 2) := by unfold gcls; rw [if_neg h1, if_pos h]
theorem gcls_4 {x : Str} (h1 : ¬ x ∈ OPENS) (h2 : ¬ x ∈ CLOSES) (h : x ∈ RISES) : gcls x = 4 := by unfold gcls; rw [if_neg h1, if_neg h2, if_pos h]
theorem gcls_5 {x : Str} (h1 : ¬ x ∈ OPENS) (h2 : ¬ x ∈ CLOSES) (h3 : ¬ x ∈ RISES) (h : x ∈ CLEARS) : gcls x = 5 := by unfold gcls; rw [if_neg h1, if_neg h2, if_neg h3, if_pos h]
theorem gcls_0 {x : Str} (h1 : ¬ x ∈ OPENS) (h2 : ¬ x ∈ CLOSES) (h3 : ¬ x ∈ RISES) (h : ¬ x ∈ CLEARS) : gcls x = 0 := by unfold gcls; rw [if_neg h1, if_neg h2, if_neg h3, if_neg h]
section
variable {P : Program} {w : World} {K : PySem.W.Frag} {mg : Str → Option Value} {base : Heap}
def spGro : Sp := fun vs H Q _ => ∃ (a : Addr) (l : List Nat) (x : Str), vs = [.ref a, .str x] ∧ H a = some (.lst (nv l.reverse)) ∧ l ≠ [] ∧ l.length < 1000000 ∧
  ∀ H', H' a = some (.lst (nv (stp (gcls x) l).reverse)) → Fr1 a H H' → Q (.int (dI (stp (gcls x) l) - dI l)) H'
theorem sc_gro : FnScope ["numbers", "look"] ["numbers", "look"] (defScope (top ix_growth)) := ⟨rfl, rfl, rfl, by decide +kernel, rfl, by decide +kernel, by decide +kernel⟩
theorem ok_gro (d : Def K mg "growth" (top ix_growth) ["numbers", "look"]) (g1 : GT K mg "OPENING" (OPENS.map V.str)) (g2 : GT K mg "CLOSING" (CLOSES.map V.str)) (g3 : GD K w.params mg "RISING" RISES) (g4 : GD K w.params mg "CLEARING" CLEARS)
    (oc : Ok P w K mg base CX0 2 "growth_by_closing" ["numbers", "look"] spCls) (ol : Ok P w K mg base CX0 1 "growth_by_clearing" ["numbers"] spClr) : Ok P w K mg base CX0 3 "growth" ["numbers", "look"] spGro := d.ok fun f fd F => by
  refine F.ok sc_gro (by rintro vs H Q E ⟨a, l, x, rfl, _⟩; rfl) (fun cdv A outer s H vs Q E hr h => ?_)
  obtain ⟨a, l, x, rfl, h1, hne, hlen, q⟩ := h
  obtain ⟨a1, m1, t1⟩ := g1
  obtain ⟨a2, m2, t2⟩ := g2
  obtain ⟨a3, m3, t3⟩ := g3
  obtain ⟨a4, m4, t4⟩ := g4
  obtain ⟨k, r, rfl⟩ : ∃ k r, l = k :: r := by
    cases l with
    | nil => exact absurd rfl hne
    | cons x y => exact ⟨x, y, rfl⟩
  have hlr : r.length < 1000000 := by simp at hlen; omega
  refine ⟨_, pss_cons (ps_if (pt_cmpR op_in_seq (pv 1) (pg_r m1) (by with_unfolding_all rfl))
      (pss_cons (ps_expr (pe_bm PySem.F.plainAttrs_list PySem.F.slot_list_append PySem.F.type_list_append mt_append (pv 0) (pa_cons pe_int pa_nil))) (pss_one (ps_ret pe_int))) pss_nil)
    (pss_cons (ps_if (pt_cmpR op_in_seq (pv 1) (pg_r m2) (by with_unfolding_all rfl)) (pss_one (ps_ret (pe_fn0 oc hr (pa_cons (pv 0) (pa_cons (pv 1) pa_nil))))) pss_nil)
    (pss_cons (ps_if (pt_cmpR op_inS (pv 1) (pg_r m3) (by with_unfolding_all rfl)) (pss_cons (ps_augS (pv 0) (pe_un un_neg pe_int) get_list pe_int ip_add set_list) (pss_one (ps_ret pe_int))) pss_nil)
    (pss_cons (ps_if (pt_cmpR op_inS (pv 1) (pg_r m4) (by with_unfolding_all rfl)) (pss_one (ps_ret (pe_fn0 ol (hr.mono (by decide)) (pa_cons (pv 0) pa_nil)))) pss_nil)
    (pss_one (ps_ret pe_int))))), ?_⟩
  refine ⟨_, rfl, a1, _, rfl, .inr (t1 _), rfl, flat_str _, _, rfl, ?_⟩
  rw [inV_str]
  refine ite2 (fun z1 => ?_) fun z1 => ?_
  · have z1 := of_decide_eq_true (p := x ∈ OPENS) z1
    rw [gcls_1 z1] at q
    refine ⟨_, rfl, .inl ⟨rfl, _, SqL.of h1⟩, a, _, _, rfl, rfl, h1, ?_, ?_⟩
    · unfold nv
      rw [List.length_map, List.length_reverse, sizeLine_eq]; omega
    · have e : (1 : Int) = dI (stp 1 (k :: r)) - dI (k :: r) := by
        show (1 : Int) = dI (0 :: k :: r) - dI (k :: r)
        simp only [dI_cons, List.length_cons, List.foldr_cons]; omega
      rw [← e] at q
      refine q _ ?_ fun b o hb hba => by rw [upd_ne hba]; exact hb
      rw [upd_same]
      show some (HO.lst (nv (k :: r).reverse ++ [V.int 0])) = some (HO.lst (nv (0 :: k :: r).reverse))
      rw [nv_cons 0 (k :: r)]; rfl
  have z1 : ¬ x ∈ OPENS := fun z => z1 (decide_eq_true z)
  refine ⟨_, rfl, a2, _, rfl, .inr (t2 _), rfl, flat_str _, _, rfl, ?_⟩
  rw [inV_str]
  refine ite2 (fun z2 => ?_) fun z2 => ?_
  · have z2 := of_decide_eq_true (p := x ∈ CLOSES) z2
    rw [gcls_2 z1 z2] at q
    exact ⟨_, rfl, _, rfl, a, k, r, x, rfl, h1, hlr, q⟩
  have z2 : ¬ x ∈ CLOSES := fun z => z2 (decide_eq_true z)
  refine ⟨_, rfl, x, a3, RISES, rfl, rfl, t3, _, rfl, ite2 (fun z3 => ?_) fun z3 => ?_⟩
  · have z3 := of_decide_eq_true z3
    rw [gcls_4 z1 z2 z3] at q
    rw [nv_cons] at h1
    refine ⟨_, rfl, _, rfl, a, _, _, _, rfl, rfl, SqL.of h1, at_last _ _, _, _, rfl, rfl, a, _, _, _, rfl, rfl, h1, ix_last _ _, ?_⟩
    have e : (1 : Int) = dI (stp 4 (k :: r)) - dI (k :: r) := by
      show (1 : Int) = dI ((k + 1) :: r) - dI (k :: r)
      simp only [dI_cons]; omega
    rw [← e] at q
    refine q _ ?_ fun b o hb hba => by rw [upd_ne hba]; exact hb
    rw [upd_same, set_last]
    show some (HO.lst (nv r.reverse ++ [V.int ((k : Int) + 1)])) = some (HO.lst (nv ((k + 1) :: r).reverse))
    rw [nv_cons (k + 1) r]; rfl
  have z3 : ¬ x ∈ RISES := fun z => z3 (decide_eq_true z)
  refine ⟨_, rfl, x, a4, CLEARS, rfl, rfl, t4, _, rfl, ite2 (fun z4 => ?_) fun z4 => ?_⟩
  · have z4 := of_decide_eq_true z4
    rw [gcls_5 z1 z2 z3 z4] at q
    refine ⟨_, rfl, a, k, r, rfl, h1, ?_⟩
    have e : 0 - (k : Int) = dI (stp 5 (k :: r)) - dI (k :: r) := by
      show 0 - (k : Int) = dI (0 :: r) - dI (k :: r)
      simp only [dI_cons]; omega
    rw [← e] at q
    exact q _ upd_same fun b o hb hba => by rw [upd_ne hba]; exact hb
  · have z4 : ¬ x ∈ CLEARS := fun z => z4 (decide_eq_true z)
    rw [gcls_0 z1 z2 z3 z4] at q
    show Q (.int 0) _
    have e : (0 : Int) = dI (stp 0 (k :: r)) - dI (k :: r) := by
      show (0 : Int) = dI (k :: r) - dI (k :: r)
      omega
    rw [← e] at q
    exact q _ h1 fun b o hb _ => hb

/-! ### tokens as objects -/
def tf (kd : Int) (lk : Str) (st en : Int) : List (Str × V) := putF "end" (.int en) (putF "start" (.int st) (putF "look" (.str lk) (putF "kind" (.int kd) [])))
theorem tf_kind (kd : Int) (lk : Str) (st en : Int) : (tf kd lk st en).lookup ("kind" : Str) = some (.int kd) := by
  unfold tf
  rw [lookup_putF, if_neg (by decide +kernel), lookup_putF, if_neg (by decide +kernel), lookup_putF, if_neg (by decide +kernel), lookup_putF, if_pos rfl]
theorem tf_look (kd : Int) (lk : Str) (st en : Int) : (tf kd lk st en).lookup ("look" : Str) = some (.str lk) := by
  unfold tf
  rw [lookup_putF, if_neg (by decide +kernel), lookup_putF, if_neg (by decide +kernel), lookup_putF, if_pos rfl]
theorem tf_start (kd : Int) (lk : Str) (st en : Int) : (tf kd lk st en).lookup ("start" : Str) = some (.int st) := by
  unfold tf
  rw [lookup_putF, if_neg (by decide +kernel), lookup_putF, if_pos rfl]
theorem tf_end (kd : Int) (lk : Str) (st en : Int) : (tf kd lk st en).lookup ("end" : Str) = some (.int en) := by
  unfold tf
  rw [lookup_putF, if_pos rfl]
def TokAt (C : Addr) (H : Hp) (r : Addr) (t : EwTree.Tok) : Prop := ∃ dx, H r = some (.ins C dx (tf t.kind (lookOf t) t.place t.halt_))
/-- the class Token -/
structure TokC (K : PySem.W.Frag) (C : Addr) : Prop where
  cl : Cls K C
  nk : NoAttr K C "kind"
  nl : NoAttr K C "look"
  ns : NoAttr K C "start"
  ne : NoAttr K C "end"
def spDep (K : PySem.W.Frag) (C : Addr) : Sp := fun vs H Q _ => ∃ (a : Addr) (rs : List Addr) (ts : List EwTree.Tok), vs = [.ref a] ∧ SqL K H a (rs.map V.ref) ∧ Paired (fun r t => TokAt C H r t) rs ts ∧ (∀ t ∈ ts, Good t) ∧ ts.length < 1000000 - 10 ∧
  ∀ H', Same H H' → Q (.int ((dRun ts).2 : Nat)) H'
theorem sc_dep : FnScope ["found", "numbers", "together", "greatest", "token"] ["found"] (defScope (top ix_depth)) := ⟨rfl, rfl, rfl, by decide +kernel, rfl, by decide +kernel, by decide +kernel⟩
theorem take_snoc {α : Type} : ∀ {l : List α} {i : Nat} {x : α}, l[i]? = some x → l.take (i + 1) = l.take i ++ [x]
  | [], i, x, h => by simp at h
  | a :: l, 0, x, h => by
    have e : a = x := Option.some.inj h
    subst e
    rfl
  | a :: l, i + 1, x, h => by
    have ih := take_snoc (l := l) (i := i) (x := x) h
    show a :: l.take (i + 1) = a :: l.take i ++ [x]
    rw [ih]
    rfl
theorem stp_len (c : Nat) (l : List Nat) (h : l ≠ []) : (stp c l).length ≤ l.length + 1 := by
  unfold stp
  split
  · simp
  · split
    · simp
    · rename_i k r e; have := congrArg List.length e; simp at this ⊢; omega
  · split
    · simp
    · rename_i k r e; have := congrArg List.length e; simp at this ⊢; omega
  · split
    · simp
    · simp
  · simp
  · omega
theorem dRun_len : ∀ (n : Nat) (ts : List EwTree.Tok), (∀ t ∈ ts, Good t) → n ≤ ts.length → (dRun (ts.take n)).1.length ≤ n + 1
  | 0, ts, _, _ => by rw [List.take_zero]; exact Nat.le_refl _
  | n + 1, ts, g, h => by
    have hn : n < ts.length := by omega
    have e := take_snoc (List.getElem?_eq_getElem hn)
    have gn : ∀ t ∈ ts.take n, Good t := fun t ht => g t (List.mem_of_mem_take ht)
    rw [e, dRun_snoc, depthStep_ok (g _ (List.getElem_mem hn))]
    have := dRun_len n ts g (by omega)
    have := stp_len (gcls (lookOf ts[n])) (dRun (ts.take n)).1 (dRun_ne _ gn)
    dsimp only
    omega
theorem ok_dep {C : Addr} (d : Def K mg "depth" (top ix_depth) ["found"]) (T : TokC K C) (mx : mg "max" = none) (og : Ok P w K mg base CX0 3 "growth" ["numbers", "look"] spGro) : Ok P w K mg base CX0 4 "depth" ["found"] (spDep K C) := d.ok fun f fd F => by
  refine F.ok sc_dep (by rintro vs H Q E ⟨a, rs, ts, rfl, _⟩; rfl) (fun cdv A outer s H vs Q E hr h => ?_)
  obtain ⟨a, rs, ts, rfl, hS, hT, hg, hlen, q⟩ := h
  refine ⟨_, pss_cons (ps_set (i := 1) sc_dep.nd rfl (Or.inl rfl) (pe_lst (pa_cons pe_int pa_nil))) (pss_cons (ps_set (i := 2) sc_dep.nd rfl (Or.inl rfl) pe_int) (pss_cons (ps_set (i := 3) sc_dep.nd rfl (Or.inl rfl) pe_int)
    (pss_cons (ps_for PassesOwn.never rfl (pi_list (pv 0)) (pg_name (i := 4) sc_dep.nd rfl (Or.inl rfl))
      (pss_cons (ps_aug (i := 2) sc_dep.nd rfl (Or.inl rfl) (pe_fn0 og hr (pa_cons (pv 1) (pa_cons (pe_fld (pv 4) rfl) pa_nil))) ip_add)
      (pss_one (ps_set (i := 3) sc_dep.nd rfl (Or.inl rfl) (pe_callB (call_max2 rfl) (by rfl) mx boot_max (pa_cons (pv 3) (pa_cons (pv 2) pa_nil)))))))
    (pss_one (ps_ret (pv 3)))))), ?_⟩
  refine ⟨(by show 1 ≤ sizeLine; decide), fun nl hnl => ?_⟩
  have s0 : Same H (upd H nl (.lst [.int 0])) := fun b o e => by rw [upd_ne (ne_of_none e hnl)]; exact e
  have hlr : rs.length = ts.length := Paired.length hT
  refine ⟨_, rfl, a, rfl, ⟨_, s0.seq hS⟩, for_list (K := K) (a := a) (xs := rs.map V.ref) (fun i σ H' => ∃ v4 : Option V, σ = [some (.ref a), some (.ref nl), some (.int (dI (dRun (ts.take i)).1)), some (.int ((dRun (ts.take i)).2 : Nat)), v4] ∧
      H' nl = some (.lst (nv (dRun (ts.take i)).1.reverse)) ∧ Same H H')
    ⟨none, rfl, by rw [upd_same]; rfl, s0⟩ (fun i σ H' _ ⟨_, _, _, s1⟩ => s1.seq hS) ?_ ?_⟩
  · rintro i y σ H' hi ⟨v4, rfl, hn, s1⟩
    obtain ⟨r, hr', rfl⟩ : ∃ r, rs[i]? = some r ∧ y = V.ref r := by
      rw [List.getElem?_map] at hi
      cases e : rs[i]? with
      | none => rw [e] at hi; cases hi
      | some z => rw [e] at hi; exact ⟨z, rfl, (Option.some.inj hi).symm⟩
    obtain ⟨t, ht, dx, hat⟩ := paired_get hT hr'
    have hil : i < ts.length := (List.getElem?_eq_some_iff.mp ht).1
    have gt : Good t := hg t (List.mem_of_getElem? ht)
    have gi : ∀ u ∈ ts.take i, Good u := fun u hu => hg u (List.mem_of_mem_take hu)
    have hne := dRun_ne _ gi
    have hln := dRun_len i ts hg (by omega)
    refine ⟨_, rfl, _, rfl, _, rfl, r, C, dx, _, _, rfl, s1 _ _ hat, T.cl, T.nl, tf_look _ _ _ _, nl, _, _, rfl, hn, hne, by omega, fun H2 h2 fr => ?_⟩
    have e1 : (dRun (ts.take (i + 1))).1 = stp (gcls (lookOf t)) (dRun (ts.take i)).1 := by rw [take_snoc ht, dRun_snoc, depthStep_ok gt]
    have e2 : (dRun (ts.take (i + 1))).2 = max (dRun (ts.take i)).2 (depthNow (dRun (ts.take (i + 1))).1) := by
      rw [e1, take_snoc ht, dRun_snoc, depthStep_ok gt]
    refine ⟨_, _, rfl, rfl, _, rfl, _, rfl, _, _, rfl, ?_⟩
    refine ⟨some (.ref r), ?_, by rw [e1]; exact h2, fun b o hb => fr b o (s1 b o hb) fun z => by rw [z, hnl] at hb; cases hb⟩
    have v2 : dI (dRun (ts.take i)).1 + (dI (stp (gcls (lookOf t)) (dRun (ts.take i)).1) - dI (dRun (ts.take i)).1) = dI (dRun (ts.take (i + 1))).1 := by rw [e1]; omega
    have v3 : (if dI (dRun (ts.take i)).1 + (dI (stp (gcls (lookOf t)) (dRun (ts.take i)).1) - dI (dRun (ts.take i)).1) > ((dRun (ts.take i)).2 : Int) then dI (dRun (ts.take i)).1 + (dI (stp (gcls (lookOf t)) (dRun (ts.take i)).1) - dI (dRun (ts.take i)).1) else ((dRun (ts.take i)).2 : Int)) = (((dRun (ts.take (i + 1))).2 : Nat) : Int) := by
      rw [v2, e2]
      unfold dI
      split <;> omega
    rw [v3]
    show [some (V.ref a), some (V.ref nl), some (V.int (dI (dRun (ts.take i)).1 + (dI (stp (gcls (lookOf t)) (dRun (ts.take i)).1) - dI (dRun (ts.take i)).1))), _, _] = _
    rw [v2]
  · rintro σ H' ⟨v4, rfl, _, s1⟩
    refine ⟨_, rfl, ?_⟩
    rw [List.length_map, hlr, List.take_length]
    exact q H' s1
end
end TG
end
section
set_option Elab.async false
set_option linter.all false
set_option maxRecDepth 100000
set_option maxHeartbeats 2000000
namespace TG
open PySem PySem.Spec PyProof.Rows L2 TW
open EwTree (isSmall isBig isDigit isSeen isWordByte isCodeByte isMarkByte)

theorem eqV_int (a b : Int) : decide (V.int a = V.int b) = decide (a = b) := by
  by_cases h : a = b
  · subst h; simp
  · simp [h]
theorem iv_ints (b : By) : iv b = (b.map fun (c : UInt8) => (c.toNat : Int)).map V.int := by unfold iv; rw [List.map_map]; rfl
theorem iv_nil {b : By} : decide ((b.map fun (c : UInt8) => (c.toNat : Int)) = []) = decide (b = []) := by cases b <;> simp
theorem iv_cut {b : By} {i j : Nat} (hj : j ≤ b.length) (hij : i ≤ j) : cutV (iv b) (some (i : Int)) (some (j : Int)) = iv (cut b i j) := by
  unfold cutV cut iv
  rw [HT.sIx_nat, HT.sIx_nat, List.length_map, Nat.min_eq_left hj, Nat.min_eq_left (by omega), List.map_take, List.map_drop]
theorem iv_from {b : By} {i : Nat} (hi : i ≤ b.length) : cutV (iv b) (some (i : Int)) none = iv (b.drop i) := by
  unfold cutV iv
  rw [HT.sIx_nat, HT.sIx_none, List.length_map, Nat.min_eq_left hi, List.take_of_length_le (by rw [List.length_drop, List.length_map]; omega), List.map_drop]
theorem SqL.same {K : PySem.W.Frag} {H H' : Hp} {a : Addr} {xs : List V} (s : Same H H') (h : SqL K H a xs) : SqL K H' a xs := s.seq h

/-- a class by its name, made -/
structure New (P : Program) (w : World) (K : PySem.W.Frag) (mg : Str → Option Value) (base : Heap) (k : Nat) (nm : Str) (C : Addr) (ps : List Str) (sp : Sp) : Prop where
  ex : ∃ (f : Addr) (fd : FuncData), Mk K C f ∧ FnOk P w K mg base CX0 k f fd ps sp ∧ Binds K fd ps [] ∧ mg nm = some (.ref C)
structure CDef (K : PySem.W.Frag) (mg : Str → Option Value) (nm qual : Str) (st : Stmt) (C : Addr) (ps : List Str) : Prop where
  ex : ∃ (f : Addr) (fd : FuncData), Mk K C f ∧ Fun K "__init__" qual st f fd ∧ Binds K fd ps [] ∧ mg nm = some (.ref C)
theorem CDef.new {P : Program} {w : World} {K : PySem.W.Frag} {mg : Str → Option Value} {base : Heap} {k : Nat} {nm qual : Str} {st : Stmt} {C : Addr} {ps : List Str} {sp : Sp} (d : CDef K mg nm qual st C ps) (h : ∀ f fd, Fun K "__init__" qual st f fd → FnOk P w K mg base CX0 k f fd ps sp) :
    New P w K mg base k nm C ps sp := by
  obtain ⟨f, fd, M, F, b, m⟩ := d.ex
  exact ⟨f, fd, M, h f fd F, b, m⟩
theorem pe_new {X : Cx} {k : Nat} {C : Addr} {ps : List Str} {sp : Sp} {x : Str} {p pos : Pos} {e : Expr} {es : List Expr} {t : TA} (o : New X.prog X.w X.K X.mg X.base k x C ps sp) (hr : Room (k + 1) X.A) (ha : PA X (e :: es) t) (hg : Gl X x := by rfl) (hdb : (x == ("__debug__" : Str)) = false := by decide)
    (he : starEach (e :: es) X.env = (false, eval e X.env) :: starEach es X.env := by rfl) (hpl : (backTo pos (starEach es X.env)).any (·.1) = false := by rfl) : PE X (.Call (.Name x p) (e :: es) [] pos) (tMake C sp [] E0 t) := by
  obtain ⟨f, fd, M, F, b, m⟩ := o.ex
  exact pe_make M F hr hg m b .nil pass0 ha hdb he hpl

section
variable {P : Program} {w : World} {K : PySem.W.Frag} {mg : Str → Option Value} {base : Heap}
/-! ### Token(..) -/
abbrev sTokI : Stmt := inClass (top ix_Token) 0
def spTok (C : Addr) : Sp := fun vs H Q _ => ∃ (p dx : Addr) (kd : Int) (lk : Str) (st en : Int), vs = [.ref p, .int kd, .str lk, .int st, .int en] ∧ H p = some (.ins C dx []) ∧ ∀ H', H' p = some (.ins C dx (tf kd lk st en)) → Fr1 p H H' → Q .non H'
theorem sc_tok : FnScope ["self", "kind", "look", "start", "end"] ["self", "kind", "look", "start", "end"] (defScope sTokI) := ⟨rfl, rfl, rfl, by decide +kernel, rfl, by decide +kernel, by decide +kernel⟩
theorem fr4 {H : Hp} {p : Addr} {o1 o2 o3 o4 : HO} : Fr1 p H (upd (upd (upd (upd H p o1) p o2) p o3) p o4) := fun b o hb hp => by
  rw [upd_ne hp, upd_ne hp, upd_ne hp, upd_ne hp]; exact hb
theorem new_tok {C : Addr} (d : CDef K mg "Token" "Token.__init__" sTokI C ["self", "kind", "look", "start", "end"]) (T : TokC K C) : New P w K mg base 1 "Token" C ["self", "kind", "look", "start", "end"] (spTok C) := d.new fun f fd F => by
  refine F.ok sc_tok (by rintro vs H Q E ⟨p, dx, kd, lk, st, en, rfl, _⟩; rfl) (fun cdv A outer s H vs Q E hr h => ?_)
  obtain ⟨p, dx, kd, lk, st, en, rfl, h1, k⟩ := h
  refine ⟨_, pss_cons (ps_fld (pv 0) (pv 1) rfl) (pss_cons (ps_fld (pv 0) (pv 2) rfl) (pss_cons (ps_fld (pv 0) (pv 3) rfl) (pss_one (ps_fld (pv 0) (pv 4) rfl)))), ?_⟩
  refine ⟨_, rfl, _, rfl, p, C, dx, [], rfl, h1, T.cl, T.nk, (by show 0 < 1000; decide), _, rfl, _, rfl, p, C, dx, _, rfl, upd_same, T.cl, T.nl, Nat.lt_of_le_of_lt (length_putF _ _ _) (by show 1 < 1000; decide),
    _, rfl, _, rfl, p, C, dx, _, rfl, upd_same, T.cl, T.ns, Nat.lt_of_le_of_lt (length_putF _ _ _) (Nat.lt_of_le_of_lt (Nat.succ_le_succ (length_putF _ _ _)) (by show 2 < 1000; decide)),
    _, rfl, _, rfl, p, C, dx, _, rfl, upd_same, T.cl, T.ne, Nat.lt_of_le_of_lt (length_putF _ _ _) (Nat.lt_of_le_of_lt (Nat.succ_le_succ (length_putF _ _ _)) (Nat.lt_of_le_of_lt (Nat.succ_le_succ (Nat.succ_le_succ (length_putF _ _ _))) (by show 3 < 1000; decide))), ?_⟩
  exact k _ upd_same fr4

/-! ### Numeral(..) -/
abbrev sNumI : Stmt := inClass (top ix_Numeral) 0
abbrev sNumS : Stmt := inClass (top ix_Numeral) 1
def nf (d f e m : Addr) : List (Str × V) := putF "mark" (.ref m) (putF "exponent" (.ref e) (putF "fraction" (.ref f) (putF "digits" (.ref d) [])))
theorem nf_digits (d f e m : Addr) : (nf d f e m).lookup ("digits" : Str) = some (.ref d) := by
  unfold nf
  rw [lookup_putF, if_neg (by decide +kernel), lookup_putF, if_neg (by decide +kernel), lookup_putF, if_neg (by decide +kernel), lookup_putF, if_pos rfl]
theorem nf_fraction (d f e m : Addr) : (nf d f e m).lookup ("fraction" : Str) = some (.ref f) := by
  unfold nf
  rw [lookup_putF, if_neg (by decide +kernel), lookup_putF, if_neg (by decide +kernel), lookup_putF, if_pos rfl]
theorem nf_exponent (d f e m : Addr) : (nf d f e m).lookup ("exponent" : Str) = some (.ref e) := by
  unfold nf
  rw [lookup_putF, if_neg (by decide +kernel), lookup_putF, if_pos rfl]
theorem nf_mark (d f e m : Addr) : (nf d f e m).lookup ("mark" : Str) = some (.ref m) := by
  unfold nf
  rw [lookup_putF, if_pos rfl]
theorem nf_size (d f e m : Addr) : (nf d f e m).lookup ("size" : Str) = none := by
  unfold nf
  rw [lookup_putF, if_neg (by decide +kernel), lookup_putF, if_neg (by decide +kernel), lookup_putF, if_neg (by decide +kernel), lookup_putF, if_neg (by decide +kernel)]
  rfl
structure NumC (K : PySem.W.Frag) (C : Addr) : Prop where
  cl : Cls K C
  nd : NoAttr K C "digits"
  nf : NoAttr K C "fraction"
  ne : NoAttr K C "exponent"
  nm : NoAttr K C "mark"
def spNumI (C : Addr) : Sp := fun vs H Q _ => ∃ (p dx d f e m : Addr), vs = [.ref p, .ref d, .ref f, .ref e, .ref m] ∧ H p = some (.ins C dx []) ∧ ∀ H', H' p = some (.ins C dx (nf d f e m)) → Fr1 p H H' → Q .non H'
theorem sc_numI : FnScope ["self", "digits", "fraction", "exponent", "mark"] ["self", "digits", "fraction", "exponent", "mark"] (defScope sNumI) := ⟨rfl, rfl, rfl, by decide +kernel, rfl, by decide +kernel, by decide +kernel⟩
theorem new_num {C : Addr} (d : CDef K mg "Numeral" "Numeral.__init__" sNumI C ["self", "digits", "fraction", "exponent", "mark"]) (T : NumC K C) : New P w K mg base 1 "Numeral" C ["self", "digits", "fraction", "exponent", "mark"] (spNumI C) := d.new fun f fd F => by
  refine F.ok sc_numI (by rintro vs H Q E ⟨p, dx, d, f, e, m, rfl, _⟩; rfl) (fun cdv A outer s H vs Q E hr h => ?_)
  obtain ⟨p, dx, d, f, e, m, rfl, h1, k⟩ := h
  refine ⟨_, pss_cons (ps_fld (pv 0) (pv 1) rfl) (pss_cons (ps_fld (pv 0) (pv 2) rfl) (pss_cons (ps_fld (pv 0) (pv 3) rfl) (pss_one (ps_fld (pv 0) (pv 4) rfl)))), ?_⟩
  refine ⟨_, rfl, _, rfl, p, C, dx, [], rfl, h1, T.cl, T.nd, (by show 0 < 1000; decide), _, rfl, _, rfl, p, C, dx, _, rfl, upd_same, T.cl, T.nf, Nat.lt_of_le_of_lt (length_putF _ _ _) (by show 1 < 1000; decide),
    _, rfl, _, rfl, p, C, dx, _, rfl, upd_same, T.cl, T.ne, Nat.lt_of_le_of_lt (length_putF _ _ _) (Nat.lt_of_le_of_lt (Nat.succ_le_succ (length_putF _ _ _)) (by show 2 < 1000; decide)),
    _, rfl, _, rfl, p, C, dx, _, rfl, upd_same, T.cl, T.nm, Nat.lt_of_le_of_lt (length_putF _ _ _) (Nat.lt_of_le_of_lt (Nat.succ_le_succ (length_putF _ _ _)) (Nat.lt_of_le_of_lt (Nat.succ_le_succ (Nat.succ_le_succ (length_putF _ _ _))) (by show 3 < 1000; decide))), ?_⟩
  exact k _ upd_same fr4
/-- a numeral and its four parts -/
def NumAt (C : Addr) (H : Hp) (r : Addr) (d f e m : By) : Prop := ∃ dx ad af ae am, H r = some (.ins C dx (nf ad af ae am)) ∧ H ad = some (.lst (iv d)) ∧ H af = some (.lst (iv f)) ∧ H ae = some (.lst (iv e)) ∧ H am = some (.lst (iv m))
theorem NumAt.same {C : Addr} {H H' : Hp} {r : Addr} {d f e m : By} (s : Same H H') (h : NumAt C H r d f e m) : NumAt C H' r d f e m := by
  obtain ⟨dx, ad, af, ae, am, h1, h2, h3, h4, h5⟩ := h
  exact ⟨dx, ad, af, ae, am, s _ _ h1, s _ _ h2, s _ _ h3, s _ _ h4, s _ _ h5⟩
/-- a method by its name -/
structure MOk (P : Program) (w : World) (K : PySem.W.Frag) (mg : Str → Option Value) (base : Heap) (k : Nat) (C : Addr) (m : Str) (ps : List Str) (sp : Sp) : Prop where
  ex : ∃ (f : Addr) (fd : FuncData), Meth K C m f ∧ FnOk P w K mg base CX0 k f fd ps sp ∧ Binds K fd ps []
structure MDef (K : PySem.W.Frag) (C : Addr) (m qual : Str) (st : Stmt) (ps : List Str) : Prop where
  ex : ∃ (f : Addr) (fd : FuncData), Meth K C m f ∧ Fun K m qual st f fd ∧ Binds K fd ps []
def spSize (C : Addr) : Sp := fun vs H Q _ => ∃ (r : Addr) (d f e m : By), vs = [.ref r] ∧ NumAt C H r d f e m ∧ Q (.int ((d.length + f.length + e.length + m.length : Nat) : Int)) H
theorem sc_size : FnScope ["self"] ["self"] (defScope sNumS) := ⟨rfl, rfl, rfl, by decide +kernel, rfl, by decide +kernel, by decide +kernel⟩
theorem ok_size {C : Addr} (d : MDef K C "size" "Numeral.size" sNumS ["self"]) (T : NumC K C) (ln : mg "len" = none) : MOk P w K mg base 1 C "size" ["self"] (spSize C) := by
  obtain ⟨f, fd, M, F, b⟩ := d.ex
  refine ⟨f, fd, M, F.ok sc_size (by rintro vs H Q E ⟨r, d, f, e, m, rfl, _⟩; rfl) (fun cdv A outer s H vs Q E hr h => ?_), b⟩
  obtain ⟨r, d, f, e, m, rfl, ⟨dx, ad, af, ae, am, h1, h2, h3, h4, h5⟩, k⟩ := h
  refine ⟨_, pss_one (ps_ret (pe_op op_add (pe_op op_add (pe_op op_add (pe_len ln (pe_fld (pv 0) rfl)) (pe_len ln (pe_fld (pv 0) rfl))) (pe_len ln (pe_fld (pv 0) rfl))) (pe_len ln (pe_fld (pv 0) rfl)))), ?_⟩
  refine ⟨_, rfl, r, C, dx, _, _, rfl, h1, T.cl, T.nd, nf_digits _ _ _ _, ad, _, rfl, .inl (SqL.of h2), _, rfl, r, C, dx, _, _, rfl, h1, T.cl, T.nf, nf_fraction _ _ _ _, af, _, rfl, .inl (SqL.of h3), _, _, rfl, rfl,
    _, rfl, r, C, dx, _, _, rfl, h1, T.cl, T.ne, nf_exponent _ _ _ _, ae, _, rfl, .inl (SqL.of h4), _, _, rfl, rfl, _, rfl, r, C, dx, _, _, rfl, h1, T.cl, T.nm, nf_mark _ _ _ _, am, _, rfl, .inl (SqL.of h5), _, _, rfl, rfl, ?_⟩
  rw [iv_len, iv_len, iv_len, iv_len]
  exact k
end
end TG
end
section
set_option Elab.async false
set_option linter.all false
set_option maxRecDepth 100000
set_option maxHeartbeats 2000000
namespace TG
open PySem PySem.Spec PyProof.Rows L2 TW
open EwTree (isSmall isBig isDigit isSeen isWordByte isCodeByte isMarkByte)
section
variable {P : Program} {w : World} {K : PySem.W.Frag} {mg : Str → Option Value} {base : Heap}
def spPl (K : PySem.W.Frag) (g : By → Nat → Nat) : Sp := fun vs H Q _ => ∃ (a : Addr) (b : By) (q : Nat), vs = [.ref a, .int q] ∧ SqL K H a (iv b) ∧ q ≤ b.length ∧ Q (.int ((g b q : Nat) : Int)) H
theorem sc_frac : FnScope ["text", "place"] ["text", "place"] (defScope (top ix_end_of_fraction)) := ⟨rfl, rfl, rfl, by decide +kernel, rfl, by decide +kernel, by decide +kernel⟩
theorem ok_frac (d : Def K mg "end_of_fraction" (top ix_end_of_fraction) ["text", "place"]) (gp : GI mg "POINT" 46) (ob : Ok P w K mg base CX0 1 "byte_at" ["text", "place"] (spByte K)) (od : Ok P w K mg base CX0 1 "is_digit" ["byte"] (pr1 pDigit))
    (orn : Ok P w K mg base CX0 4 "run_end" ["text", "place", "fits"] (spRun P w K mg base)) : Ok P w K mg base CX0 5 "end_of_fraction" ["text", "place"] (spPl K endFrac) := d.ok fun f fd F => by
  refine F.ok sc_frac (by rintro vs H Q E ⟨a, b, q, rfl, _⟩; rfl) (fun cdv A outer s H vs Q E hr h => ?_)
  obtain ⟨a, b, q, rfl, hS, hq, k⟩ := h
  obtain ⟨fdg, mdg, fits⟩ := fits_of od (by decide) pDigit_u
  refine ⟨_, pss_cons (ps_if (pw_and (pt_cmpR op_eq (pe_fn0 ob (hr.mono (by decide)) (pa_cons (pv 0) (pa_cons (pv 1) pa_nil))) (pg_i gp) (nomark _))
      (pw_and1 (pt_val (pe_fn0 od (hr.mono (by decide)) (pa_cons (pe_fn0 ob (hr.mono (by decide)) (pa_cons (pv 0) (pa_cons (pe_op op_add (pv 1) pe_int) pa_nil))) pa_nil))))).pt
      (pss_one (ps_ret (pe_fn0 orn hr (pa_cons (pv 0) (pa_cons (pe_op op_add (pv 1) pe_int) (pa_cons (pg_r mdg) pa_nil)))))) pss_nil) (pss_one (ps_ret (pv 1))), ?_⟩
  refine ⟨_, rfl, _, rfl, a, b, q, rfl, hS, rfl, _, rfl, ?_⟩
  rw [eqV_int]
  refine ite2 (fun z1 => ?_) fun z1 => ?_
  · have z1 := of_decide_eq_true z1
    refine ⟨_, rfl, _, rfl, _, _, rfl, rfl, a, b, q + 1, rfl, hS, _, rfl, _, rfl, ite2 (fun z2 => ?_) fun z2 => ?_⟩
    · have e : endFrac b q = runE isDigit b (q + 1) := by unfold endFrac; rw [if_pos ⟨z1, z2⟩]
      rw [e] at k
      obtain ⟨c, hc, _⟩ := bAt_digit.mp z2
      have := (List.getElem?_eq_some_iff.mp hc).1
      exact ⟨_, rfl, _, rfl, _, _, rfl, rfl, a, b, q + 1, fdg, isDigit, rfl, hS, by omega, fits, k⟩
    · have e : endFrac b q = q := by unfold endFrac; rw [if_neg fun z => z2 z.2]
      rw [e] at k
      exact ⟨_, rfl, k⟩
  · have z1 : ¬ bAt b q = 46 := fun z => z1 (decide_eq_true z)
    have e : endFrac b q = q := by unfold endFrac; rw [if_neg fun z => z1 z.1]
    rw [e] at k
    exact iteF ⟨_, rfl, k⟩
theorem sc_exp : FnScope ["text", "place", "digits"] ["text", "place"] (defScope (top ix_end_of_exponent)) := ⟨rfl, rfl, rfl, by decide +kernel, rfl, by decide +kernel, by decide +kernel⟩
theorem ok_exp (d : Def K mg "end_of_exponent" (top ix_end_of_exponent) ["text", "place"]) (ge : GI mg "SMALL_E" 101) (gm : GI mg "MINUS" 45) (ob : Ok P w K mg base CX0 1 "byte_at" ["text", "place"] (spByte K)) (od : Ok P w K mg base CX0 1 "is_digit" ["byte"] (pr1 pDigit))
    (orn : Ok P w K mg base CX0 4 "run_end" ["text", "place", "fits"] (spRun P w K mg base)) : Ok P w K mg base CX0 5 "end_of_exponent" ["text", "place"] (spPl K endExp) := d.ok fun f fd F => by
  refine F.ok sc_exp (by rintro vs H Q E ⟨a, b, q, rfl, _⟩; rfl) (fun cdv A outer s H vs Q E hr h => ?_)
  obtain ⟨a, b, q, rfl, hS, hq, k⟩ := h
  obtain ⟨fdg, mdg, fits⟩ := fits_of od (by decide) pDigit_u
  refine ⟨_, pss_cons (ps_if (pt_cmpR op_ne (pe_fn0 ob (hr.mono (by decide)) (pa_cons (pv 0) (pa_cons (pv 1) pa_nil))) (pg_i ge) (nomark _)) (pss_one (ps_ret (pv 1))) pss_nil)
    (pss_cons (ps_set (i := 2) sc_exp.nd rfl (Or.inl rfl) (pe_op op_add (pv 1) pe_int))
    (pss_cons (ps_if (pt_cmpR op_eq (pe_fn0 ob (hr.mono (by decide)) (pa_cons (pv 0) (pa_cons (pv 2) pa_nil))) (pg_i gm) (nomark _)) (pss_one (ps_aug (i := 2) sc_exp.nd rfl (Or.inl rfl) pe_int ip_add)) pss_nil)
    (pss_cons (ps_if (pt_val (pe_fn0 od (hr.mono (by decide)) (pa_cons (pe_fn0 ob (hr.mono (by decide)) (pa_cons (pv 0) (pa_cons (pv 2) pa_nil))) pa_nil)))
      (pss_one (ps_ret (pe_fn0 orn hr (pa_cons (pv 0) (pa_cons (pv 2) (pa_cons (pg_r mdg) pa_nil)))))) pss_nil)
    (pss_one (ps_ret (pv 1)))))), ?_⟩
  refine ⟨_, rfl, _, rfl, a, b, q, rfl, hS, rfl, _, rfl, ?_⟩
  rw [eqV_int]
  refine ite2 (fun z1 => ?_) fun z1 => ?_
  · have z1 : ¬ bAt b q = 101 := fun z => by rw [decide_eq_true z] at z1; cases z1
    have e : endExp b q = q := by unfold endExp; rw [if_neg z1]
    rw [e] at k
    exact ⟨_, rfl, k⟩
  · have z1 : bAt b q = 101 := by
      by_cases z : bAt b q = 101
      · exact z
      · rw [decide_eq_false z] at z1; exact absurd rfl z1
    refine ⟨_, rfl, _, _, rfl, rfl, ?_⟩
    have tail : ∀ (j : Nat), j = expDig b q → tSeq (tIfS (tB (tCall (pr1 pDigit) [] E0 (tCons (tCall (spByte K) [] E0 (tCons (tVar 0) (tCons (tVar 2) tNil))) tNil))) (tRet (tCall (spRun P w K mg base) [] E0 (tCons (tVar 0) (tCons (tVar 2) (tCons (tC (.ref fdg)) tNil))))) tNext) (tRet (tVar 1))
        { nx := fun _ H' => Q .non H', rt := Q } [some (.ref a), some (.int (q : Int)), some (.int (j : Int))] H := by
      intro j hj
      refine ⟨_, rfl, _, rfl, a, b, j, rfl, hS, _, rfl, _, rfl, ite2 (fun z2 => ?_) fun z2 => ?_⟩
      · have e : endExp b q = runE isDigit b j := by unfold endExp; rw [if_pos z1, ← hj, if_pos z2]
        rw [e] at k
        obtain ⟨c, hc, _⟩ := bAt_digit.mp z2
        have := (List.getElem?_eq_some_iff.mp hc).1
        exact ⟨_, rfl, _, rfl, a, b, j, fdg, isDigit, rfl, hS, by omega, fits, k⟩
      · have e : endExp b q = q := by unfold endExp; rw [if_pos z1, ← hj, if_neg z2]
        rw [e] at k
        exact ⟨_, rfl, k⟩
    refine ⟨_, rfl, _, rfl, a, b, q + 1, rfl, hS, rfl, _, rfl, ?_⟩
    rw [eqV_int]
    refine ite2 (fun z2 => ?_) fun z2 => ?_
    · have z2 := of_decide_eq_true z2
      exact ⟨_, rfl, _, _, rfl, rfl, tail (q + 2) (by unfold expDig; rw [if_pos z2])⟩
    · have z2 : ¬ bAt b (q + 1) = 45 := fun z => z2 (decide_eq_true z)
      exact tail (q + 1) (by unfold expDig; rw [if_neg z2])

/-! ### numeral_at -/
def pDe (b : By) (p : Nat) : Nat := runE isDigit b p
def pFe (b : By) (p : Nat) : Nat := endFrac b (pDe b p)
def pEe (b : By) (p : Nat) : Nat := endExp b (pFe b p)
def pMe (b : By) (p : Nat) : Nat := runE isMarkByte b (pEe b p)
def spNum (K : PySem.W.Frag) (C : Addr) : Sp := fun vs H Q _ => ∃ (a : Addr) (b : By) (p : Nat), vs = [.ref a, .int p] ∧ SqL K H a (iv b) ∧ p ≤ b.length ∧
  ∀ (H' : Hp) (r : Addr), Same H H' → NumAt C H' r (cut b p (pDe b p)) (cut b (pDe b p) (pFe b p)) (cut b (pFe b p) (pEe b p)) (cut b (pEe b p) (pMe b p)) → Q (.ref r) H'
theorem sc_num : FnScope ["text", "place", "digits_end", "fraction_end", "exponent_end", "mark_end"] ["text", "place"] (defScope (top ix_numeral_at)) := ⟨rfl, rfl, rfl, by decide +kernel, rfl, by decide +kernel, by decide +kernel⟩
theorem same_upd {H : Hp} {p : Addr} {o : HO} (h : H p = none) : Same H (upd H p o) := fun b u e => by rw [upd_ne (ne_of_none e h)]; exact e
theorem ok_num {C : Addr} (d : Def K mg "numeral_at" (top ix_numeral_at) ["text", "place"]) (od : Ok P w K mg base CX0 1 "is_digit" ["byte"] (pr1 pDigit)) (om : Ok P w K mg base CX0 3 "in_mark" ["byte"] (pr1 pMark))
    (orn : Ok P w K mg base CX0 4 "run_end" ["text", "place", "fits"] (spRun P w K mg base)) (ofr : Ok P w K mg base CX0 5 "end_of_fraction" ["text", "place"] (spPl K endFrac)) (oex : Ok P w K mg base CX0 5 "end_of_exponent" ["text", "place"] (spPl K endExp))
    (nw : New P w K mg base 1 "Numeral" C ["self", "digits", "fraction", "exponent", "mark"] (spNumI C)) : Ok P w K mg base CX0 6 "numeral_at" ["text", "place"] (spNum K C) := d.ok fun f fd F => by
  refine F.ok sc_num (by rintro vs H Q E ⟨a, b, p, rfl, _⟩; rfl) (fun cdv A outer s H vs Q E hr h => ?_)
  obtain ⟨a, b, p, rfl, hS, hp, k⟩ := h
  obtain ⟨fdg, mdg, fits⟩ := fits_of od (by decide) pDigit_u
  obtain ⟨fmk, mmk, fitm⟩ := fits_of om (by decide) pMark_u
  have l1 : pDe b p ≤ b.length := runE_le _ hp
  have g1 : p ≤ pDe b p := runE_ge _ _ _
  obtain ⟨_, _, g2, l2⟩ := frac_ok b (pDe b p)
  have l2 := l2 l1
  obtain ⟨_, _, g3, l3, _⟩ := exp_ok b (pFe b p)
  have l3 := l3 l2
  have l4 : pMe b p ≤ b.length := runE_le _ l3
  have g4 : pEe b p ≤ pMe b p := runE_ge _ _ _
  refine ⟨_, pss_cons (ps_set (i := 2) sc_num.nd rfl (Or.inl rfl) (pe_fn0 orn (hr.mono (by decide)) (pa_cons (pv 0) (pa_cons (pv 1) (pa_cons (pg_r mdg) pa_nil)))))
    (pss_cons (ps_set (i := 3) sc_num.nd rfl (Or.inl rfl) (pe_fn0 ofr hr (pa_cons (pv 0) (pa_cons (pv 2) pa_nil))))
    (pss_cons (ps_set (i := 4) sc_num.nd rfl (Or.inl rfl) (pe_fn0 oex hr (pa_cons (pv 0) (pa_cons (pv 3) pa_nil))))
    (pss_cons (ps_set (i := 5) sc_num.nd rfl (Or.inl rfl) (pe_fn0 orn (hr.mono (by decide)) (pa_cons (pv 0) (pa_cons (pv 4) (pa_cons (pg_r mmk) pa_nil)))))
    (pss_one (ps_ret (pe_new nw (hr.mono (by decide)) (pa_cons (pe_slice sl_list (pv 0) (po_some (pv 1)) (po_some (pv 2))) (pa_cons (pe_slice sl_list (pv 0) (po_some (pv 2)) (po_some (pv 3)))
      (pa_cons (pe_slice sl_list (pv 0) (po_some (pv 3)) (po_some (pv 4))) (pa_cons (pe_slice sl_list (pv 0) (po_some (pv 4)) (po_some (pv 5))) pa_nil)))))))))), ?_⟩
  refine ⟨_, rfl, _, rfl, a, b, p, fdg, isDigit, rfl, hS, hp, fits, ?_⟩
  refine ⟨_, rfl, _, rfl, a, b, pDe b p, rfl, hS, l1, ?_⟩
  refine ⟨_, rfl, _, rfl, a, b, pFe b p, rfl, hS, l2, ?_⟩
  refine ⟨_, rfl, _, rfl, a, b, pEe b p, fmk, isMarkByte, rfl, hS, l3, fitm, ?_⟩
  refine ⟨_, rfl, _, rfl, _, rfl, _, rfl, _, rfl, a, _, rfl, hS, fun p1 n1 => ?_⟩
  have s1 := same_upd (o := .lst (cutV (iv b) (some (p : Int)) (some (pDe b p : Int)))) n1
  refine ⟨_, rfl, _, rfl, _, rfl, _, rfl, _, rfl, a, _, rfl, s1.seq hS, fun p2 n2 => ?_⟩
  have s2 := same_upd (o := .lst (cutV (iv b) (some (pDe b p : Int)) (some (pFe b p : Int)))) n2
  refine ⟨_, rfl, _, rfl, _, rfl, _, rfl, _, rfl, a, _, rfl, s2.seq (s1.seq hS), fun p3 n3 => ?_⟩
  have s3 := same_upd (o := .lst (cutV (iv b) (some (pFe b p : Int)) (some (pEe b p : Int)))) n3
  refine ⟨_, rfl, _, rfl, _, rfl, _, rfl, _, rfl, a, _, rfl, s3.seq (s2.seq (s1.seq hS)), fun p4 n4 => ?_⟩
  have s4 := same_upd (o := .lst (cutV (iv b) (some (pEe b p : Int)) (some (pMe b p : Int)))) n4
  intro x dx nx nd ne
  refine ⟨x, dx, p1, p2, p3, p4, rfl, upd_same, fun H' h' fr => ⟨rfl, ?_⟩⟩
  have s5 := Same.made nx nd fr
  refine k H' x ((((s1.trans s2).trans s3).trans s4).trans s5) ⟨dx, p1, p2, p3, p4, h', ?_, ?_, ?_, ?_⟩
  · exact s5 _ _ (s4 _ _ (s3 _ _ (s2 _ _ (upd_same.trans (congrArg (fun z => some (HO.lst z)) (iv_cut l1 g1))))))
  · exact s5 _ _ (s4 _ _ (s3 _ _ (upd_same.trans (congrArg (fun z => some (HO.lst z)) (iv_cut l2 g2)))))
  · exact s5 _ _ (s4 _ _ (upd_same.trans (congrArg (fun z => some (HO.lst z)) (iv_cut l3 g3))))
  · exact s5 _ _ (upd_same.trans (congrArg (fun z => some (HO.lst z)) (iv_cut l4 g4)))
end
end TG
end
section
set_option Elab.async false
set_option linter.all false
set_option maxRecDepth 100000
set_option maxHeartbeats 2000000
namespace TG
open PySem PySem.Spec PyProof.Rows L2 TW
open EwTree (isSmall isBig isDigit isSeen isWordByte isCodeByte isMarkByte)
def MKI : List Int := [109, 120, 100, 115, 104, 105, 112]
theorem inV_int (x : Int) : ∀ (l : List Int), inV (.int x) (l.map V.int) = decide (x ∈ l)
  | [] => rfl
  | y :: l => by
    have ih := inV_int x l
    unfold inV at ih ⊢
    rw [List.map_cons, List.any_cons, ih]
    by_cases h : y = x
    · subst h; simp [eqV]
    · have h' : ¬ x = y := fun z => h z.symm
      simp [eqV, h, h']
theorem flat_int : ∀ (l : List Int), (l.map V.int).all flatV = true
  | [] => rfl
  | y :: l => by rw [List.map_cons, List.all_cons, flat_int l]; rfl
theorem mki_ok (c : UInt8) : decide ((c.toNat : Int) ∈ MKI) = MK.contains c := by
  have h : ∀ (n : Nat) (m : UInt8), m.toNat = n → (((c.toNat : Int) = (n : Int)) ↔ c = m) := fun n m hm => ⟨fun z => u_eq.mpr (by omega), fun z => by rw [z]; omega⟩
  have e : (c.toNat : Int) ∈ MKI ↔ c ∈ MK := by
    unfold MKI MK
    simp only [List.mem_cons, List.not_mem_nil, or_false]
    rw [← h 109 109 rfl, ← h 120 120 rfl, ← h 100 100 rfl, ← h 115 115 rfl, ← h 104 104 rfl, ← h 105 105 rfl, ← h 112 112 rfl]
    exact Iff.rfl
  by_cases z : c ∈ MK
  · rw [decide_eq_true (e.mpr z), List.contains_iff_mem.mpr z]
  · rw [decide_eq_false (fun y => z (e.mp y))]
    cases q : MK.contains c with
    | false => rfl
    | true => exact absurd (List.contains_iff_mem.mp q) z
theorem pe_mth0 {P : Program} {X : Cx} {k : Nat} {C : Addr} {m : Str} {ps : List Str} {sp : Sp} {o : Expr} {ta : TE} {apos pos : Pos} {pl : Sem Bool} (h : MOk X.prog X.w X.K X.mg X.base k C m ps sp) (cl : Cls X.K C) (hr : Room k X.A) (he : PE X o ta)
    (ht : eval (.Call (.Attribute o m apos) [] [] pos) X.env = (do
      let ov ← eval o X.env
      standAt apos.atName
      let (f, first) ← holding [ov] (getMethod ov m pl)
      callWith pos f first (backTo pos (starEach [] X.env)) (backToKw pos (keywordEach [] X.env))) := by rfl) : PE X (.Call (.Attribute o m apos) [] [] pos) (tMeth C m sp [] E0 ta tNil) := by
  obtain ⟨f, fd, M, F, b⟩ := h.ex
  exact pe_meth0 he cl M F hr b .nil pass0 ht
section
variable {P : Program} {w : World} {K : PySem.W.Frag} {mg : Str → Option Value} {base : Heap}
def spMark (K : PySem.W.Frag) : Sp := fun vs H Q _ => ∃ (a : Addr) (m : By), vs = [.ref a] ∧ SqL K H a (iv m) ∧ ∀ H', Same H H' → Q (.bl (markP m)) H'
theorem sc_mkr : FnScope ["mark"] ["mark"] (defScope (top ix_mark_is_right)) := ⟨rfl, rfl, rfl, by decide +kernel, rfl, by decide +kernel, by decide +kernel⟩
theorem ok_mkr (d : Def K mg "mark_is_right" (top ix_mark_is_right) ["mark"]) (gm : GT K mg "MARKS" (MKI.map V.int)) (ln : mg "len" = none) : Ok P w K mg base CX0 1 "mark_is_right" ["mark"] (spMark K) := d.ok fun f fd F => by
  refine F.ok sc_mkr (by rintro vs H Q E ⟨a, m, rfl, _⟩; rfl) (fun cdv A outer s H vs Q E hr h => ?_)
  obtain ⟨a, m, rfl, hS, k⟩ := h
  obtain ⟨am, mm, tm⟩ := gm
  refine ⟨_, pss_one (ps_ret (pe_or (pe_cmpR (op_eqI hr.units) (pv 0) (pe_lst pa_nil) (nomark _)) (pe_one (pe_and (pe_cmpR op_eq (pe_len ln (pv 0)) pe_int (nomark _))
    (pe_one (pe_cmpR op_in_seq (pe_ix ix_list (pv 0) pe_int (fun _ _ => rfl)) (pg_r mm) (by with_unfolding_all rfl))))))), ?_⟩
  refine ⟨_, rfl, Nat.zero_le _, fun e he => ?_⟩
  have s1 := same_upd (o := .lst []) he
  refine ⟨a, e, _, [], rfl, rfl, by rw [← iv_ints]; exact s1.seq hS, SqL.of upd_same, _, rfl, ?_⟩
  rw [iv_nil]
  refine ite2 (fun z1 => ?_) fun z1 => ?_
  · have q := k _ s1
    unfold markP at q; rw [z1] at q; exact q
  · rw [Bool.not_eq_true] at z1
    refine ⟨_, rfl, a, _, rfl, .inl (s1.seq hS), rfl, _, rfl, ?_⟩
    rw [eqV_int, iv_len]
    have q := k _ s1
    refine ite2 (fun z2 => ?_) fun z2 => ?_
    · have z2 := of_decide_eq_true z2
      obtain ⟨c, rfl⟩ : ∃ c, m = [c] := by
        match m, z2 with
        | [c], _ => exact ⟨c, rfl⟩
        | [], z => simp at z
        | _ :: _ :: _, z => simp at z; omega
      refine ⟨_, rfl, a, _, _, _, rfl, rfl, s1.seq hS, iv_at (p := 0) (c := c) rfl, am, _, rfl, .inr (tm _), rfl, flat_int _, ?_⟩
      rw [inV_int, mki_ok]
      exact q
    · have z2 : ¬ m.length = 1 := fun z => z2 (decide_eq_true (by omega))
      unfold markP at q
      rw [z1, decide_eq_false z2] at q
      exact q
def spNumB (C : Addr) (g : By → By → By → By → Bool) : Sp := fun vs H Q _ => ∃ (r : Addr) (d f e m : By), vs = [.ref r] ∧ NumAt C H r d f e m ∧ ∀ H', Same H H' → Q (.bl (g d f e m)) H'
theorem sc_pak : FnScope ["numeral", "alone"] ["numeral"] (defScope (top ix_packed_is_right)) := ⟨rfl, rfl, rfl, by decide +kernel, rfl, by decide +kernel, by decide +kernel⟩
theorem ok_pak {C : Addr} (d : Def K mg "packed_is_right" (top ix_packed_is_right) ["numeral"]) (T : NumC K C) (g : GI mg "MOST_PACKED_DIGITS" 31) (ln : mg "len" = none) : Ok P w K mg base CX0 1 "packed_is_right" ["numeral"] (spNumB C fun d f e _ => packP d f e) := d.ok fun f fd F => by
  refine F.ok sc_pak (by rintro vs H Q E ⟨r, d, f, e, m, rfl, _⟩; rfl) (fun cdv A outer s H vs Q E hr h => ?_)
  obtain ⟨r, d, f, e, m, rfl, hN, k⟩ := h
  obtain ⟨dx, ad, af, ae, am, h1, h2, h3, h4, h5⟩ := id hN
  refine ⟨_, pss_cons (ps_set (i := 1) sc_pak.nd rfl (Or.inl rfl) (pe_and (pe_cmpR (op_eqI hr.units) (pe_fld (pv 0) rfl) (pe_lst pa_nil) (nomark _)) (pe_one (pe_cmpR (op_eqI hr.units) (pe_fld (pv 0) rfl) (pe_lst pa_nil) (nomark _)))))
    (pss_one (ps_ret (pe_and (pv 1) (pe_one (pe_cmpR op_le (pe_len ln (pe_fld (pv 0) rfl)) (pg_i g) (nomark _)))))), ?_⟩
  refine ⟨_, rfl, r, C, dx, _, _, rfl, h1, T.cl, T.nf, nf_fraction _ _ _ _, Nat.zero_le _, fun e1 he1 => ?_⟩
  have s1 := same_upd (o := .lst []) he1
  refine ⟨af, e1, _, [], rfl, rfl, SqL.of (by rw [← iv_ints]; exact s1 _ _ h3), SqL.of upd_same, _, rfl, ?_⟩
  rw [iv_nil]
  -- the second statement
  have fin : ∀ (c : Bool) (H2 : Hp), Same H H2 → packP d f e = (c && decide (d.length ≤ 31)) →
      tRet (tAndV (tVar 1) (tOp (rI0 fun i j => .bl (decide (i ≤ j))) (tCB (fun xs H Q => ∃ p ys, xs = [.ref p] ∧ (SqL K H p ys ∨ SqT K H p ys) ∧ Q (.int ys.length) H) (tCons (tFld K (tVar 0) "digits") tNil)) (tC (.int 31))))
        { nx := fun _ H' => Q .non H', rt := Q } [some (.ref r), some (.bl c)] H2 := by
    intro c H2 s2 e2
    refine ⟨_, rfl, _, rfl, ite2 (fun z => ?_) fun z => ?_⟩
    · refine ⟨_, rfl, r, C, dx, _, _, rfl, s2 _ _ h1, T.cl, T.nd, nf_digits _ _ _ _, ad, _, rfl, .inl (SqL.of (s2 _ _ h2)), _, _, rfl, rfl, ?_⟩
      have q : Q (.bl (packP d f e)) H2 := k _ s2
      have e3 : decide (((iv d).length : Int) ≤ 31) = decide (d.length ≤ 31) := by
        rw [iv_len]
        by_cases y : d.length ≤ 31
        · rw [decide_eq_true y]; exact decide_eq_true (by omega)
        · rw [decide_eq_false y]; exact decide_eq_false (by omega)
      show Q (.bl (decide (((iv d).length : Int) ≤ 31))) _
      rw [e3]
      rw [e2, z, Bool.true_and] at q
      exact q
    · have q : Q (.bl (packP d f e)) H2 := k _ s2
      rw [Bool.not_eq_true] at z
      rw [e2, z] at q
      exact q
  refine ite2 (fun z1 => ?_) fun z1 => ?_
  · refine ⟨_, rfl, r, C, dx, _, _, rfl, s1 _ _ h1, T.cl, T.ne, nf_exponent _ _ _ _, Nat.zero_le _, fun e2 he2 => ?_⟩
    have s2 := same_upd (o := .lst []) he2
    refine ⟨ae, e2, _, [], rfl, rfl, SqL.of (by rw [← iv_ints]; exact s2 _ _ (s1 _ _ h4)), SqL.of upd_same, ?_⟩
    rw [iv_nil]
    refine fin _ _ (s1.trans s2) ?_
    unfold packP; rw [z1, Bool.true_and]
  · rw [Bool.not_eq_true] at z1
    refine fin _ _ s1 ?_
    unfold packP; rw [z1]; rfl
def spExpR (K : PySem.W.Frag) : Sp := fun vs H Q _ => ∃ (a : Addr) (e : By), vs = [.ref a] ∧ SqL K H a (iv e) ∧ 1 < e.length ∧ (∃ x, (expDs e)[0]? = some x) ∧ ∀ H', Same H H' → Q (.bl (expP e)) H'
theorem sc_exr : FnScope ["exponent", "negative", "digits"] ["exponent"] (defScope (top ix_exponent_is_right)) := ⟨rfl, rfl, rfl, by decide +kernel, rfl, by decide +kernel, by decide +kernel⟩
theorem ok_exr (d : Def K mg "exponent_is_right" (top ix_exponent_is_right) ["exponent"]) (gm : GI mg "MINUS" 45) (gz : GI mg "ZERO" 48) (gx : GI mg "MOST_EXPONENT_DIGITS" 5) (ln : mg "len" = none) : Ok P w K mg base CX0 1 "exponent_is_right" ["exponent"] (spExpR K) := d.ok fun f fd F => by
  refine F.ok sc_exr (by rintro vs H Q E ⟨a, e, rfl, _⟩; rfl) (fun cdv A outer s H vs Q E hr h => ?_)
  obtain ⟨a, e, rfl, hS, hl, ⟨x, hx⟩, k⟩ := h
  refine ⟨_, pss_cons (ps_set (i := 1) sc_exr.nd rfl (Or.inl rfl) (pe_cmpR op_eq (pe_ix ix_list (pv 0) pe_int (fun _ _ => rfl)) (pg_i gm) (nomark _)))
    (pss_cons (ps_set (i := 2) sc_exr.nd rfl (Or.inl rfl) (pe_ifExp (pt_val (pv 1)) (pe_slice sl_list (pv 0) (po_some pe_int) po_none) (pe_slice sl_list (pv 0) (po_some pe_int) po_none)))
    (pss_cons (ps_if (pt_cmpR op_eq (pe_ix ix_list (pv 2) pe_int (fun _ _ => rfl)) (pg_i gz) (nomark _)) (pss_one (ps_ret (pe_and (pe_cmpR op_eq (pe_len ln (pv 2)) pe_int (nomark _)) (pe_one (pe_not (pv 1)))))) pss_nil)
    (pss_one (ps_ret (pe_cmpR op_le (pe_len ln (pv 2)) (pg_i gx) (nomark _)))))), ?_⟩
  have g1 : e[1]? = some e[1] := List.getElem?_eq_getElem hl
  refine ⟨_, rfl, a, _, _, _, rfl, rfl, hS, iv_at (p := 1) g1, rfl, ?_⟩
  rw [eqV_int, ← bAt_some g1]
  have hneg : decide (bAt e 1 = 45) = isNeg e := rfl
  rw [hneg]
  have fin : ∀ (p : Addr), H p = none → tSeq (tIfS (tTest (tOp rEq (tOp (rIxL K) (tVar 2) (tC (.int 0))) (tC (.int 48)))) (tRet (tAndV (tOp rEq (tCB (fun xs H Q => ∃ p ys, xs = [.ref p] ∧ (SqL K H p ys ∨ SqT K H p ys) ∧ Q (.int ys.length) H) (tCons (tVar 2) tNil)) (tC (.int 1))) (tNotV (tVar 1)))) tNext)
      (tRet (tOp (rI0 fun i j => .bl (decide (i ≤ j))) (tCB (fun xs H Q => ∃ p ys, xs = [.ref p] ∧ (SqL K H p ys ∨ SqT K H p ys) ∧ Q (.int ys.length) H) (tCons (tVar 2) tNil)) (tC (.int 5))))
      { nx := fun _ H' => Q .non H', rt := Q } [some (.ref a), some (.bl (isNeg e)), some (.ref p)] (upd H p (.lst (iv (expDs e)))) := by
    intro p hp
    have s1 := same_upd (o := .lst (iv (expDs e))) hp
    have hD : SqL K (upd H p (.lst (iv (expDs e)))) p (iv (expDs e)) := SqL.of upd_same
    have q := k _ s1
    unfold expP at q
    refine ⟨_, rfl, p, _, _, _, rfl, rfl, hD, iv_at (p := 0) hx, rfl, _, rfl, ?_⟩
    rw [eqV_int, ← bAt_some hx]
    refine ite2 (fun z1 => ?_) fun z1 => ?_
    · have z1 := of_decide_eq_true z1
      rw [if_pos z1] at q
      refine ⟨_, rfl, p, _, rfl, .inl hD, rfl, _, rfl, ?_⟩
      rw [eqV_int, iv_len]
      have e1 : decide (((expDs e).length : Int) = 1) = decide ((expDs e).length = 1) := by
        by_cases y : (expDs e).length = 1
        · rw [decide_eq_true y]; exact decide_eq_true (by omega)
        · rw [decide_eq_false y]; exact decide_eq_false (by omega)
      rw [e1]
      refine ite2 (fun z2 => ?_) fun z2 => ?_
      · rw [z2, Bool.true_and] at q
        exact ⟨_, rfl, _, rfl, q⟩
      · rw [Bool.not_eq_true] at z2
        rw [z2] at q
        exact q
    · have z1 : ¬ bAt (expDs e) 0 = 48 := fun z => z1 (decide_eq_true z)
      rw [if_neg z1] at q
      refine ⟨_, rfl, p, _, rfl, .inl hD, _, _, rfl, rfl, ?_⟩
      have e1 : decide (((iv (expDs e)).length : Int) ≤ 5) = decide ((expDs e).length ≤ 5) := by
        rw [iv_len]
        by_cases y : (expDs e).length ≤ 5
        · rw [decide_eq_true y]; exact decide_eq_true (by omega)
        · rw [decide_eq_false y]; exact decide_eq_false (by omega)
      show Q (.bl (decide (((iv (expDs e)).length : Int) ≤ 5))) _
      rw [e1]; exact q
  refine ⟨_, rfl, _, rfl, ite2 (fun z => ?_) fun z => ?_⟩
  · refine ⟨_, rfl, _, rfl, a, _, rfl, hS, fun p hp => ?_⟩
    have e1 : cutV (iv e) (some (2 : Int)) none = iv (expDs e) := by
      unfold expDs; rw [if_pos z]; exact iv_from (i := 2) (by omega)
    rw [e1]
    exact fin p hp
  · refine ⟨_, rfl, _, rfl, a, _, rfl, hS, fun p hp => ?_⟩
    have e1 : cutV (iv e) (some (1 : Int)) none = iv (expDs e) := by
      unfold expDs; rw [if_neg z]; exact iv_from (i := 1) (by omega)
    rw [e1]
    exact fin p hp
end
end TG
end
section
set_option Elab.async false
set_option linter.all false
set_option maxRecDepth 100000
set_option maxHeartbeats 2000000
namespace TG
open PySem PySem.Spec PyProof.Rows L2 TW
open EwTree (isSmall isBig isDigit isSeen isWordByte isCodeByte isMarkByte)
section
variable {P : Program} {w : World} {K : PySem.W.Frag} {mg : Str → Option Value} {base : Heap}
def spRight (C : Addr) : Sp := fun vs H Q _ => ∃ (r : Addr) (d f e m : By), vs = [.ref r] ∧ NumAt C H r d f e m ∧ (e ≠ [] → 1 < e.length ∧ ∃ x, (expDs e)[0]? = some x) ∧ ∀ H', Same H H' → Q (.bl (rightP d f e m)) H'
theorem sc_rig : FnScope ["numeral"] ["numeral"] (defScope (top ix_is_right)) := ⟨rfl, rfl, rfl, by decide +kernel, rfl, by decide +kernel, by decide +kernel⟩
theorem iv_inj {a b : By} (h : (a.map fun (c : UInt8) => (c.toNat : Int)) = b.map fun (c : UInt8) => (c.toNat : Int)) : a = b := by
  induction a generalizing b with
  | nil => cases b with
    | nil => rfl
    | cons _ _ => simp at h
  | cons x a ih => cases b with
    | nil => simp at h
    | cons y b =>
      simp only [List.map_cons, List.cons.injEq] at h
      rw [u_eq.mpr (show x.toNat = y.toNat by omega), ih h.2]
theorem ok_rig {C : Addr} (d : Def K mg "is_right" (top ix_is_right) ["numeral"]) (T : NumC K C) (g1 : GI mg "MOST_BYTES_numerals" 255) (g2 : GI mg "PACKED" 112) (g3 : GI mg "ZERO" 48) (ln : mg "len" = none)
    (osz : MOk P w K mg base 1 C "size" ["self"] (spSize C)) (omk : Ok P w K mg base CX0 1 "mark_is_right" ["mark"] (spMark K)) (opk : Ok P w K mg base CX0 1 "packed_is_right" ["numeral"] (spNumB C fun d f e _ => packP d f e))
    (oex : Ok P w K mg base CX0 1 "exponent_is_right" ["exponent"] (spExpR K)) : Ok P w K mg base CX0 2 "is_right" ["numeral"] (spRight C) := d.ok fun f fd F => by
  refine F.ok sc_rig (by rintro vs H Q E ⟨r, d, f, e, m, rfl, _⟩; rfl) (fun cdv A outer s H vs Q E hr h => ?_)
  obtain ⟨r, d, f, e, m, rfl, hN, he, k⟩ := h
  refine ⟨_, pss_cons (ps_if (pw_or (pt_cmpR op_gt (pe_mth0 (P := P) osz T.cl hr (pv 0)) (pg_i g1) (nomark _)) (pw_or1 (pt_not (pt_val (pe_fn0 omk hr (pa_cons (pe_fld (pv 0) rfl) pa_nil)))))).pt (pss_one (ps_ret pe_bl)) pss_nil)
    (pss_cons (ps_if (pt_cmpR (op_eqI hr.units) (pe_fld (pv 0) rfl) (pe_lst (pa_cons (pg_i g2) pa_nil)) (nomark _)) (pss_one (ps_ret (pe_fn0 opk hr (pa_cons (pv 0) pa_nil)))) pss_nil)
    (pss_cons (ps_if (pw_and (pt_cmpR op_gt (pe_len ln (pe_fld (pv 0) rfl)) pe_int (nomark _)) (pw_and1 (pt_cmpR op_eq (pe_ix ix_list (pe_fld (pv 0) rfl) pe_int (fun _ _ => rfl)) (pg_i g3) (nomark _)))).pt (pss_one (ps_ret pe_bl)) pss_nil)
    (pss_cons (ps_if (pt_cmpR (op_eqI hr.units) (pe_fld (pv 0) rfl) (pe_lst pa_nil) (nomark _)) (pss_one (ps_ret pe_bl)) pss_nil)
    (pss_one (ps_ret (pe_and (pe_cmpR (op_neI hr.units) (pe_fld (pv 0) rfl) (pe_lst pa_nil) (nomark _)) (pe_one (pe_fn0 oex hr (pa_cons (pe_fld (pv 0) rfl) pa_nil))))))))), ?_⟩
  obtain ⟨dx, ad, af, ae, am, h1, h2, h3, h4, h5⟩ := id hN
  refine ⟨_, rfl, r, dx, _, rfl, h1, nf_size _ _ _ _, r, d, f, e, m, rfl, hN, _, _, rfl, rfl, _, rfl, ?_⟩
  have e0 : decide ((255 : Int) < ((d.length + f.length + e.length + m.length : Nat) : Int)) = decide (255 < d.length + f.length + e.length + m.length) := by
    by_cases y : 255 < d.length + f.length + e.length + m.length
    · rw [decide_eq_true y]; exact decide_eq_true (by omega)
    · rw [decide_eq_false y]; exact decide_eq_false (by omega)
  rw [e0]
  refine ite2 (fun z0 => ?_) fun z0 => ?_
  · have q := k H (Same.refl H)
    have e1 : rightP d f e m = false := by unfold rightP; rw [if_pos (of_decide_eq_true z0)]
    rw [e1] at q
    exact iteT q
  have z0 : ¬ 255 < d.length + f.length + e.length + m.length := fun z => z0 (decide_eq_true z)
  refine ⟨_, rfl, r, C, dx, _, _, rfl, h1, T.cl, T.nm, nf_mark _ _ _ _, am, m, rfl, SqL.of h5, fun H1 s1 => ⟨_, rfl, ?_⟩⟩
  refine ite2 (fun z1 => ?_) fun z1 => ?_
  · have q := k H1 s1
    have e1 : rightP d f e m = false := by unfold rightP; rw [if_neg z0, if_pos (by simpa using z1)]
    rw [e1] at q
    exact q
  have z1 : markP m = true := by simpa using z1
  -- mark == [PACKED]
  refine ⟨_, rfl, r, C, dx, _, _, rfl, s1 _ _ h1, T.cl, T.nm, nf_mark _ _ _ _, (by show 1 ≤ sizeLine; decide), fun p2 n2 => ?_⟩
  have s2 := same_upd (o := .lst [.int 112]) n2
  refine ⟨am, p2, _, [112], rfl, rfl, SqL.of (by rw [← iv_ints]; exact s2 _ _ (s1 _ _ h5)), SqL.of upd_same, _, rfl, ?_⟩
  have e2 : decide ((m.map fun (c : UInt8) => (c.toNat : Int)) = [112]) = decide (m = [112]) := by
    by_cases y : m = [112]
    · subst y; rfl
    · rw [decide_eq_false y]
      exact decide_eq_false fun z => y (iv_inj z)
  rw [e2]
  have s12 := s1.trans s2
  refine ite2 (fun z2 => ?_) fun z2 => ?_
  · have z2 := of_decide_eq_true z2
    refine ⟨_, rfl, r, d, f, e, m, rfl, hN.same s12, fun H3 s3 => ?_⟩
    have q := k H3 (s12.trans s3)
    have e1 : rightP d f e m = packP d f e := by unfold rightP; rw [if_neg z0, if_neg (by rw [z1]; decide), if_pos z2]
    rw [e1] at q
    exact q
  have z2 : ¬ m = [112] := fun z => z2 (decide_eq_true z)
  -- len(digits) > 1 and digits[0] == ZERO
  have rest : ∀ H3, Same H H3 → ¬ (1 < d.length ∧ bAt d 0 = 48) →
      tSeq (tIfS (tTest (tOp (fun x y H Q => ∃ (a b : Addr) (xs ys : List Int), x = .ref a ∧ y = .ref b ∧ SqL K H a (xs.map V.int) ∧ SqL K H b (ys.map V.int) ∧ Q (.bl (decide (xs = ys))) H) (tFld K (tVar 0) "exponent") (tLst tNil))) (tRet (tC (.bl true))) tNext)
        (tRet (tAndV (tOp (fun x y H Q => ∃ (a b : Addr) (xs ys : List Int), x = .ref a ∧ y = .ref b ∧ SqL K H a (xs.map V.int) ∧ SqL K H b (ys.map V.int) ∧ Q (.bl (!decide (xs = ys))) H) (tFld K (tVar 0) "mark") (tLst tNil)) (tCall (spExpR K) [] E0 (tCons (tFld K (tVar 0) "exponent") tNil))))
        { nx := fun _ H' => Q .non H', rt := Q } [some (.ref r)] H3 := by
    intro H3 s3 z3
    refine ⟨_, rfl, r, C, dx, _, _, rfl, s3 _ _ h1, T.cl, T.ne, nf_exponent _ _ _ _, Nat.zero_le _, fun p4 n4 => ?_⟩
    have s4 := same_upd (o := .lst []) n4
    refine ⟨ae, p4, _, [], rfl, rfl, SqL.of (by rw [← iv_ints]; exact s4 _ _ (s3 _ _ h4)), SqL.of upd_same, _, rfl, ?_⟩
    rw [iv_nil]
    have s34 := s3.trans s4
    refine ite2 (fun z4 => ?_) fun z4 => ?_
    · have z4 := of_decide_eq_true z4
      have q := k _ s34
      have e1 : rightP d f e m = true := by unfold rightP; rw [if_neg z0, if_neg (by rw [z1]; decide), if_neg z2, if_neg z3, if_pos z4]
      rw [e1] at q
      exact q
    have z4 : ¬ e = [] := fun z => z4 (decide_eq_true z)
    have e1 : rightP d f e m = (!decide (m = []) && expP e) := by unfold rightP; rw [if_neg z0, if_neg (by rw [z1]; decide), if_neg z2, if_neg z3, if_neg z4]
    refine ⟨_, rfl, r, C, dx, _, _, rfl, s34 _ _ h1, T.cl, T.nm, nf_mark _ _ _ _, Nat.zero_le _, fun p5 n5 => ?_⟩
    have s5 := same_upd (o := .lst []) n5
    refine ⟨am, p5, _, [], rfl, rfl, SqL.of (by rw [← iv_ints]; exact s5 _ _ (s34 _ _ h5)), SqL.of upd_same, _, rfl, ?_⟩
    rw [iv_nil]
    have s345 := s34.trans s5
    refine ite2 (fun z5 => ?_) fun z5 => ?_
    · refine ⟨_, rfl, r, C, dx, _, _, rfl, s345 _ _ h1, T.cl, T.ne, nf_exponent _ _ _ _, ae, e, rfl, SqL.of (s345 _ _ h4), (he z4).1, (he z4).2, fun H6 s6 => ?_⟩
      have q := k H6 (s345.trans s6)
      rw [e1, z5, Bool.true_and] at q
      exact q
    · have q := k _ s345
      rw [Bool.not_eq_true] at z5
      rw [e1, z5] at q
      exact q
  refine ⟨_, rfl, r, C, dx, _, _, rfl, s12 _ _ h1, T.cl, T.nd, nf_digits _ _ _ _, ad, _, rfl, .inl (SqL.of (s12 _ _ h2)), _, _, rfl, rfl, _, rfl, ?_⟩
  have e3 : decide ((1 : Int) < ((iv d).length : Int)) = decide (1 < d.length) := by
    rw [iv_len]
    by_cases y : 1 < d.length
    · rw [decide_eq_true y]; exact decide_eq_true (by omega)
    · rw [decide_eq_false y]; exact decide_eq_false (by omega)
  rw [e3]
  refine ite2 (fun z3 => ?_) fun z3 => ?_
  · have z3 := of_decide_eq_true z3
    have hd0 : d[0]? = some d[0] := List.getElem?_eq_getElem (by omega)
    refine ⟨_, rfl, r, C, dx, _, _, rfl, s12 _ _ h1, T.cl, T.nd, nf_digits _ _ _ _, ad, _, _, _, rfl, rfl, SqL.of (s12 _ _ h2), iv_at (p := 0) hd0, rfl, _, rfl, ?_⟩
    rw [eqV_int, ← bAt_some hd0]
    refine ite2 (fun z4 => ?_) fun z4 => ?_
    · have z4 := of_decide_eq_true z4
      have q := k _ s12
      have e1 : rightP d f e m = false := by unfold rightP; rw [if_neg z0, if_neg (by rw [z1]; decide), if_neg z2, if_pos ⟨z3, z4⟩]
      rw [e1] at q
      exact q
    · exact rest _ s12 fun z => z4 (decide_eq_true z.2)
  · exact iteF (rest _ s12 fun z => z3 (decide_eq_true z.1))

/-! ### the refusals -/
abbrev sRefI : Stmt := inClass (top ix_Refused) 0
abbrev sTlI : Stmt := inClass (top ix_TooLong) 0
abbrev sTdI : Stmt := inClass (top ix_TooDeep) 0
abbrev sFltI : Stmt := inClass (top ix_Fault) 0
/-- a refusal that is being made: it has the numbers, and nothing else yet -/
def Nums (H0 H : Hp) (e C : Addr) (ns : List Int) : Prop := ∃ d l, d ≠ e ∧ H0 d = none ∧ H e = some (ExcN e C (some d)) ∧ H d = some (XdO d [("numbers", .ref l)]) ∧ H l = some (.lst (ns.map V.int))
def spRef (K : PySem.W.Frag) : Sp := fun vs H Q _ => ∃ (e C l : Addr) (ns : List Int), vs = [.ref e, .ref l] ∧ H e = some (ExcN e C none) ∧ XCls K C ∧ NoAttr K C "numbers" ∧ H l = some (.lst (ns.map V.int)) ∧
  ∀ H', Nums H H' e C ns → Fr1 e H H' → Q .non H'
theorem sc_ref : FnScope ["self", "numbers"] ["self", "numbers"] (defScope sRefI) := ⟨rfl, rfl, rfl, by decide +kernel, rfl, by decide +kernel, by decide +kernel⟩
theorem ok_ref {f : Addr} {fd : FuncData} (F : Fun K "__init__" "Refused.__init__" sRefI f fd) : FnOk P w K mg base CX0 1 f fd ["self", "numbers"] (spRef K) := by
  refine F.ok sc_ref (by rintro vs H Q E ⟨e, C, l, ns, rfl, _⟩; rfl) (fun cdv A outer s H vs Q E hr h => ?_)
  obtain ⟨e, C, l, ns, rfl, h1, c, n, h2, k⟩ := h
  refine ⟨_, pss_one (ps_xset (pv 0) (pv 1) rfl), ?_⟩
  refine ⟨_, rfl, _, rfl, e, C, rfl, c, n, .inl ⟨h1, fun d hd => ?_⟩⟩
  have hle : l ≠ e := ne_of h2 h1 (by intro z; cases z)
  have hde : d ≠ e := fun z => by rw [z, h1] at hd; cases hd
  refine k _ ⟨d, l, hde, hd, upd_same, ?_, ?_⟩ fun b o hb hbe => ?_
  · rw [upd_ne hde, upd_same]
  · rw [upd_ne hle, upd_ne (ne_of_none h2 hd)]; exact h2
  · rw [upd_ne hbe, upd_ne (ne_of_none hb hd)]; exact hb
end
end TG
end
section
set_option Elab.async false
set_option linter.all false
set_option maxRecDepth 100000
set_option maxHeartbeats 2000000
namespace TG
open PySem PySem.Spec PyProof.Rows L2 TW
open EwTree (isSmall isBig isDigit isSeen isWordByte isCodeByte isMarkByte)
section
variable {P : Program} {w : World} {K : PySem.W.Frag} {mg : Str → Option Value} {base : Heap}
/-- the class Refused, called by its own name for its __init__ -/
theorem none_of_upd {H : Hp} {l d : Addr} {o : HO} (h : upd H l o d = none) : H d = none := by
  by_cases z : d = l
  · rw [z, upd_same] at h; cases h
  · rw [upd_ne z] at h; exact h
theorem Nums.low {H H' : Hp} {l e C : Addr} {o : HO} {ns : List Int} (h : Nums (upd H l o) H' e C ns) : Nums H H' e C ns := by
  obtain ⟨d, l', a, b, r⟩ := h
  exact ⟨d, l', a, none_of_upd b, r⟩
structure RefC (K : PySem.W.Frag) (mg : Str → Option Value) (C : Addr) : Prop where
  mg : mg "Refused" = some (.ref C)
  ex : ∃ f fd, CMeth K C "__init__" f ∧ Fun K "__init__" "Refused.__init__" sRefI f fd ∧ Binds K fd ["self", "numbers"] []
def spTL (K : PySem.W.Frag) (ns : List Int) : Sp := fun vs H Q _ => ∃ (e C : Addr), vs = [.ref e] ∧ H e = some (ExcN e C none) ∧ XCls K C ∧ NoAttr K C "numbers" ∧ ∀ H', Nums H H' e C ns → Fr1 e H H' → Q .non H'
theorem sc_tl : FnScope ["self"] ["self"] (defScope sTlI) := ⟨rfl, rfl, rfl, by decide +kernel, rfl, by decide +kernel, by decide +kernel⟩
theorem sc_td : FnScope ["self"] ["self"] (defScope sTdI) := ⟨rfl, rfl, rfl, by decide +kernel, rfl, by decide +kernel, by decide +kernel⟩
theorem ok_tl {CR f : Addr} {fd : FuncData} (F : Fun K "__init__" "TooLong.__init__" sTlI f fd) (rc : RefC K mg CR) : FnOk P w K mg base CX0 2 f fd ["self"] (spTL K [-1]) := by
  obtain ⟨fR, fdR, cm, FR, bR⟩ := rc.ex
  refine F.ok sc_tl (by rintro vs H Q E ⟨e, C, rfl, _⟩; rfl) (fun cdv A outer s H vs Q E hr h => ?_)
  obtain ⟨e, C, rfl, h1, c, n, k⟩ := h
  refine ⟨_, pss_one (ps_expr (pe_mcls rfl rc.mg cm (ok_ref FR) hr bR .nil pass0 (pa_cons (pv 0) (pa_cons (pe_lst (pa_cons (pe_un un_neg pe_int) pa_nil)) pa_nil)))), ?_⟩
  refine ⟨_, rfl, _, rfl, (by show 1 ≤ sizeLine; decide), fun l hl => ?_⟩
  have hle : e ≠ l := ne_of_none h1 hl
  refine ⟨e, C, l, [-1], rfl, by rw [upd_ne hle]; exact h1, c, n, upd_same, fun H' nu fr => ?_⟩
  exact k H' nu.low fun b o hb hbe => fr b o (by rw [upd_ne (ne_of_none hb hl)]; exact hb) hbe
theorem ok_td {CR f : Addr} {fd : FuncData} (F : Fun K "__init__" "TooDeep.__init__" sTdI f fd) (rc : RefC K mg CR) : FnOk P w K mg base CX0 2 f fd ["self"] (spTL K [-6]) := by
  obtain ⟨fR, fdR, cm, FR, bR⟩ := rc.ex
  refine F.ok sc_td (by rintro vs H Q E ⟨e, C, rfl, _⟩; rfl) (fun cdv A outer s H vs Q E hr h => ?_)
  obtain ⟨e, C, rfl, h1, c, n, k⟩ := h
  refine ⟨_, pss_one (ps_expr (pe_mcls rfl rc.mg cm (ok_ref FR) hr bR .nil pass0 (pa_cons (pv 0) (pa_cons (pe_lst (pa_cons (pe_un un_neg pe_int) pa_nil)) pa_nil)))), ?_⟩
  refine ⟨_, rfl, _, rfl, (by show 1 ≤ sizeLine; decide), fun l hl => ?_⟩
  have hle : e ≠ l := ne_of_none h1 hl
  refine ⟨e, C, l, [-6], rfl, by rw [upd_ne hle]; exact h1, c, n, upd_same, fun H' nu fr => ?_⟩
  exact k H' nu.low fun b o hb hbe => fr b o (by rw [upd_ne (ne_of_none hb hl)]; exact hb) hbe
/-- a fault's attributes -/
def ff (r p : Int) (l : Addr) : List (Str × V) := putF "place" (.int p) (putF "rule" (.int r) [("numbers", .ref l)])
theorem ff_numbers (r p : Int) (l : Addr) : (ff r p l).lookup ("numbers" : Str) = some (.ref l) := by
  unfold ff
  rw [lookup_putF, if_neg (by decide +kernel), lookup_putF, if_neg (by decide +kernel)]
  rfl
theorem ff_rule (r p : Int) (l : Addr) : (ff r p l).lookup ("rule" : Str) = some (.int r) := by
  unfold ff
  rw [lookup_putF, if_neg (by decide +kernel), lookup_putF, if_pos rfl]
theorem ff_place (r p : Int) (l : Addr) : (ff r p l).lookup ("place" : Str) = some (.int p) := by
  unfold ff
  rw [lookup_putF, if_pos rfl]
def FltN (C : Addr) (H : Hp) (e : Addr) (r p : Int) : Prop := ∃ d l, d ≠ e ∧ H e = some (ExcN e C (some d)) ∧ H d = some (XdO d (ff r p l)) ∧ H l = some (.lst [.int (-2), .int r, .int p])
structure FltC (K : PySem.W.Frag) (C : Addr) : Prop where
  x : XCls K C
  nn : NoAttr K C "numbers"
  nr : NoAttr K C "rule"
  np : NoAttr K C "place"
def spFlt (C : Addr) : Sp := fun vs H Q _ => ∃ (e : Addr) (r p : Int), vs = [.ref e, .int r, .int p] ∧ H e = some (ExcN e C none) ∧ ∀ H', FltN C H' e r p → Fr1 e H H' → Q .non H'
theorem sc_flt : FnScope ["self", "rule", "place"] ["self", "rule", "place"] (defScope sFltI) := ⟨rfl, rfl, rfl, by decide +kernel, rfl, by decide +kernel, by decide +kernel⟩
theorem ok_flt {CR C f : Addr} {fd : FuncData} (F : Fun K "__init__" "Fault.__init__" sFltI f fd) (rc : RefC K mg CR) (T : FltC K C) : FnOk P w K mg base CX0 2 f fd ["self", "rule", "place"] (spFlt C) := by
  obtain ⟨fR, fdR, cm, FR, bR⟩ := rc.ex
  refine F.ok sc_flt (by rintro vs H Q E ⟨e, r, p, rfl, _⟩; rfl) (fun cdv A outer s H vs Q E hr h => ?_)
  obtain ⟨e, r, p, rfl, h1, k⟩ := h
  refine ⟨_, pss_cons (ps_expr (pe_mcls rfl rc.mg cm (ok_ref FR) hr bR .nil pass0 (pa_cons (pv 0) (pa_cons (pe_lst (pa_cons (pe_un un_neg pe_int) (pa_cons (pv 1) (pa_cons (pv 2) pa_nil)))) pa_nil))))
    (pss_cons (ps_xset (pv 0) (pv 1) rfl) (pss_one (ps_xset (pv 0) (pv 2) rfl))), ?_⟩
  refine ⟨_, rfl, _, rfl, _, rfl, _, rfl, (by show 3 ≤ sizeLine; decide), fun l hl => ?_⟩
  have hle : e ≠ l := ne_of_none h1 hl
  refine ⟨e, C, l, [-2, r, p], rfl, by rw [upd_ne hle]; exact h1, T.x, T.nn, upd_same, fun H1 nu fr => ?_⟩
  obtain ⟨d, l', hde, a0, a1, a2, a3⟩ := nu.low
  have hld : l' ≠ d := ne_of a3 a2 (by intro z; cases z)
  refine ⟨_, rfl, _, rfl, e, C, rfl, T.x, T.nr, .inr ⟨d, _, a1, a2, (by show 1 < 1000; decide), ?_⟩⟩
  refine ⟨_, rfl, _, rfl, e, C, rfl, T.x, T.np, .inr ⟨d, _, (by rw [upd_ne (Ne.symm hde)]; exact a1), upd_same, Nat.lt_of_le_of_lt (length_putF _ _ _) (by show 2 < 1000; decide), ?_⟩⟩
  refine k _ ⟨d, l', hde, (by rw [upd_ne (Ne.symm hde), upd_ne (Ne.symm hde)]; exact a1), upd_same, (by rw [upd_ne hld, upd_ne hld]; exact a3)⟩ fun b o hb hbe => ?_
  have hbd : b ≠ d := fun z => by rw [z, a0] at hb; cases hb
  rw [upd_ne hbd, upd_ne hbd]
  exact fr b o (by rw [upd_ne (ne_of_none hb hl)]; exact hb) hbe
/-! ### raise C(..) -/
structure XNew (P : Program) (w : World) (K : PySem.W.Frag) (mg : Str → Option Value) (base : Heap) (k : Nat) (nm : Str) (C : Addr) (ps : List Str) (sp : Sp) : Prop where
  ex : ∃ (f : Addr) (fd : FuncData), XMk K C f ∧ FnOk P w K mg base CX0 k f fd ps sp ∧ Binds K fd ps [] ∧ mg nm = some (.ref C)
theorem pe_xn {X : Cx} {k : Nat} {C : Addr} {ps : List Str} {sp : Sp} {x : Str} {p pos : Pos} {e : Expr} {es : List Expr} {t : TA} (o : XNew X.prog X.w X.K X.mg X.base k x C ps sp) (hr : Room (k + 1) X.A) (ha : PA X (e :: es) t) (hg : Gl X x := by rfl) (hdb : (x == ("__debug__" : Str)) = false := by decide)
    (he : starEach (e :: es) X.env = (false, eval e X.env) :: starEach es X.env := by rfl) (hpl : (backTo pos (starEach es X.env)).any (·.1) = false := by rfl) : PE X (.Call (.Name x p) (e :: es) [] pos) (tXmake C sp [] E0 t) := by
  obtain ⟨f, fd, M, F, b, m⟩ := o.ex
  exact pe_xmake M F hr hg m b .nil pass0 ha hdb he hpl
theorem pe_xn0 {X : Cx} {k : Nat} {C : Addr} {ps : List Str} {sp : Sp} {x : Str} {p pos : Pos} (o : XNew X.prog X.w X.K X.mg X.base k x C ps sp) (hr : Room (k + 1) X.A) (hg : Gl X x := by rfl) (hdb : (x == ("__debug__" : Str)) = false := by decide) :
    PE X (.Call (.Name x p) [] [] pos) (tXmake C sp [] E0 tNil) := by
  obtain ⟨f, fd, M, F, b, m⟩ := o.ex
  exact pe_xmake0 M F hr hg m b .nil pass0 hdb
/-- a fault that flies or was caught -/
def FltO (C : Addr) (H : Hp) (e : Addr) (r p : Int) : Prop := ∃ d l, H e = some (ExcO e C (some d)) ∧ H d = some (XdO d (ff r p l)) ∧ H l = some (.lst [.int (-2), .int r, .int p])
/-- raise Fault(r, p), once its arguments are there -/
theorem raise_flt {C fX : Addr} {H1 : Hp} {r p : Int} {R : Addr → Hp → Prop} (M : XMk K C fX) (k : ∀ e H', Same H1 H' → FltO C H' e r p → R e H') :
    ([V.int r, V.int p] : List V).length ≤ 1000 ∧ ∀ e, H1 e = none → spFlt C (.ref e :: ([V.int r, V.int p] ++ [])) (upd H1 e (ExcN e C none)) (fun v H2 => v = .non ∧ ∃ e' C' f' dx, V.ref e = .ref e' ∧ H2 e' = some (ExcN e' C' dx) ∧ XMk K C' f' ∧ R e' (upd H2 e' (ExcO e' C' dx))) E0 := by
  refine ⟨(by show 2 ≤ 1000; decide), fun e he => ⟨e, r, p, rfl, upd_same, fun H' fn fr => ⟨rfl, ?_⟩⟩⟩
  obtain ⟨d, l, hde, a1, a2, a3⟩ := fn
  have s1 : Same H1 (upd H' e (ExcO e C (some d))) := fun b o hb => by
    have hbe := ne_of_none hb he
    rw [upd_ne hbe]
    exact fr b o (by rw [upd_ne hbe]; exact hb) hbe
  have hle : l ≠ e := ne_of a3 a1 (by intro z; cases z)
  exact ⟨e, C, fX, some d, rfl, a1, M, k e _ s1 ⟨d, l, upd_same, by rw [upd_ne hde]; exact a2, by rw [upd_ne hle]; exact a3⟩⟩
end
end TG
end
section
set_option Elab.async false
set_option linter.all false
set_option maxRecDepth 100000
set_option maxHeartbeats 2000000
namespace TG
open PySem PySem.Spec PyProof.Rows L2 TW
open EwTree (isSmall isBig isDigit isSeen isWordByte isCodeByte isMarkByte tokenIn)
theorem tyes_ite {s : L2.St} {H : Hp} {A B : Hp → Prop} (h : A H) : tYes s H (fun b H3 => if b = true then A H3 else B H3) := by
  show (if true = true then A H else B H)
  exact iteT h
def LTR : Str := "abcdefghijklmnopqrstuvwxyz"
def one (c : UInt8) : Str := ⟨#[c.toNat]⟩
theorem ltr_at {c : UInt8} (h : isSmall c = true) : atI LTR.cps.toList ((c.toNat : Int) - 97) = some c.toNat := by
  have hb : 97 ≤ c.toNat ∧ c.toNat ≤ 122 := by
    unfold EwTree.isSmall at h
    simp only [Bool.and_eq_true, decide_eq_true_eq] at h
    exact ⟨u_le.mp h.1, u_le.mp h.2⟩
  have key : ∀ n : Fin 26, atI LTR.cps.toList ((n.val : Nat) : Int) = some (97 + n.val) := by decide +kernel
  have := key ⟨c.toNat - 97, by omega⟩
  have e1 : ((c.toNat : Int) - 97) = ((c.toNat - 97 : Nat) : Int) := by omega
  rw [e1, this]
  congr 1
  show 97 + (c.toNat - 97) = c.toNat
  omega
theorem join_one : ∀ (w : By), Str.join "" (w.map one) = sOf w
  | [] => rfl
  | [c] => rfl
  | c :: d :: w => by
    have ih := join_one (d :: w)
    show (one c ++ ("" : Str)) ++ Str.join "" ((d :: w).map one) = sOf (c :: d :: w)
    rw [ih]
    show (⟨(#[c.toNat] ++ #[]) ++ ((d :: w).map UInt8.toNat).toArray⟩ : Str) = ⟨((c :: d :: w).map UInt8.toNat).toArray⟩
    simp
theorem one_len (w : By) : ((w.map one).map (·.length)).sum = w.length := by
  induction w with
  | nil => rfl
  | cons c w ih => rw [List.map_cons, List.map_cons, List.sum_cons, ih]; show 1 + w.length = w.length + 1; omega
section
variable {P : Program} {w : World} {K : PySem.W.Frag} {mg : Str → Option Value} {base : Heap}
def spSpl (K : PySem.W.Frag) : Sp := fun vs H Q _ => ∃ (a : Addr) (b : By), vs = [.ref a] ∧ SqL K H a (iv b) ∧ b.length ≤ 100000 ∧ ∀ H', Same H H' → Q (.str (spelt b)) H'
theorem sc_spl : FnScope ["word", "byte"] ["word"] (defScope (top ix_spelled)) := ⟨rfl, rfl, rfl, by decide +kernel, rfl, by decide +kernel, by decide +kernel⟩
theorem ok_spl (d : Def K mg "spelled" (top ix_spelled) ["word"]) (gl : GS mg "LETTERS" LTR) (al : mg "all" = none) (os : Ok P w K mg base CX0 1 "is_small" ["byte"] (pr1 pSmall)) : Ok P w K mg base CX0 2 "spelled" ["word"] (spSpl K) := d.ok fun f fd F => by
  refine F.ok sc_spl (by rintro vs H Q E ⟨a, b, rfl, _⟩; rfl) (fun cdv A outer s H vs Q E hr h => ?_)
  obtain ⟨a, b, rfl, hS, hl, k⟩ := h
  refine ⟨_, pss_cons (ps_if (pt_val (pe_callB (cr_all rfl) (by rfl) al boot_all (pa_cons (pe_lc (own := [("byte", 1)]) rfl sc_spl.nd (pi_list (pv 0)) (show BlkOk ["word", "byte"] (defScope (top ix_spelled)) _ [("byte", 1)] from blkOk_by (by decide +kernel)) (fun s H C cl fp => pg_name (i := 1) sc_spl.nd rfl (Or.inl rfl)) (fun s H C cl fp => pts_nil)
      (fun s H C cl fp => pe_fn0 os hr (pa_cons (pv 1) pa_nil))) pa_nil)))
    (pss_one (ps_ret (pe_join pe_str (pe_lc (own := [("byte", 1)]) rfl sc_spl.nd (pi_list (pv 0)) (show BlkOk ["word", "byte"] (defScope (top ix_spelled)) _ [("byte", 1)] from blkOk_by (by decide +kernel)) (fun s H C cl fp => pg_name (i := 1) sc_spl.nd rfl (Or.inl rfl)) (fun s H C cl fp => pts_nil)
      (fun s H C cl fp => pe_ix ix_str (pg_s gl) (pe_op op_sub (pv 1) pe_int) (fun _ _ => rfl)))))) pss_nil) (pss_one (ps_ret pe_str)), ?_⟩
  have hsz : sizeLine = 16777216 := sizeLine_eq
  refine ⟨_, rfl, a, rfl, ⟨_, hS⟩, fun D hD => lc_list (xs := iv b) (fun i H2 => H2 D = some (.lst ((b.take i).map fun c => V.bl (isSmall c))) ∧ Same H H2) ⟨upd_same, same_upd hD⟩ (fun i H2 _ z => z.2.seq hS) ?_ ?_⟩
  · rintro i x H2 hi ⟨h1, h2⟩
    obtain ⟨c, hc, rfl⟩ : ∃ c, b[i]? = some c ∧ x = V.int c.toNat := by
      unfold iv at hi
      rw [List.getElem?_map] at hi
      cases e : b[i]? with
      | none => rw [e] at hi; cases hi
      | some z => rw [e] at hi; exact ⟨z, rfl, (Option.some.inj hi).symm⟩
    have hil := (List.getElem?_eq_some_iff.mp hc).1
    refine ⟨rfl, ?_⟩
    refine tyes_ite ?_
    refine ⟨_, rfl, c.toNat, rfl, _, h1, ?_, ?_, ?_⟩
    · rw [List.length_map, List.length_take, hsz]; omega
    · rw [upd_same, take_snoc hc, List.map_append, pSmall_u]; rfl
    · exact fun b' o hb => by rw [upd_ne (ne_of_none hb hD)]; exact h2 b' o hb
  · rintro H2 ⟨h1, h2⟩
    rw [iv_len, List.take_length] at h1
    have e0 : (b.map fun c => V.bl (isSmall c)) = (b.map isSmall).map V.bl := by rw [List.map_map]; rfl
    refine ⟨D, b.map isSmall, rfl, SqL.of (by rw [← e0]; exact h1), _, rfl, ?_⟩
    have e1 : (b.map isSmall).all id = b.all isSmall := by rw [List.all_map]; rfl
    rw [e1]
    refine ite2 (fun z => ?_) fun z => ?_
    · have hall : ∀ c ∈ b, isSmall c = true := List.all_eq_true.mp z
      refine ⟨⟨_, rfl⟩, _, rfl, a, rfl, ⟨_, h2.seq hS⟩, fun D2 hD2 => lc_list (xs := iv b) (fun i H3 => H3 D2 = some (.lst ((b.take i).map fun c => V.str (one c))) ∧ Same H H3) ⟨upd_same, h2.trans (same_upd hD2)⟩ (fun i H3 _ z => z.2.seq hS) ?_ ?_⟩
      · rintro i x H3 hi ⟨h3, h4⟩
        obtain ⟨c, hc, rfl⟩ : ∃ c, b[i]? = some c ∧ x = V.int c.toNat := by
          unfold iv at hi
          rw [List.getElem?_map] at hi
          cases e : b[i]? with
          | none => rw [e] at hi; cases hi
          | some z => rw [e] at hi; exact ⟨z, rfl, (Option.some.inj hi).symm⟩
        have hil := (List.getElem?_eq_some_iff.mp hc).1
        refine ⟨rfl, ?_⟩
        refine tyes_ite ?_
        refine ⟨_, rfl, _, _, rfl, rfl, _, _, _, rfl, rfl, (by rw [hsz]; decide +kernel), ltr_at (hall c (List.mem_of_getElem? hc)), _, h3, ?_, ?_, ?_⟩
        · rw [List.length_map, List.length_take, hsz]; omega
        · rw [upd_same, take_snoc hc, List.map_append]; rfl
        · have hD2' : H D2 = none := h2.free hD2
          exact fun b' o hb => by rw [upd_ne (ne_of_none hb hD2')]; exact h4 b' o hb
      · rintro H3 ⟨h3, h4⟩
        rw [iv_len, List.take_length] at h3
        have e2 : (b.map fun c => V.str (one c)) = (b.map one).map V.str := by rw [List.map_map]; rfl
        refine ⟨_, D2, b.map one, rfl, rfl, .inl (SqL.of (by rw [← e2]; exact h3)), ?_, ?_⟩
        · rw [one_len, List.length_map]
          have : ("" : Str).length = 0 := by decide +kernel
          rw [this]; omega
        · rw [TL.join_eq, join_one]
          have q := k H3 h4
          unfold spelt at q
          rw [if_pos z] at q
          exact q
    · have q := k H2 h2
      unfold spelt at q
      rw [if_neg z] at q
      exact q

/-! ### a token at a place -/
def spTk (K : PySem.W.Frag) (CT CF : Addr) (pre : UInt8 → Prop) : Sp := fun vs H Q E => ∃ (a : Addr) (b : By) (p : Nat) (c : UInt8), vs = [.ref a, .int p] ∧ SqL K H a (iv b) ∧ b.length ≤ 65536 ∧ b[p]? = some c ∧ pre c ∧
  (∀ t s, tokenIn p (b.drop p) = .ok (t, s) → ∀ H' r, Same H H' → TokAt CT H' r t → Q (.ref r) H') ∧
  (∀ r q, tokenIn p (b.drop p) = .error (r, q) → ∀ H' e, Same H H' → FltO CF H' e r q → E (.ref e) none H')
theorem spTk_len {K : PySem.W.Frag} {CT CF : Addr} {pre : UInt8 → Prop} : ∀ vs H Q E, spTk K CT CF pre vs H Q E → vs.length = (["text", "place"] : List Str).length := by
  rintro vs H Q E ⟨a, b, p, c, rfl, _⟩; rfl
/-- Token(..), once its arguments are there -/
theorem mk_tok {CT : Addr} {H1 : Hp} {t : EwTree.Tok} {kd : Int} {lk : Str} {st en : Int} {Q : VK} (k : ∀ H' r, Same H1 H' → TokAt CT H' r t → Q (.ref r) H') (e1 : kd = t.kind) (e2 : lk = lookOf t) (e3 : st = t.place) (e4 : en = t.halt_) :
    ∀ x dx, H1 x = none → H1 dx = none → dx ≠ x → spTok CT (.ref x :: ([V.int kd, .str lk, .int st, .int en] ++ [])) (upd (upd H1 dx (.own x)) x (.ins CT dx [])) (fun v H2 => v = .non ∧ Q (.ref x) H2) E0 := by
  intro x dx n1 n2 ne
  refine ⟨x, dx, kd, lk, st, en, rfl, upd_same, fun H' h' fr => ⟨rfl, k H' x (Same.made n1 n2 fr) ⟨dx, ?_⟩⟩⟩
  rw [h', e1, e2, e3, e4]
end
end TG
end
section
set_option Elab.async false
set_option linter.all false
set_option maxRecDepth 100000
set_option maxHeartbeats 2000000
namespace TG
open PySem PySem.Spec PyProof.Rows L2 TW
open EwTree (isSmall isBig isDigit isSeen isWordByte isCodeByte isMarkByte tokenIn)
section
variable {P : Program} {w : World} {K : PySem.W.Frag} {mg : Str → Option Value} {base : Heap}
def GDS (K : PySem.W.Frag) (w : World) (mg : Str → Option Value) (nm : Str) (l : List Str) : Prop := ∃ a, mg nm = some (.ref a) ∧ KDS K w.params a l
def GDN (K : PySem.W.Frag) (mg : Str → Option Value) (nm : Str) (l : List (Int × Str)) : Prop := ∃ a, mg nm = some (.ref a) ∧ KDI K a l
abbrev TokN (P : Program) (w : World) (K : PySem.W.Frag) (mg : Str → Option Value) (base : Heap) (CT : Addr) : Prop := New P w K mg base 1 "Token" CT ["self", "kind", "look", "start", "end"] (spTok CT)
abbrev FltW (P : Program) (w : World) (K : PySem.W.Frag) (mg : Str → Option Value) (base : Heap) (CF : Addr) : Prop := XNew P w K mg base 2 "Fault" CF ["self", "rule", "place"] (spFlt CF)
theorem drop_get {b : By} {p : Nat} {c : UInt8} (h : b[p]? = some c) : b.drop p = c :: b.drop (p + 1) := drop_of_get h
theorem sc_wd : FnScope ["text", "place", "end", "word"] ["text", "place"] (defScope (top ix_word_at)) := ⟨rfl, rfl, rfl, by decide +kernel, rfl, by decide +kernel, by decide +kernel⟩
theorem ok_wd {CT CF : Addr} (d : Def K mg "word_at" (top ix_word_at) ["text", "place"]) (ow : Ok P w K mg base CX0 2 "in_word" ["byte"] (pr1 pWord)) (orn : Ok P w K mg base CX0 4 "run_end" ["text", "place", "fits"] (spRun P w K mg base))
    (os : Ok P w K mg base CX0 2 "spelled" ["word"] (spSpl K)) (nT : TokN P w K mg base CT) (nF : FltW P w K mg base CF) (gk : GDS K w mg "KEYWORDS" KEYS) (g0 : GI mg "KEYWORD" 0) (g1 : GI mg "NAME" 1) (gm : GI mg "MOST_NAME_BYTES" 31) :
    Ok P w K mg base (CX1 P w) 5 "word_at" ["text", "place"] (spTk K CT CF fun c => isSmall c = true) := d.ok fun f fd F => by
  refine F.okX sc_wd spTk_len (fun cdv A outer s H vs Q E hr h => ?_)
  obtain ⟨a, b, p, c, rfl, hS, hl, hc, pre, kq, ke⟩ := h
  obtain ⟨fw, mw, fits⟩ := fits_of ow (by decide) pWord_u
  obtain ⟨ak, mk, tk⟩ := gk
  obtain ⟨fX, fdX, M, _⟩ := id nF.ex
  have hp : p < b.length := (List.getElem?_eq_some_iff.mp hc).1
  have l1 : runE isWordByte b p ≤ b.length := runE_le _ (Nat.le_of_lt hp)
  have g2 : p ≤ runE isWordByte b p := runE_ge _ _ _
  have W := word_ok (drop_get hc) pre
  refine ⟨_, pss_cons (ps_set (i := 2) sc_wd.nd rfl (Or.inl rfl) (pe_fn0 orn hr (pa_cons (pv 0) (pa_cons (pv 1) (pa_cons (pg_r mw) pa_nil)))))
    (pss_cons (ps_set (i := 3) sc_wd.nd rfl (Or.inl rfl) (pe_fn0 os (hr.mono (by decide)) (pa_cons (pe_slice sl_list (pv 0) (po_some (pv 1)) (po_some (pv 2))) pa_nil)))
    (pss_cons (ps_if (pt_cmpR op_inS (pv 3) (pg_r mk) (by with_unfolding_all rfl)) (pss_one (ps_ret (pe_new nT (hr.mono (by decide)) (pa_cons (pg_i g0) (pa_cons (pv 3) (pa_cons (pv 1) (pa_cons (pv 2) pa_nil))))))) pss_nil)
    (pss_cons (ps_if (pt_cmpR op_gt (pe_op op_sub (pv 2) (pv 1)) (pg_i gm) (nomark _)) (pss_one (ps_raise hr.hd (pe_xn nF (hr.mono (by decide)) (pa_cons pe_int (pa_cons (pv 1) pa_nil))))) pss_nil)
    (pss_one (ps_ret (pe_new nT (hr.mono (by decide)) (pa_cons (pg_i g1) (pa_cons pe_str (pa_cons (pv 1) (pa_cons (pv 2) pa_nil)))))))))), ?_⟩
  refine ⟨_, rfl, _, rfl, a, b, p, fw, isWordByte, rfl, hS, Nat.le_of_lt hp, fits, ?_⟩
  refine ⟨_, rfl, _, rfl, _, rfl, _, rfl, _, rfl, a, _, rfl, hS, fun p1 n1 => ?_⟩
  have s1 := same_upd (o := .lst (cutV (iv b) (some (p : Int)) (some (runE isWordByte b p : Int)))) n1
  refine ⟨p1, cut b p (runE isWordByte b p), rfl, SqL.of (by rw [← iv_cut l1 g2]; exact upd_same), ?_, fun H2 s2 => ?_⟩
  · unfold cut; rw [List.length_take, List.length_drop]; omega
  have s12 := s1.trans s2
  refine ⟨_, rfl, _, ak, _, rfl, rfl, tk, _, rfl, ?_⟩
  rw [spelt_key]
  refine ite2 (fun z1 => ?_) fun z1 => ?_
  · rw [if_pos z1] at W
    refine ⟨_, rfl, _, rfl, _, rfl, mk_tok (fun H' r s' h' => kq _ _ W H' r (s12.trans s') h') rfl ?_ rfl rfl⟩
    have hk : cut b p (runE isWordByte b p) ∈ EwTree.KEYWORDS := by unfold EwTree.isKeyword at z1; exact List.contains_iff_mem.mp z1
    unfold spelt lookOf
    rw [if_pos (keys_small _ hk).1, if_pos rfl]
  rw [if_neg z1] at W
  refine ⟨_, rfl, _, rfl, _, _, rfl, rfl, _, _, rfl, rfl, _, rfl, ?_⟩
  refine ite2 (fun z2 => ?_) fun z2 => ?_
  · have z2 := of_decide_eq_true z2
    rw [if_neg (by omega)] at W
    exact ⟨_, rfl, raise_flt M fun e H' s' h' => ke _ _ W H' e (s12.trans s') h'⟩
  · have z2 : ¬ _ := fun z => z2 (decide_eq_true z)
    rw [if_pos (by omega)] at W
    exact ⟨_, rfl, _, rfl, mk_tok (fun H' r s' h' => kq _ _ W H' r (s12.trans s') h') rfl rfl rfl rfl⟩
end
end TG
end
section
set_option Elab.async false
set_option linter.all false
set_option maxRecDepth 100000
set_option maxHeartbeats 2000000
namespace TG
open PySem PySem.Spec PyProof.Rows L2 TW
open EwTree (isSmall isBig isDigit isSeen isWordByte isCodeByte isMarkByte tokenIn)
section
variable {P : Program} {w : World} {K : PySem.W.Frag} {mg : Str → Option Value} {base : Heap}
theorem exp_first {neg : Bool} {c : UInt8} {d : By} (hc : isDigit c = true) : expDs (expBytes (some (neg, c :: d))) = c :: d := by
  have n1 : isNeg (expBytes (some (neg, c :: d))) = neg := by
    cases neg with
    | true => rfl
    | false =>
      refine decide_eq_false fun z => ?_
      have hz : ((c.toNat : Nat) : Int) = 45 := z
      unfold EwTree.isDigit at hc
      simp only [Bool.and_eq_true, decide_eq_true_eq] at hc
      have := u_le.mp hc.1
      have h48 : (48 : UInt8).toNat = 48 := rfl
      omega
  unfold expDs; rw [n1]; cases neg <;> rfl
theorem sc_cd : FnScope ["text", "place", "end"] ["text", "place"] (defScope (top ix_code_at)) := ⟨rfl, rfl, rfl, by decide +kernel, rfl, by decide +kernel, by decide +kernel⟩
theorem ok_cd {CT CF : Addr} (d : Def K mg "code_at" (top ix_code_at) ["text", "place"]) (ow : Ok P w K mg base CX0 2 "in_code" ["byte"] (pr1 pCode)) (orn : Ok P w K mg base CX0 4 "run_end" ["text", "place", "fits"] (spRun P w K mg base))
    (nT : TokN P w K mg base CT) (nF : FltW P w K mg base CF) (g0 : GI mg "CODE" 2) (g1 : GI mg "LEAST_CODE_BYTES" 2) (gm : GI mg "MOST_CODE_BYTES" 8) :
    Ok P w K mg base (CX1 P w) 5 "code_at" ["text", "place"] (spTk K CT CF fun c => isSmall c = false ∧ isBig c = true) := d.ok fun f fd F => by
  refine F.okX sc_cd spTk_len (fun cdv A outer s H vs Q E hr h => ?_)
  obtain ⟨a, b, p, c, rfl, hS, hl, hc, pre, kq, ke⟩ := h
  obtain ⟨fw, mw, fits⟩ := fits_of ow (by decide) pCode_u
  obtain ⟨fX, fdX, M, _⟩ := id nF.ex
  have hp : p < b.length := (List.getElem?_eq_some_iff.mp hc).1
  have g2 : p ≤ runE isCodeByte b p := runE_ge _ _ _
  have W := code_ok (drop_get hc) pre.1 pre.2
  refine ⟨_, pss_cons (ps_set (i := 2) sc_cd.nd rfl (Or.inl rfl) (pe_fn0 orn hr (pa_cons (pv 0) (pa_cons (pv 1) (pa_cons (pg_r mw) pa_nil)))))
    (pss_cons (ps_if (pt_chain op_le op_le (pg_i g1) (pe_op op_sub (pv 2) (pv 1)) (pg_i gm)) (pss_one (ps_ret (pe_new nT (hr.mono (by decide)) (pa_cons (pg_i g0) (pa_cons pe_str (pa_cons (pv 1) (pa_cons (pv 2) pa_nil))))))) pss_nil)
    (pss_one (ps_raise hr.hd (pe_xn nF (hr.mono (by decide)) (pa_cons pe_int (pa_cons (pv 1) pa_nil)))))), ?_⟩
  refine ⟨_, rfl, _, rfl, a, b, p, fw, isCodeByte, rfl, hS, Nat.le_of_lt hp, fits, ?_⟩
  refine ⟨_, rfl, _, rfl, _, _, rfl, rfl, _, _, rfl, rfl, _, rfl, ?_⟩
  refine ite2 (fun z1 => ⟨_, _, rfl, rfl, _, rfl, ite2 (fun z2 => ?_) fun z2 => ?_⟩) fun z1 => ⟨_, rfl, iteF ?_⟩
  · have z1 := of_decide_eq_true z1
    have z2 := of_decide_eq_true z2
    rw [if_pos (by omega)] at W
    exact ⟨_, rfl, _, rfl, mk_tok (fun H' r s' h' => kq _ _ W H' r s' h') rfl rfl rfl rfl⟩
  · have z2 : ¬ _ := fun z => z2 (decide_eq_true z)
    rw [if_neg (by omega)] at W
    exact ⟨_, rfl, raise_flt M fun e H' s' h' => ke _ _ W H' e s' h'⟩
  · have z1 : ¬ _ := fun z => z1 (decide_eq_true z)
    rw [if_neg (by omega)] at W
    exact ⟨_, rfl, raise_flt M fun e H' s' h' => ke _ _ W H' e s' h'⟩
theorem sc_nr : FnScope ["text", "place", "numeral"] ["text", "place"] (defScope (top ix_number_at)) := ⟨rfl, rfl, rfl, by decide +kernel, rfl, by decide +kernel, by decide +kernel⟩
theorem cut_len {b : By} {i j : Nat} (hj : j ≤ b.length) : (cut b i j).length = j - i := by
  unfold cut; rw [List.length_take, List.length_drop]; omega
theorem ok_nr {CT CF CN : Addr} (d : Def K mg "number_at" (top ix_number_at) ["text", "place"]) (T : NumC K CN) (on : Ok P w K mg base CX0 6 "numeral_at" ["text", "place"] (spNum K CN)) (orr : Ok P w K mg base CX0 2 "is_right" ["numeral"] (spRight CN))
    (osz : MOk P w K mg base 1 CN "size" ["self"] (spSize CN)) (nT : TokN P w K mg base CT) (nF : FltW P w K mg base CF) (g0 : GI mg "NUMBER" 3) :
    Ok P w K mg base (CX1 P w) 7 "number_at" ["text", "place"] (spTk K CT CF fun c => isSmall c = false ∧ isBig c = false ∧ isDigit c = true) := d.ok fun f fd F => by
  refine F.okX sc_nr spTk_len (fun cdv A outer s H vs Q E hr h => ?_)
  obtain ⟨a, b, p, c, rfl, hS, hl, hc, pre, kq, ke⟩ := h
  obtain ⟨fX, fdX, M, _⟩ := id nF.ex
  have hp : p < b.length := (List.getElem?_eq_some_iff.mp hc).1
  obtain ⟨wd, W⟩ := number_ok (drop_get hc) pre.1 pre.2.1 pre.2.2
  have l1 : pDe b p ≤ b.length := runE_le _ (Nat.le_of_lt hp)
  have g1 : p ≤ pDe b p := runE_ge _ _ _
  obtain ⟨_, _, g2, l2⟩ := frac_ok b (pDe b p)
  have l2 := l2 l1
  obtain ⟨x1, x2, g3, l3, x5⟩ := exp_ok b (pFe b p)
  have l3 := l3 l2
  have l4 : pMe b p ≤ b.length := runE_le _ l3
  have g4 : pEe b p ≤ pMe b p := runE_ge _ _ _
  refine ⟨_, pss_cons (ps_set (i := 2) sc_nr.nd rfl (Or.inl rfl) (pe_fn0 on hr (pa_cons (pv 0) (pa_cons (pv 1) pa_nil))))
    (pss_cons (ps_if (pt_val (pe_fn0 orr (hr.mono (by decide)) (pa_cons (pv 2) pa_nil))) (pss_one (ps_ret (pe_new nT (hr.mono (by decide)) (pa_cons (pg_i g0) (pa_cons pe_str (pa_cons (pv 1) (pa_cons (pe_op op_add (pv 1) (pe_mth0 (P := P) osz T.cl (hr.mono (by decide)) (pv 2))) pa_nil))))))) pss_nil)
    (pss_one (ps_raise hr.hd (pe_xn nF (hr.mono (by decide)) (pa_cons pe_int (pa_cons (pv 1) pa_nil)))))), ?_⟩
  refine ⟨_, rfl, _, rfl, a, b, p, rfl, hS, Nat.le_of_lt hp, fun H1 r s1 hN => ?_⟩
  refine ⟨_, rfl, r, _, _, _, _, rfl, hN, ?_, fun H2 s2 => ?_⟩
  · intro z
    have e1 : cut b (pFe b p) (pEe b p) = expBytes (EwTree.expoIn (b.drop (pFe b p))).1 := x2
    rw [e1] at z ⊢
    cases hx : (EwTree.expoIn (b.drop (pFe b p))).1 with
    | none => rw [hx] at z; exact absurd rfl z
    | some y =>
      obtain ⟨c', d', y1, y2⟩ := x5 y hx
      obtain ⟨neg, ds⟩ := y
      dsimp only at y1
      subst y1
      refine ⟨?_, c', ?_⟩
      · cases neg <;> show 1 < List.length _ <;> unfold expBytes <;> simp
      · rw [exp_first y2]; rfl
  have s12 := s1.trans s2
  have hN2 := hN.same s2
  refine ⟨_, rfl, ite2 (fun z => ?_) fun z => ?_⟩
  · have W := W.trans (if_pos z)
    obtain ⟨dx, ad, af, ae, am, h1, _⟩ := id hN2
    refine ⟨_, rfl, _, rfl, _, rfl, r, dx, _, rfl, h1, nf_size _ _ _ _, r, _, _, _, _, rfl, hN2, _, _, rfl, rfl, mk_tok (fun H' r' s' h' => kq _ _ W H' r' (s12.trans s') h') rfl rfl rfl ?_⟩
    rw [cut_len l1, cut_len (j := pFe b p) l2, cut_len (j := pEe b p) l3, cut_len l4]
    show ((p : Nat) : Int) + ((_ : Nat) : Int) = ((pMe b p : Nat) : Int)
    have g2' : pDe b p ≤ pFe b p := g2
    have g3' : pFe b p ≤ pEe b p := g3
    omega
  · have W := W.trans (if_neg z)
    exact ⟨_, rfl, raise_flt M fun e H' s' h' => ke _ _ W H' e (s12.trans s') h'⟩
/-! ### items of a text -/
def spIt (K : PySem.W.Frag) (CF : Addr) : Sp := fun vs H Q E => ∃ (a : Addr) (b : By) (p : Nat), vs = [.ref a, .int p] ∧ SqL K H a (iv b) ∧ p ≤ b.length ∧
  (∀ q, itemEnd b p = .ok q → ∀ H', Same H H' → Q (.int q) H') ∧ (∀ r q, itemEnd b p = .error (r, q) → ∀ H' e, Same H H' → FltO CF H' e r q → E (.ref e) none H')
theorem sc_it : FnScope ["text", "place", "byte", "width"] ["text", "place"] (defScope (top ix_item_end)) := ⟨rfl, rfl, rfl, by decide +kernel, rfl, by decide +kernel, by decide +kernel⟩
theorem ok_it {CF : Addr} (d : Def K mg "item_end" (top ix_item_end) ["text", "place"]) (ob : Ok P w K mg base CX0 1 "byte_at" ["text", "place"] (spByte K)) (op : Ok P w K mg base CX0 1 "is_printable" ["byte"] (pr1 pSeen))
    (nF : FltW P w K mg base CF) (ln : mg "len" = none) (gb : GI mg "BACKSLASH" 92) (gq : GI mg "QUOTE" 34) (gn : GI mg "SMALL_N" 110) : Ok P w K mg base (CX1 P w) 4 "item_end" ["text", "place"] (spIt K CF) := d.ok fun f fd F => by
  refine F.okX sc_it (by rintro vs H Q E ⟨a, b, p, rfl, _⟩; rfl) (fun cdv A outer s H vs Q E hr h => ?_)
  obtain ⟨a, b, p, rfl, hS, hp, kq, ke⟩ := h
  obtain ⟨fX, fdX, M, _⟩ := id nF.ex
  refine ⟨_, pss_cons (ps_set (i := 2) sc_it.nd rfl (Or.inl rfl) (pe_fn0 ob (hr.mono (by decide)) (pa_cons (pv 0) (pa_cons (pv 1) pa_nil))))
    (pss_cons (ps_set (i := 3) sc_it.nd rfl (Or.inl rfl) (pe_ifExp (pt_cmpR op_eq (pv 2) (pg_i gb) (nomark _)) pe_int pe_int))
    (pss_cons (ps_if (pt_cmpR op_gt (pe_op op_add (pv 1) (pv 3)) (pe_len ln (pv 0)) (nomark _)) (pss_one (ps_raise hr.hd (pe_xn nF hr (pa_cons pe_int (pa_cons (pe_len ln (pv 0)) pa_nil))))) pss_nil)
    (pss_cons (ps_if (pw_and (pt_cmpR op_eq (pv 3) pe_int (nomark _)) (pw_and1 (pt_not (pt_val (pe_fn0 op (hr.mono (by decide)) (pa_cons (pv 2) pa_nil)))))).pt (pss_one (ps_raise hr.hd (pe_xn nF hr (pa_cons pe_int (pa_cons (pv 1) pa_nil))))) pss_nil)
    (pss_cons (ps_if (pw_and (pt_cmpR op_eq (pv 3) pe_int (nomark _)) (pw_and1 (pt_cmpR op_notIn_seq (pe_ix ix_list (pv 0) (pe_op op_add (pv 1) pe_int) (fun _ _ => rfl)) (pe_tup (pa_cons (pg_i gq) (pa_cons (pg_i gb) (pa_cons (pg_i gn) pa_nil)))) (by with_unfolding_all rfl)))).pt (pss_one (ps_raise hr.hd (pe_xn nF hr (pa_cons pe_int (pa_cons (pv 1) pa_nil))))) pss_nil)
    (pss_one (ps_ret (pe_op op_add (pv 1) (pv 3)))))))), ?_⟩
  refine ⟨_, rfl, _, rfl, a, b, p, rfl, hS, ?_⟩
  refine ⟨_, rfl, rfl, _, rfl, ?_⟩
  rw [eqV_int]
  have hlen : (iv b).length = b.length := iv_len b
  refine ite2 (fun z => ?_) fun z => ?_
  · have z := of_decide_eq_true z
    have tw : two? b p = 2 := by unfold two?; rw [if_pos z]
    refine ⟨_, rfl, _, rfl, _, _, rfl, rfl, _, rfl, a, _, rfl, .inl hS, _, _, rfl, rfl, _, rfl, ite2 (fun y => ?_) fun y => ?_⟩
    · have y := of_decide_eq_true y
      have W : itemEnd b p = .error (3, b.length) := by unfold itemEnd; rw [tw, if_pos (by omega)]
      refine ⟨_, rfl, a, _, rfl, .inl hS, ?_⟩
      rw [hlen]
      exact raise_flt M fun e H' s' h' => ke _ _ W H' e s' h'
    · have y : ¬ _ := fun q => y (decide_eq_true q)
      have hp1 : p + 1 < b.length := by omega
      have h1 : b[p + 1]? = some b[p + 1] := List.getElem?_eq_getElem hp1
      have ix : atI (iv b) ((p : Int) + 1) = some (.int b[p + 1].toNat) := iv_at (p := p + 1) h1
      refine ⟨_, rfl, rfl, _, rfl, ?_⟩
      rw [eqV_int]
      refine ite2 (fun q => absurd (of_decide_eq_true q) (by decide)) fun _ => ?_
      refine iteF ?_
      refine ⟨_, rfl, rfl, _, rfl, ?_⟩
      rw [eqV_int]
      refine ite2 (fun _ => ?_) fun q => absurd (decide_eq_true rfl) q
      refine ⟨_, rfl, _, rfl, _, _, rfl, rfl, a, _, _, _, rfl, rfl, hS, ix, (by show 3 ≤ sizeLine; decide), fun t ht => ?_⟩
      have s1 := same_upd (o := .tup [.int 34, .int 92, .int 110]) ht
      refine ⟨t, _, rfl, .inr (SqT.of upd_same), rfl, rfl, _, rfl, ?_⟩
      have ei : inV (.int b[p + 1].toNat) [V.int 34, .int 92, .int 110] = decide (bAt b (p + 1) = 34 ∨ bAt b (p + 1) = 92 ∨ bAt b (p + 1) = 110) := by
        rw [show [V.int 34, .int 92, .int 110] = ([34, 92, 110] : List Int).map V.int from rfl, inV_int, bAt_some h1]
        simp only [List.mem_cons, List.not_mem_nil, or_false]
      rw [if_pos rfl, ei]
      refine ite2 (fun q => ?_) fun q => ?_
      · have q : ¬ (bAt b (p + 1) = 34 ∨ bAt b (p + 1) = 92 ∨ bAt b (p + 1) = 110) := fun x => by rw [decide_eq_true x] at q; cases q
        have W : itemEnd b p = .error (1, p) := by unfold itemEnd; rw [tw, if_neg (by omega), if_neg (by omega), if_pos ⟨rfl, q⟩]
        exact ⟨_, rfl, raise_flt M fun e H' s' h' => ke _ _ W H' e (s1.trans s') h'⟩
      · have q : bAt b (p + 1) = 34 ∨ bAt b (p + 1) = 92 ∨ bAt b (p + 1) = 110 := by
          apply Classical.byContradiction
          intro x
          rw [decide_eq_false x] at q
          exact q rfl
        have W : itemEnd b p = .ok (p + 2) := by unfold itemEnd; rw [tw, if_neg (by omega), if_neg (by omega), if_neg (fun x => x.2 q)]
        exact ⟨_, rfl, _, rfl, _, _, rfl, rfl, kq _ W _ s1⟩
  · have z : ¬ bAt b p = 92 := fun q => z (decide_eq_true q)
    have tw : two? b p = 1 := by unfold two?; rw [if_neg z]
    refine ⟨_, rfl, _, rfl, _, _, rfl, rfl, _, rfl, a, _, rfl, .inl hS, _, _, rfl, rfl, _, rfl, ite2 (fun y => ?_) fun y => ?_⟩
    · have y := of_decide_eq_true y
      have W : itemEnd b p = .error (3, b.length) := by unfold itemEnd; rw [tw, if_pos (by omega)]
      refine ⟨_, rfl, a, _, rfl, .inl hS, ?_⟩
      rw [hlen]
      exact raise_flt M fun e H' s' h' => ke _ _ W H' e s' h'
    · have y : ¬ _ := fun q => y (decide_eq_true q)
      refine ⟨_, rfl, rfl, _, rfl, ?_⟩
      rw [eqV_int]
      refine ite2 (fun _ => ?_) fun q => absurd (decide_eq_true rfl) q
      refine ⟨_, rfl, _, rfl, _, rfl, ite2 (fun q => ?_) fun q => ?_⟩
      · have q : pSeen (bAt b p) = false := by
          cases h : pSeen (bAt b p) with
          | false => rfl
          | true => rw [h] at q; cases q
        have W : itemEnd b p = .error (1, p) := by unfold itemEnd; rw [tw, if_neg (by omega), if_pos ⟨rfl, q⟩]
        exact ⟨_, rfl, raise_flt M fun e H' s' h' => ke _ _ W H' e s' h'⟩
      · have q : pSeen (bAt b p) = true := by
          cases h : pSeen (bAt b p) with
          | true => rfl
          | false => rw [h] at q; exact absurd rfl q
        have W : itemEnd b p = .ok (p + 1) := by unfold itemEnd; rw [tw, if_neg (by omega), if_neg (fun x => by rw [q] at x; cases x.2), if_neg (by omega)]
        refine ⟨_, rfl, rfl, _, rfl, ?_⟩
        rw [eqV_int]
        refine ite2 (fun q => absurd (of_decide_eq_true q) (by decide)) fun _ => ?_
        refine iteF ?_
        exact ⟨_, rfl, _, rfl, _, _, rfl, rfl, kq _ W _ (Same.refl H)⟩
end
end TG
end
section
set_option Elab.async false
set_option linter.all false
set_option maxRecDepth 100000
set_option maxHeartbeats 2000000
namespace TG
open PySem PySem.Spec PyProof.Rows L2 TW
open EwTree (isSmall isBig isDigit isSeen isWordByte isCodeByte isMarkByte tokenIn itemsIn)
theorem E2_err {x : Except EwTree.Fault (EwTree.Bytes × Nat × EwTree.Bytes)} {e : EwTree.Fault} (h : E2 x = .error e) : x = .error e := by
  cases x with
  | error f => exact congrArg Except.error (Except.error.inj h)
  | ok y => cases h
theorem E2_good {x : Except EwTree.Fault (EwTree.Bytes × Nat × EwTree.Bytes)} {q : Nat} {r : EwTree.Bytes} (h : E2 x = .ok (q, r)) : ∃ l, x = .ok (l, q, r) := by
  cases x with
  | error f => cases h
  | ok y => obtain ⟨l, z⟩ := y; exact ⟨l, by rw [show z = (q, r) from Except.ok.inj h]⟩
section
variable {P : Program} {w : World} {K : PySem.W.Frag} {mg : Str → Option Value} {base : Heap}
theorem sc_tx : FnScope ["text", "place", "items", "here"] ["text", "place"] (defScope (top ix_text_at)) := ⟨rfl, rfl, rfl, by decide +kernel, rfl, by decide +kernel, by decide +kernel⟩
theorem ok_tx {CT CF : Addr} (d : Def K mg "text_at" (top ix_text_at) ["text", "place"]) (ob : Ok P w K mg base CX0 1 "byte_at" ["text", "place"] (spByte K)) (oi : Ok P w K mg base (CX1 P w) 4 "item_end" ["text", "place"] (spIt K CF))
    (nT : TokN P w K mg base CT) (nF : FltW P w K mg base CF) (ln : mg "len" = none) (g0 : GI mg "TEXT" 4) (gq : GI mg "QUOTE" 34) (gm : GI mg "MOST_ITEMS" 1024) : Ok P w K mg base (CX1 P w) 5 "text_at" ["text", "place"] (spTk K CT CF fun c => c = 34) := d.ok fun f fd F => by
  refine F.okX sc_tx spTk_len (fun cdv A outer s H vs Q E hr h => ?_)
  obtain ⟨a, b, p, c, rfl, hS, hl, hc, rfl, kq, ke⟩ := h
  obtain ⟨fX, fdX, M, _⟩ := id nF.ex
  have hp : p < b.length := (List.getElem?_eq_some_iff.mp hc).1
  have hlen : (iv b).length = b.length := iv_len b
  have T0 := text_ok (drop_get hc)
  refine ⟨_, pss_cons (ps_set (i := 2) sc_tx.nd rfl (Or.inl rfl) pe_int)
    (pss_cons (ps_set (i := 3) sc_tx.nd rfl (Or.inl rfl) (pe_op op_add (pv 1) pe_int))
    (pss_cons (ps_while (exn_own ⟨rfl, rfl, rfl⟩) (pt_cmpR op_ne (pe_fn0 ob (hr.mono (by decide)) (pa_cons (pv 0) (pa_cons (pv 3) pa_nil))) (pg_i gq) (nomark _))
      (pss_cons (ps_if (pw_and (pt_cmpR op_eq (pv 2) (pg_i gm) (nomark _)) (pw_and1 (pt_cmpR op_lt (pv 3) (pe_len ln (pv 0)) (nomark _)))).pt (pss_one (ps_raise hr.hd (pe_xn nF (hr.mono (by decide)) (pa_cons pe_int (pa_cons (pv 3) pa_nil))))) pss_nil)
      (pss_cons (ps_set (i := 3) sc_tx.nd rfl (Or.inl rfl) (pe_fn oi hr (passX fun _ _ _ z => z) (pa_cons (pv 0) (pa_cons (pv 3) pa_nil))))
      (pss_one (ps_aug (i := 2) sc_tx.nd rfl (Or.inl rfl) pe_int ip_add)))))
    (pss_one (ps_ret (pe_new nT (hr.mono (by decide)) (pa_cons (pg_i g0) (pa_cons pe_str (pa_cons (pv 1) (pa_cons (pe_op op_add (pv 3) pe_int) pa_nil))))))))), ?_⟩
  refine ⟨_, rfl, _, _, rfl, rfl, ?_⟩
  refine ⟨fun m σ H' => ∃ (j k : Nat), m = b.length - j ∧ σ = [some (.ref a), some (.int p), some (.int k), some (.int j)] ∧ Same H H' ∧ p + 1 ≤ j ∧ j ≤ b.length ∧ k ≤ 1024 ∧ E2 (itemsIn 0 (p + 1) (b.drop (p + 1))) = E2 (itemsIn k j (b.drop j)), ⟨_, p + 1, 0, rfl, rfl, Same.refl H, Nat.le_refl _, hp, by decide, rfl⟩, ?_⟩
  rintro m σ H1 ⟨j, k, rfl, rfl, s1, hpj, hj, hk, e⟩
  refine ⟨_, rfl, _, rfl, a, b, j, rfl, s1.seq hS, rfl, _, rfl, ?_⟩
  rw [eqV_int]
  refine ite2 (fun z => ?_) fun z => ?_
  · have z : ¬ bAt b j = 34 := fun q => by rw [decide_eq_true q] at z; cases z
    refine ⟨fun σ' H2 => ∃ q : Nat, σ' = [some (.ref a), some (.int p), some (.int ((k + 1 : Nat) : Int)), some (.int q)] ∧ Same H H2 ∧ itemEnd b j = .ok q ∧ (k < 1024 ∨ b.length ≤ j), ?_, ?_⟩
    · rintro σ' H2 ⟨q, rfl, s2, hq, hkj⟩
      obtain ⟨q1, q2⟩ := itemEnd_ok hq
      refine ⟨b.length - q, by omega, q, k + 1, rfl, rfl, s2, by omega, q2, by omega, ?_⟩
      rw [e, it_end z hkj hj, hq]
    · -- the body of the loop
      have errF : (k < 1024 ∨ b.length ≤ j) → ∀ r q, itemEnd b j = .error (r, q) → ∀ H2 x, Same H1 H2 → FltO CF H2 x r q → E (.ref x) none H2 := fun hkj r q hq H2 x s2 h2 => by
        have W : E2 (itemsIn 0 (p + 1) (b.drop (p + 1))) = .error (r, q) := by rw [e, it_end z hkj hj, hq]
        have W2 := E2_err W
        rw [W2] at T0
        exact ke r q T0 H2 x (s1.trans s2) h2
      refine ⟨_, rfl, rfl, _, rfl, ?_⟩
      rw [eqV_int]
      refine ite2 (fun y => ?_) fun y => ?_
      · have y := of_decide_eq_true y
        refine ⟨_, rfl, _, rfl, a, _, rfl, .inl (s1.seq hS), _, _, rfl, rfl, _, rfl, ite2 (fun x => ?_) fun x => ?_⟩
        · have x := of_decide_eq_true x
          rw [it_many z (by omega) (by omega)] at e
          have W2 := E2_err e
          rw [W2] at T0
          exact ⟨_, rfl, raise_flt M fun x H' s' h' => ke _ _ T0 H' x (s1.trans s') h'⟩
        · have x : ¬ _ := fun q => x (decide_eq_true q)
          have hkj : k < 1024 ∨ b.length ≤ j := .inr (by omega)
          exact ⟨_, rfl, _, rfl, a, b, j, rfl, s1.seq hS, hj, fun q hq H2 s2 => ⟨_, rfl, _, _, rfl, rfl, q, rfl, s1.trans s2, hq, hkj⟩, errF hkj⟩
      · have y : ¬ _ := fun q => y (decide_eq_true q)
        have hkj : k < 1024 ∨ b.length ≤ j := .inl (by omega)
        exact iteF ⟨_, rfl, _, rfl, a, b, j, rfl, s1.seq hS, hj, fun q hq H2 s2 => ⟨_, rfl, _, _, rfl, rfl, q, rfl, s1.trans s2, hq, hkj⟩, errF hkj⟩
  · have z : bAt b j = 34 := by
      apply Classical.byContradiction
      intro x
      rw [decide_eq_false x] at z
      exact z rfl
    rw [it_quote z] at e
    obtain ⟨l, W⟩ := E2_good e
    rw [W] at T0
    exact ⟨_, rfl, _, rfl, _, _, rfl, rfl, mk_tok (fun H' r s' h' => kq _ _ T0 H' r (s1.trans s') h') rfl rfl rfl rfl⟩
end
end TG
end
section
set_option Elab.async false
set_option linter.all false
set_option maxRecDepth 100000
set_option maxHeartbeats 2000000
namespace TG
open PySem PySem.Spec PyProof.Rows L2 TW
open EwTree (isSmall isBig isDigit isSeen isWordByte isCodeByte isMarkByte tokenIn itemsIn)
section
variable {P : Program} {w : World} {K : PySem.W.Frag} {mg : Str → Option Value} {base : Heap}
theorem max_if (i : Int) : (if (0 : Int) > i then (0 : Int) else i) = max i 0 := by
  by_cases h : (0 : Int) > i
  · rw [if_pos h]; omega
  · rw [if_neg h]; omega
theorem sc_sg : FnScope ["text", "place", "pair"] ["text", "place"] (defScope (top ix_sign_at)) := ⟨rfl, rfl, rfl, by decide +kernel, rfl, by decide +kernel, by decide +kernel⟩
theorem ok_sg {CT CF : Addr} (d : Def K mg "sign_at" (top ix_sign_at) ["text", "place"]) (ob : Ok P w K mg base CX0 1 "byte_at" ["text", "place"] (spByte K))
    (nT : TokN P w K mg base CT) (nF : FltW P w K mg base CF) (mx : mg "max" = none) (g0 : GI mg "SIGN" 5) (g1 : GDN K mg "SIGNS_OF_ONE" ONE) (g2 : GDN K mg "SIGNS_OF_TWO" TWO) :
    Ok P w K mg base (CX1 P w) 4 "sign_at" ["text", "place"] (spTk K CT CF fun c => isSmall c = false ∧ isBig c = false ∧ isDigit c = false ∧ c ≠ 34) := d.ok fun f fd F => by
  refine F.okX sc_sg spTk_len (fun cdv A outer s H vs Q E hr h => ?_)
  obtain ⟨a, b, p, c, rfl, hS, hl, hc, pre, kq, ke⟩ := h
  obtain ⟨fX, fdX, M, _⟩ := id nF.ex
  obtain ⟨a1, m1, t1⟩ := g1
  obtain ⟨a2, m2, t2⟩ := g2
  obtain ⟨W1, W2⟩ := sign_ok (drop_get hc) pre.1 pre.2.1 pre.2.2.1 pre.2.2.2
  refine ⟨_, pss_cons (ps_set (i := 2) sc_sg.nd rfl (Or.inl rfl) (pe_op op_add (pe_op op_mul (pe_ix ix_list (pv 0) (pv 1) (fun _ _ => rfl)) pe_int) (pe_callB (call_max2 rfl) (by rfl) mx boot_max (pa_cons (pe_fn0 ob (hr.mono (by decide)) (pa_cons (pv 0) (pa_cons (pe_op op_add (pv 1) pe_int) pa_nil))) (pa_cons pe_int pa_nil)))))
    (pss_cons (ps_if (pt_cmpR op_inI (pv 2) (pg_r m2) (by with_unfolding_all rfl)) (pss_one (ps_ret (pe_new nT (hr.mono (by decide)) (pa_cons (pg_i g0) (pa_cons (pe_ix ix_I (pg_r m2) (pv 2) (fun _ _ => rfl)) (pa_cons (pv 1) (pa_cons (pe_op op_add (pv 1) pe_int) pa_nil))))))) pss_nil)
    (pss_cons (ps_if (pt_cmpR op_inI (pe_ix ix_list (pv 0) (pv 1) (fun _ _ => rfl)) (pg_r m1) (by with_unfolding_all rfl)) (pss_one (ps_ret (pe_new nT (hr.mono (by decide)) (pa_cons (pg_i g0) (pa_cons (pe_ix ix_I (pg_r m1) (pe_ix ix_list (pv 0) (pv 1) (fun _ _ => rfl)) (fun _ _ => rfl)) (pa_cons (pv 1) (pa_cons (pe_op op_add (pv 1) pe_int) pa_nil))))))) pss_nil)
    (pss_one (ps_raise hr.hd (pe_xn nF hr (pa_cons pe_int (pa_cons (pv 1) pa_nil))))))), ?_⟩
  refine ⟨_, rfl, _, rfl, a, _, _, _, rfl, rfl, hS, iv_at hc, _, _, rfl, rfl, .inr (by decide), _, rfl, _, rfl, _, _, rfl, rfl, a, b, p + 1, rfl, hS, _, _, rfl, _, _, rfl, rfl, ?_⟩
  have ep : (c.toNat : Int) * 256 + (if (0 : Int) > bAt b (p + 1) then (0 : Int) else bAt b (p + 1)) = pairOf b p := by
    unfold pairOf; rw [max_if, bAt_some hc]
  refine ⟨_, rfl, _, a2, _, rfl, rfl, t2, _, rfl, ?_⟩
  rw [ep]
  cases h2 : lk TWO (pairOf b p) with
  | some x =>
    obtain ⟨t, T1, T2, T3, T4, T5⟩ := W1 x h2
    refine iteT ⟨_, rfl, _, a2, _, x, rfl, rfl, t2, (by rw [ep]; exact h2), _, rfl, _, rfl, _, _, rfl, rfl, mk_tok (fun H' r s' h' => kq _ _ T1 H' r s' h') ?_ T5.symm ?_ ?_⟩
    · rw [T2]; rfl
    · rw [T3]
    · rw [T4]; rfl
  | none =>
    obtain ⟨W3, W4⟩ := W2 h2
    refine iteF ⟨_, rfl, _, rfl, a, _, _, _, rfl, rfl, hS, iv_at hc, _, a1, _, rfl, rfl, t1, _, rfl, ?_⟩
    rw [bAt_some hc] at W3 W4
    cases h1 : lk ONE (c.toNat : Int) with
    | some x =>
      obtain ⟨t, T1, T2, T3, T4, T5⟩ := W3 x h1
      refine iteT ⟨_, rfl, _, rfl, a, _, _, _, rfl, rfl, hS, iv_at hc, _, a1, _, x, rfl, rfl, t1, h1, _, rfl, _, rfl, _, _, rfl, rfl, mk_tok (fun H' r s' h' => kq _ _ T1 H' r s' h') ?_ T5.symm ?_ ?_⟩
      · rw [T2]; rfl
      · rw [T3]
      · rw [T4]; rfl
    | none =>
      have T0 := W4 h1
      exact iteF ⟨_, rfl, raise_flt M fun x H' s' h' => ke _ _ T0 H' x s' h'⟩
theorem sc_ta : FnScope ["text", "place", "byte"] ["text", "place"] (defScope (top ix_token_at)) := ⟨rfl, rfl, rfl, by decide +kernel, rfl, by decide +kernel, by decide +kernel⟩
theorem ok_ta {CT CF : Addr} (d : Def K mg "token_at" (top ix_token_at) ["text", "place"]) (o1 : Ok P w K mg base CX0 1 "is_small" ["byte"] (pr1 pSmall)) (o2 : Ok P w K mg base CX0 1 "is_capital" ["byte"] (pr1 pBig)) (o3 : Ok P w K mg base CX0 1 "is_digit" ["byte"] (pr1 pDigit))
    (ow : Ok P w K mg base (CX1 P w) 5 "word_at" ["text", "place"] (spTk K CT CF fun c => isSmall c = true)) (oc : Ok P w K mg base (CX1 P w) 5 "code_at" ["text", "place"] (spTk K CT CF fun c => isSmall c = false ∧ isBig c = true))
    (on : Ok P w K mg base (CX1 P w) 7 "number_at" ["text", "place"] (spTk K CT CF fun c => isSmall c = false ∧ isBig c = false ∧ isDigit c = true)) (ot : Ok P w K mg base (CX1 P w) 5 "text_at" ["text", "place"] (spTk K CT CF fun c => c = 34))
    (os : Ok P w K mg base (CX1 P w) 4 "sign_at" ["text", "place"] (spTk K CT CF fun c => isSmall c = false ∧ isBig c = false ∧ isDigit c = false ∧ c ≠ 34)) (gq : GI mg "QUOTE" 34) :
    Ok P w K mg base (CX1 P w) 8 "token_at" ["text", "place"] (spTk K CT CF fun _ => True) := d.ok fun f fd F => by
  refine F.okX sc_ta spTk_len (fun cdv A outer s H vs Q E hr h => ?_)
  obtain ⟨a, b, p, c, rfl, hS, hl, hc, _, kq, ke⟩ := h
  refine ⟨_, pss_cons (ps_set (i := 2) sc_ta.nd rfl (Or.inl rfl) (pe_ix ix_list (pv 0) (pv 1) (fun _ _ => rfl)))
    (pss_cons (ps_if (pt_val (pe_fn0 o1 (hr.mono (by decide)) (pa_cons (pv 2) pa_nil))) (pss_one (ps_ret (pe_fn ow (hr.mono (by decide)) (passX fun _ _ _ z => z) (pa_cons (pv 0) (pa_cons (pv 1) pa_nil))))) pss_nil)
    (pss_cons (ps_if (pt_val (pe_fn0 o2 (hr.mono (by decide)) (pa_cons (pv 2) pa_nil))) (pss_one (ps_ret (pe_fn oc (hr.mono (by decide)) (passX fun _ _ _ z => z) (pa_cons (pv 0) (pa_cons (pv 1) pa_nil))))) pss_nil)
    (pss_cons (ps_if (pt_val (pe_fn0 o3 (hr.mono (by decide)) (pa_cons (pv 2) pa_nil))) (pss_one (ps_ret (pe_fn on hr (passX fun _ _ _ z => z) (pa_cons (pv 0) (pa_cons (pv 1) pa_nil))))) pss_nil)
    (pss_cons (ps_if (pt_cmpR op_eq (pv 2) (pg_i gq) (nomark _)) (pss_one (ps_ret (pe_fn ot (hr.mono (by decide)) (passX fun _ _ _ z => z) (pa_cons (pv 0) (pa_cons (pv 1) pa_nil))))) pss_nil)
    (pss_one (ps_ret (pe_fn os (hr.mono (by decide)) (passX fun _ _ _ z => z) (pa_cons (pv 0) (pa_cons (pv 1) pa_nil))))))))), ?_⟩
  refine ⟨_, rfl, _, rfl, a, _, _, _, rfl, rfl, hS, iv_at hc, ?_⟩
  refine ⟨_, rfl, _, rfl, _, rfl, ?_⟩
  rw [pSmall_u]
  refine ite2 (fun z1 => ⟨_, rfl, _, rfl, a, b, p, c, rfl, hS, hl, hc, z1, kq, ke⟩) fun z1 => ?_
  rw [Bool.not_eq_true] at z1
  refine ⟨_, rfl, _, rfl, _, rfl, ?_⟩
  rw [pBig_u]
  refine ite2 (fun z2 => ⟨_, rfl, _, rfl, a, b, p, c, rfl, hS, hl, hc, ⟨z1, z2⟩, kq, ke⟩) fun z2 => ?_
  rw [Bool.not_eq_true] at z2
  refine ⟨_, rfl, _, rfl, _, rfl, ?_⟩
  rw [pDigit_u]
  refine ite2 (fun z3 => ⟨_, rfl, _, rfl, a, b, p, c, rfl, hS, hl, hc, ⟨z1, z2, z3⟩, kq, ke⟩) fun z3 => ?_
  rw [Bool.not_eq_true] at z3
  refine ⟨_, rfl, rfl, _, rfl, ?_⟩
  rw [eqV_int]
  refine ite2 (fun z4 => ⟨_, rfl, _, rfl, a, b, p, c, rfl, hS, hl, hc, ?_, kq, ke⟩) fun z4 => ⟨_, rfl, _, rfl, a, b, p, c, rfl, hS, hl, hc, ⟨z1, z2, z3, ?_⟩, kq, ke⟩
  · exact u_eq.mpr (by have := of_decide_eq_true z4; have h34 : (34 : UInt8).toNat = 34 := rfl; omega)
  · intro q
    exact z4 (decide_eq_true (by rw [q]; rfl))
end
end TG
end
section
set_option Elab.async false
set_option linter.all false
set_option maxRecDepth 100000
set_option maxHeartbeats 2000000
namespace TG
open PySem PySem.Spec PyProof.Rows L2 TW
open EwTree (isSmall isBig isDigit isSeen isWordByte isCodeByte isMarkByte tokenIn itemsIn isBlank)
theorem blank_in (c : UInt8) : inV (.int c.toNat) [V.int 32, .int 10, .int 59] = isBlank c := by
  rw [show [V.int 32, .int 10, .int 59] = ([32, 10, 59] : List Int).map V.int from rfl, inV_int]
  have h : ∀ (n : Nat) (m : UInt8), m.toNat = n → (((c.toNat : Int) = (n : Int)) ↔ c = m) := fun n m hm => ⟨fun z => u_eq.mpr (by omega), fun z => by rw [z]; omega⟩
  have h1 : ((c.toNat : Int) = 32) ↔ c = 32 := h 32 32 rfl
  have h2 : ((c.toNat : Int) = 10) ↔ c = 10 := h 10 10 rfl
  have h3 : ((c.toNat : Int) = 59) ↔ c = 59 := h 59 59 rfl
  unfold EwTree.isBlank
  simp only [List.mem_cons, List.not_mem_nil, or_false, h1, h2, h3]
  by_cases z1 : c = 32 <;> by_cases z2 : c = 10 <;> by_cases z3 : c = 59 <;> simp [z1, z2, z3]
theorem Tn_hash' {b : By} {j : Nat} (h : b[j]? = some 35) : Tn j (b.drop j) = Tn (runE isSeen b j) (b.drop (runE isSeen b j)) := by
  rw [drop_get h, Tn_hash, ← drop_get h]
  have e : j + ((b.drop j).takeWhile isSeen).length = runE isSeen b j := rfl
  rw [e, List.drop_drop]
  congr 2
theorem runE_more {b : By} {j : Nat} (h : b[j]? = some 35) : j < runE isSeen b j := by
  rw [runE_step h (by decide +kernel)]
  have := runE_ge isSeen b (j + 1)
  omega
section
variable {P : Program} {w : World} {K : PySem.W.Frag} {mg : Str → Option Value} {base : Heap}
def spTp (K : PySem.W.Frag) : Sp := fun vs H Q _ => ∃ (a : Addr) (b : By) (p : Nat), vs = [.ref a, .int p] ∧ SqL K H a (iv b) ∧ p ≤ b.length ∧
  ∀ (q : Nat) H', Same H H' → p ≤ q → q ≤ b.length → Tn p (b.drop p) = Tn q (b.drop q) → (∀ c, b[q]? = some c → isBlank c = false ∧ c ≠ 35) → Q (.int q) H'
theorem sc_tp : FnScope ["text", "place"] ["text", "place"] (defScope (top ix_token_place)) := ⟨rfl, rfl, rfl, by decide +kernel, rfl, by decide +kernel, by decide +kernel⟩
theorem ok_tp (d : Def K mg "token_place" (top ix_token_place) ["text", "place"]) (op : Ok P w K mg base CX0 1 "is_printable" ["byte"] (pr1 pSeen)) (orn : Ok P w K mg base CX0 4 "run_end" ["text", "place", "fits"] (spRun P w K mg base))
    (ln : mg "len" = none) (gh : GI mg "HASH" 35) (gb : GI mg "BLANK" 32) (gl : GI mg "LINE_END" 10) (gs : GI mg "SEMICOLON" 59) : Ok P w K mg base CX0 5 "token_place" ["text", "place"] (spTp K) := d.ok fun f fd F => by
  refine F.ok sc_tp (by rintro vs H Q E ⟨a, b, p, rfl, _⟩; rfl) (fun cdv A outer s H vs Q E hr h => ?_)
  obtain ⟨a, b, p, rfl, hS, hp, k⟩ := h
  obtain ⟨fp, mp, fits⟩ := fits_of op (by decide) pSeen_u
  have hlen : (iv b).length = b.length := iv_len b
  refine ⟨_, pss_cons (ps_while PassesOwn.never (pt_cmpR op_lt (pv 1) (pe_len ln (pv 0)) (nomark _))
    (pss_one (ps_if (pt_cmpR op_eq (pe_ix ix_list (pv 0) (pv 1) (fun _ _ => rfl)) (pg_i gh) (nomark _)) (pss_one (ps_set (i := 1) sc_tp.nd rfl (Or.inl rfl) (pe_fn0 orn hr (pa_cons (pv 0) (pa_cons (pv 1) (pa_cons (pg_r mp) pa_nil))))))
      (pss_one (ps_if (pt_cmpR op_in_seq (pe_ix ix_list (pv 0) (pv 1) (fun _ _ => rfl)) (pe_tup (pa_cons (pg_i gb) (pa_cons (pg_i gl) (pa_cons (pg_i gs) pa_nil)))) (by with_unfolding_all rfl)) (pss_one (ps_aug (i := 1) sc_tp.nd rfl (Or.inl rfl) pe_int ip_add)) (pss_one (ps_ret (pv 1))))))))
    (pss_one (ps_ret (pv 1))), ?_⟩
  refine ⟨fun m σ H' => ∃ j : Nat, m = b.length - j ∧ σ = [some (.ref a), some (.int j)] ∧ Same H H' ∧ p ≤ j ∧ j ≤ b.length ∧ Tn p (b.drop p) = Tn j (b.drop j), ⟨_, p, rfl, rfl, Same.refl H, Nat.le_refl _, hp, rfl⟩, ?_⟩
  rintro m σ H1 ⟨j, rfl, rfl, s1, hpj, hj, e⟩
  have hS1 := s1.seq hS
  refine ⟨_, rfl, _, rfl, a, _, rfl, .inl hS1, _, _, rfl, rfl, _, rfl, ite2 (fun h1 => ?_) fun h1 => ?_⟩
  · have hjl : j < b.length := by rw [← iv_len]; exact ylt h1
    have hg : b[j]? = some b[j] := List.getElem?_eq_getElem hjl
    refine ⟨fun σ' H2 => ∃ q : Nat, σ' = [some (.ref a), some (.int q)] ∧ Same H H2 ∧ j < q ∧ q ≤ b.length ∧ Tn p (b.drop p) = Tn q (b.drop q), ?_, ?_⟩
    · rintro σ' H2 ⟨q, rfl, s2, q1, q2, e2⟩
      exact ⟨b.length - q, by omega, q, rfl, rfl, s2, by omega, q2, e2⟩
    refine ⟨_, rfl, _, rfl, a, _, _, _, rfl, rfl, hS1, iv_at hg, rfl, _, rfl, ?_⟩
    rw [eqV_int]
    refine ite2 (fun z => ?_) fun z => ?_
    · have z := of_decide_eq_true z
      have z : b[j] = 35 := u_eq.mpr (by have h35 : (35 : UInt8).toNat = 35 := rfl; omega)
      rw [z] at hg
      exact ⟨_, rfl, _, rfl, a, b, j, fp, isSeen, rfl, hS1, Nat.le_of_lt hjl, fits, _, rfl, s1, runE_more hg, runE_le _ hj, e.trans (Tn_hash' hg)⟩
    · have z : b[j] ≠ 35 := fun y => z (decide_eq_true (by rw [y]; rfl))
      refine ⟨_, rfl, _, rfl, a, _, _, _, rfl, rfl, hS1, iv_at hg, (by show 3 ≤ sizeLine; decide), fun t ht => ?_⟩
      have s2 := same_upd (o := .tup [.int 32, .int 10, .int 59]) ht
      refine ⟨t, _, rfl, .inr (SqT.of upd_same), rfl, rfl, _, rfl, ?_⟩
      rw [if_neg (by decide), blank_in]
      refine ite2 (fun y => ?_) fun y => ?_
      · refine ⟨_, rfl, _, _, rfl, rfl, j + 1, rfl, s1.trans s2, Nat.lt_succ_self _, hjl, ?_⟩
        rw [e, drop_get hg, Tn_blank y]
      · rw [Bool.not_eq_true] at y
        refine ⟨_, rfl, k j _ (s1.trans s2) hpj hj e fun c hc => ?_⟩
        rw [hg] at hc
        cases hc
        exact ⟨y, z⟩
  · have hn : b[j]? = none := List.getElem?_eq_none_iff.mpr (by rw [← iv_len]; exact nlt h1)
    refine ⟨_, rfl, k j _ s1 hpj hj e fun c hc => ?_⟩
    rw [hn] at hc; cases hc
end
end TG
end
section
set_option Elab.async false
set_option linter.all false
set_option maxRecDepth 100000
set_option maxHeartbeats 2000000
namespace TG
open PySem PySem.Spec PyProof.Rows L2 TW
open EwTree (isSmall isBig isDigit isSeen isWordByte isCodeByte isMarkByte tokenIn itemsIn isBlank)
/-! ### what scan gives back -/
abbrev sScI : Stmt := inClass (top ix_Scanned) 0
def sf (fo fa : V) : List (Str × V) := putF "fault" fa (putF "found" fo [])
theorem sf_found (fo fa : V) : (sf fo fa).lookup ("found" : Str) = some fo := by
  unfold sf
  rw [lookup_putF, if_neg (by decide +kernel), lookup_putF, if_pos rfl]
theorem sf_fault (fo fa : V) : (sf fo fa).lookup ("fault" : Str) = some fa := by
  unfold sf
  rw [lookup_putF, if_pos rfl]
structure ScnC (K : PySem.W.Frag) (C : Addr) : Prop where
  cl : Cls K C
  nf : NoAttr K C "found"
  na : NoAttr K C "fault"
def FauV (H : Hp) (fa : V) : Option EwTree.Fault → Prop
  | none => fa = .non
  | some (r, q) => ∃ t, fa = .ref t ∧ H t = some (.tup [.int (r : Nat), .int (q : Nat)])
def ScnAt (CS CT : Addr) (H : Hp) (r : Addr) (ts : List EwTree.Tok) (fl : Option EwTree.Fault) : Prop := ∃ dx l fa rs, H r = some (.ins CS dx (sf (.ref l) fa)) ∧ H l = some (.lst (rs.map V.ref)) ∧ Paired (fun x t => TokAt CT H x t) rs ts ∧ FauV H fa fl
theorem TokAt.same {C : Addr} {H H' : Hp} {r : Addr} {t : EwTree.Tok} (s : Same H H') (h : TokAt C H r t) : TokAt C H' r t := by
  obtain ⟨dx, e⟩ := h
  exact ⟨dx, s _ _ e⟩
theorem ScnAt.same {CS CT : Addr} {H H' : Hp} {r : Addr} {ts : List EwTree.Tok} {fl : Option EwTree.Fault} (s : Same H H') (h : ScnAt CS CT H r ts fl) : ScnAt CS CT H' r ts fl := by
  obtain ⟨dx, l, fa, rs, h1, h2, h3, h4⟩ := h
  refine ⟨dx, l, fa, rs, s _ _ h1, s _ _ h2, L2.Paired.imp' (fun _ _ z => TokAt.same s z) h3, ?_⟩
  match fl, h4 with
  | none, z => exact z
  | some (r, q), ⟨t, z1, z2⟩ => exact ⟨t, z1, s _ _ z2⟩
section
variable {P : Program} {w : World} {K : PySem.W.Frag} {mg : Str → Option Value} {base : Heap}
def spSci (C : Addr) : Sp := fun vs H Q _ => ∃ (p dx : Addr) (fo fa : V), vs = [.ref p, fo, fa] ∧ H p = some (.ins C dx []) ∧ ∀ H', H' p = some (.ins C dx (sf fo fa)) → Fr1 p H H' → Q .non H'
theorem sc_sci : FnScope ["self", "found", "fault"] ["self", "found", "fault"] (defScope sScI) := ⟨rfl, rfl, rfl, by decide +kernel, rfl, by decide +kernel, by decide +kernel⟩
theorem okH_sci {C f : Addr} {fd : FuncData} (F : Fun K "__init__" "Scanned.__init__" sScI f fd) (T : ScnC K C) : FnOkH P w K mg base 1 f fd ["self", "found", "fault"] (spSci C) := by
  refine F.okH sc_sci (by rintro vs H Q E ⟨p, dx, fo, fa, rfl, _⟩; rfl) (fun cdv A outer s H vs Q E h => ?_)
  obtain ⟨p, dx, fo, fa, rfl, h1, k⟩ := h
  refine ⟨_, pss_cons (ps_fld (pv 0) (pv 1) rfl) (pss_one (ps_fld (pv 0) (pv 2) rfl)), ?_⟩
  refine ⟨_, rfl, _, rfl, p, C, dx, [], rfl, h1, T.cl, T.nf, (by show 0 < 1000; decide), _, rfl, _, rfl, p, C, dx, _, rfl, upd_same, T.cl, T.na, Nat.lt_of_le_of_lt (length_putF _ _ _) (by show 1 < 1000; decide), ?_⟩
  exact k _ upd_same fun b o hb hp => by rw [upd_ne hp, upd_ne hp]; exact hb
abbrev ScnD (K : PySem.W.Frag) (mg : Str → Option Value) (C : Addr) : Prop := CDef K mg "Scanned" "Scanned.__init__" sScI C ["self", "found", "fault"]
theorem new_sc {C : Addr} (d : ScnD K mg C) (T : ScnC K C) : New P w K mg base 1 "Scanned" C ["self", "found", "fault"] (spSci C) := d.new fun f fd F => (okH_sci F T).ok
/-- Scanned(..), once its arguments are there -/
theorem mk_sc {CS CT : Addr} {H1 : Hp} {l : Addr} {fa : V} {rs : List Addr} {ts : List EwTree.Tok} {fl : Option EwTree.Fault} {Q : VK} (h2 : H1 l = some (.lst (rs.map V.ref))) (h3 : Paired (fun x t => TokAt CT H1 x t) rs ts) (h4 : FauV H1 fa fl)
    (k : ∀ H' r, Same H1 H' → ScnAt CS CT H' r ts fl → Q (.ref r) H') :
    ∀ x dx, H1 x = none → H1 dx = none → dx ≠ x → spSci CS (.ref x :: ([V.ref l, fa] ++ [])) (upd (upd H1 dx (.own x)) x (.ins CS dx [])) (fun v H2 => v = .non ∧ Q (.ref x) H2) E0 := by
  intro x dx n1 n2 ne
  refine ⟨x, dx, .ref l, fa, rfl, upd_same, fun H' h' fr => ⟨rfl, ?_⟩⟩
  have s := Same.made n1 n2 fr
  refine k H' x s ⟨dx, l, fa, rs, h', s _ _ h2, L2.Paired.imp' (fun _ _ z => TokAt.same s z) h3, ?_⟩
  match fl, h4 with
  | none, z => exact z
  | some (r, q), ⟨t, z1, z2⟩ => exact ⟨t, z1, s _ _ z2⟩
def spScan (K : PySem.W.Frag) (CS CT : Addr) : Sp := fun vs H Q _ => ∃ (a : Addr) (b : By), vs = [.ref a] ∧ SqL K H a (iv b) ∧ b.length ≤ 65536 ∧ ∀ H' r, Same H H' → ScnAt CS CT H' r (Tn 0 b).1 (Tn 0 b).2 → Q (.ref r) H'
theorem sc_scan : FnScope ["text", "found", "place", "token", "e"] ["text"] (defScope (top ix_scan)) := ⟨rfl, rfl, rfl, by decide +kernel, rfl, by decide +kernel, by decide +kernel⟩
def trySuite : Stmt → List Stmt
  | .Try _ [.ExceptHandler _ _ b _] _ _ _ => b
  | _ => []
def RS (CT CF : Addr) (b : By) (a : Addr) (H0 : Hp) : L2.St → Addr → Hp → Prop := fun σ e H' => ∃ (l : Addr) (pl tk : Option V) (rs : List Addr) (ts : List EwTree.Tok) (r q : Nat), σ = [some (.ref a), some (.ref l), pl, tk, none] ∧ H' l = some (.lst (rs.map V.ref)) ∧ Paired (fun x t => TokAt CT H' x t) rs ts ∧
  Tn 0 b = (ts, some (r, q)) ∧ FltO CF H' e r q ∧ Same H0 H'
theorem ok_scan {CS CT CF : Addr} (d : Def K mg "scan" (top ix_scan) ["text"]) (dS : ScnD K mg CS) (TS : ScnC K CS) (TT : TokC K CT) (TF : FltC K CF) (otp : Ok P w K mg base CX0 5 "token_place" ["text", "place"] (spTp K))
    (ota : Ok P w K mg base (CX1 P w) 8 "token_at" ["text", "place"] (spTk K CT CF fun _ => True)) (ln : mg "len" = none) (mf : mg "Fault" = some (.ref CF)) (xf : PySem.W.exmOne K (.ref CF) (.ref CF) = some true) :
    Ok P w K mg base CX0 9 "scan" ["text"] (spScan K CS CT) := d.ok fun f fd F => by
  refine F.ok0 sc_scan (by rintro vs H Q E ⟨a, b, rfl, _⟩; rfl) (fun cdv A outer s H vs Q E hr h => ?_)
  obtain ⟨a, b, rfl, hS, hl, k⟩ := h
  obtain ⟨fS, fdS, MS, FS, bS, mS⟩ := id dS.ex
  have nS : New P w K mg base 1 "Scanned" CS ["self", "found", "fault"] (spSci CS) := new_sc dS TS
  have rh : RoomH 2 (A.deeper (envOfC "scan" (defScope (top ix_scan)) s.heap.objs.size f cdv)) := (hr.mono (by decide)).h
  have hs : ∀ e, PSs (sx (cxOf CX0 P w K mg base ["text", "found", "place", "token", "e"] "scan" (defScope (top ix_scan)) f cdv A outer s H E).nox e) (trySuite ((defBody (top ix_scan)).getD 1 (.Pass ⟨0, 0, 0, 0⟩)))
      (tRet (tMake CS (spSci CS) [] E0 (tCons (tVar 1) (tCons (tTup (tCons (tXget K (tVar 4) "rule") (tCons (tXget K (tVar 4) "place") tNil))) tNil)))) := fun e =>
    pss_one (ps_ret (pe_makeH MS (okH_sci FS TS) ⟨rh.dp, rh.un⟩ (by rfl) mS bS (pa_cons (pv 1) (pa_cons (pe_tup (pa_cons (pe_xget (pv 4) rfl) (pa_cons (pe_xget (pv 4) rfl) pa_nil))) pa_nil))))
  refine ⟨_, pss0_cons (PS.to0 (ps_set (i := 1) sc_scan.nd rfl (Or.inl rfl) (pe_lst pa_nil))) (pss0_cons (ps0_try (i := 4) (R := RS CT CF b a H) ⟨rfl, rfl, rfl⟩
      (pss_cons (ps_set (i := 2) sc_scan.nd rfl (Or.inl rfl) (pe_fn0 otp (hr.mono (by decide)) (pa_cons (pv 0) (pa_cons pe_int pa_nil))))
       (pss_one (ps_while (exn_own ⟨rfl, rfl, rfl⟩) (pt_cmpR op_lt (pv 2) (pe_len ln (pv 0)) (nomark _))
        (pss_cons (ps_set (i := 3) sc_scan.nd rfl (Or.inl rfl) (pe_fnX ota hr (pa_cons (pv 0) (pa_cons (pv 2) pa_nil))))
        (pss_cons (ps_expr (pe_bm PySem.F.plainAttrs_list PySem.F.slot_list_append PySem.F.type_list_append mt_append (pv 1) (pa_cons (pv 3) pa_nil)))
        (pss_one (ps_set (i := 2) sc_scan.nd rfl (Or.inl rfl) (pe_fn0 otp (hr.mono (by decide)) (pa_cons (pv 0) (pa_cons (pe_fld (pv 3) rfl) pa_nil))))))))))
      hs
      sc_scan.nd rfl rfl rfl mf) (PSs.to0 (pss_one (ps_ret (pe_new nS (hr.mono (by decide)) (pa_cons (pv 1) (pa_cons pe_non pa_nil))))))), ?_⟩
  refine ⟨Nat.zero_le _, fun l hl0 => ⟨?_, ?_⟩⟩
  · have s0 := same_upd (o := .lst []) hl0
    refine ⟨_, rfl, a, b, 0, rfl, s0.seq hS, Nat.zero_le _, fun q0 H1 s1 _ hq0 e0 hb0 => ?_⟩
    refine ⟨fun m σ H' => ∃ (j : Nat) (tk : Option V) (rs : List Addr) (ts : List EwTree.Tok), m = b.length - j ∧ σ = [some (.ref a), some (.ref l), some (.int j), tk, none] ∧ H' l = some (.lst (rs.map V.ref)) ∧ Paired (fun x t => TokAt CT H' x t) rs ts ∧ Same H H' ∧
      j ≤ b.length ∧ rs.length ≤ j ∧ Tn 0 b = (ts ++ (Tn j (b.drop j)).1, (Tn j (b.drop j)).2) ∧ ∀ c, b[j]? = some c → isBlank c = false ∧ c ≠ 35,
      ⟨_, q0, none, [], [], rfl, rfl, s1 _ _ upd_same, Paired.nil, s0.trans s1, hq0, Nat.zero_le _, ?_, hb0⟩, ?_⟩
    · rw [← e0]; rfl
    rintro m σ H2 ⟨j, tk, rs, ts, rfl, rfl, hL, hP, s2, hj, hrs, eT, hb⟩
    have hS2 := s2.seq hS
    refine ⟨_, rfl, _, rfl, a, _, rfl, .inl hS2, _, _, rfl, rfl, _, rfl, ite2 (fun h1 => ?_) fun h1 => ?_⟩
    · have hjl : j < b.length := by rw [← iv_len]; exact ylt h1
      have hg : b[j]? = some b[j] := List.getElem?_eq_getElem hjl
      obtain ⟨hb1, hb2⟩ := hb _ hg
      refine ⟨_, fun _ _ z => z, ?_⟩
      have eT1 := Tn_tok (p := j) (r := b.drop (j + 1)) hb1 hb2
      rw [← drop_get hg] at eT1
      refine ⟨_, rfl, _, rfl, a, b, j, b[j], rfl, hS2, hl, hg, trivial, fun t sx' ht H3 r s3 hT => ?_, fun r q ht H3 e s3 hF => ?_⟩
      · obtain ⟨t1, t2, t3, t4⟩ := tok_ok ht
        rw [List.length_drop] at t3
        rw [ht] at eT1
        have hL3 := s3 _ _ hL
        obtain ⟨dx, hTa⟩ := hT
        have hrl : r ≠ l := ne_of hTa hL3 (by intro z; cases z)
        have hsz : sizeLine = 16777216 := sizeLine_eq
        refine ⟨_, rfl, .inl ⟨rfl, _, SqL.of hL3⟩, _, rfl, l, _, _, rfl, rfl, hL3, (by rw [List.length_map, hsz]; omega), ?_⟩
        have s4 : Same H (upd H3 l (.lst (rs.map V.ref ++ [V.ref r]))) := fun b' o hb' => by rw [upd_ne (ne_of_none hb' hl0)]; exact s3 _ _ (s2 _ _ hb')
        refine ⟨_, rfl, _, rfl, r, CT, dx, _, _, rfl, (by rw [upd_ne hrl]; exact hTa), TT.cl, TT.ne, tf_end _ _ _ _, a, b, t.halt_, rfl, s4.seq hS, (by omega), fun q H5 s5 q1 q2 e5 hb5 => ?_⟩
        refine ⟨b.length - q, by omega, q, some (.ref r), rs ++ [r], ts ++ [t], rfl, rfl, ?_, ?_, s4.trans s5, q2, (by rw [List.length_append]; simp; omega), ?_, hb5⟩
        · rw [s5 _ _ upd_same, List.map_append]; rfl
        · refine Paired.snoc ?_ ?_
          · refine L2.Paired.imp' (fun x u z => ?_) hP
            obtain ⟨dz, hz⟩ := z
            have hxl : x ≠ l := ne_of hz hL (by intro z; cases z)
            exact ⟨dz, s5 _ _ (by rw [upd_ne hxl]; exact s3 _ _ hz)⟩
          · exact ⟨dx, s5 _ _ (by rw [upd_ne hrl]; exact hTa)⟩
        · rw [eT, eT1, List.append_assoc, ← e5]
          have et : (b.drop j).drop (t.halt_ - j) = b.drop t.halt_ := by rw [List.drop_drop]; congr 1; omega
          rw [t4, et]
          rfl
      · rw [ht] at eT1
        refine ⟨e, rfl, l, _, _, rs, ts, r, q, rfl, s3 _ _ hL, L2.Paired.imp' (fun x u z => TokAt.same s3 z) hP, ?_, hF, s2.trans s3⟩
        rw [eT, eT1, List.append_nil]
    · have hn : b.length ≤ j := by rw [← iv_len]; exact nlt h1
      rw [List.drop_eq_nil_of_le hn, Tn_nil, List.append_nil] at eT
      refine ⟨_, rfl, mk_sc (fl := none) hL hP rfl fun H' r s' h' => k H' r (s2.trans s') ?_⟩
      rw [eT]; exact h'
  · rintro e σ' H' he ⟨l', pl, tk, rs, ts, r, q, rfl, hL, hP, eT, ⟨dF, lF, f1, f2, f3⟩, s2⟩
    refine ⟨⟨CF, some dF, f1, xf⟩, ?_⟩
    refine ⟨_, rfl, _, rfl, e, CF, dF, _, _, rfl, f1, f2, TF.x, TF.nr, ff_rule _ _ _, _, rfl, e, CF, dF, _, _, rfl, f1, f2, TF.x, TF.np, ff_place _ _ _, (by show 2 ≤ sizeLine; decide), fun t ht => ?_⟩
    have s3 := same_upd (o := .tup [.int (r : Nat), .int (q : Nat)]) ht
    refine mk_sc (fl := some (r, q)) (s3 _ _ hL) (L2.Paired.imp' (fun x u z => TokAt.same s3 z) hP) ⟨t, rfl, upd_same⟩ fun H4 x s4 h4 => k H4 x (s2.trans (s3.trans s4)) ?_
    rw [eT]; exact h4
end
end TG
end
section
set_option Elab.async false
set_option linter.all false
set_option maxRecDepth 100000
set_option maxHeartbeats 2000000
namespace TG
open PySem PySem.Spec PyProof.Rows L2 TW
open EwTree (isSmall isBig isDigit isSeen isWordByte isCodeByte isMarkByte tokenIn itemsIn isBlank)
theorem Tn_len : ∀ (n : Nat) (p : Nat) (b : By), b.length ≤ n → (Tn p b).1.length ≤ b.length := by
  intro n
  induction n with
  | zero =>
    intro p b hb
    have : b = [] := List.eq_nil_of_length_eq_zero (by omega)
    subst this
    rw [Tn_nil]; exact Nat.le_refl _
  | succ n ih =>
    intro p b hb
    cases b with
    | nil => rw [Tn_nil]; exact Nat.le_refl _
    | cons c r =>
      simp only [List.length_cons] at hb ⊢
      cases h1 : isBlank c with
      | true => rw [Tn_blank h1]; have := ih (p + 1) r (by omega); omega
      | false =>
        by_cases h2 : c = 35
        · subst h2
          rw [Tn_hash, List.takeWhile_cons, if_pos (by decide), List.length_cons, List.drop_succ_cons]
          have := ih (p + ((r.takeWhile isSeen).length + 1)) (r.drop (r.takeWhile isSeen).length) (by rw [List.length_drop]; omega)
          rw [List.length_drop] at this
          omega
        · rw [Tn_tok h1 h2]
          cases e : tokenIn p (c :: r) with
          | error z => exact Nat.zero_le _
          | ok x =>
            obtain ⟨u, s⟩ := x
            obtain ⟨q1, q2, q3, q4⟩ := tok_ok e
            have hs : s.length ≤ r.length := by rw [q4, List.length_drop, List.length_cons]; omega
            have := ih u.halt_ s (by omega)
            dsimp only
            rw [List.length_cons]
            omega
/-! ### refusals that fly -/
def Refd (K : PySem.W.Frag) (CR : Addr) (H : Hp) (e : Addr) (ns : List Int) : Prop := ∃ C d l fs, XCls K C ∧ NoAttr K C "numbers" ∧ PySem.W.exmOne K (.ref C) (.ref CR) = some true ∧ H e = some (ExcO e C (some d)) ∧ H d = some (XdO d fs) ∧ fs.lookup ("numbers" : Str) = some (.ref l) ∧ H l = some (.lst (ns.map V.int))
section
variable {P : Program} {w : World} {K : PySem.W.Frag} {mg : Str → Option Value} {base : Heap}
structure TLC (P : Program) (w : World) (K : PySem.W.Frag) (mg : Str → Option Value) (base : Heap) (nm : Str) (C CR : Addr) (ns : List Int) : Prop where
  nw : XNew P w K mg base 2 nm C ["self"] (spTL K ns)
  x : XCls K C
  nn : NoAttr K C "numbers"
  is : PySem.W.exmOne K (.ref C) (.ref CR) = some true
theorem raise_tl {C CR fX : Addr} {nm : Str} {ns : List Int} {H1 : Hp} {R : Addr → Hp → Prop} (T : TLC P w K mg base nm C CR ns) (M : XMk K C fX) (k : ∀ e H', Same H1 H' → Refd K CR H' e ns → R e H') :
    ([] : List V).length ≤ 1000 ∧ ∀ e, H1 e = none → spTL K ns (.ref e :: (([] : List V) ++ [])) (upd H1 e (ExcN e C none)) (fun v H2 => v = .non ∧ ∃ e' C' f' dx, V.ref e = .ref e' ∧ H2 e' = some (ExcN e' C' dx) ∧ XMk K C' f' ∧ R e' (upd H2 e' (ExcO e' C' dx))) E0 := by
  refine ⟨Nat.zero_le _, fun e he => ⟨e, C, rfl, upd_same, T.x, T.nn, fun H' nu fr => ⟨rfl, ?_⟩⟩⟩
  obtain ⟨d, l, hde, hd0, a1, a2, a3⟩ := nu
  have s1 : Same H1 (upd H' e (ExcO e C (some d))) := fun b o hb => by
    have hbe := ne_of_none hb he
    rw [upd_ne hbe]
    exact fr b o (by rw [upd_ne hbe]; exact hb) hbe
  have hle : l ≠ e := ne_of a3 a1 (by intro z; cases z)
  exact ⟨e, C, fX, some d, rfl, a1, M, k e _ s1 ⟨C, d, l, _, T.x, T.nn, T.is, upd_same, by rw [upd_ne hde]; exact a2, rfl, by rw [upd_ne hle]; exact a3⟩⟩
def spRl (K : PySem.W.Frag) (CR : Addr) : Sp := fun vs H Q E => ∃ (a : Addr) (b : By), vs = [.ref a] ∧ SqL K H a (iv b) ∧ (65536 < b.length → ∀ H' e, Same H H' → Refd K CR H' e [-1] → E (.ref e) none H') ∧ (b.length ≤ 65536 → Q .non H)
theorem sc_rl : FnScope ["text"] ["text"] (defScope (top ix_refuse_long)) := ⟨rfl, rfl, rfl, by decide +kernel, rfl, by decide +kernel, by decide +kernel⟩
theorem ok_rl {CR CL : Addr} (d : Def K mg "refuse_long" (top ix_refuse_long) ["text"]) (tl : TLC P w K mg base "TooLong" CL CR [-1]) (ln : mg "len" = none) (gb : GI mg "MOST_BYTES_calls" 65536) : Ok P w K mg base (CX1 P w) 4 "refuse_long" ["text"] (spRl K CR) := d.ok fun f fd F => by
  refine F.okX sc_rl (by rintro vs H Q E ⟨a, b, rfl, _⟩; rfl) (fun cdv A outer s H vs Q E hr h => ?_)
  obtain ⟨a, b, rfl, hS, k1, k3⟩ := h
  obtain ⟨fL, _, ML, _⟩ := id tl.nw.ex
  refine ⟨_, pss_one (ps_if (pt_cmpR op_gt (pe_len ln (pv 0)) (pg_i gb) (nomark _)) (pss_one (ps_raise hr.hd (pe_xn0 tl.nw (hr.mono (by decide))))) pss_nil), ?_⟩
  refine ⟨_, rfl, a, _, rfl, .inl hS, _, _, rfl, rfl, _, rfl, ite2 (fun z => ?_) fun z => ?_⟩
  · have z := of_decide_eq_true z
    rw [iv_len] at z
    exact raise_tl tl ML fun e H' s' h' => k1 (by omega) H' e s' h'
  · have z : ¬ _ := fun y => z (decide_eq_true y)
    rw [iv_len] at z
    exact k3 (by omega)
def spSs (K : PySem.W.Frag) (CS CT CR : Addr) : Sp := fun vs H Q E => ∃ (a : Addr) (b : By), vs = [.ref a] ∧ SqL K H a (iv b) ∧ b.length ≤ 65536 ∧ (100 < EwTree.depth b → ∀ H' e, Same H H' → Refd K CR H' e [-6] → E (.ref e) none H') ∧
  (¬ 100 < EwTree.depth b → ∀ H' r, Same H H' → ScnAt CS CT H' r (Tn 0 b).1 (Tn 0 b).2 → Q (.ref r) H')
theorem sc_ss : FnScope ["text", "scanned"] ["text"] (defScope (top ix_scan_shallow)) := ⟨rfl, rfl, rfl, by decide +kernel, rfl, by decide +kernel, by decide +kernel⟩
theorem ok_ss {CS CT CR CD : Addr} (d : Def K mg "scan_shallow" (top ix_scan_shallow) ["text"]) (TS : ScnC K CS) (os : Ok P w K mg base CX0 9 "scan" ["text"] (spScan K CS CT)) (od : Ok P w K mg base CX0 4 "depth" ["found"] (spDep K CT))
    (td : TLC P w K mg base "TooDeep" CD CR [-6]) (gd : GI mg "MOST_DEPTH" 100) : Ok P w K mg base (CX1 P w) 10 "scan_shallow" ["text"] (spSs K CS CT CR) := d.ok fun f fd F => by
  refine F.okX sc_ss (by rintro vs H Q E ⟨a, b, rfl, _⟩; rfl) (fun cdv A outer s H vs Q E hr h => ?_)
  obtain ⟨a, b, rfl, hS, hl, k2, k3⟩ := h
  obtain ⟨fD, _, MD, _⟩ := id td.nw.ex
  refine ⟨_, pss_cons (ps_set (i := 1) sc_ss.nd rfl (Or.inl rfl) (pe_fn0 os hr (pa_cons (pv 0) pa_nil)))
    (pss_cons (ps_if (pt_cmpR op_gt (pe_fn0 od (hr.mono (by decide)) (pa_cons (pe_fld (pv 1) rfl) pa_nil)) (pg_i gd) (nomark _)) (pss_one (ps_raise hr.hd (pe_xn0 td.nw (hr.mono (by decide))))) pss_nil)
    (pss_one (ps_ret (pv 1)))), ?_⟩
  refine ⟨_, rfl, a, b, rfl, hS, hl, fun H1 r s1 hA => ?_⟩
  obtain ⟨dx, l, fa, rs, a1, a2, a3, a4⟩ := id hA
  have hln := Tn_len b.length 0 b (Nat.le_refl _)
  refine ⟨_, rfl, r, CS, dx, _, _, rfl, a1, TS.cl, TS.nf, sf_found _ _, l, rs, _, rfl, SqL.of a2, a3, good_all b.length 0 b (Nat.le_refl _), by omega, fun H2 s2 => ?_⟩
  have ed : (dRun (Tn 0 b).1).2 = EwTree.depth b := by rw [depth_run]; rfl
  rw [ed]
  refine ⟨_, _, rfl, rfl, _, rfl, ite2 (fun y => ?_) fun y => ?_⟩
  · have y := of_decide_eq_true y
    exact raise_tl td MD fun e H' s' h' => k2 (by omega) H' e (s1.trans (s2.trans s')) h'
  · have y : ¬ _ := fun q => y (decide_eq_true q)
    exact ⟨_, rfl, k3 (by omega) _ r (s1.trans s2) (hA.same s2)⟩
def spSa (K : PySem.W.Frag) (CS CT CR : Addr) : Sp := fun vs H Q E => ∃ (a : Addr) (b : By), vs = [.ref a] ∧ SqL K H a (iv b) ∧
  (65536 < b.length → ∀ H' e, Same H H' → Refd K CR H' e [-1] → E (.ref e) none H') ∧ (b.length ≤ 65536 → 100 < EwTree.depth b → ∀ H' e, Same H H' → Refd K CR H' e [-6] → E (.ref e) none H') ∧
  (b.length ≤ 65536 → ¬ 100 < EwTree.depth b → ∀ H' r, Same H H' → ScnAt CS CT H' r (Tn 0 b).1 (Tn 0 b).2 → Q (.ref r) H')
theorem sc_sa : FnScope ["text"] ["text"] (defScope (top ix_scan_allowed)) := ⟨rfl, rfl, rfl, by decide +kernel, rfl, by decide +kernel, by decide +kernel⟩
theorem ok_sa {CS CT CR : Addr} (d : Def K mg "scan_allowed" (top ix_scan_allowed) ["text"]) (orl : Ok P w K mg base (CX1 P w) 4 "refuse_long" ["text"] (spRl K CR)) (oss : Ok P w K mg base (CX1 P w) 10 "scan_shallow" ["text"] (spSs K CS CT CR)) :
    Ok P w K mg base (CX1 P w) 11 "scan_allowed" ["text"] (spSa K CS CT CR) := d.ok fun f fd F => by
  refine F.okX sc_sa (by rintro vs H Q E ⟨a, b, rfl, _⟩; rfl) (fun cdv A outer s H vs Q E hr h => ?_)
  obtain ⟨a, b, rfl, hS, k1, k2, k3⟩ := h
  refine ⟨_, pss_cons (ps_expr (pe_fnX orl (hr.mono (by decide)) (pa_cons (pv 0) pa_nil))) (pss_one (ps_ret (pe_fnX oss hr (pa_cons (pv 0) pa_nil)))), ?_⟩
  refine ⟨_, rfl, a, b, rfl, hS, fun z H' e s' h' => ⟨e, rfl, k1 z H' e s' h'⟩, fun z => ?_⟩
  exact ⟨_, rfl, a, b, rfl, hS, z, fun y H' e s' h' => ⟨e, rfl, k2 z y H' e s' h'⟩, fun y H' r s' h' => k3 z y H' r s' h'⟩
end
end TG
end
section
set_option Elab.async false
set_option linter.all false
set_option maxRecDepth 100000
set_option maxHeartbeats 2000000
namespace TG
open PySem PySem.Spec PyProof.Rows L2 TW
open EwTree (isSmall isBig isDigit isSeen isWordByte isCodeByte isMarkByte tokenIn itemsIn isBlank)
section
variable {P : Program} {w : World} {K : PySem.W.Frag} {mg : Str → Option Value} {base : Heap}
def spRf (CS CT CF : Addr) : Sp := fun vs H Q E => ∃ (x : Addr) (ts : List EwTree.Tok) (fl : Option EwTree.Fault), vs = [.ref x] ∧ ScnAt CS CT H x ts fl ∧ (fl = none → Q .non H) ∧ (∀ r q, fl = some (r, q) → ∀ H' e, Same H H' → FltO CF H' e r q → E (.ref e) none H')
theorem sc_rf : FnScope ["scanned"] ["scanned"] (defScope (top ix_refuse_fault)) := ⟨rfl, rfl, rfl, by decide +kernel, rfl, by decide +kernel, by decide +kernel⟩
theorem ok_rf {CS CT CF : Addr} (d : Def K mg "refuse_fault" (top ix_refuse_fault) ["scanned"]) (TS : ScnC K CS) (nF : FltW P w K mg base CF) : Ok P w K mg base (CX1 P w) 4 "refuse_fault" ["scanned"] (spRf CS CT CF) := d.ok fun f fd F => by
  refine F.okX sc_rf (by rintro vs H Q E ⟨x, ts, fl, rfl, _⟩; rfl) (fun cdv A outer s H vs Q E hr h => ?_)
  obtain ⟨x, ts, fl, rfl, hA, k1, k2⟩ := h
  obtain ⟨fX, fdX, M, _⟩ := id nF.ex
  obtain ⟨dx, l, fa, rs, a1, a2, a3, a4⟩ := id hA
  refine ⟨_, pss_one (ps_if (pt_cmpR op_notN (pe_fld (pv 0) rfl) pe_non (nomark _)) (pss_one (ps_raise hr.hd (pe_xn nF hr (pa_cons (pe_ix ix_tup (pe_fld (pv 0) rfl) pe_int (fun _ _ => rfl)) (pa_cons (pe_ix ix_tup (pe_fld (pv 0) rfl) pe_int (fun _ _ => rfl)) pa_nil))))) pss_nil), ?_⟩
  refine ⟨_, rfl, x, CS, dx, _, _, rfl, a1, TS.cl, TS.na, sf_fault _ _, rfl, _, rfl, ?_⟩
  cases fl with
  | none =>
    have a4 : fa = .non := a4
    subst a4
    rw [decide_eq_true rfl]
    exact iteF (k1 rfl)
  | some y =>
    obtain ⟨r, q⟩ := y
    obtain ⟨t, e1, e2⟩ := a4
    subst e1
    rw [decide_eq_false (by intro z; cases z)]
    have hT : SqT K H t [V.int (r : Nat), .int (q : Nat)] := SqT.of e2
    refine iteT ⟨_, rfl, x, CS, dx, _, _, rfl, a1, TS.cl, TS.na, sf_fault _ _, t, _, _, _, rfl, rfl, hT, (show atI [V.int (r : Nat), .int (q : Nat)] 0 = some (.int (r : Nat)) from at_of (j := 0) rfl rfl), _, rfl, x, CS, dx, _, _, rfl, a1, TS.cl, TS.na, sf_fault _ _, t, _, _, _, rfl, rfl, hT, (show atI [V.int (r : Nat), .int (q : Nat)] 1 = some (.int (q : Nat)) from at_of (j := 1) rfl rfl), ?_⟩
    exact raise_flt M fun e H' s' h' => k2 r q rfl H' e s' h'
end
end TG
end
section
set_option Elab.async false
set_option linter.all false
set_option maxRecDepth 100000
set_option maxHeartbeats 2000000
namespace TG
open PySem PySem.Spec PyProof.Rows L2 TW
open EwTree (isSmall isBig isDigit isSeen isWordByte isCodeByte isMarkByte tokenIn itemsIn isBlank)
section
variable {P : Program} {w : World} {K : PySem.W.Frag} {mg : Str → Option Value} {base : Heap}
def spToks (K : PySem.W.Frag) : Sp := fun vs H Q _ => ∃ (a : Addr) (b : By), vs = [.ref a] ∧ SqL K H a (iv b) ∧ ∀ H' r, Same H H' → H' r = some (.lst ((due b).map V.int)) → Q (.ref r) H'
theorem sc_toks : FnScope ["text", "scanned", "e", "answer", "token"] ["text"] (defScope (top ix_tokens)) := ⟨rfl, rfl, rfl, by decide +kernel, rfl, by decide +kernel, by decide +kernel⟩
def RT (K : PySem.W.Frag) (CR : Addr) (b : By) (a : Addr) (H0 : Hp) : L2.St → Addr → Hp → Prop := fun σ e H' => ∃ (sc : Option V), σ = [some (.ref a), sc, none, none, none] ∧ Refd K CR H' e (due b) ∧ Same H0 H'
theorem FltO.refd {CF CR : Addr} {H : Hp} {e : Addr} {r p : Nat} (TF : FltC K CF) (is : PySem.W.exmOne K (.ref CF) (.ref CR) = some true) (h : FltO CF H e r p) : Refd K CR H e [-2, (r : Int), (p : Int)] := by
  obtain ⟨d, l, h1, h2, h3⟩ := h
  exact ⟨CF, d, l, _, TF.x, TF.nn, is, h1, h2, ff_numbers _ _ _, h3⟩
theorem flat_take (ts : List EwTree.Tok) (i : Nat) (t : EwTree.Tok) (h : ts[i]? = some t) : (ts.take (i + 1)).flatMap row3 = (ts.take i).flatMap row3 ++ row3 t := by
  rw [take_snoc h, List.flatMap_append]
  simp
theorem flat_len (ts : List EwTree.Tok) : (ts.flatMap row3).length = 3 * ts.length := by
  induction ts with
  | nil => rfl
  | cons t ts ih => rw [List.flatMap_cons, List.length_append, ih, List.length_cons]; show 3 + 3 * ts.length = _; omega
theorem fn_toks {CS CT CF CR f : Addr} {fd : FuncData} (F : Fun K "tokens" "tokens" (top ix_tokens) f fd) (TS : ScnC K CS) (TT : TokC K CT) (TF : FltC K CF) (osa : Ok P w K mg base (CX1 P w) 11 "scan_allowed" ["text"] (spSa K CS CT CR))
    (orf : Ok P w K mg base (CX1 P w) 4 "refuse_fault" ["scanned"] (spRf CS CT CF)) (ln : mg "len" = none) (mr : mg "Refused" = some (.ref CR)) (is : PySem.W.exmOne K (.ref CF) (.ref CR) = some true) :
    FnOk P w K mg base CX0 12 f fd ["text"] (spToks K) := by
  refine F.ok0 sc_toks (by rintro vs H Q E ⟨a, b, rfl, _⟩; rfl) (fun cdv A outer s H vs Q E hr h => ?_)
  obtain ⟨a, b, rfl, hS, k⟩ := h
  have hs : ∀ e, PSs (sx (cxOf CX0 P w K mg base ["text", "scanned", "e", "answer", "token"] "tokens" (defScope (top ix_tokens)) f cdv A outer s H E).nox e) (trySuite ((defBody (top ix_tokens)).getD 0 (.Pass ⟨0, 0, 0, 0⟩)))
      (tRet (tXget K (tVar 2) "numbers")) := fun e => pss_one (ps_ret (pe_xget (pv 2) rfl))
  refine ⟨_, pss0_cons (ps0_try (i := 2) (R := RT K CR b a H) ⟨rfl, rfl, rfl⟩
      (pss_cons (ps_set (i := 1) sc_toks.nd rfl (Or.inl rfl) (pe_fnX osa hr (pa_cons (pv 0) pa_nil)))
       (pss_one (ps_expr (pe_fnX orf (hr.mono (by decide)) (pa_cons (pv 1) pa_nil)))))
      hs sc_toks.nd rfl rfl rfl mr)
    (PSs.to0 (pss_cons (ps_set (i := 3) sc_toks.nd rfl (Or.inl rfl) (pe_lst (pa_cons pe_int (pa_cons (pe_len ln (pe_fld (pv 1) rfl)) pa_nil))))
      (pss_cons (ps_for PassesOwn.never rfl (pi_list (pe_fld (pv 1) rfl)) (pg_name (i := 4) sc_toks.nd rfl (Or.inl rfl))
        (pss_one (ps_expr (pe_bm PySem.F.plainAttrs_list PySem.F.slot_list_extend PySem.F.type_list_extend mt_extend (pv 3) (pa_cons (pe_lst (pa_cons (pe_fld (pv 4) rfl) (pa_cons (pe_fld (pv 4) rfl) (pa_cons (pe_fld (pv 4) rfl) pa_nil)))) pa_nil)))))
      (pss_one (ps_ret (pv 3)))))), ?_⟩
  refine ⟨?_, ?_⟩
  · refine ⟨_, rfl, a, b, rfl, hS, fun h1 H1 e s1 hR => ⟨e, rfl, _, rfl, ?_, s1⟩, fun h1 h2 H1 e s1 hR => ⟨e, rfl, _, rfl, ?_, s1⟩, fun h1 h2 H1 r s1 hA => ?_⟩
    · unfold due; rw [if_pos h1]; exact hR
    · unfold due; rw [if_neg (by omega), if_pos h2]; exact hR
    have hln := Tn_len b.length 0 b (Nat.le_refl _)
    refine ⟨_, rfl, r, _, _, rfl, hA, fun h3 => ?_, fun x q h3 H2 e s2 hF => ⟨e, rfl, _, rfl, ?_, s1.trans s2⟩⟩
    · obtain ⟨dx, l, fa, rs, a1, a2, a3, a4⟩ := id hA
      have hlr : rs.length = (Tn 0 b).1.length := Paired.length a3
      refine ⟨_, rfl, r, CS, dx, _, _, rfl, a1, TS.cl, TS.nf, sf_found _ _, l, _, rfl, .inl (SqL.of a2), (by show 2 ≤ sizeLine; decide), fun p hp => ?_⟩
      have hdue : due b = 0 :: ((Tn 0 b).1.length : Int) :: (Tn 0 b).1.flatMap row3 := by
        unfold due
        rw [if_neg (by omega), if_neg h2, tokens_Tn]
        generalize Tn 0 b = z at h3
        obtain ⟨z1, z2⟩ := z
        dsimp only at h3
        subst h3
        rfl
      have s2 := same_upd (o := .lst [V.int 0, .int ((rs.map V.ref).length : Nat)]) hp
      refine ⟨_, rfl, r, CS, dx, _, _, rfl, s2 _ _ a1, TS.cl, TS.nf, sf_found _ _, l, rfl, ⟨_, SqL.of (s2 _ _ a2)⟩, for_list (K := K) (a := l) (xs := rs.map V.ref) (fun i σ H' => ∃ v4 : Option V, σ = [some (.ref a), some (.ref r), none, some (.ref p), v4] ∧
        H' p = some (.lst ((0 :: ((Tn 0 b).1.length : Int) :: ((Tn 0 b).1.take i).flatMap row3).map V.int)) ∧ Same H1 H')
        ⟨none, rfl, ?_, s2⟩ (fun i σ H' _ ⟨_, _, _, s3⟩ => SqL.of (s3 _ _ a2)) ?_ ?_⟩
      · rw [upd_same, List.length_map, hlr]; rfl
      · rintro i y σ H3 hi ⟨v4, rfl, hp3, s3⟩
        obtain ⟨x, hx, rfl⟩ : ∃ x, rs[i]? = some x ∧ y = V.ref x := by
          rw [List.getElem?_map] at hi
          cases e : rs[i]? with
          | none => rw [e] at hi; cases hi
          | some z => rw [e] at hi; exact ⟨z, rfl, (Option.some.inj hi).symm⟩
        obtain ⟨t, ht, dt, hat⟩ := paired_get a3 hx
        have hil : i < (Tn 0 b).1.length := (List.getElem?_eq_some_iff.mp ht).1
        have hat3 := s3 _ _ hat
        have hsz : sizeLine = 16777216 := sizeLine_eq
        refine ⟨_, rfl, .inl ⟨rfl, _, SqL.of hp3⟩, _, rfl, x, CT, dt, _, _, rfl, hat3, TT.cl, TT.nk, tf_kind _ _ _ _, _, rfl, x, CT, dt, _, _, rfl, hat3, TT.cl, TT.ns, tf_start _ _ _ _, _, rfl, x, CT, dt, _, _, rfl, hat3, TT.cl, TT.ne, tf_end _ _ _ _, (by show 3 ≤ sizeLine; decide), fun n hn => ?_⟩
        have hpn : p ≠ n := ne_of_none hp3 hn
        refine ⟨p, n, _, _, rfl, rfl, (by rw [upd_ne hpn]; exact hp3), upd_same, ?_, ?_⟩
        · rw [List.length_map, hsz]
          simp only [List.length_cons, List.length_nil, flat_len, List.length_take]
          omega
        · refine ⟨some (.ref x), rfl, ?_, fun b' o hb' => ?_⟩
          · rw [upd_same, flat_take _ _ _ ht, ← List.cons_append, ← List.cons_append, List.map_append]
            rfl
          · have h4 : b' ≠ p := fun z => by rw [z, hp] at hb'; cases hb'
            have h5 : b' ≠ n := ne_of_none (s3 _ _ hb') hn
            rw [upd_ne h4, upd_ne h5]; exact s3 _ _ hb'
      · rintro σ H3 ⟨v4, rfl, hp3, s3⟩
        refine ⟨_, rfl, k H3 p (s1.trans s3) ?_⟩
        rw [hp3, hdue, List.length_map, hlr, List.take_length]
    · have hR := FltO.refd (CR := CR) TF is hF
      unfold due
      rw [if_neg (by omega), if_neg h2, tokens_Tn]
      generalize Tn 0 b = z at h3
      obtain ⟨z1, z2⟩ := z
      dsimp only at h3
      subst h3
      exact hR
  · rintro e σ' H' he ⟨sc, rfl, ⟨C, dF, l, fs, x1, x2, x3, x4, x5, x6, x7⟩, s2⟩
    exact ⟨⟨C, some dF, x4, x3⟩, _, rfl, e, C, dF, _, _, rfl, x4, x5, x1, x2, x6, k H' l s2 x7⟩
end
end TG
end
section
set_option Elab.async false
set_option linter.all false
set_option maxRecDepth 100000
set_option maxHeartbeats 2000000
namespace TG
open PySem PySem.Spec PyProof.Rows L2 TW
section
variable {K : PySem.W.Frag} {h : Heap} {mg : Str → Option Value} {nm qual m : Str} {st : Stmt} {f C a : Addr} {oc kV doc pm cdv ct : Value} {od an : Option Addr} {osl : Array (Option Value)} {i : Int} {x : Str} {t : PySem.Tok}
/-- a def of the module, as the top left it -/
def DefK (K : PySem.W.Frag) (nm : Str) (st : Stmt) : Prop := ∃ f fd, PySem.W.nsIn K mainGlobals nm = some (some (.ref f)) ∧ Fun K nm nm st f fd
theorem defk (b : PySem.W.nsIn K mainGlobals nm = some (some (.ref f))) (l : K.lookup f = some ⟨oc, od, .func (PySem.W.fnOf nm nm (defArgs st) (defBody st) (defScope st) .none kV doc pm an cdv ct), osl⟩)
    (c : PySem.W.codeIn K cdv nm = true) (k : PySem.W.keepIn K (.ref f) = true) : DefK K nm st := ⟨f, _, b, fun_mk (st := st) l c k⟩
def Pars (st : Stmt) (nm qual : Str) (ps : List Str) : Prop := ∀ (kV doc pm : Value) (an : Option Addr) (cdv ct : Value) (us : List Value), us.length = ps.length → bindArgs (PySem.W.fnOf nm qual (defArgs st) (defBody st) (defScope st) .none kV doc pm an cdv ct) ⟨us, []⟩ = pure (ps.zip us)
theorem DefK.def {ps : List Str} (d : DefK K nm st) (X : K.In h) (G : h.Ns mainGlobals mg) (p : Pars st nm nm ps) : Def K mg nm st ps := by
  obtain ⟨f, fd, b, F⟩ := d
  exact ⟨f, fd, F, F.binds p, PySem.W.mg_of X G b⟩
def IntK (K : PySem.W.Frag) (nm : Str) (i : Int) : Prop := ∃ t, PySem.W.nsIn K mainGlobals nm = some (some (.int i t))
theorem intk (b : PySem.W.nsIn K mainGlobals nm = some (some (.int i t))) : IntK K nm i := ⟨t, b⟩
theorem IntK.gi (d : IntK K nm i) (X : K.In h) (G : h.Ns mainGlobals mg) : GI mg nm i := by
  obtain ⟨t, b⟩ := d
  exact ⟨t, PySem.W.mg_of X G b⟩
def StrK (K : PySem.W.Frag) (nm : Str) (x : Str) : Prop := ∃ t, PySem.W.nsIn K mainGlobals nm = some (some (.str x t))
theorem strk (b : PySem.W.nsIn K mainGlobals nm = some (some (.str x t))) : StrK K nm x := ⟨t, b⟩
theorem StrK.gs (d : StrK K nm x) (X : K.In h) (G : h.Ns mainGlobals mg) : GS mg nm x := by
  obtain ⟨t, b⟩ := d
  exact ⟨t, PySem.W.mg_of X G b⟩
def TupK (K : PySem.W.Frag) (nm : Str) (l : List V) : Prop := ∃ a, PySem.W.nsIn K mainGlobals nm = some (some (.ref a)) ∧ ∀ H, SqT K H a l
theorem tupk {l : List V} {its : Array Value} {n : Nat} {sl : Array (Option Value)} {dd : Option Addr} (b : PySem.W.nsIn K mainGlobals nm = some (some (.ref a))) (e : K.lookup a = some ⟨.type "tuple", dd, .seq its n, sl⟩) (z : its.size ≤ sizeLine) (v : Vals l its.toList) : TupK K nm l :=
  ⟨a, b, fun H => .inr ⟨_, its, n, e, rfl, rfl, z, v⟩⟩
theorem TupK.gt {l : List V} (d : TupK K nm l) (X : K.In h) (G : h.Ns mainGlobals mg) : GT K mg nm l := by
  obtain ⟨a, b, q⟩ := d
  exact ⟨a, PySem.W.mg_of X G b, q⟩
def DicS (K : PySem.W.Frag) (P : Params) (nm : Str) (l : List Str) : Prop := ∃ a, PySem.W.nsIn K mainGlobals nm = some (some (.ref a)) ∧ KDS K P a l
theorem dics {P : Params} {l : List Str} {es : Array DictEntry} {n : Nat} (b : PySem.W.nsIn K mainGlobals nm = some (some (.ref a))) (e : K.lookup a = some ⟨.type "dict", none, .dict es n, #[]⟩) (k : KeysS P es.toList l) (s : (a == sysModules) = false) : DicS K P nm l := ⟨a, b, es, n, e, k, s⟩
theorem DicS.gd {P : Params} {l : List Str} (d : DicS K P nm l) (X : K.In h) (G : h.Ns mainGlobals mg) : GD K P mg nm l := by
  obtain ⟨a, b, q⟩ := d
  exact ⟨a, PySem.W.mg_of X G b, q⟩
def DicI (K : PySem.W.Frag) (nm : Str) (l : List (Int × Str)) : Prop := ∃ a, PySem.W.nsIn K mainGlobals nm = some (some (.ref a)) ∧ KDI K a l
theorem dici {l : List (Int × Str)} {es : Array DictEntry} {n : Nat} (b : PySem.W.nsIn K mainGlobals nm = some (some (.ref a))) (e : K.lookup a = some ⟨.type "dict", none, .dict es n, #[]⟩) (k : KeysI es.toList l) (s : (a == sysModules) = false) : DicI K nm l := ⟨a, b, es, n, e, k, s⟩
theorem DicI.gd {l : List (Int × Str)} (d : DicI K nm l) (X : K.In h) (G : h.Ns mainGlobals mg) : GDN K mg nm l := by
  obtain ⟨a, b, q⟩ := d
  exact ⟨a, PySem.W.mg_of X G b, q⟩
theorem keysS_app {P : Params} : ∀ {es fs : List DictEntry} {l l' : List Str}, KeysS P es l → KeysS P fs l' → KeysS P (es ++ fs) (l ++ l')
  | [], _, [], _, _, h => h
  | _ :: _, _, _ :: _, _, ⟨h1, h2, r⟩, h => ⟨h1, h2, keysS_app r h⟩
/-- a plain class of the module -/
def ClsK (K : PySem.W.Frag) (nm qual : Str) (st : Stmt) (C : Addr) : Prop := PySem.W.nsIn K mainGlobals nm = some (some (.ref C)) ∧ Cls K C ∧ ∃ f fd, Mk K C f ∧ Fun K "__init__" qual st f fd
theorem clsk (b : PySem.W.nsIn K mainGlobals nm = some (some (.ref C))) (pg : PySem.W.plainGet K C Str.empty = true) (hd : PySem.W.hasDictIn K C = true) (po : PySem.W.plainOver K C = true) (sa : PySem.W.findIn K (.ref C) "__setattr__" = some (some (.builtin "object.__setattr__")))
    (mk : PySem.W.makesIn K C = true) (kc : PySem.W.keepIn K (.ref C) = true) (b1 : PySem.W.findIn K (.ref C) "__init__" = some (some (.ref f))) (i1 : PySem.W.isFn K (.ref f) = true)
    (l : K.lookup f = some ⟨oc, od, .func (PySem.W.fnOf "__init__" qual (defArgs st) (defBody st) (defScope st) .none kV doc pm an cdv ct), osl⟩) (c : PySem.W.codeIn K cdv qual = true) (k : PySem.W.keepIn K (.ref f) = true) : ClsK K nm qual st C :=
  ⟨b, ⟨pg, hd, po, sa⟩, f, _, ⟨mk, b1, i1, kc⟩, fun_mk (st := st) l c k⟩
theorem ClsK.cdef {ps : List Str} (d : ClsK K nm qual st C) (X : K.In h) (G : h.Ns mainGlobals mg) (p : Pars st "__init__" qual ps) : CDef K mg nm qual st C ps := by
  obtain ⟨b, _, f, fd, M, F⟩ := d
  exact ⟨f, fd, M, F, F.binds p, PySem.W.mg_of X G b⟩
theorem methk (b1 : PySem.W.findIn K (.ref C) m = some (some (.ref f))) (i1 : PySem.W.isFn K (.ref f) = true)
    (l : K.lookup f = some ⟨oc, od, .func (PySem.W.fnOf m qual (defArgs st) (defBody st) (defScope st) .none kV doc pm an cdv ct), osl⟩) (c : PySem.W.codeIn K cdv qual = true) (k : PySem.W.keepIn K (.ref f) = true) : ∃ f fd, Meth K C m f ∧ Fun K m qual st f fd :=
  ⟨f, _, ⟨b1, i1, k⟩, fun_mk (st := st) l c k⟩
/-- a class of exceptions of the module -/
def ExcK (K : PySem.W.Frag) (nm qual : Str) (st : Stmt) (C : Addr) : Prop := PySem.W.nsIn K mainGlobals nm = some (some (.ref C)) ∧ XCls K C ∧ ∃ f fd, XMk K C f ∧ Fun K "__init__" qual st f fd
theorem exck {nm' q : Str} {N : Addr} {bs bm : List Value} {hdct : Bool} {sn : List Str} {sub : List Value} {ab : Bool} {col : Option Bool} {dd : Option Addr} {k0 k1 k2 k3 k5 : Option Value}
    (b : PySem.W.nsIn K mainGlobals nm = some (some (.ref C))) (sa : PySem.W.findIn K (.ref C) "__setattr__" = some (some (.builtin "object.__setattr__"))) {cd0 : ClassData} (po : PySem.W.clsIn K C = some cd0) (po2 : XM.excLine cd0.mro = true) (hd : PySem.W.hasDictIn K C = true)
    (ga : PySem.W.findIn K (.ref C) "__getattribute__" = some (some (.builtin "BaseException.__getattribute__"))) (gt : PySem.W.findIn K (.ref C) "__getattr__" = some none) (su : PySem.W.mroIn K C (.type "BaseException") = some true)
    (lc : K.lookup C = some (excClassObj nm' q C N bs bm hdct sn sub ab col dd k0 k1 k2 k3 k5 "Exception.__new__")) (ln : XM.Line "Exception" bm) (b1 : PySem.W.findIn K (.ref C) "__init__" = some (some (.ref f))) (i1 : PySem.W.isFn K (.ref f) = true) (kc : PySem.W.keepIn K (.ref C) = true)
    (l : K.lookup f = some ⟨oc, od, .func (PySem.W.fnOf "__init__" qual (defArgs st) (defBody st) (defScope st) .none kV doc pm an cdv ct), osl⟩) (c : PySem.W.codeIn K cdv qual = true) (k : PySem.W.keepIn K (.ref f) = true) : ExcK K nm qual st C :=
  ⟨b, ⟨sa, ⟨cd0, po, po2⟩, hd, ga, gt, su⟩, f, _, ⟨⟨_, _, _, _, _, _, _, _, _, _, _, _, _, _, _, _, lc, ln⟩, b1, i1, kc⟩, fun_mk (st := st) l c k⟩
/-- .. whose __init__ is called by the class's name -/
def RefK (K : PySem.W.Frag) (C : Addr) : Prop := PySem.W.nsIn K mainGlobals "Refused" = some (some (.ref C)) ∧ ∃ f fd, CMeth K C "__init__" f ∧ Fun K "__init__" "Refused.__init__" sRefI f fd
theorem refk (b : PySem.W.nsIn K mainGlobals "Refused" = some (some (.ref C))) (sp : PySem.W.specialIn K (.ref C) "__getattribute__" = some (some (.builtin "type.__getattribute__"))) (rd : PySem.W.readsIn K C (.type "type") = true)
    (at_ : PySem.W.findCls K (.ref C) (.type "type") "__init__" = some (.val (.ref f))) (l : K.lookup f = some ⟨oc, od, .func (PySem.W.fnOf "__init__" "Refused.__init__" (defArgs sRefI) (defBody sRefI) (defScope sRefI) .none kV doc pm an cdv ct), osl⟩)
    (c : PySem.W.codeIn K cdv "Refused.__init__" = true) (k : PySem.W.keepIn K (.ref f) = true) : RefK K C := ⟨b, f, _, ⟨sp, rd, at_, k⟩, fun_mk (st := sRefI) l c k⟩
end
end TG
end
section
set_option Elab.async false
set_option linter.all false
set_option maxRecDepth 100000
set_option maxHeartbeats 2000000
namespace TG
open PySem PySem.Spec PyProof.Rows L2 TW
/-- what the module's top has written -/
structure Facts (K : PySem.W.Frag) (P : Params) (CT CN CS CR CL CD CF : Addr) : Prop where
  d_is_small : DefK K "is_small" (top 10)
  d_is_capital : DefK K "is_capital" (top 11)
  d_is_digit : DefK K "is_digit" (top 12)
  d_is_printable : DefK K "is_printable" (top 13)
  d_in_word : DefK K "in_word" (top 14)
  d_in_code : DefK K "in_code" (top 15)
  d_in_mark : DefK K "in_mark" (top 16)
  d_byte_at : DefK K "byte_at" (top 17)
  d_run_end : DefK K "run_end" (top 18)
  d_growth_by_clearing : DefK K "growth_by_clearing" (top 8)
  d_growth_by_closing : DefK K "growth_by_closing" (top 7)
  d_growth : DefK K "growth" (top 6)
  d_depth : DefK K "depth" (top 5)
  d_end_of_fraction : DefK K "end_of_fraction" (top 31)
  d_end_of_exponent : DefK K "end_of_exponent" (top 32)
  d_numeral_at : DefK K "numeral_at" (top 30)
  d_mark_is_right : DefK K "mark_is_right" (top 34)
  d_packed_is_right : DefK K "packed_is_right" (top 35)
  d_exponent_is_right : DefK K "exponent_is_right" (top 36)
  d_is_right : DefK K "is_right" (top 33)
  d_spelled : DefK K "spelled" (top 70)
  d_word_at : DefK K "word_at" (top 69)
  d_code_at : DefK K "code_at" (top 71)
  d_number_at : DefK K "number_at" (top 72)
  d_item_end : DefK K "item_end" (top 74)
  d_text_at : DefK K "text_at" (top 73)
  d_sign_at : DefK K "sign_at" (top 75)
  d_token_at : DefK K "token_at" (top 68)
  d_token_place : DefK K "token_place" (top 67)
  d_scan : DefK K "scan" (top 66)
  d_scan_allowed : DefK K "scan_allowed" (top 80)
  d_refuse_long : DefK K "refuse_long" (top 81)
  d_scan_shallow : DefK K "scan_shallow" (top 82)
  d_refuse_fault : DefK K "refuse_fault" (top 83)
  d_tokens : DefK K "tokens" (top 79)
  i_POINT : IntK K "POINT" 46
  i_SMALL_E : IntK K "SMALL_E" 101
  i_MINUS : IntK K "MINUS" 45
  i_ZERO : IntK K "ZERO" 48
  i_MOST_PACKED_DIGITS : IntK K "MOST_PACKED_DIGITS" 31
  i_MOST_EXPONENT_DIGITS : IntK K "MOST_EXPONENT_DIGITS" 5
  i_MOST_BYTES_numerals : IntK K "MOST_BYTES_numerals" 255
  i_PACKED : IntK K "PACKED" 112
  i_KEYWORD : IntK K "KEYWORD" 0
  i_NAME : IntK K "NAME" 1
  i_CODE : IntK K "CODE" 2
  i_NUMBER : IntK K "NUMBER" 3
  i_TEXT : IntK K "TEXT" 4
  i_SIGN : IntK K "SIGN" 5
  i_MOST_NAME_BYTES : IntK K "MOST_NAME_BYTES" 31
  i_LEAST_CODE_BYTES : IntK K "LEAST_CODE_BYTES" 2
  i_MOST_CODE_BYTES : IntK K "MOST_CODE_BYTES" 8
  i_MOST_ITEMS : IntK K "MOST_ITEMS" 1024
  i_LINE_END : IntK K "LINE_END" 10
  i_BLANK : IntK K "BLANK" 32
  i_QUOTE : IntK K "QUOTE" 34
  i_HASH : IntK K "HASH" 35
  i_SEMICOLON : IntK K "SEMICOLON" 59
  i_BACKSLASH : IntK K "BACKSLASH" 92
  i_SMALL_N : IntK K "SMALL_N" 110
  i_MOST_BYTES_calls : IntK K "MOST_BYTES_calls" 65536
  i_MOST_DEPTH : IntK K "MOST_DEPTH" 100
  n_len : PySem.W.nsIn K mainGlobals "len" = some none
  n_max : PySem.W.nsIn K mainGlobals "max" = some none
  n_all : PySem.W.nsIn K mainGlobals "all" = some none
  s_LETTERS : StrK K "LETTERS" LTR
  t_OPENING : TupK K "OPENING" (OPENS.map V.str)
  t_CLOSING : TupK K "CLOSING" (CLOSES.map V.str)
  t_MARKS : TupK K "MARKS" (MKI.map V.int)
  k_RISING : DicS K P "RISING" RISES
  k_CLEARING : DicS K P "CLEARING" CLEARS
  k_KEYWORDS : DicS K P "KEYWORDS" KEYS
  k_ONE : DicI K "SIGNS_OF_ONE" ONE
  k_TWO : DicI K "SIGNS_OF_TWO" TWO
  c_Token : ClsK K "Token" "Token.__init__" sTokI CT
  c_Numeral : ClsK K "Numeral" "Numeral.__init__" sNumI CN
  c_Scanned : ClsK K "Scanned" "Scanned.__init__" sScI CS
  m_size : ∃ f fd, Meth K CN "size" f ∧ Fun K "size" "Numeral.size" sNumS f fd
  aCT_kind : NoAttr K CT "kind"
  aCT_look : NoAttr K CT "look"
  aCT_start : NoAttr K CT "start"
  aCT_end : NoAttr K CT "end"
  aCN_digits : NoAttr K CN "digits"
  aCN_fraction : NoAttr K CN "fraction"
  aCN_exponent : NoAttr K CN "exponent"
  aCN_mark : NoAttr K CN "mark"
  aCS_found : NoAttr K CS "found"
  aCS_fault : NoAttr K CS "fault"
  x_Refused : RefK K CR
  x_TooLong : ExcK K "TooLong" "TooLong.__init__" sTlI CL
  x_TooDeep : ExcK K "TooDeep" "TooDeep.__init__" sTdI CD
  x_Fault : ExcK K "Fault" "Fault.__init__" sFltI CF
  aCL_numbers : NoAttr K CL "numbers"
  aCD_numbers : NoAttr K CD "numbers"
  aCF_numbers : NoAttr K CF "numbers"
  aCF_rule : NoAttr K CF "rule"
  aCF_place : NoAttr K CF "place"
  eCL : PySem.W.exmOne K (.ref CL) (.ref CR) = some true
  eCD : PySem.W.exmOne K (.ref CD) (.ref CR) = some true
  eCF : PySem.W.exmOne K (.ref CF) (.ref CR) = some true
  eCFF : PySem.W.exmOne K (.ref CF) (.ref CF) = some true
section
variable {P : Program} {w : World} {K : PySem.W.Frag} {mg : Str → Option Value} {base h : Heap} {CT CN CS CR CL CD CF : Addr}
theorem all_of (T : Facts K w.params CT CN CS CR CL CD CF) (X : K.In h) (G : h.Ns mainGlobals mg) {f : Addr} {fd : FuncData} (F : Fun K "tokens" "tokens" (top 79) f fd) : FnOk P w K mg base CX0 12 f fd ["text"] (spToks K) := by
  have d_is_small : Def K mg "is_small" (top 10) ["byte"] := T.d_is_small.def X G (fun _ _ _ _ _ _ us hl => match us, hl with | [_], _ => rfl)
  have d_is_capital : Def K mg "is_capital" (top 11) ["byte"] := T.d_is_capital.def X G (fun _ _ _ _ _ _ us hl => match us, hl with | [_], _ => rfl)
  have d_is_digit : Def K mg "is_digit" (top 12) ["byte"] := T.d_is_digit.def X G (fun _ _ _ _ _ _ us hl => match us, hl with | [_], _ => rfl)
  have d_is_printable : Def K mg "is_printable" (top 13) ["byte"] := T.d_is_printable.def X G (fun _ _ _ _ _ _ us hl => match us, hl with | [_], _ => rfl)
  have d_in_word : Def K mg "in_word" (top 14) ["byte"] := T.d_in_word.def X G (fun _ _ _ _ _ _ us hl => match us, hl with | [_], _ => rfl)
  have d_in_code : Def K mg "in_code" (top 15) ["byte"] := T.d_in_code.def X G (fun _ _ _ _ _ _ us hl => match us, hl with | [_], _ => rfl)
  have d_in_mark : Def K mg "in_mark" (top 16) ["byte"] := T.d_in_mark.def X G (fun _ _ _ _ _ _ us hl => match us, hl with | [_], _ => rfl)
  have d_byte_at : Def K mg "byte_at" (top 17) ["text", "place"] := T.d_byte_at.def X G (fun _ _ _ _ _ _ us hl => match us, hl with | [_, _], _ => rfl)
  have d_run_end : Def K mg "run_end" (top 18) ["text", "place", "fits"] := T.d_run_end.def X G (fun _ _ _ _ _ _ us hl => match us, hl with | [_, _, _], _ => rfl)
  have d_growth_by_clearing : Def K mg "growth_by_clearing" (top 8) ["numbers"] := T.d_growth_by_clearing.def X G (fun _ _ _ _ _ _ us hl => match us, hl with | [_], _ => rfl)
  have d_growth_by_closing : Def K mg "growth_by_closing" (top 7) ["numbers", "look"] := T.d_growth_by_closing.def X G (fun _ _ _ _ _ _ us hl => match us, hl with | [_, _], _ => rfl)
  have d_growth : Def K mg "growth" (top 6) ["numbers", "look"] := T.d_growth.def X G (fun _ _ _ _ _ _ us hl => match us, hl with | [_, _], _ => rfl)
  have d_depth : Def K mg "depth" (top 5) ["found"] := T.d_depth.def X G (fun _ _ _ _ _ _ us hl => match us, hl with | [_], _ => rfl)
  have d_end_of_fraction : Def K mg "end_of_fraction" (top 31) ["text", "place"] := T.d_end_of_fraction.def X G (fun _ _ _ _ _ _ us hl => match us, hl with | [_, _], _ => rfl)
  have d_end_of_exponent : Def K mg "end_of_exponent" (top 32) ["text", "place"] := T.d_end_of_exponent.def X G (fun _ _ _ _ _ _ us hl => match us, hl with | [_, _], _ => rfl)
  have d_numeral_at : Def K mg "numeral_at" (top 30) ["text", "place"] := T.d_numeral_at.def X G (fun _ _ _ _ _ _ us hl => match us, hl with | [_, _], _ => rfl)
  have d_mark_is_right : Def K mg "mark_is_right" (top 34) ["mark"] := T.d_mark_is_right.def X G (fun _ _ _ _ _ _ us hl => match us, hl with | [_], _ => rfl)
  have d_packed_is_right : Def K mg "packed_is_right" (top 35) ["numeral"] := T.d_packed_is_right.def X G (fun _ _ _ _ _ _ us hl => match us, hl with | [_], _ => rfl)
  have d_exponent_is_right : Def K mg "exponent_is_right" (top 36) ["exponent"] := T.d_exponent_is_right.def X G (fun _ _ _ _ _ _ us hl => match us, hl with | [_], _ => rfl)
  have d_is_right : Def K mg "is_right" (top 33) ["numeral"] := T.d_is_right.def X G (fun _ _ _ _ _ _ us hl => match us, hl with | [_], _ => rfl)
  have d_spelled : Def K mg "spelled" (top 70) ["word"] := T.d_spelled.def X G (fun _ _ _ _ _ _ us hl => match us, hl with | [_], _ => rfl)
  have d_word_at : Def K mg "word_at" (top 69) ["text", "place"] := T.d_word_at.def X G (fun _ _ _ _ _ _ us hl => match us, hl with | [_, _], _ => rfl)
  have d_code_at : Def K mg "code_at" (top 71) ["text", "place"] := T.d_code_at.def X G (fun _ _ _ _ _ _ us hl => match us, hl with | [_, _], _ => rfl)
  have d_number_at : Def K mg "number_at" (top 72) ["text", "place"] := T.d_number_at.def X G (fun _ _ _ _ _ _ us hl => match us, hl with | [_, _], _ => rfl)
  have d_item_end : Def K mg "item_end" (top 74) ["text", "place"] := T.d_item_end.def X G (fun _ _ _ _ _ _ us hl => match us, hl with | [_, _], _ => rfl)
  have d_text_at : Def K mg "text_at" (top 73) ["text", "place"] := T.d_text_at.def X G (fun _ _ _ _ _ _ us hl => match us, hl with | [_, _], _ => rfl)
  have d_sign_at : Def K mg "sign_at" (top 75) ["text", "place"] := T.d_sign_at.def X G (fun _ _ _ _ _ _ us hl => match us, hl with | [_, _], _ => rfl)
  have d_token_at : Def K mg "token_at" (top 68) ["text", "place"] := T.d_token_at.def X G (fun _ _ _ _ _ _ us hl => match us, hl with | [_, _], _ => rfl)
  have d_token_place : Def K mg "token_place" (top 67) ["text", "place"] := T.d_token_place.def X G (fun _ _ _ _ _ _ us hl => match us, hl with | [_, _], _ => rfl)
  have d_scan : Def K mg "scan" (top 66) ["text"] := T.d_scan.def X G (fun _ _ _ _ _ _ us hl => match us, hl with | [_], _ => rfl)
  have d_scan_allowed : Def K mg "scan_allowed" (top 80) ["text"] := T.d_scan_allowed.def X G (fun _ _ _ _ _ _ us hl => match us, hl with | [_], _ => rfl)
  have d_refuse_long : Def K mg "refuse_long" (top 81) ["text"] := T.d_refuse_long.def X G (fun _ _ _ _ _ _ us hl => match us, hl with | [_], _ => rfl)
  have d_scan_shallow : Def K mg "scan_shallow" (top 82) ["text"] := T.d_scan_shallow.def X G (fun _ _ _ _ _ _ us hl => match us, hl with | [_], _ => rfl)
  have d_refuse_fault : Def K mg "refuse_fault" (top 83) ["scanned"] := T.d_refuse_fault.def X G (fun _ _ _ _ _ _ us hl => match us, hl with | [_], _ => rfl)
  have d_tokens : Def K mg "tokens" (top 79) ["text"] := T.d_tokens.def X G (fun _ _ _ _ _ _ us hl => match us, hl with | [_], _ => rfl)
  have i_POINT := T.i_POINT.gi X G
  have i_SMALL_E := T.i_SMALL_E.gi X G
  have i_MINUS := T.i_MINUS.gi X G
  have i_ZERO := T.i_ZERO.gi X G
  have i_MOST_PACKED_DIGITS := T.i_MOST_PACKED_DIGITS.gi X G
  have i_MOST_EXPONENT_DIGITS := T.i_MOST_EXPONENT_DIGITS.gi X G
  have i_MOST_BYTES_numerals := T.i_MOST_BYTES_numerals.gi X G
  have i_PACKED := T.i_PACKED.gi X G
  have i_KEYWORD := T.i_KEYWORD.gi X G
  have i_NAME := T.i_NAME.gi X G
  have i_CODE := T.i_CODE.gi X G
  have i_NUMBER := T.i_NUMBER.gi X G
  have i_TEXT := T.i_TEXT.gi X G
  have i_SIGN := T.i_SIGN.gi X G
  have i_MOST_NAME_BYTES := T.i_MOST_NAME_BYTES.gi X G
  have i_LEAST_CODE_BYTES := T.i_LEAST_CODE_BYTES.gi X G
  have i_MOST_CODE_BYTES := T.i_MOST_CODE_BYTES.gi X G
  have i_MOST_ITEMS := T.i_MOST_ITEMS.gi X G
  have i_LINE_END := T.i_LINE_END.gi X G
  have i_BLANK := T.i_BLANK.gi X G
  have i_QUOTE := T.i_QUOTE.gi X G
  have i_HASH := T.i_HASH.gi X G
  have i_SEMICOLON := T.i_SEMICOLON.gi X G
  have i_BACKSLASH := T.i_BACKSLASH.gi X G
  have i_SMALL_N := T.i_SMALL_N.gi X G
  have i_MOST_BYTES_calls := T.i_MOST_BYTES_calls.gi X G
  have i_MOST_DEPTH := T.i_MOST_DEPTH.gi X G
  have n_len := PySem.W.mg_none_of X G T.n_len
  have n_max := PySem.W.mg_none_of X G T.n_max
  have n_all := PySem.W.mg_none_of X G T.n_all
  have gL := T.s_LETTERS.gs X G
  have tO := T.t_OPENING.gt X G
  have tC := T.t_CLOSING.gt X G
  have tM := T.t_MARKS.gt X G
  have kR := T.k_RISING.gd X G
  have kC := T.k_CLEARING.gd X G
  have kW := T.k_KEYWORDS.gd X G
  have k1 := T.k_ONE.gd X G
  have k2 := T.k_TWO.gd X G
  have TT : TokC K CT := ⟨T.c_Token.2.1, T.aCT_kind, T.aCT_look, T.aCT_start, T.aCT_end⟩
  have TN : NumC K CN := ⟨T.c_Numeral.2.1, T.aCN_digits, T.aCN_fraction, T.aCN_exponent, T.aCN_mark⟩
  have TS : ScnC K CS := ⟨T.c_Scanned.2.1, T.aCS_found, T.aCS_fault⟩
  have nT : TokN P w K mg base CT := new_tok (T.c_Token.cdef X G (fun _ _ _ _ _ _ us hl => match us, hl with | [_, _, _, _, _], _ => rfl)) TT
  have nN : New P w K mg base 1 "Numeral" CN ["self", "digits", "fraction", "exponent", "mark"] (spNumI CN) := new_num (T.c_Numeral.cdef X G (fun _ _ _ _ _ _ us hl => match us, hl with | [_, _, _, _, _], _ => rfl)) TN
  have dS : ScnD K mg CS := T.c_Scanned.cdef X G (fun _ _ _ _ _ _ us hl => match us, hl with | [_, _, _], _ => rfl)
  have mS : MOk P w K mg base 1 CN "size" ["self"] (spSize CN) := by
    obtain ⟨f, fd, M, F⟩ := T.m_size
    exact ok_size ⟨f, fd, M, F, F.binds (fun _ _ _ _ _ _ us hl => match us, hl with | [_], _ => rfl)⟩ TN n_len
  have rC : RefC K mg CR := by
    obtain ⟨b, f, fd, M, F⟩ := T.x_Refused
    exact ⟨PySem.W.mg_of X G b, f, fd, M, F, F.binds (fun _ _ _ _ _ _ us hl => match us, hl with | [_, _], _ => rfl)⟩
  have TF : FltC K CF := ⟨T.x_Fault.2.1, T.aCF_numbers, T.aCF_rule, T.aCF_place⟩
  have mf : mg "Fault" = some (.ref CF) := PySem.W.mg_of X G T.x_Fault.1
  have nF : FltW P w K mg base CF := by
    obtain ⟨b, _, f, fd, M, F⟩ := T.x_Fault
    exact ⟨f, fd, M, ok_flt F rC TF, F.binds (fun _ _ _ _ _ _ us hl => match us, hl with | [_, _, _], _ => rfl), mf⟩
  have tl : TLC P w K mg base "TooLong" CL CR [-1] := by
    obtain ⟨b, x, f, fd, M, F⟩ := T.x_TooLong
    exact ⟨⟨f, fd, M, ok_tl F rC, F.binds (fun _ _ _ _ _ _ us hl => match us, hl with | [_], _ => rfl), PySem.W.mg_of X G b⟩, x, T.aCL_numbers, T.eCL⟩
  have td : TLC P w K mg base "TooDeep" CD CR [-6] := by
    obtain ⟨b, x, f, fd, M, F⟩ := T.x_TooDeep
    exact ⟨⟨f, fd, M, ok_td F rC, F.binds (fun _ _ _ _ _ _ us hl => match us, hl with | [_], _ => rfl), PySem.W.mg_of X G b⟩, x, T.aCD_numbers, T.eCD⟩
  have o1 : Ok P w K mg base CX0 1 "is_small" ["byte"] (pr1 pSmall) := ok_small d_is_small
  have o2 : Ok P w K mg base CX0 1 "is_capital" ["byte"] (pr1 pBig) := ok_big d_is_capital
  have o3 : Ok P w K mg base CX0 1 "is_digit" ["byte"] (pr1 pDigit) := ok_digit d_is_digit
  have o4 : Ok P w K mg base CX0 1 "is_printable" ["byte"] (pr1 pSeen) := ok_seen d_is_printable
  have o5 := ok_word d_in_word o1 o3
  have o6 := ok_code d_in_code o2 o3
  have o7 := ok_mark d_in_mark o5 o2
  have ob : Ok P w K mg base CX0 1 "byte_at" ["text", "place"] (spByte K) := ok_byte d_byte_at n_len
  have orn : Ok P w K mg base CX0 4 "run_end" ["text", "place", "fits"] (spRun P w K mg base) := ok_run d_run_end n_len
  have oc1 : Ok P w K mg base CX0 1 "growth_by_clearing" ["numbers"] spClr := ok_clr d_growth_by_clearing
  have oc2 := ok_cls d_growth_by_closing oc1
  have og := ok_gro d_growth tO tC kR kC oc2 oc1
  have od := ok_dep d_depth TT n_max og
  have ofr := ok_frac d_end_of_fraction i_POINT ob o3 orn
  have oex := ok_exp d_end_of_exponent i_SMALL_E i_MINUS ob o3 orn
  have onu := ok_num d_numeral_at o3 o7 orn ofr oex nN
  have omk : Ok P w K mg base CX0 1 "mark_is_right" ["mark"] (spMark K) := ok_mkr d_mark_is_right tM n_len
  have opk : Ok P w K mg base CX0 1 "packed_is_right" ["numeral"] (spNumB CN fun d f e _ => packP d f e) := ok_pak d_packed_is_right TN i_MOST_PACKED_DIGITS n_len
  have oer : Ok P w K mg base CX0 1 "exponent_is_right" ["exponent"] (spExpR K) := ok_exr d_exponent_is_right i_MINUS i_ZERO i_MOST_EXPONENT_DIGITS n_len
  have ori := ok_rig d_is_right TN i_MOST_BYTES_numerals i_PACKED i_ZERO n_len mS omk opk oer
  have osp := ok_spl d_spelled gL n_all o1
  have owd := ok_wd d_word_at o5 orn osp nT nF kW i_KEYWORD i_NAME i_MOST_NAME_BYTES
  have ocd := ok_cd d_code_at o6 orn nT nF i_CODE i_LEAST_CODE_BYTES i_MOST_CODE_BYTES
  have onr := ok_nr d_number_at TN onu ori mS nT nF i_NUMBER
  have oit := ok_it d_item_end ob o4 nF n_len i_BACKSLASH i_QUOTE i_SMALL_N
  have otx := ok_tx d_text_at ob oit nT nF n_len i_TEXT i_QUOTE i_MOST_ITEMS
  have osg := ok_sg d_sign_at ob nT nF n_max i_SIGN k1 k2
  have ota := ok_ta d_token_at o1 o2 o3 owd ocd onr otx osg i_QUOTE
  have otp := ok_tp d_token_place o4 orn n_len i_HASH i_BLANK i_LINE_END i_SEMICOLON
  have osc := ok_scan d_scan dS TS TT TF otp ota n_len mf T.eCFF
  have orl := ok_rl d_refuse_long tl n_len i_MOST_BYTES_calls
  have oss := ok_ss d_scan_shallow TS osc od td i_MOST_DEPTH
  have osa := ok_sa d_scan_allowed orl oss
  have orf : Ok P w K mg base (CX1 P w) 4 "refuse_fault" ["scanned"] (spRf CS CT CF) := ok_rf d_refuse_fault TS nF
  exact fn_toks F TS TT TF osa orf n_len rC.mg T.eCF
theorem fin_of {fa : Addr} (X : K.In h) (G : h.Ns mainGlobals mg) (hmg : mg "tokens" = some (.ref fa)) (T : Facts K w.params CT CN CS CR CL CD CF) :
    ∃ fd : FuncData, (∀ (s : Shared) (us : List Value), us.length = (["text"] : List Str).length → BindsTo s fd ⟨us, []⟩ ((["text"] : List Str).zip us)) ∧ ∀ base : Heap, K.In base → base.Ns mainGlobals mg → FnOk P w K mg base CX0 12 fa fd ["text"] (spToks K) := by
  obtain ⟨f, fd, b, F⟩ := T.d_tokens
  have e := hmg.symm.trans (PySem.W.mg_of X G b)
  cases e
  refine ⟨fd, ?_, fun base X' G' => all_of T X' G' F⟩
  obtain ⟨oc, od, kV, doc, pm, an, cdv, ct, osl, rfl, lk, hcd⟩ := F.ex
  exact fun s us hu => match us, hu with | [_], _ => .of_eq rfl
end
end TG
end
section
set_option Elab.async false
set_option linter.all false
set_option maxRecDepth 100000
set_option maxHeartbeats 2000000
namespace TG
open PySem TW
abbrev W0 : List Str := ["account", "and", "as", "away", "both", "break", "catch", "clear", "cut", "decimal", "double", "down", "else", "error", "extended", "false", "fibre", "finally", "five", "flags"]
abbrev W1 : List Str := ["flush", "fn", "for", "fraction", "from", "giving", "half", "if", "in", "inexact", "interval", "into", "invalid", "is", "leave", "let", "list", "make", "match", "module"]
abbrev W2 : List Str := ["near", "nearaway", "nearcut", "next", "not", "of", "only", "or", "out", "overflow", "packed", "picture", "post", "precision", "raise", "record", "resume", "return", "rounding", "say"]
abbrev W3 : List Str := ["single", "small", "spawn", "stack", "text", "then", "to", "trap", "true", "truth", "try", "underflow", "up", "use", "value", "while", "whole", "with", "yield", "zero"]
theorem w_keys : W0 ++ (W1 ++ (W2 ++ (W3))) = KEYS := by decide +kernel
end TG
end
section
set_option Elab.async false
set_option linter.all false
set_option maxRecDepth 100000
set_option maxHeartbeats 2000000
namespace TG
open PySem PySem.Spec PyProof.Rows L2 TW
open PySem.W (WData Codec OpenSpec)
theorem asked_toks (K : PySem.W.Frag) (H : Hp) (xs : List V) (a : Codec.denoteAll PySem.Challenge.rw_twigtext_s01_tokens.args) (hO : OnlyF H) (hwi : Codec.withinAll PySem.Challenge.rw_twigtext_s01_tokens.args a = true)
    (hask : Codec.app PySem.Challenge.rw_twigtext_s01_tokens.args PySem.Challenge.rw_twigtext_s01_tokens.asked a = true) (hx : DwAll K H xs (Codec.encAll PySem.Challenge.rw_twigtext_s01_tokens.args a)) :
    spToks K xs H (fun v H' => Dw K H' v (PySem.Challenge.rw_twigtext_s01_tokens.ret.enc (Codec.app PySem.Challenge.rw_twigtext_s01_tokens.args PySem.Challenge.rw_twigtext_s01_tokens.f a))) fun _ _ _ => False := by
  cases hx with
  | cons h1 h2 =>
    cases h2
    cases h1 with
    | lst hs ha =>
      have e := L2.ints_dw a.1 _ ha
      subst e
      have q : ((Codec.inLen 0 66000 a.1 && a.1.all (Codec.inInt 0 255)) && true) = true := hwi
      rw [Bool.and_eq_true, Bool.and_eq_true] at q
      have hb : ∀ n ∈ a.1, 0 ≤ n ∧ n ≤ 255 := fun n hn => by
        have := List.all_eq_true.mp q.1.2 n hn
        exact Codec.inInt_iff.mp this
      refine ⟨_, WrxthhNeutral.text a.1, rfl, ?_, fun H' p s' hp => ?_⟩
      · rw [iv_ints, ← text_back a.1 hb]; exact hs
      · have g : Dw K H' (.ref p) (.list ((due (WrxthhNeutral.text a.1)).map WData.int)) := .lst (L2.SqL.of hp) (L2.dw_ints _)
        rw [← due_ok] at g
        exact g
end TG
end
section
set_option linter.all false
namespace TL
open PySem
/-! ### the program's text, statement by statement -/
inductive Lit {A : Type} (a : A) : A → Type
  | mk : Lit a a
instance instLit {A : Type} {a x : A} : CoeOut (Lit a x) A := ⟨fun _ => x⟩
def Lit.as {A : Type} {a b : A} (h : a = b) : Lit a b := h ▸ Lit.mk
def t (i : Nat) : Stmt := PySem.Challenge.pw_twigtext_s01_tokens.main.body.getD i (.Pass ⟨0, 0, 0, 0⟩)
set_option compiler.extract_closed false
set_option maxRecDepth 100000
set_option maxHeartbeats 0
noncomputable def e0 := (show Lit (t 0) _ from Lit.as (by conv => (lhs; whnf)))
def l0 : Stmt := e0
noncomputable def e1 := (show Lit (t 1) _ from Lit.as (by conv => (lhs; whnf)))
def l1 : Stmt := e1
noncomputable def e2 := (show Lit (t 2) _ from Lit.as (by conv => (lhs; whnf)))
def l2 : Stmt := e2
noncomputable def e3 := (show Lit (t 3) _ from Lit.as (by conv => (lhs; whnf)))
def l3 : Stmt := e3
noncomputable def e4 := (show Lit (t 4) _ from Lit.as (by conv => (lhs; whnf)))
def l4 : Stmt := e4
noncomputable def e5 := (show Lit (t 5) _ from Lit.as (by conv => (lhs; whnf)))
def l5 : Stmt := e5
noncomputable def e6 := (show Lit (t 6) _ from Lit.as (by conv => (lhs; whnf)))
def l6 : Stmt := e6
noncomputable def e7 := (show Lit (t 7) _ from Lit.as (by conv => (lhs; whnf)))
def l7 : Stmt := e7
noncomputable def e8 := (show Lit (t 8) _ from Lit.as (by conv => (lhs; whnf)))
def l8 : Stmt := e8
noncomputable def e9 := (show Lit (t 9) _ from Lit.as (by conv => (lhs; whnf)))
def l9 : Stmt := e9
noncomputable def e10 := (show Lit (t 10) _ from Lit.as (by conv => (lhs; whnf)))
def l10 : Stmt := e10
noncomputable def e11 := (show Lit (t 11) _ from Lit.as (by conv => (lhs; whnf)))
def l11 : Stmt := e11
noncomputable def e12 := (show Lit (t 12) _ from Lit.as (by conv => (lhs; whnf)))
def l12 : Stmt := e12
noncomputable def e13 := (show Lit (t 13) _ from Lit.as (by conv => (lhs; whnf)))
def l13 : Stmt := e13
noncomputable def e14 := (show Lit (t 14) _ from Lit.as (by conv => (lhs; whnf)))
def l14 : Stmt := e14
noncomputable def e15 := (show Lit (t 15) _ from Lit.as (by conv => (lhs; whnf)))
def l15 : Stmt := e15
noncomputable def e16 := (show Lit (t 16) _ from Lit.as (by conv => (lhs; whnf)))
def l16 : Stmt := e16
noncomputable def e17 := (show Lit (t 17) _ from Lit.as (by conv => (lhs; whnf)))
def l17 : Stmt := e17
noncomputable def e18 := (show Lit (t 18) _ from Lit.as (by conv => (lhs; whnf)))
def l18 : Stmt := e18
noncomputable def e19 := (show Lit (t 19) _ from Lit.as (by conv => (lhs; whnf)))
def l19 : Stmt := e19
noncomputable def e20 := (show Lit (t 20) _ from Lit.as (by conv => (lhs; whnf)))
def l20 : Stmt := e20
noncomputable def e21 := (show Lit (t 21) _ from Lit.as (by conv => (lhs; whnf)))
def l21 : Stmt := e21
noncomputable def e22 := (show Lit (t 22) _ from Lit.as (by conv => (lhs; whnf)))
def l22 : Stmt := e22
noncomputable def e23 := (show Lit (t 23) _ from Lit.as (by conv => (lhs; whnf)))
def l23 : Stmt := e23
noncomputable def e24 := (show Lit (t 24) _ from Lit.as (by conv => (lhs; whnf)))
def l24 : Stmt := e24
noncomputable def e25 := (show Lit (t 25) _ from Lit.as (by conv => (lhs; whnf)))
def l25 : Stmt := e25
noncomputable def e26 := (show Lit (t 26) _ from Lit.as (by conv => (lhs; whnf)))
def l26 : Stmt := e26
noncomputable def e27 := (show Lit (t 27) _ from Lit.as (by conv => (lhs; whnf)))
def l27 : Stmt := e27
noncomputable def e28 := (show Lit (t 28) _ from Lit.as (by conv => (lhs; whnf)))
def l28 : Stmt := e28
noncomputable def e29 := (show Lit (t 29) _ from Lit.as (by conv => (lhs; whnf)))
def l29 : Stmt := e29
noncomputable def e30 := (show Lit (t 30) _ from Lit.as (by conv => (lhs; whnf)))
def l30 : Stmt := e30
noncomputable def e31 := (show Lit (t 31) _ from Lit.as (by conv => (lhs; whnf)))
def l31 : Stmt := e31
noncomputable def e32 := (show Lit (t 32) _ from Lit.as (by conv => (lhs; whnf)))
def l32 : Stmt := e32
noncomputable def e33 := (show Lit (t 33) _ from Lit.as (by conv => (lhs; whnf)))
def l33 : Stmt := e33
noncomputable def e34 := (show Lit (t 34) _ from Lit.as (by conv => (lhs; whnf)))
def l34 : Stmt := e34
noncomputable def e35 := (show Lit (t 35) _ from Lit.as (by conv => (lhs; whnf)))
def l35 : Stmt := e35
noncomputable def e36 := (show Lit (t 36) _ from Lit.as (by conv => (lhs; whnf)))
def l36 : Stmt := e36
noncomputable def e37 := (show Lit (t 37) _ from Lit.as (by conv => (lhs; whnf)))
def l37 : Stmt := e37
noncomputable def e38 := (show Lit (t 38) _ from Lit.as (by conv => (lhs; whnf)))
def l38 : Stmt := e38
noncomputable def e39 := (show Lit (t 39) _ from Lit.as (by conv => (lhs; whnf)))
def l39 : Stmt := e39
noncomputable def e40 := (show Lit (t 40) _ from Lit.as (by conv => (lhs; whnf)))
def l40 : Stmt := e40
noncomputable def e41 := (show Lit (t 41) _ from Lit.as (by conv => (lhs; whnf)))
def l41 : Stmt := e41
noncomputable def e42 := (show Lit (t 42) _ from Lit.as (by conv => (lhs; whnf)))
def l42 : Stmt := e42
noncomputable def e43 := (show Lit (t 43) _ from Lit.as (by conv => (lhs; whnf)))
def l43 : Stmt := e43
noncomputable def e44 := (show Lit (t 44) _ from Lit.as (by conv => (lhs; whnf)))
def l44 : Stmt := e44
noncomputable def e45 := (show Lit (t 45) _ from Lit.as (by conv => (lhs; whnf)))
def l45 : Stmt := e45
noncomputable def e46 := (show Lit (t 46) _ from Lit.as (by conv => (lhs; whnf)))
def l46 : Stmt := e46
noncomputable def e47 := (show Lit (t 47) _ from Lit.as (by conv => (lhs; whnf)))
def l47 : Stmt := e47
noncomputable def e48 := (show Lit (t 48) _ from Lit.as (by conv => (lhs; whnf)))
def l48 : Stmt := e48
noncomputable def e49 := (show Lit (t 49) _ from Lit.as (by conv => (lhs; whnf)))
def l49 : Stmt := e49
noncomputable def e50 := (show Lit (t 50) _ from Lit.as (by conv => (lhs; whnf)))
def l50 : Stmt := e50
noncomputable def e51 := (show Lit (t 51) _ from Lit.as (by conv => (lhs; whnf)))
def l51 : Stmt := e51
noncomputable def e52 := (show Lit (t 52) _ from Lit.as (by conv => (lhs; whnf)))
def l52 : Stmt := e52
noncomputable def e53 := (show Lit (t 53) _ from Lit.as (by conv => (lhs; whnf)))
def l53 : Stmt := e53
noncomputable def e54 := (show Lit (t 54) _ from Lit.as (by conv => (lhs; whnf)))
def l54 : Stmt := e54
noncomputable def e55 := (show Lit (t 55) _ from Lit.as (by conv => (lhs; whnf)))
def l55 : Stmt := e55
noncomputable def e56 := (show Lit (t 56) _ from Lit.as (by conv => (lhs; whnf)))
def l56 : Stmt := e56
noncomputable def e57 := (show Lit (t 57) _ from Lit.as (by conv => (lhs; whnf)))
def l57 : Stmt := e57
noncomputable def e58 := (show Lit (t 58) _ from Lit.as (by conv => (lhs; whnf)))
def l58 : Stmt := e58
noncomputable def e59 := (show Lit (t 59) _ from Lit.as (by conv => (lhs; whnf)))
def l59 : Stmt := e59
noncomputable def e60 := (show Lit (t 60) _ from Lit.as (by conv => (lhs; whnf)))
def l60 : Stmt := e60
noncomputable def e61 := (show Lit (t 61) _ from Lit.as (by conv => (lhs; whnf)))
def l61 : Stmt := e61
noncomputable def e62 := (show Lit (t 62) _ from Lit.as (by conv => (lhs; whnf)))
def l62 : Stmt := e62
noncomputable def e63 := (show Lit (t 63) _ from Lit.as (by conv => (lhs; whnf)))
def l63 : Stmt := e63
noncomputable def e64 := (show Lit (t 64) _ from Lit.as (by conv => (lhs; whnf)))
def l64 : Stmt := e64
noncomputable def e65 := (show Lit (t 65) _ from Lit.as (by conv => (lhs; whnf)))
def l65 : Stmt := e65
noncomputable def e66 := (show Lit (t 66) _ from Lit.as (by conv => (lhs; whnf)))
def l66 : Stmt := e66
noncomputable def e67 := (show Lit (t 67) _ from Lit.as (by conv => (lhs; whnf)))
def l67 : Stmt := e67
noncomputable def e68 := (show Lit (t 68) _ from Lit.as (by conv => (lhs; whnf)))
def l68 : Stmt := e68
noncomputable def e69 := (show Lit (t 69) _ from Lit.as (by conv => (lhs; whnf)))
def l69 : Stmt := e69
noncomputable def e70 := (show Lit (t 70) _ from Lit.as (by conv => (lhs; whnf)))
def l70 : Stmt := e70
noncomputable def e71 := (show Lit (t 71) _ from Lit.as (by conv => (lhs; whnf)))
def l71 : Stmt := e71
noncomputable def e72 := (show Lit (t 72) _ from Lit.as (by conv => (lhs; whnf)))
def l72 : Stmt := e72
noncomputable def e73 := (show Lit (t 73) _ from Lit.as (by conv => (lhs; whnf)))
def l73 : Stmt := e73
noncomputable def e74 := (show Lit (t 74) _ from Lit.as (by conv => (lhs; whnf)))
def l74 : Stmt := e74
noncomputable def e75 := (show Lit (t 75) _ from Lit.as (by conv => (lhs; whnf)))
def l75 : Stmt := e75
noncomputable def e76 := (show Lit (t 76) _ from Lit.as (by conv => (lhs; whnf)))
def l76 : Stmt := e76
noncomputable def e77 := (show Lit (t 77) _ from Lit.as (by conv => (lhs; whnf)))
def l77 : Stmt := e77
noncomputable def e78 := (show Lit (t 78) _ from Lit.as (by conv => (lhs; whnf)))
def l78 : Stmt := e78
noncomputable def e79 := (show Lit (t 79) _ from Lit.as (by conv => (lhs; whnf)))
def l79 : Stmt := e79
noncomputable def e80 := (show Lit (t 80) _ from Lit.as (by conv => (lhs; whnf)))
def l80 : Stmt := e80
noncomputable def e81 := (show Lit (t 81) _ from Lit.as (by conv => (lhs; whnf)))
def l81 : Stmt := e81
noncomputable def e82 := (show Lit (t 82) _ from Lit.as (by conv => (lhs; whnf)))
def l82 : Stmt := e82
noncomputable def e83 := (show Lit (t 83) _ from Lit.as (by conv => (lhs; whnf)))
def l83 : Stmt := e83
noncomputable def eS := (show Lit PySem.Challenge.pw_twigtext_s01_tokens.main.scope _ from Lit.as (by conv => (lhs; whnf)))
def lS : Scope := eS
noncomputable def eG := (show Lit PySem.Challenge.pw_twigtext_s01_tokens.given _ from Lit.as (by conv => (lhs; whnf)))
def lG : Given := eG
def prog : Program := { main := { body := [l0, l1, l2, l3, l4, l5, l6, l7, l8, l9, l10, l11, l12, l13, l14, l15, l16, l17, l18, l19, l20, l21, l22, l23, l24, l25, l26, l27, l28, l29, l30, l31, l32, l33, l34, l35, l36, l37, l38, l39, l40, l41, l42, l43, l44, l45, l46, l47, l48, l49, l50, l51, l52, l53, l54, l55, l56, l57, l58, l59, l60, l61, l62, l63, l64, l65, l66, l67, l68, l69, l70, l71, l72, l73, l74, l75, l76, l77, l78, l79, l80, l81, l82, l83], scope := lS, futureAnnotations := false, file := "/claim/cut.py", more := [] }, modules := [], parses := [], absent := [], harvested := [], given := lG }
theorem prog_eq : PySem.Challenge.pw_twigtext_s01_tokens = prog := rfl
def row : PySem.W.OpenSpec := PySem.W.OpenSpec.mk prog PySem.Challenge.nm_twigtext_s01_tokens PySem.Challenge.fa_twigtext_s01_tokens PySem.Challenge.fr_twigtext_s01_tokens PySem.Challenge.as_twigtext_s01_tokens PyWrxthh.tokens
theorem row_eq : PySem.Challenge.rw_twigtext_s01_tokens = row := rfl
end TL
end
section
set_option Elab.async false
set_option linter.all false
theorem PySem.W.Fast.te9460404691026932855 : True := trivial
theorem PySem.W.Fast.te16119050498970344590 : True := trivial
theorem PySem.W.Fast.te8718090040197301818 : True := trivial
theorem PySem.W.Fast.te15131444623075959710 : True := trivial
theorem PySem.W.Fast.te1411411125818629635 : True := trivial
theorem PySem.W.Fast.te10809767965399387503 : True := trivial
theorem PySem.W.Fast.te14368722019170199362 : True := trivial
theorem PySem.W.Fast.te9489489129838145313 : True := trivial
theorem PySem.W.Fast.te13035305537885454926 : True := trivial
theorem PySem.W.Fast.te9380462289583666498 : True := trivial
theorem PySem.W.Fast.te13125133624378973650 : True := trivial
theorem PySem.W.Fast.te10190062763247174684 : True := trivial
theorem PySem.W.Fast.te12775857363495756090 : True := trivial
theorem PySem.W.Fast.te7188963817074459590 : True := trivial
theorem PySem.W.Fast.te37964441381501447 : True := trivial
theorem PySem.W.Fast.te18015548904437809231 : True := trivial
theorem PySem.W.Fast.te4517022182129161263 : True := trivial
theorem PySem.W.Fast.te3861076291559850996 : True := trivial
theorem PySem.W.Fast.te3795231368122365611 : True := trivial
theorem PySem.W.Fast.te12586840453169072039 : True := trivial
theorem PySem.W.Fast.te11473263892788452593 : True := trivial
theorem PySem.W.Fast.te731871919496710069 : True := trivial
theorem PySem.W.Fast.te691971178205722725 : True := trivial
theorem PySem.W.Fast.te6152976692998573179 : True := trivial
theorem PySem.W.Fast.te17809288218612408300 : True := trivial
theorem PySem.W.Fast.te10956109021585908935 : True := trivial
theorem PySem.W.Fast.te14655845234665962903 : True := trivial
theorem PySem.W.Fast.te98334681754963128 : True := trivial
theorem PySem.W.Fast.te10966361560116503946 : True := trivial
theorem PySem.W.Fast.te4411958050788018150 : True := trivial
theorem PySem.W.Fast.te8819862079338096582 : True := trivial
theorem PySem.W.Fast.te3419631733849605635 : True := trivial
theorem PySem.W.Fast.te7393455043070153902 : True := trivial
theorem PySem.W.Fast.te14930221850086743986 : True := trivial
theorem PySem.W.Fast.te9266480340083643344 : True := trivial
theorem PySem.W.Fast.te5713144897806235755 : True := trivial
theorem PySem.W.Fast.te17541462991094100364 : True := trivial
theorem PySem.W.Fast.te7118218616606109304 : True := trivial
theorem PySem.W.Fast.te1219756899231660611 : True := trivial
theorem PySem.W.Fast.te2639534797445452927 : True := trivial
theorem PySem.W.Fast.te11825735057692984279 : True := trivial
theorem PySem.W.Fast.te5021687744308100123 : True := trivial
theorem PySem.W.Fast.te13093927439229091290 : True := trivial
theorem PySem.W.Fast.te11792528709411479277 : True := trivial
theorem PySem.W.Fast.te4426543183424856466 : True := trivial
theorem PySem.W.Fast.te13943060100264579521 : True := trivial
theorem PySem.W.Fast.te11681110745352812350 : True := trivial
theorem PySem.W.Fast.te14698148317995329535 : True := trivial
theorem PySem.W.Fast.te10868618910047582796 : True := trivial
theorem PySem.W.Fast.te10106932769135067834 : True := trivial
theorem PySem.W.Fast.te16150167633344223056 : True := trivial
theorem PySem.W.Fast.te7173672525045586566 : True := trivial
theorem PySem.W.Fast.te13456313463151712675 : True := trivial
theorem PySem.W.Fast.te12933778371118713706 : True := trivial
theorem PySem.W.Fast.te5033114321916751333 : True := trivial
theorem PySem.W.Fast.te9747465814750999974 : True := trivial
theorem PySem.W.Fast.te17285993440756377025 : True := trivial
theorem PySem.W.Fast.te6619258596746651915 : True := trivial
theorem PySem.W.Fast.te112664815663869886 : True := trivial
theorem PySem.W.Fast.te9640111860949635771 : True := trivial
theorem PySem.W.Fast.te12083487007640755989 : True := trivial
theorem PySem.W.Fast.te7275416541171919486 : True := trivial
theorem PySem.W.Fast.te12320942440713062428 : True := trivial
theorem PySem.W.Fast.te13029085244873835940 : True := trivial
theorem PySem.W.Fast.te5978634043407218661 : True := trivial
theorem PySem.W.Fast.te12046732813882414775 : True := trivial
theorem PySem.W.Fast.te5912549429196731427 : True := trivial
theorem PySem.W.Fast.te9686320518240846538 : True := trivial
theorem PySem.W.Fast.te18307766231557170664 : True := trivial
theorem PySem.W.Fast.te9220075908101570936 : True := trivial
theorem PySem.W.Fast.te10443995968827960162 : True := trivial
theorem PySem.W.Fast.te15230508710975214547 : True := trivial
theorem PySem.W.Fast.te6496997250772137265 : True := trivial
theorem PySem.W.Fast.te10331981901135422076 : True := trivial
theorem PySem.W.Fast.te4605489446509505323 : True := trivial
theorem PySem.W.Fast.te17571553513373646437 : True := trivial
theorem PySem.W.Fast.te9156842725680251087 : True := trivial
theorem PySem.W.Fast.te17614512087276191216 : True := trivial
theorem PySem.W.Fast.te17332830209076826302 : True := trivial
theorem PySem.W.Fast.te14650496301665773413 : True := trivial
theorem PySem.W.Fast.te1637700961587721938 : True := trivial
theorem PySem.W.Fast.te586959377813128247 : True := trivial
theorem PySem.W.Fast.te14599258372090825461 : True := trivial
theorem PySem.W.Fast.te7866751675028132592 : True := trivial
theorem PySem.W.Fast.te4876258622471187238 : True := trivial
theorem PySem.W.Fast.te7276467419656795087 : True := trivial
theorem PySem.W.Fast.te7706909928411644202 : True := trivial
theorem PySem.W.Fast.te16414528452718030827 : True := trivial
theorem PySem.W.Fast.te6094604546798302355 : True := trivial
theorem PySem.W.Fast.te13594960629228880933 : True := trivial
theorem PySem.W.Fast.te7758141503331678994 : True := trivial
theorem PySem.W.Fast.te15615650253721663954 : True := trivial
theorem PySem.W.Fast.te14954786056908007840 : True := trivial
theorem PySem.W.Fast.te9394921482591726154 : True := trivial
theorem PySem.W.Fast.te7218620411991666171 : True := trivial
theorem PySem.W.Fast.te11454108210931858085 : True := trivial
theorem PySem.W.Fast.te2568572617874510503 : True := trivial
theorem PySem.W.Fast.te2847689015842465163 : True := trivial
theorem PySem.W.Fast.te53228144747096906 : True := trivial
theorem PySem.W.Fast.te9602205526301734126 : True := trivial
theorem PySem.W.Fast.te17314529369981504095 : True := trivial
theorem PySem.W.Fast.te5315945840124856616 : True := trivial
theorem PySem.W.Fast.te9993687179524427698 : True := trivial
theorem PySem.W.Fast.te11139472404217459021 : True := trivial
theorem PySem.W.Fast.te684520912288094636 : True := trivial
theorem PySem.W.Fast.te6516515724770908965 : True := trivial
theorem PySem.W.Fast.te4820136716630464782 : True := trivial
theorem PySem.W.Fast.te18434237058260910850 : True := trivial
theorem PySem.W.Fast.te1515283578520673523 : True := trivial
theorem PySem.W.Fast.te10861031782043529377 : True := trivial
theorem PySem.W.Fast.te7345389690383875746 : True := trivial
theorem PySem.W.Fast.te5981501904598696416 : True := trivial
theorem PySem.W.Fast.te15204981217859110205 : True := trivial
theorem PySem.W.Fast.te9473022779728343274 : True := trivial
theorem PySem.W.Fast.te11776923205888601306 : True := trivial
theorem PySem.W.Fast.te13097811189177775790 : True := trivial
theorem PySem.W.Fast.te7866457446032165761 : True := trivial
theorem PySem.W.Fast.te13722359358537172040 : True := trivial
theorem PySem.W.Fast.te11192430367569328038 : True := trivial
theorem PySem.W.Fast.te6858956874239707931 : True := trivial
theorem PySem.W.Fast.te2528633529341488082 : True := trivial
theorem PySem.W.Fast.te14808503877283252083 : True := trivial
theorem PySem.W.Fast.te17888382640081118379 : True := trivial
theorem PySem.W.Fast.te3140185628225198517 : True := trivial
theorem PySem.W.Fast.te13901276551601515467 : True := trivial
theorem PySem.W.Fast.te8459391572454040662 : True := trivial
theorem PySem.W.Fast.te14923537743594733925 : True := trivial
theorem PySem.W.Fast.te16864951673092023099 : True := trivial
theorem PySem.W.Fast.te14499580941003837724 : True := trivial
theorem PySem.W.Fast.te4305163293031407616 : True := trivial
theorem PySem.W.Fast.te14082369617698240947 : True := trivial
theorem PySem.W.Fast.te15983372045558962353 : True := trivial
theorem PySem.W.Fast.te15167955344804766094 : True := trivial
theorem PySem.W.Fast.te8367331522770677608 : True := trivial
theorem PySem.W.Fast.te17614865188341871099 : True := trivial
theorem PySem.W.Fast.te16041764582525399598 : True := trivial
theorem PySem.W.Fast.te10262653505816395571 : True := trivial
theorem PySem.W.Fast.te9185475309813571200 : True := trivial
theorem PySem.W.Fast.te13175505979743019820 : True := trivial
theorem PySem.W.Fast.te5167805764050765852 : True := trivial
theorem PySem.W.Fast.te2945896552746761307 : True := trivial
theorem PySem.W.Fast.te1985026634278351865 : True := trivial
theorem PySem.W.Fast.te4511013322878225638 : True := trivial
theorem PySem.W.Fast.te17167372105168448473 : True := trivial
theorem PySem.W.Fast.te626363972112153857 : True := trivial
theorem PySem.W.Fast.te17876024701726729902 : True := trivial
theorem PySem.W.Fast.te14962309950189964422 : True := trivial
theorem PySem.W.Fast.te9829359121995876694 : True := trivial
theorem PySem.W.Fast.te1030646771138169570 : True := trivial
theorem PySem.W.Fast.te13894570596635196534 : True := trivial
theorem PySem.W.Fast.te16409319642897073715 : True := trivial
theorem PySem.W.Fast.te12205854317602145731 : True := trivial
theorem PySem.W.Fast.te4168897304349411958 : True := trivial
theorem PySem.W.Fast.te15709399327380005563 : True := trivial
theorem PySem.W.Fast.te5670404862247860348 : True := trivial
theorem PySem.W.Fast.te5187573382591789632 : True := trivial
theorem PySem.W.Fast.te7043117157621005163 : True := trivial
theorem PySem.W.Fast.te4947707550739492391 : True := trivial
theorem PySem.W.Fast.te9796330964408063376 : True := trivial
theorem PySem.W.Fast.te2465644263555163307 : True := trivial
theorem PySem.W.Fast.te15872770764850537478 : True := trivial
theorem PySem.W.Fast.te6115932538795219154 : True := trivial
theorem PySem.W.Fast.te3143778027592322805 : True := trivial
theorem PySem.W.Fast.te4555740038716622928 : True := trivial
theorem PySem.W.Fast.te10649841851461637991 : True := trivial
theorem PySem.W.Fast.te2222845892384866308 : True := trivial
theorem PySem.W.Fast.te13879892834738761475 : True := trivial
theorem PySem.W.Fast.te11949528804516911037 : True := trivial
theorem PySem.W.Fast.te10118417694327776887 : True := trivial
theorem PySem.W.Fast.te1023225517482266913 : True := trivial
theorem PySem.W.Fast.te9878144964768365740 : True := trivial
theorem PySem.W.Fast.te4337691451486900949 : True := trivial
theorem PySem.W.Fast.te2192142580388771176 : True := trivial
theorem PySem.W.Fast.te14530886312483554125 : True := trivial
theorem PySem.W.Fast.te17255636202623287865 : True := trivial
theorem PySem.W.Fast.te10808427561168880773 : True := trivial
theorem PySem.W.Fast.te4755874729585815439 : True := trivial
theorem PySem.W.Fast.te17445638391983047854 : True := trivial
theorem PySem.W.Fast.te12483969430813422957 : True := trivial
theorem PySem.W.Fast.te14275243412585613343 : True := trivial
theorem PySem.W.Fast.te7918689253216181484 : True := trivial
theorem PySem.W.Fast.te7062788025688362024 : True := trivial
theorem PySem.W.Fast.te16169901531903454412 : True := trivial
theorem PySem.W.Fast.te11721780829593208431 : True := trivial
theorem PySem.W.Fast.te9340316220713528319 : True := trivial
theorem PySem.W.Fast.te17434228372482790786 : True := trivial
theorem PySem.W.Fast.te4019594494843286356 : True := trivial
theorem PySem.W.Fast.te10619848273135744575 : True := trivial
theorem PySem.W.Fast.te17821134205693415474 : True := trivial
theorem PySem.W.Fast.te10337749023082206581 : True := trivial
theorem PySem.W.Fast.te7068832138252517289 : True := trivial
theorem PySem.W.Fast.te2149176543068205952 : True := trivial
theorem PySem.W.Fast.te4917660803722190336 : True := trivial
theorem PySem.W.Fast.te255963341305533 : True := trivial
theorem PySem.W.Fast.te15126961898758720222 : True := trivial
theorem PySem.W.Fast.te16857449328051097113 : True := trivial
theorem PySem.W.Fast.te5042430972531198453 : True := trivial
theorem PySem.W.Fast.te9864939347483738550 : True := trivial
theorem PySem.W.Fast.te3292657963803972429 : True := trivial
theorem PySem.W.Fast.te7150525110243305030 : True := trivial
theorem PySem.W.Fast.te4529198506493166687 : True := trivial
theorem PySem.W.Fast.te9780033073092603083 : True := trivial
theorem PySem.W.Fast.te7289765285880780127 : True := trivial
theorem PySem.W.Fast.te8628240260630451721 : True := trivial
theorem PySem.W.Fast.te7087319216678210641 : True := trivial
theorem PySem.W.Fast.te11104325228686407712 : True := trivial
theorem PySem.W.Fast.te17553575034772002728 : True := trivial
theorem PySem.W.Fast.te3898782125508117728 : True := trivial
theorem PySem.W.Fast.te9158969944681431005 : True := trivial
theorem PySem.W.Fast.te16230844922331464634 : True := trivial
theorem PySem.W.Fast.te1164513800182747355 : True := trivial
theorem PySem.W.Fast.te12234258715767732190 : True := trivial
theorem PySem.W.Fast.te5301062317316213751 : True := trivial
theorem PySem.W.Fast.te9293157320856089073 : True := trivial
theorem PySem.W.Fast.te6245682794267208885 : True := trivial
theorem PySem.W.Fast.te9421579561529286796 : True := trivial
theorem PySem.W.Fast.te7534736661476840532 : True := trivial
theorem PySem.W.Fast.te1008785278688219133 : True := trivial
theorem PySem.W.Fast.te4116614986800027651 : True := trivial
theorem PySem.W.Fast.te275910553905978837 : True := trivial
theorem PySem.W.Fast.te174265102833090913 : True := trivial
theorem PySem.W.Fast.te14877108849881662084 : True := trivial
theorem PySem.W.Fast.te12234843063408359771 : True := trivial
theorem PySem.W.Fast.te11711758800183530852 : True := trivial
theorem PySem.W.Fast.te14403008050657841098 : True := trivial
theorem PySem.W.Fast.te9890635395775742516 : True := trivial
theorem PySem.W.Fast.te5305128812086995519 : True := trivial
theorem PySem.W.Fast.te7521787571593144377 : True := trivial
theorem PySem.W.Fast.te6848678822109286753 : True := trivial
theorem PySem.W.Fast.te11167817024158149454 : True := trivial
theorem PySem.W.Fast.te1447098930000243374 : True := trivial
theorem PySem.W.Fast.te14942873481696004640 : True := trivial
theorem PySem.W.Fast.te8687709301169004730 : True := trivial
theorem PySem.W.Fast.te15156838028144652857 : True := trivial
theorem PySem.W.Fast.te17100396909197595848 : True := trivial
theorem PySem.W.Fast.te18212212987151225561 : True := trivial
theorem PySem.W.Fast.te9647771217897564608 : True := trivial
theorem PySem.W.Fast.te16625766975500970959 : True := trivial
theorem PySem.W.Fast.te5366789018777345107 : True := trivial
theorem PySem.W.Fast.te3030365891076808755 : True := trivial
theorem PySem.W.Fast.te11931087013327856556 : True := trivial
theorem PySem.W.Fast.te12238395323194138882 : True := trivial
theorem PySem.W.Fast.te17707240715185836513 : True := trivial
theorem PySem.W.Fast.te11981687432604847825 : True := trivial
theorem PySem.W.Fast.te6824169483053267722 : True := trivial
theorem PySem.W.Fast.te9555812479510143650 : True := trivial
theorem PySem.W.Fast.te10379934631142038386 : True := trivial
theorem PySem.W.Fast.te14646328190125154028 : True := trivial
theorem PySem.W.Fast.te16842713153946467283 : True := trivial
theorem PySem.W.Fast.te5806486932174682692 : True := trivial
theorem PySem.W.Fast.te5514889421203238232 : True := trivial
theorem PySem.W.Fast.te3551172603090142466 : True := trivial
theorem PySem.W.Fast.te6885171725298455992 : True := trivial
theorem PySem.W.Fast.te3543541854151550464 : True := trivial
theorem PySem.W.Fast.te10028107525196249734 : True := trivial
theorem PySem.W.Fast.te11860438659364595571 : True := trivial
theorem PySem.W.Fast.te6518966087921427333 : True := trivial
theorem PySem.W.Fast.te16572216224419071519 : True := trivial
theorem PySem.W.Fast.te654228740838370515 : True := trivial
theorem PySem.W.Fast.te5959216522437555868 : True := trivial
theorem PySem.W.Fast.te18240092578625019008 : True := trivial
theorem PySem.W.Fast.te2109737072840231667 : True := trivial
theorem PySem.W.Fast.te8568589141194446360 : True := trivial
theorem PySem.W.Fast.te1691811663843590964 : True := trivial
theorem PySem.W.Fast.te11215340299947261988 : True := trivial
theorem PySem.W.Fast.te17777869277282584659 : True := trivial
theorem PySem.W.Fast.te18109548570639260712 : True := trivial
theorem PySem.W.Fast.te16935274181257521921 : True := trivial
theorem PySem.W.Fast.te15308632997324334820 : True := trivial
theorem PySem.W.Fast.te6648504464332105250 : True := trivial
theorem PySem.W.Fast.te10847457466642769162 : True := trivial
theorem PySem.W.Fast.te18325083634667954526 : True := trivial
theorem PySem.W.Fast.te15348726235685242324 : True := trivial
theorem PySem.W.Fast.te1743113689638161010 : True := trivial
theorem PySem.W.Fast.te5729395836000864481 : True := trivial
theorem PySem.W.Fast.te12120783310653003954 : True := trivial
theorem PySem.W.Fast.te15798887527787977393 : True := trivial
theorem PySem.W.Fast.te5193865865870619763 : True := trivial
theorem PySem.W.Fast.te6412007565900372489 : True := trivial
theorem PySem.W.Fast.te7969296473927992069 : True := trivial
theorem PySem.W.Fast.te8809998570423218194 : True := trivial
theorem PySem.W.Fast.te8105856500454523918 : True := trivial
theorem PySem.W.Fast.te12902047386728906687 : True := trivial
theorem PySem.W.Fast.te8580960754315041189 : True := trivial
theorem PySem.W.Fast.te12699093487082356730 : True := trivial
theorem PySem.W.Fast.te3929207101152834053 : True := trivial
theorem PySem.W.Fast.te596756292398658897 : True := trivial
theorem PySem.W.Fast.te12071285347390672255 : True := trivial
theorem PySem.W.Fast.te17009506211421822698 : True := trivial
theorem PySem.W.Fast.te14099434158180392990 : True := trivial
theorem PySem.W.Fast.te16191091881458340912 : True := trivial
theorem PySem.W.Fast.te5632014062109261495 : True := trivial
theorem PySem.W.Fast.te8780114434302778573 : True := trivial
theorem PySem.W.Fast.te10192554336698391954 : True := trivial
theorem PySem.W.Fast.te7687506173892316723 : True := trivial
theorem PySem.W.Fast.te283208549596629545 : True := trivial
theorem PySem.W.Fast.te18295984845009826925 : True := trivial
theorem PySem.W.Fast.te9639144761302628588 : True := trivial
theorem PySem.W.Fast.te4543544819712978644 : True := trivial
theorem PySem.W.Fast.te8389574474008962650 : True := trivial
theorem PySem.W.Fast.te1549712531898872644 : True := trivial
theorem PySem.W.Fast.te1916785179236911705 : True := trivial
theorem PySem.W.Fast.te12286025817687062126 : True := trivial
theorem PySem.W.Fast.te11038403086421278527 : True := trivial
theorem PySem.W.Fast.te2908892049487300744 : True := trivial
theorem PySem.W.Fast.te18259144445422149200 : True := trivial
theorem PySem.W.Fast.te16498016733681511606 : True := trivial
theorem PySem.W.Fast.te7630414751963495170 : True := trivial
theorem PySem.W.Fast.te7841316251892693307 : True := trivial
theorem PySem.W.Fast.te14925891260506783187 : True := trivial
theorem PySem.W.Fast.te4916928541583679699 : True := trivial
theorem PySem.W.Fast.te8652937026285364921 : True := trivial
theorem PySem.W.Fast.te4298195868276313101 : True := trivial
theorem PySem.W.Fast.te17341622296430685901 : True := trivial
theorem PySem.W.Fast.te15682815859893615155 : True := trivial
theorem PySem.W.Fast.te13949028924890773111 : True := trivial
theorem PySem.W.Fast.te8717730827191463005 : True := trivial
theorem PySem.W.Fast.te11445094262141899134 : True := trivial
theorem PySem.W.Fast.te17265092720155625824 : True := trivial
theorem PySem.W.Fast.te1939630261970248834 : True := trivial
theorem PySem.W.Fast.te15755780267425183242 : True := trivial
theorem PySem.W.Fast.te14783131501388486762 : True := trivial
theorem PySem.W.Fast.te15045581961760978789 : True := trivial
theorem PySem.W.Fast.te8289176111362681946 : True := trivial
theorem PySem.W.Fast.te535209044674316837 : True := trivial
theorem PySem.W.Fast.te11671327973026286281 : True := trivial
theorem PySem.W.Fast.te874985627861327002 : True := trivial
theorem PySem.W.Fast.te4753144973506301356 : True := trivial
theorem PySem.W.Fast.te13958776564240183659 : True := trivial
theorem PySem.W.Fast.te7608357052195074104 : True := trivial
theorem PySem.W.Fast.te6117615688242457166 : True := trivial
theorem PySem.W.Fast.te14483306905521300031 : True := trivial
theorem PySem.W.Fast.te1611937201367388497 : True := trivial
theorem PySem.W.Fast.te4172064058567061706 : True := trivial
theorem PySem.W.Fast.te15472452531812670400 : True := trivial
theorem PySem.W.Fast.te4395926150308283455 : True := trivial
theorem PySem.W.Fast.te10976385006132492593 : True := trivial
theorem PySem.W.Fast.te473452734475477527 : True := trivial
theorem PySem.W.Fast.te15397587457836610302 : True := trivial
theorem PySem.W.Fast.te6000445598232267454 : True := trivial
theorem PySem.W.Fast.te4585388708661659427 : True := trivial
theorem PySem.W.Fast.te17383763065472566914 : True := trivial
theorem PySem.W.Fast.te13866218825036671361 : True := trivial
theorem PySem.W.Fast.te12102935721771815632 : True := trivial
theorem PySem.W.Fast.te2855459747413637029 : True := trivial
theorem PySem.W.Fast.te187553043593496210 : True := trivial
theorem PySem.W.Fast.te14022712855788083962 : True := trivial
theorem PySem.W.Fast.te11951272276815684543 : True := trivial
theorem PySem.W.Fast.te13819957246360631905 : True := trivial
theorem PySem.W.Fast.te12872793988577111162 : True := trivial
theorem PySem.W.Fast.te4312095642899822522 : True := trivial
theorem PySem.W.Fast.te1548264765548394725 : True := trivial
theorem PySem.W.Fast.te17030550636765375624 : True := trivial
theorem PySem.W.Fast.te115415550070755609 : True := trivial
theorem PySem.W.Fast.te18278676494326056273 : True := trivial
theorem PySem.W.Fast.te11293655953535878267 : True := trivial
theorem PySem.W.Fast.te14863295784831641539 : True := trivial
theorem PySem.W.Fast.te18184085212844856146 : True := trivial
theorem PySem.W.Fast.te5763960962946488563 : True := trivial
theorem PySem.W.Fast.te3481002152698165112 : True := trivial
theorem PySem.W.Fast.te5304130771305723706 : True := trivial
theorem PySem.W.Fast.te12402362186017443663 : True := trivial
theorem PySem.W.Fast.te5442821343703472653 : True := trivial
theorem PySem.W.Fast.te1406608989845975754 : True := trivial
theorem PySem.W.Fast.te18332620317159095750 : True := trivial
theorem PySem.W.Fast.te8331104977522394008 : True := trivial
theorem PySem.W.Fast.te10516644254714066261 : True := trivial
theorem PySem.W.Fast.te4295492452797918819 : True := trivial
theorem PySem.W.Fast.te17148049421451450272 : True := trivial
theorem PySem.W.Fast.te1501280359675063979 : True := trivial
theorem PySem.W.Fast.te14349979899686523757 : True := trivial
theorem PySem.W.Fast.te11545203751835871938 : True := trivial
theorem PySem.W.Fast.te12025021539647095810 : True := trivial
theorem PySem.W.Fast.te17791757582879770075 : True := trivial
theorem PySem.W.Fast.te2760218698681726058 : True := trivial
theorem PySem.W.Fast.te7139598984610685796 : True := trivial
theorem PySem.W.Fast.te13107508819618468383 : True := trivial
theorem PySem.W.Fast.te3177153158403333505 : True := trivial
theorem PySem.W.Fast.te10529522869298238084 : True := trivial
theorem PySem.W.Fast.te5913785027589420130 : True := trivial
theorem PySem.W.Fast.te16837085026381522839 : True := trivial
theorem PySem.W.Fast.te8828929327355534953 : True := trivial
theorem PySem.W.Fast.te17983855681458226701 : True := trivial
theorem PySem.W.Fast.te16942841186481743654 : True := trivial
theorem PySem.W.Fast.te15269478397518803094 : True := trivial
theorem PySem.W.Fast.te4516162732304833731 : True := trivial
theorem PySem.W.Fast.te13854629910905103535 : True := trivial
theorem PySem.W.Fast.te16394099648593977751 : True := trivial
theorem PySem.W.Fast.te3654143739301039701 : True := trivial
theorem PySem.W.Fast.te14087083474309619264 : True := trivial
theorem PySem.W.Fast.te5475113876022742757 : True := trivial
theorem PySem.W.Fast.te13464787914725661782 : True := trivial
theorem PySem.W.Fast.te16444674363400630087 : True := trivial
theorem PySem.W.Fast.te16667742413900059204 : True := trivial
theorem PySem.W.Fast.te17037536905491717578 : True := trivial
theorem PySem.W.Fast.te1531763999092413375 : True := trivial
theorem PySem.W.Fast.te1673800107402556701 : True := trivial
theorem PySem.W.Fast.te10431484858881026981 : True := trivial
theorem PySem.W.Fast.te12813004325714868263 : True := trivial
theorem PySem.W.Fast.te2308689887434635546 : True := trivial
theorem PySem.W.Fast.te7972404799944127998 : True := trivial
theorem PySem.W.Fast.te901984685196384588 : True := trivial
theorem PySem.W.Fast.te1972603820843626716 : True := trivial
theorem PySem.W.Fast.te10196594119362112577 : True := trivial
theorem PySem.W.Fast.te1680023555383760459 : True := trivial
theorem PySem.W.Fast.te8194691858983361813 : True := trivial
theorem PySem.W.Fast.te5450948415036650975 : True := trivial
theorem PySem.W.Fast.te11738371113950745246 : True := trivial
theorem PySem.W.Fast.te17438730940271246731 : True := trivial
theorem PySem.W.Fast.te12819131123283358739 : True := trivial
theorem PySem.W.Fast.te13075042643624398308 : True := trivial
theorem PySem.W.Fast.te4903246313274362176 : True := trivial
theorem PySem.W.Fast.te1840852441965688217 : True := trivial
theorem PySem.W.Fast.te12505653465997088284 : True := trivial
theorem PySem.W.Fast.te13642032052395144139 : True := trivial
theorem PySem.W.Fast.te5314494507455687341 : True := trivial
theorem PySem.W.Fast.te17841738492651143187 : True := trivial
theorem PySem.W.Fast.te3996316049396256075 : True := trivial
theorem PySem.W.Fast.te10480827165981845150 : True := trivial
theorem PySem.W.Fast.te14363868882172860082 : True := trivial
theorem PySem.W.Fast.te16902725489017055270 : True := trivial
theorem PySem.W.Fast.te11874097866924708435 : True := trivial
theorem PySem.W.Fast.te15280798404421677771 : True := trivial
theorem PySem.W.Fast.te5957517421829342747 : True := trivial
theorem PySem.W.Fast.te8714525063468398691 : True := trivial
theorem PySem.W.Fast.te12610293561686129964 : True := trivial
theorem PySem.W.Fast.te6222127656101065368 : True := trivial
theorem PySem.W.Fast.te18322262887977934867 : True := trivial
theorem PySem.W.Fast.te1289795834970358022 : True := trivial
theorem PySem.W.Fast.te10087324088491467025 : True := trivial
theorem PySem.W.Fast.te3404826193483236798 : True := trivial
theorem PySem.W.Fast.te5108733340685093750 : True := trivial
theorem PySem.W.Fast.te12156692465480073884 : True := trivial
theorem PySem.W.Fast.te15905355576163069564 : True := trivial
theorem PySem.W.Fast.te11309544927525183356 : True := trivial
theorem PySem.W.Fast.te2873813453973700261 : True := trivial
theorem PySem.W.Fast.te16449983614583810259 : True := trivial
theorem PySem.W.Fast.te9545190142708321743 : True := trivial
theorem PySem.W.Fast.te9043469138764393191 : True := trivial
theorem PySem.W.Fast.te13088066848060786771 : True := trivial
theorem PySem.W.Fast.te9477068965618942343 : True := trivial
theorem PySem.W.Fast.te38962014331102017 : True := trivial
theorem PySem.W.Fast.te14388296430333605662 : True := trivial
theorem PySem.W.Fast.te1230016849875621464 : True := trivial
theorem PySem.W.Fast.te11703675383226109656 : True := trivial
theorem PySem.W.Fast.te9133973008447202252 : True := trivial
theorem PySem.W.Fast.te5851047274733371674 : True := trivial
theorem PySem.W.Fast.te3189724446721144378 : True := trivial
theorem PySem.W.Fast.te9331205841422724380 : True := trivial
theorem PySem.W.Fast.te10441886983316989845 : True := trivial
theorem PySem.W.Fast.te3944846353001640803 : True := trivial
theorem PySem.W.Fast.te1495877310877672476 : True := trivial
theorem PySem.W.Fast.te5990086310966333168 : True := trivial
theorem PySem.W.Fast.te9636206426225123716 : True := trivial
theorem PySem.W.Fast.te167456184113372832 : True := trivial
theorem PySem.W.Fast.te2758845250279203903 : True := trivial
theorem PySem.W.Fast.te2424791402977957342 : True := trivial
theorem PySem.W.Fast.te12686887537475724444 : True := trivial
theorem PySem.W.Fast.te9223499064664277347 : True := trivial
theorem PySem.W.Fast.te5428536958320436530 : True := trivial
theorem PySem.W.Fast.te9348933294756997447 : True := trivial
theorem PySem.W.Fast.te7411266580273000077 : True := trivial
theorem PySem.W.Fast.te1751926058681510582 : True := trivial
theorem PySem.W.Fast.te17855823717087864931 : True := trivial
theorem PySem.W.Fast.te2406343452505937568 : True := trivial
theorem PySem.W.Fast.te17825576208564083765 : True := trivial
theorem PySem.W.Fast.te521961744982536 : True := trivial
theorem PySem.W.Fast.te14176806662595102749 : True := trivial
theorem PySem.W.Fast.te3011863952031988201 : True := trivial
theorem PySem.W.Fast.te5568233348364899598 : True := trivial
theorem PySem.W.Fast.te12227584649955168398 : True := trivial
theorem PySem.W.Fast.te10263751264985632686 : True := trivial
theorem PySem.W.Fast.te17203547842861840758 : True := trivial
theorem PySem.W.Fast.te4467927351938434454 : True := trivial
theorem PySem.W.Fast.te15312870225224273091 : True := trivial
theorem PySem.W.Fast.te17773953816057986690 : True := trivial
theorem PySem.W.Fast.te14390181654815561897 : True := trivial
theorem PySem.W.Fast.te3296611713782159187 : True := trivial
theorem PySem.W.Fast.te2182125355572056731 : True := trivial
theorem PySem.W.Fast.te15892914037862220336 : True := trivial
theorem PySem.W.Fast.te970430755563350791 : True := trivial
theorem PySem.W.Fast.te17547065276474936093 : True := trivial
theorem PySem.W.Fast.te1657957334792544612 : True := trivial
theorem PySem.W.Fast.te18204066883882712878 : True := trivial
theorem PySem.W.Fast.te9071683170112035780 : True := trivial
theorem PySem.W.Fast.te7899255486633487475 : True := trivial
theorem PySem.W.Fast.te13285224399343677149 : True := trivial
theorem PySem.W.Fast.te4929274375857783248 : True := trivial
theorem PySem.W.Fast.te7749057468999307042 : True := trivial
theorem PySem.W.Fast.te2354984775040799995 : True := trivial
theorem PySem.W.Fast.te8700075450021097937 : True := trivial
theorem PySem.W.Fast.te9360820206490783006 : True := trivial
theorem PySem.W.Fast.te17805483686922870554 : True := trivial
theorem PySem.W.Fast.te5279949240215293086 : True := trivial
theorem PySem.W.Fast.te15252995242203138318 : True := trivial
theorem PySem.W.Fast.te14641614500000136236 : True := trivial
theorem PySem.W.Fast.te18300406188981455448 : True := trivial
theorem PySem.W.Fast.te3966226285255191122 : True := trivial
theorem PySem.W.Fast.te15439979543343434924 : True := trivial
theorem PySem.W.Fast.te10490924408151123790 : True := trivial
theorem PySem.W.Fast.te14003411160738770523 : True := trivial
theorem PySem.W.Fast.te9638032628846886046 : True := trivial
theorem PySem.W.Fast.te11224510764578170354 : True := trivial
theorem PySem.W.Fast.te8268255660074317065 : True := trivial
theorem PySem.W.Fast.te17498462673937536048 : True := trivial
theorem PySem.W.Fast.te14649384351486739907 : True := trivial
theorem PySem.W.Fast.te1476080903490118462 : True := trivial
theorem PySem.W.Fast.te8632878476508190283 : True := trivial
theorem PySem.W.Fast.te2527409194832505242 : True := trivial
theorem PySem.W.Fast.te14785157658718256586 : True := trivial
theorem PySem.W.Fast.te7973613246538811768 : True := trivial
theorem PySem.W.Fast.te14935391228697618640 : True := trivial
theorem PySem.W.Fast.te9408607122842840055 : True := trivial
theorem PySem.W.Fast.te928555792506339006 : True := trivial
theorem PySem.W.Fast.te14292874210548631498 : True := trivial
theorem PySem.W.Fast.te370982226644050621 : True := trivial
theorem PySem.W.Fast.te12424067016203559381 : True := trivial
theorem PySem.W.Fast.te6225963762671349727 : True := trivial
theorem PySem.W.Fast.te12940384242150657163 : True := trivial
theorem PySem.W.Fast.te15599024847269020806 : True := trivial
theorem PySem.W.Fast.te15580801330051045563 : True := trivial
theorem PySem.W.Fast.te5733863529306505936 : True := trivial
theorem PySem.W.Fast.te2204452465074569268 : True := trivial
theorem PySem.W.Fast.te6189010637705573356 : True := trivial
theorem PySem.W.Fast.te17639207117465563181 : True := trivial
theorem PySem.W.Fast.te9492691847401006202 : True := trivial
theorem PySem.W.Fast.te8265209871300903972 : True := trivial
theorem PySem.W.Fast.te6040421590176098263 : True := trivial
theorem PySem.W.Fast.te5855411913985729405 : True := trivial
theorem PySem.W.Fast.te8191916797359224748 : True := trivial
theorem PySem.W.Fast.te1628849425087518677 : True := trivial
theorem PySem.W.Fast.te2970748040288101159 : True := trivial
theorem PySem.W.Fast.te11645474365880596357 : True := trivial
theorem PySem.W.Fast.te16763718914383161819 : True := trivial
theorem PySem.W.Fast.te12547839923186215638 : True := trivial
theorem PySem.W.Fast.te2316780952705864191 : True := trivial
theorem PySem.W.Fast.te7071548060226178219 : True := trivial
theorem PySem.W.Fast.te1082425003739235297 : True := trivial
theorem PySem.W.Fast.te16757916841482844522 : True := trivial
theorem PySem.W.Fast.te4739457974537248309 : True := trivial
theorem PySem.W.Fast.te6003424346065099868 : True := trivial
theorem PySem.W.Fast.te11154497970025108181 : True := trivial
theorem PySem.W.Fast.te4876761005976500681 : True := trivial
theorem PySem.W.Fast.te5515131966212389503 : True := trivial
theorem PySem.W.Fast.te11535459683843903864 : True := trivial
theorem PySem.W.Fast.te14348114720778848548 : True := trivial
theorem PySem.W.Fast.te1371578087617770689 : True := trivial
theorem PySem.W.Fast.te5802075358816143823 : True := trivial
theorem PySem.W.Fast.te5191003290673928155 : True := trivial
theorem PySem.W.Fast.te5014255903176454299 : True := trivial
theorem PySem.W.Fast.te12388571331486985456 : True := trivial
theorem PySem.W.Fast.te518132334684122890 : True := trivial
theorem PySem.W.Fast.te8360342766697563206 : True := trivial
theorem PySem.W.Fast.te1992107158029713848 : True := trivial
theorem PySem.W.Fast.te10594198459558715710 : True := trivial
theorem PySem.W.Fast.te7876132187314304568 : True := trivial
theorem PySem.W.Fast.te13077284554499864116 : True := trivial
theorem PySem.W.Fast.te2785649737649446187 : True := trivial
theorem PySem.W.Fast.te9934397635516513122 : True := trivial
theorem PySem.W.Fast.te2262561355060495887 : True := trivial
theorem PySem.W.Fast.te4938170189985697338 : True := trivial
theorem PySem.W.Fast.te9774786825618358756 : True := trivial
theorem PySem.W.Fast.te11530649721127547009 : True := trivial
theorem PySem.W.Fast.te1480952082648063485 : True := trivial
theorem PySem.W.Fast.te17072971642726045840 : True := trivial
theorem PySem.W.Fast.te8107661691098945794 : True := trivial
theorem PySem.W.Fast.te15994334967318004551 : True := trivial
theorem PySem.W.Fast.te13451813849342051657 : True := trivial
theorem PySem.W.Fast.te7884252931270618187 : True := trivial
theorem PySem.W.Fast.te9741429726335511351 : True := trivial
theorem PySem.W.Fast.te16479534260836754044 : True := trivial
theorem PySem.W.Fast.te7136081045097789190 : True := trivial
theorem PySem.W.Fast.te2822736926283676632 : True := trivial
theorem PySem.W.Fast.te17673908277309521916 : True := trivial
theorem PySem.W.Fast.te4939107980218334719 : True := trivial
theorem PySem.W.Fast.te5247649573990361309 : True := trivial
theorem PySem.W.Fast.te7772767812679924728 : True := trivial
theorem PySem.W.Fast.te9849259182770923881 : True := trivial
theorem PySem.W.Fast.te10830712804339380078 : True := trivial
theorem PySem.W.Fast.te13499461425974770177 : True := trivial
theorem PySem.W.Fast.te7662215880522005397 : True := trivial
theorem PySem.W.Fast.te13471440790707576936 : True := trivial
theorem PySem.W.Fast.te367943684318089964 : True := trivial
theorem PySem.W.Fast.te11330269796393024564 : True := trivial
theorem PySem.W.Fast.te11690637114728022918 : True := trivial
theorem PySem.W.Fast.te17243685397090636231 : True := trivial
theorem PySem.W.Fast.te9537371847911512113 : True := trivial
theorem PySem.W.Fast.te6830859893380672547 : True := trivial
theorem PySem.W.Fast.te7041053389684682145 : True := trivial
theorem PySem.W.Fast.te9328506399386895088 : True := trivial
theorem PySem.W.Fast.te12898546573849821702 : True := trivial
theorem PySem.W.Fast.te11413117976405143902 : True := trivial
theorem PySem.W.Fast.te18321987353619981482 : True := trivial
theorem PySem.W.Fast.te178815756149294244 : True := trivial
theorem PySem.W.Fast.te468217421755042492 : True := trivial
theorem PySem.W.Fast.te8124434224514122996 : True := trivial
theorem PySem.W.Fast.te7682558423056450109 : True := trivial
theorem PySem.W.Fast.te16863760783836483657 : True := trivial
theorem PySem.W.Fast.te12922544394323499540 : True := trivial
theorem PySem.W.Fast.te9852864098899443885 : True := trivial
theorem PySem.W.Fast.te10864523275861798803 : True := trivial
theorem PySem.W.Fast.te7639065101032253133 : True := trivial
theorem PySem.W.Fast.te4377537855561218415 : True := trivial
theorem PySem.W.Fast.te14763840797877474535 : True := trivial
theorem PySem.W.Fast.te5137953894226530843 : True := trivial
theorem PySem.W.Fast.te503382062423682960 : True := trivial
theorem PySem.W.Fast.te17259264807462029744 : True := trivial
theorem PySem.W.Fast.te5331387558713701175 : True := trivial
theorem PySem.W.Fast.te2430330885403948967 : True := trivial
theorem PySem.W.Fast.te16036979799924230097 : True := trivial
theorem PySem.W.Fast.te13008250939688023961 : True := trivial
theorem PySem.W.Fast.te1056349960837965444 : True := trivial
theorem PySem.W.Fast.te2255046669642169130 : True := trivial
theorem PySem.W.Fast.te8062359160876577253 : True := trivial
theorem PySem.W.Fast.te10625017172546286074 : True := trivial
theorem PySem.W.Fast.te12885231198157842505 : True := trivial
theorem PySem.W.Fast.te18055929362778996341 : True := trivial
theorem PySem.W.Fast.te10563079652854296352 : True := trivial
theorem PySem.W.Fast.te15077730790752012956 : True := trivial
theorem PySem.W.Fast.te5081200836628352920 : True := trivial
theorem PySem.W.Fast.te14678862881028398782 : True := trivial
theorem PySem.W.Fast.te4308012553299893105 : True := trivial
theorem PySem.W.Fast.te10337966886524450030 : True := trivial
theorem PySem.W.Fast.te13235053909692540763 : True := trivial
theorem PySem.W.Fast.te12618910094229487855 : True := trivial
theorem PySem.W.Fast.te583772693225027532 : True := trivial
theorem PySem.W.Fast.te1911617757169867236 : True := trivial
theorem PySem.W.Fast.te16793509683473301854 : True := trivial
theorem PySem.W.Fast.te2974831713841196982 : True := trivial
theorem PySem.W.Fast.te16758357460438289899 : True := trivial
theorem PySem.W.Fast.te15476969748668401302 : True := trivial
theorem PySem.W.Fast.te16882336888581913870 : True := trivial
theorem PySem.W.Fast.te18157136076216312615 : True := trivial
theorem PySem.W.Fast.te6795421834820047824 : True := trivial
theorem PySem.W.Fast.te2951164076933516444 : True := trivial
theorem PySem.W.Fast.te1285657999895895498 : True := trivial
theorem PySem.W.Fast.te3770492548430210334 : True := trivial
theorem PySem.W.Fast.te12588064319973282773 : True := trivial
theorem PySem.W.Fast.te10752237277127925439 : True := trivial
theorem PySem.W.Fast.te10706892747671681552 : True := trivial
open PySem PySem.W PyProof.Rows
set_option maxRecDepth 100000 in
set_option maxHeartbeats 0 in
theorem PySem.Challenge.cw_twigtext_s01_tokens_holds : PySem.Challenge.rw_twigtext_s01_tokens.Holds := by
  rw [TL.row_eq]; w_on; k_headS; (case hw => exact ⟨[.list []], by decide +kernel, by decide +kernel⟩)
  k_fillS
  refine L2.walk_specK (r := TL.row) (k := 12) (CX := L2.CX0) (ps := ["text"]) (sp := TG.spToks) (by decide +kernel) rfl rfl ⟨rfl, by decide, by decide⟩ (fun w h Y => PySem.W.kIn_of Y) ?F ?S (fun _ _ _ _ z => z)
  case F =>
    intro w mg fa h Y KX G hmg
    refine' TG.fin_of KX G hmg ?all
    (case all =>
      refine' TG.Facts.mk ?d_is_small ?d_is_capital ?d_is_digit ?d_is_printable ?d_in_word ?d_in_code ?d_in_mark ?d_byte_at ?d_run_end ?d_growth_by_clearing ?d_growth_by_closing ?d_growth ?d_depth ?d_end_of_fraction ?d_end_of_exponent ?d_numeral_at ?d_mark_is_right ?d_packed_is_right ?d_exponent_is_right ?d_is_right ?d_spelled ?d_word_at ?d_code_at ?d_number_at ?d_item_end ?d_text_at ?d_sign_at ?d_token_at ?d_token_place ?d_scan ?d_scan_allowed ?d_refuse_long ?d_scan_shallow ?d_refuse_fault ?d_tokens ?i_POINT ?i_SMALL_E ?i_MINUS ?i_ZERO ?i_MOST_PACKED_DIGITS ?i_MOST_EXPONENT_DIGITS ?i_MOST_BYTES_numerals ?i_PACKED ?i_KEYWORD ?i_NAME ?i_CODE ?i_NUMBER ?i_TEXT ?i_SIGN ?i_MOST_NAME_BYTES ?i_LEAST_CODE_BYTES ?i_MOST_CODE_BYTES ?i_MOST_ITEMS ?i_LINE_END ?i_BLANK ?i_QUOTE ?i_HASH ?i_SEMICOLON ?i_BACKSLASH ?i_SMALL_N ?i_MOST_BYTES_calls ?i_MOST_DEPTH ?n_len ?n_max ?n_all ?s_LETTERS ?t_OPENING ?t_CLOSING ?t_MARKS ?k_RISING ?k_CLEARING ?k_KEYWORDS ?k_ONE ?k_TWO ?c_Token ?c_Numeral ?c_Scanned ?m_size ?aCT_kind ?aCT_look ?aCT_start ?aCT_end ?aCN_digits ?aCN_fraction ?aCN_exponent ?aCN_mark ?aCS_found ?aCS_fault ?x_Refused ?x_TooLong ?x_TooDeep ?x_Fault ?aCL_numbers ?aCD_numbers ?aCF_numbers ?aCF_rule ?aCF_place ?eCL ?eCD ?eCF ?eCFF
      (case d_is_small => (refine' TG.defk ?a_1 ?l_1 ?c_1 ?k_1; (case a_1 => k_is); (case l_1 => k_is); (case c_1 => k_is); (case k_1 => k_is)))
      (case d_is_capital => (refine' TG.defk ?a_2 ?l_2 ?c_2 ?k_2; (case a_2 => k_is); (case l_2 => k_is); (case c_2 => k_is); (case k_2 => k_is)))
      (case d_is_digit => (refine' TG.defk ?a_3 ?l_3 ?c_3 ?k_3; (case a_3 => k_is); (case l_3 => k_is); (case c_3 => k_is); (case k_3 => k_is)))
      (case d_is_printable => (refine' TG.defk ?a_4 ?l_4 ?c_4 ?k_4; (case a_4 => k_is); (case l_4 => k_is); (case c_4 => k_is); (case k_4 => k_is)))
      (case d_in_word => (refine' TG.defk ?a_5 ?l_5 ?c_5 ?k_5; (case a_5 => k_is); (case l_5 => k_is); (case c_5 => k_is); (case k_5 => k_is)))
      (case d_in_code => (refine' TG.defk ?a_6 ?l_6 ?c_6 ?k_6; (case a_6 => k_is); (case l_6 => k_is); (case c_6 => k_is); (case k_6 => k_is)))
      (case d_in_mark => (refine' TG.defk ?a_7 ?l_7 ?c_7 ?k_7; (case a_7 => k_is); (case l_7 => k_is); (case c_7 => k_is); (case k_7 => k_is)))
      (case d_byte_at => (refine' TG.defk ?a_8 ?l_8 ?c_8 ?k_8; (case a_8 => k_is); (case l_8 => k_is); (case c_8 => k_is); (case k_8 => k_is)))
      (case d_run_end => (refine' TG.defk ?a_9 ?l_9 ?c_9 ?k_9; (case a_9 => k_is); (case l_9 => k_is); (case c_9 => k_is); (case k_9 => k_is)))
      (case d_growth_by_clearing => (refine' TG.defk ?a_10 ?l_10 ?c_10 ?k_10; (case a_10 => k_is); (case l_10 => k_is); (case c_10 => k_is); (case k_10 => k_is)))
      (case d_growth_by_closing => (refine' TG.defk ?a_11 ?l_11 ?c_11 ?k_11; (case a_11 => k_is); (case l_11 => k_is); (case c_11 => k_is); (case k_11 => k_is)))
      (case d_growth => (refine' TG.defk ?a_12 ?l_12 ?c_12 ?k_12; (case a_12 => k_is); (case l_12 => k_is); (case c_12 => k_is); (case k_12 => k_is)))
      (case d_depth => (refine' TG.defk ?a_13 ?l_13 ?c_13 ?k_13; (case a_13 => k_is); (case l_13 => k_is); (case c_13 => k_is); (case k_13 => k_is)))
      (case d_end_of_fraction => (refine' TG.defk ?a_14 ?l_14 ?c_14 ?k_14; (case a_14 => k_is); (case l_14 => k_is); (case c_14 => k_is); (case k_14 => k_is)))
      (case d_end_of_exponent => (refine' TG.defk ?a_15 ?l_15 ?c_15 ?k_15; (case a_15 => k_is); (case l_15 => k_is); (case c_15 => k_is); (case k_15 => k_is)))
      (case d_numeral_at => (refine' TG.defk ?a_16 ?l_16 ?c_16 ?k_16; (case a_16 => k_is); (case l_16 => k_is); (case c_16 => k_is); (case k_16 => k_is)))
      (case d_mark_is_right => (refine' TG.defk ?a_17 ?l_17 ?c_17 ?k_17; (case a_17 => k_is); (case l_17 => k_is); (case c_17 => k_is); (case k_17 => k_is)))
      (case d_packed_is_right => (refine' TG.defk ?a_18 ?l_18 ?c_18 ?k_18; (case a_18 => k_is); (case l_18 => k_is); (case c_18 => k_is); (case k_18 => k_is)))
      (case d_exponent_is_right => (refine' TG.defk ?a_19 ?l_19 ?c_19 ?k_19; (case a_19 => k_is); (case l_19 => k_is); (case c_19 => k_is); (case k_19 => k_is)))
      (case d_is_right => (refine' TG.defk ?a_20 ?l_20 ?c_20 ?k_20; (case a_20 => k_is); (case l_20 => k_is); (case c_20 => k_is); (case k_20 => k_is)))
      (case d_spelled => (refine' TG.defk ?a_21 ?l_21 ?c_21 ?k_21; (case a_21 => k_is); (case l_21 => k_is); (case c_21 => k_is); (case k_21 => k_is)))
      (case d_word_at => (refine' TG.defk ?a_22 ?l_22 ?c_22 ?k_22; (case a_22 => k_is); (case l_22 => k_is); (case c_22 => k_is); (case k_22 => k_is)))
      (case d_code_at => (refine' TG.defk ?a_23 ?l_23 ?c_23 ?k_23; (case a_23 => k_is); (case l_23 => k_is); (case c_23 => k_is); (case k_23 => k_is)))
      (case d_number_at => (refine' TG.defk ?a_24 ?l_24 ?c_24 ?k_24; (case a_24 => k_is); (case l_24 => k_is); (case c_24 => k_is); (case k_24 => k_is)))
      (case d_item_end => (refine' TG.defk ?a_25 ?l_25 ?c_25 ?k_25; (case a_25 => k_is); (case l_25 => k_is); (case c_25 => k_is); (case k_25 => k_is)))
      (case d_text_at => (refine' TG.defk ?a_26 ?l_26 ?c_26 ?k_26; (case a_26 => k_is); (case l_26 => k_is); (case c_26 => k_is); (case k_26 => k_is)))
      (case d_sign_at => (refine' TG.defk ?a_27 ?l_27 ?c_27 ?k_27; (case a_27 => k_is); (case l_27 => k_is); (case c_27 => k_is); (case k_27 => k_is)))
      (case d_token_at => (refine' TG.defk ?a_28 ?l_28 ?c_28 ?k_28; (case a_28 => k_is); (case l_28 => k_is); (case c_28 => k_is); (case k_28 => k_is)))
      (case d_token_place => (refine' TG.defk ?a_29 ?l_29 ?c_29 ?k_29; (case a_29 => k_is); (case l_29 => k_is); (case c_29 => k_is); (case k_29 => k_is)))
      (case d_scan => (refine' TG.defk ?a_30 ?l_30 ?c_30 ?k_30; (case a_30 => k_is); (case l_30 => k_is); (case c_30 => k_is); (case k_30 => k_is)))
      (case d_scan_allowed => (refine' TG.defk ?a_31 ?l_31 ?c_31 ?k_31; (case a_31 => k_is); (case l_31 => k_is); (case c_31 => k_is); (case k_31 => k_is)))
      (case d_refuse_long => (refine' TG.defk ?a_32 ?l_32 ?c_32 ?k_32; (case a_32 => k_is); (case l_32 => k_is); (case c_32 => k_is); (case k_32 => k_is)))
      (case d_scan_shallow => (refine' TG.defk ?a_33 ?l_33 ?c_33 ?k_33; (case a_33 => k_is); (case l_33 => k_is); (case c_33 => k_is); (case k_33 => k_is)))
      (case d_refuse_fault => (refine' TG.defk ?a_34 ?l_34 ?c_34 ?k_34; (case a_34 => k_is); (case l_34 => k_is); (case c_34 => k_is); (case k_34 => k_is)))
      (case d_tokens => (refine' TG.defk ?a_35 ?l_35 ?c_35 ?k_35; (case a_35 => k_is); (case l_35 => k_is); (case c_35 => k_is); (case k_35 => k_is)))
      (case i_POINT => (refine' TG.intk ?a_36; (case a_36 => k_is)))
      (case i_SMALL_E => (refine' TG.intk ?a_37; (case a_37 => k_is)))
      (case i_MINUS => (refine' TG.intk ?a_38; (case a_38 => k_is)))
      (case i_ZERO => (refine' TG.intk ?a_39; (case a_39 => k_is)))
      (case i_MOST_PACKED_DIGITS => (refine' TG.intk ?a_40; (case a_40 => k_is)))
      (case i_MOST_EXPONENT_DIGITS => (refine' TG.intk ?a_41; (case a_41 => k_is)))
      (case i_MOST_BYTES_numerals => (refine' TG.intk ?a_42; (case a_42 => k_is)))
      (case i_PACKED => (refine' TG.intk ?a_43; (case a_43 => k_is)))
      (case i_KEYWORD => (refine' TG.intk ?a_44; (case a_44 => k_is)))
      (case i_NAME => (refine' TG.intk ?a_45; (case a_45 => k_is)))
      (case i_CODE => (refine' TG.intk ?a_46; (case a_46 => k_is)))
      (case i_NUMBER => (refine' TG.intk ?a_47; (case a_47 => k_is)))
      (case i_TEXT => (refine' TG.intk ?a_48; (case a_48 => k_is)))
      (case i_SIGN => (refine' TG.intk ?a_49; (case a_49 => k_is)))
      (case i_MOST_NAME_BYTES => (refine' TG.intk ?a_50; (case a_50 => k_is)))
      (case i_LEAST_CODE_BYTES => (refine' TG.intk ?a_51; (case a_51 => k_is)))
      (case i_MOST_CODE_BYTES => (refine' TG.intk ?a_52; (case a_52 => k_is)))
      (case i_MOST_ITEMS => (refine' TG.intk ?a_53; (case a_53 => k_is)))
      (case i_LINE_END => (refine' TG.intk ?a_54; (case a_54 => k_is)))
      (case i_BLANK => (refine' TG.intk ?a_55; (case a_55 => k_is)))
      (case i_QUOTE => (refine' TG.intk ?a_56; (case a_56 => k_is)))
      (case i_HASH => (refine' TG.intk ?a_57; (case a_57 => k_is)))
      (case i_SEMICOLON => (refine' TG.intk ?a_58; (case a_58 => k_is)))
      (case i_BACKSLASH => (refine' TG.intk ?a_59; (case a_59 => k_is)))
      (case i_SMALL_N => (refine' TG.intk ?a_60; (case a_60 => k_is)))
      (case i_MOST_BYTES_calls => (refine' TG.intk ?a_61; (case a_61 => k_is)))
      (case i_MOST_DEPTH => (refine' TG.intk ?a_62; (case a_62 => k_is)))
      (case n_len => k_is)
      (case n_max => k_is)
      (case n_all => k_is)
      (case s_LETTERS => (refine' TG.strk ?a_63; (case a_63 => k_is)))
      (case t_OPENING => (refine' TG.tupk ?a_64 ?e_64 ?z_64 ?v_64; (case a_64 => k_is); (case e_64 => k_is); (case z_64 => decide); (case v_64 => exact (.cons ⟨_, rfl⟩ (.cons ⟨_, rfl⟩ (.cons ⟨_, rfl⟩ .nil))))))
      (case t_CLOSING => (refine' TG.tupk ?a_65 ?e_65 ?z_65 ?v_65; (case a_65 => k_is); (case e_65 => k_is); (case z_65 => decide); (case v_65 => exact (.cons ⟨_, rfl⟩ (.cons ⟨_, rfl⟩ (.cons ⟨_, rfl⟩ .nil))))))
      (case t_MARKS => (refine' TG.tupk ?a_66 ?e_66 ?z_66 ?v_66; (case a_66 => k_is); (case e_66 => k_is); (case z_66 => decide); (case v_66 => exact (.cons ⟨_, rfl⟩ (.cons ⟨_, rfl⟩ (.cons ⟨_, rfl⟩ (.cons ⟨_, rfl⟩ (.cons ⟨_, rfl⟩ (.cons ⟨_, rfl⟩ (.cons ⟨_, rfl⟩ .nil))))))))))
      (case k_RISING => (refine' TG.dics ?a_67 ?e_67 ?kk_67 ?ss_67; (case a_67 => k_is); (case e_67 => k_is); (case ss_67 => decide); (case kk_67 => exact ⟨⟨_, rfl⟩, rfl, ⟨⟨_, rfl⟩, rfl, ⟨⟨_, rfl⟩, rfl, ⟨⟨_, rfl⟩, rfl, ⟨⟨_, rfl⟩, rfl, ⟨⟨_, rfl⟩, rfl, ⟨⟨_, rfl⟩, rfl, ⟨⟨_, rfl⟩, rfl, ⟨⟨_, rfl⟩, rfl, ⟨⟨_, rfl⟩, rfl, ⟨⟨_, rfl⟩, rfl, ⟨⟨_, rfl⟩, rfl, ⟨⟨_, rfl⟩, rfl, ⟨⟨_, rfl⟩, rfl, ⟨⟨_, rfl⟩, rfl, ⟨⟨_, rfl⟩, rfl, ⟨⟨_, rfl⟩, rfl, ⟨⟨_, rfl⟩, rfl, ⟨⟨_, rfl⟩, rfl, ⟨⟨_, rfl⟩, rfl, ⟨⟨_, rfl⟩, rfl, ⟨⟨_, rfl⟩, rfl, ⟨⟨_, rfl⟩, rfl, ⟨⟨_, rfl⟩, rfl, ⟨⟨_, rfl⟩, rfl, trivial⟩⟩⟩⟩⟩⟩⟩⟩⟩⟩⟩⟩⟩⟩⟩⟩⟩⟩⟩⟩⟩⟩⟩⟩⟩)))
      (case k_CLEARING => (refine' TG.dics ?a_68 ?e_68 ?kk_68 ?ss_68; (case a_68 => k_is); (case e_68 => k_is); (case ss_68 => decide); (case kk_68 => exact ⟨⟨_, rfl⟩, rfl, ⟨⟨_, rfl⟩, rfl, ⟨⟨_, rfl⟩, rfl, ⟨⟨_, rfl⟩, rfl, ⟨⟨_, rfl⟩, rfl, ⟨⟨_, rfl⟩, rfl, ⟨⟨_, rfl⟩, rfl, ⟨⟨_, rfl⟩, rfl, ⟨⟨_, rfl⟩, rfl, ⟨⟨_, rfl⟩, rfl, ⟨⟨_, rfl⟩, rfl, ⟨⟨_, rfl⟩, rfl, ⟨⟨_, rfl⟩, rfl, ⟨⟨_, rfl⟩, rfl, ⟨⟨_, rfl⟩, rfl, ⟨⟨_, rfl⟩, rfl, ⟨⟨_, rfl⟩, rfl, ⟨⟨_, rfl⟩, rfl, ⟨⟨_, rfl⟩, rfl, ⟨⟨_, rfl⟩, rfl, ⟨⟨_, rfl⟩, rfl, ⟨⟨_, rfl⟩, rfl, ⟨⟨_, rfl⟩, rfl, trivial⟩⟩⟩⟩⟩⟩⟩⟩⟩⟩⟩⟩⟩⟩⟩⟩⟩⟩⟩⟩⟩⟩⟩)))
      (case k_KEYWORDS => (refine' TG.dics ?a_69 ?e_69 ?kk_69 ?ss_69; (case a_69 => k_is); (case e_69 => k_is); (case ss_69 => decide); (case kk_69 => (rw [← TG.w_keys]; exact ⟨⟨_, rfl⟩, rfl, ⟨⟨_, rfl⟩, rfl, ⟨⟨_, rfl⟩, rfl, ⟨⟨_, rfl⟩, rfl, ⟨⟨_, rfl⟩, rfl, ⟨⟨_, rfl⟩, rfl, ⟨⟨_, rfl⟩, rfl, ⟨⟨_, rfl⟩, rfl, ⟨⟨_, rfl⟩, rfl, ⟨⟨_, rfl⟩, rfl, ⟨⟨_, rfl⟩, rfl, ⟨⟨_, rfl⟩, rfl, ⟨⟨_, rfl⟩, rfl, ⟨⟨_, rfl⟩, rfl, ⟨⟨_, rfl⟩, rfl, ⟨⟨_, rfl⟩, rfl, ⟨⟨_, rfl⟩, rfl, ⟨⟨_, rfl⟩, rfl, ⟨⟨_, rfl⟩, rfl, ⟨⟨_, rfl⟩, rfl, ⟨⟨_, rfl⟩, rfl, ⟨⟨_, rfl⟩, rfl, ⟨⟨_, rfl⟩, rfl, ⟨⟨_, rfl⟩, rfl, ⟨⟨_, rfl⟩, rfl, ⟨⟨_, rfl⟩, rfl, ⟨⟨_, rfl⟩, rfl, ⟨⟨_, rfl⟩, rfl, ⟨⟨_, rfl⟩, rfl, ⟨⟨_, rfl⟩, rfl, ⟨⟨_, rfl⟩, rfl, ⟨⟨_, rfl⟩, rfl, ⟨⟨_, rfl⟩, rfl, ⟨⟨_, rfl⟩, rfl, ⟨⟨_, rfl⟩, rfl, ⟨⟨_, rfl⟩, rfl, ⟨⟨_, rfl⟩, rfl, ⟨⟨_, rfl⟩, rfl, ⟨⟨_, rfl⟩, rfl, ⟨⟨_, rfl⟩, rfl, ⟨⟨_, rfl⟩, rfl, ⟨⟨_, rfl⟩, rfl, ⟨⟨_, rfl⟩, rfl, ⟨⟨_, rfl⟩, rfl, ⟨⟨_, rfl⟩, rfl, ⟨⟨_, rfl⟩, rfl, ⟨⟨_, rfl⟩, rfl, ⟨⟨_, rfl⟩, rfl, ⟨⟨_, rfl⟩, rfl, ⟨⟨_, rfl⟩, rfl, ⟨⟨_, rfl⟩, rfl, ⟨⟨_, rfl⟩, rfl, ⟨⟨_, rfl⟩, rfl, ⟨⟨_, rfl⟩, rfl, ⟨⟨_, rfl⟩, rfl, ⟨⟨_, rfl⟩, rfl, ⟨⟨_, rfl⟩, rfl, ⟨⟨_, rfl⟩, rfl, ⟨⟨_, rfl⟩, rfl, ⟨⟨_, rfl⟩, rfl, ⟨⟨_, rfl⟩, rfl, ⟨⟨_, rfl⟩, rfl, ⟨⟨_, rfl⟩, rfl, ⟨⟨_, rfl⟩, rfl, ⟨⟨_, rfl⟩, rfl, ⟨⟨_, rfl⟩, rfl, ⟨⟨_, rfl⟩, rfl, ⟨⟨_, rfl⟩, rfl, ⟨⟨_, rfl⟩, rfl, ⟨⟨_, rfl⟩, rfl, ⟨⟨_, rfl⟩, rfl, ⟨⟨_, rfl⟩, rfl, ⟨⟨_, rfl⟩, rfl, ⟨⟨_, rfl⟩, rfl, ⟨⟨_, rfl⟩, rfl, ⟨⟨_, rfl⟩, rfl, ⟨⟨_, rfl⟩, rfl, ⟨⟨_, rfl⟩, rfl, ⟨⟨_, rfl⟩, rfl, ⟨⟨_, rfl⟩, rfl, trivial⟩⟩⟩⟩⟩⟩⟩⟩⟩⟩⟩⟩⟩⟩⟩⟩⟩⟩⟩⟩⟩⟩⟩⟩⟩⟩⟩⟩⟩⟩⟩⟩⟩⟩⟩⟩⟩⟩⟩⟩⟩⟩⟩⟩⟩⟩⟩⟩⟩⟩⟩⟩⟩⟩⟩⟩⟩⟩⟩⟩⟩⟩⟩⟩⟩⟩⟩⟩⟩⟩⟩⟩⟩⟩⟩⟩⟩⟩⟩⟩))))
      (case k_ONE => (refine' TG.dici ?a_70 ?e_70 ?kk_70 ?ss_70; (case a_70 => k_is); (case e_70 => k_is); (case ss_70 => decide); (case kk_70 => exact ⟨⟨_, rfl⟩, rfl, ⟨_, rfl⟩, ⟨⟨_, rfl⟩, rfl, ⟨_, rfl⟩, ⟨⟨_, rfl⟩, rfl, ⟨_, rfl⟩, ⟨⟨_, rfl⟩, rfl, ⟨_, rfl⟩, ⟨⟨_, rfl⟩, rfl, ⟨_, rfl⟩, ⟨⟨_, rfl⟩, rfl, ⟨_, rfl⟩, ⟨⟨_, rfl⟩, rfl, ⟨_, rfl⟩, ⟨⟨_, rfl⟩, rfl, ⟨_, rfl⟩, ⟨⟨_, rfl⟩, rfl, ⟨_, rfl⟩, ⟨⟨_, rfl⟩, rfl, ⟨_, rfl⟩, ⟨⟨_, rfl⟩, rfl, ⟨_, rfl⟩, ⟨⟨_, rfl⟩, rfl, ⟨_, rfl⟩, ⟨⟨_, rfl⟩, rfl, ⟨_, rfl⟩, ⟨⟨_, rfl⟩, rfl, ⟨_, rfl⟩, ⟨⟨_, rfl⟩, rfl, ⟨_, rfl⟩, ⟨⟨_, rfl⟩, rfl, ⟨_, rfl⟩, ⟨⟨_, rfl⟩, rfl, ⟨_, rfl⟩, ⟨⟨_, rfl⟩, rfl, ⟨_, rfl⟩, trivial⟩⟩⟩⟩⟩⟩⟩⟩⟩⟩⟩⟩⟩⟩⟩⟩⟩⟩)))
      (case k_TWO => (refine' TG.dici ?a_71 ?e_71 ?kk_71 ?ss_71; (case a_71 => k_is); (case e_71 => k_is); (case ss_71 => decide); (case kk_71 => exact ⟨⟨_, rfl⟩, rfl, ⟨_, rfl⟩, ⟨⟨_, rfl⟩, rfl, ⟨_, rfl⟩, ⟨⟨_, rfl⟩, rfl, ⟨_, rfl⟩, ⟨⟨_, rfl⟩, rfl, ⟨_, rfl⟩, ⟨⟨_, rfl⟩, rfl, ⟨_, rfl⟩, ⟨⟨_, rfl⟩, rfl, ⟨_, rfl⟩, ⟨⟨_, rfl⟩, rfl, ⟨_, rfl⟩, trivial⟩⟩⟩⟩⟩⟩⟩)))
      (case c_Token => (refine' TG.clsk ?b_72 ?pg_72 ?hd_72 ?po_72 ?sa_72 ?mk_72 ?kc_72 ?b1_72 ?i1_72 ?l_72 ?c_72 ?k_72; (case b_72 => k_is); (case pg_72 => k_is); (case hd_72 => k_is); (case po_72 => k_is); (case sa_72 => k_is); (case mk_72 => k_is); (case kc_72 => k_is); (case b1_72 => k_is); (case i1_72 => k_is); (case l_72 => k_is); (case c_72 => k_is); (case k_72 => k_is)))
      (case c_Numeral => (refine' TG.clsk ?b_73 ?pg_73 ?hd_73 ?po_73 ?sa_73 ?mk_73 ?kc_73 ?b1_73 ?i1_73 ?l_73 ?c_73 ?k_73; (case b_73 => k_is); (case pg_73 => k_is); (case hd_73 => k_is); (case po_73 => k_is); (case sa_73 => k_is); (case mk_73 => k_is); (case kc_73 => k_is); (case b1_73 => k_is); (case i1_73 => k_is); (case l_73 => k_is); (case c_73 => k_is); (case k_73 => k_is)))
      (case c_Scanned => (refine' TG.clsk ?b_74 ?pg_74 ?hd_74 ?po_74 ?sa_74 ?mk_74 ?kc_74 ?b1_74 ?i1_74 ?l_74 ?c_74 ?k_74; (case b_74 => k_is); (case pg_74 => k_is); (case hd_74 => k_is); (case po_74 => k_is); (case sa_74 => k_is); (case mk_74 => k_is); (case kc_74 => k_is); (case b1_74 => k_is); (case i1_74 => k_is); (case l_74 => k_is); (case c_74 => k_is); (case k_74 => k_is)))
      (case m_size => (refine' TG.methk ?b1_75 ?i1_75 ?l_75 ?c_75 ?k_75; (case b1_75 => k_is); (case i1_75 => k_is); (case l_75 => k_is); (case c_75 => k_is); (case k_75 => k_is)))
      (case x_Refused => (refine' TG.refk ?b_76 ?sp_76 ?rd_76 ?z_76 ?l_76 ?c_76 ?k_76; (case b_76 => k_is); (case sp_76 => k_is); (case rd_76 => k_is); (case z_76 => k_is); (case l_76 => k_is); (case c_76 => k_is); (case k_76 => k_is)))
      (case x_TooLong => (refine' TG.exck ?b_77 ?sa_77 ?po_77 ?po2_77 ?hd_77 ?ga_77 ?gt_77 ?su_77 ?lc_77 ?ln_77 ?b1_77 ?i1_77 ?kc_77 ?l_77 ?c_77 ?k_77; (case b_77 => k_is); (case sa_77 => k_is); (case po_77 => k_is); (case po2_77 => decide +kernel); (case hd_77 => k_is); (case ga_77 => k_is); (case gt_77 => k_is); (case su_77 => k_is); (case lc_77 => k_is); (case ln_77 => exact ⟨by decide +kernel, by decide +kernel, by decide +kernel, by decide +kernel⟩); (case b1_77 => k_is); (case i1_77 => k_is); (case kc_77 => k_is); (case l_77 => k_is); (case c_77 => k_is); (case k_77 => k_is)))
      (case x_TooDeep => (refine' TG.exck ?b_78 ?sa_78 ?po_78 ?po2_78 ?hd_78 ?ga_78 ?gt_78 ?su_78 ?lc_78 ?ln_78 ?b1_78 ?i1_78 ?kc_78 ?l_78 ?c_78 ?k_78; (case b_78 => k_is); (case sa_78 => k_is); (case po_78 => k_is); (case po2_78 => decide +kernel); (case hd_78 => k_is); (case ga_78 => k_is); (case gt_78 => k_is); (case su_78 => k_is); (case lc_78 => k_is); (case ln_78 => exact ⟨by decide +kernel, by decide +kernel, by decide +kernel, by decide +kernel⟩); (case b1_78 => k_is); (case i1_78 => k_is); (case kc_78 => k_is); (case l_78 => k_is); (case c_78 => k_is); (case k_78 => k_is)))
      (case x_Fault => (refine' TG.exck ?b_79 ?sa_79 ?po_79 ?po2_79 ?hd_79 ?ga_79 ?gt_79 ?su_79 ?lc_79 ?ln_79 ?b1_79 ?i1_79 ?kc_79 ?l_79 ?c_79 ?k_79; (case b_79 => k_is); (case sa_79 => k_is); (case po_79 => k_is); (case po2_79 => decide +kernel); (case hd_79 => k_is); (case ga_79 => k_is); (case gt_79 => k_is); (case su_79 => k_is); (case lc_79 => k_is); (case ln_79 => exact ⟨by decide +kernel, by decide +kernel, by decide +kernel, by decide +kernel⟩); (case b1_79 => k_is); (case i1_79 => k_is); (case kc_79 => k_is); (case l_79 => k_is); (case c_79 => k_is); (case k_79 => k_is)))
      (case aCT_kind => (show PySem.W.findIn _ _ _ = _; k_is))
      (case aCT_look => (show PySem.W.findIn _ _ _ = _; k_is))
      (case aCT_start => (show PySem.W.findIn _ _ _ = _; k_is))
      (case aCT_end => (show PySem.W.findIn _ _ _ = _; k_is))
      (case aCN_digits => (show PySem.W.findIn _ _ _ = _; k_is))
      (case aCN_fraction => (show PySem.W.findIn _ _ _ = _; k_is))
      (case aCN_exponent => (show PySem.W.findIn _ _ _ = _; k_is))
      (case aCN_mark => (show PySem.W.findIn _ _ _ = _; k_is))
      (case aCS_found => (show PySem.W.findIn _ _ _ = _; k_is))
      (case aCS_fault => (show PySem.W.findIn _ _ _ = _; k_is))
      (case aCL_numbers => (show PySem.W.findIn _ _ _ = _; k_is))
      (case aCD_numbers => (show PySem.W.findIn _ _ _ = _; k_is))
      (case aCF_numbers => (show PySem.W.findIn _ _ _ = _; k_is))
      (case aCF_rule => (show PySem.W.findIn _ _ _ = _; k_is))
      (case aCF_place => (show PySem.W.findIn _ _ _ = _; k_is))
      (case eCL => kts_exm)
      (case eCD => kts_exm)
      (case eCF => kts_exm)
      (case eCFF => kts_exm))
  case S => exact fun K H xs a h1 h2 h3 h4 => TG.asked_toks K H xs a h1 h2 h3 h4
end
