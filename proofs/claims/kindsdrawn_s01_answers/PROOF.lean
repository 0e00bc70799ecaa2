import PyProof.Rows.All
import Wide.All
import OpenK.AllK
import Wide.FinOn
import PyProof.EqAt
import PyProof.EqKinds
import PyProof.TupleCall
import KE.BitLaws
import Open.SpecLaws
import KE.OsHead
import KE.OsGo
import PySem.Challenge.RW_kindsdrawn_s01_answers
section
set_option Elab.async false
set_option linter.all false
set_option maxRecDepth 100000
namespace L2
open PySem PySem.Spec PyProof.Rows

/-- a key: an int or a str -/
abbrev Key := Sum Int Str
def keyIs : Key → Value → Bool
  | .inl k, v => Value.isInt k v
  | .inr x, v => Value.isStrOf x v
def keyH (w : World) : Key → Int
  | .inl k => hashInt k
  | .inr x => hashStr w x
theorem keyIs_shape : ∀ {k : Key} {v : Value}, keyIs k v = true → (∃ i t, k = Sum.inl i ∧ v = Value.int i t) ∨ (∃ x t, k = Sum.inr x ∧ v = Value.str x t)
  | .inl i, v, h => by
    obtain ⟨t, e⟩ := Value.isInt_shape (k := i) (v := v) h
    exact .inl ⟨i, t, rfl, e⟩
  | .inr x, v, h => by
    obtain ⟨t, e⟩ := Value.isStrOf_shape (x := x) (v := v) h
    exact .inr ⟨x, t, rfl, e⟩
theorem key_ll (a b : Int) : decide ((Sum.inl a : Key) = Sum.inl b) = (a == b) := by
  by_cases e : a = b
  · subst e; simp
  · have h : ¬ (Sum.inl a : Key) = Sum.inl b := fun q => e (Sum.inl.inj q)
    rw [decide_eq_false h]
    exact (beq_eq_false_iff_ne.mpr e).symm
theorem key_rr (a b : Str) : decide ((Sum.inr a : Key) = Sum.inr b) = decide (a = b) := by
  by_cases e : a = b
  · subst e; simp
  · have h : ¬ (Sum.inr a : Key) = Sum.inr b := fun q => e (Sum.inr.inj q)
    rw [decide_eq_false h, decide_eq_false e]
theorem key_lr (a : Int) (b : Str) : decide ((Sum.inl a : Key) = Sum.inr b) = false := decide_eq_false (fun q => nomatch q)
theorem key_rl (a : Str) (b : Int) : decide ((Sum.inr a : Key) = Sum.inl b) = false := decide_eq_false (fun q => nomatch q)

def mixKind (prog : Program) (w : World) : PySem.KeyKind prog w Key where
  is := keyIs
  hash := keyH w
  inj := fun v a b ha hb => by
    rcases keyIs_shape ha with ⟨i, t, rfl, rfl⟩ | ⟨x, t, rfl, rfl⟩
    · rcases keyIs_shape hb with ⟨j, u, rfl, e⟩ | ⟨y, u, rfl, e⟩
      · injection e with e1 _; rw [e1]
      · exact nomatch e
    · rcases keyIs_shape hb with ⟨j, u, rfl, e⟩ | ⟨y, u, rfl, e⟩
      · exact nomatch e
      · injection e with e1 _; rw [e1]
  byValue := fun k v h => by
    rcases keyIs_shape h with ⟨i, t, rfl, rfl⟩ | ⟨x, t, rfl, rfl⟩ <;> rfl
  pyHash := fun hv h => by
    rcases keyIs_shape hv with ⟨i, t, rfl, rfl⟩ | ⟨x, t, rfl, rfl⟩
    · exact wpAny_pyHash_int h
    · exact wpAny_pyHash_str h
  eqBool := fun hu hv h => by
    rcases keyIs_shape hu with ⟨i, t, rfl, rfl⟩ | ⟨x, t, rfl, rfl⟩
    · rcases keyIs_shape hv with ⟨j, u, rfl, rfl⟩ | ⟨y, u, rfl, rfl⟩
      · rw [key_ll] at h; exact wpAny_eqBool_int h
      · rw [key_lr] at h; exact SeqAt.EqAt.int_str i t y u _ _ _ _ h
    · rcases keyIs_shape hv with ⟨j, u, rfl, rfl⟩ | ⟨y, u, rfl, rfl⟩
      · rw [key_rl] at h; exact SeqAt.EqAt.str_int x t j u _ _ _ _ h
      · rw [key_rr] at h; exact wpAny_eqBool_str h
  «strs» := fun k x t v h => by
    rcases keyIs_shape h with ⟨i, u, rfl, e⟩ | ⟨y, u, rfl, e⟩
    · exact nomatch e
    · injection e with e1 _
      subst e1
      cases v <;> rfl

end L2

namespace L2
open PySem PySem.Spec PyProof.Rows

/-- a value, without the heap -/
inductive V where
  | non | bl (b : Bool) | int (i : Int) | str (x : Str) | byt (b : Array UInt8) | flt (b : UInt64) | ref (a : Addr) | ty (n : String)
  deriving DecidableEq

def RelV : V → Value → Prop
  | .non, u => u = Value.none
  | .bl b, u => u = Value.bool b
  | .int i, u => ∃ t, u = Value.int i t
  | .str x, u => ∃ t, u = Value.str x t
  | .byt b, u => ∃ t, u = Value.bytes b t
  | .flt b, u => ∃ t, u = Value.float b t
  | .ref a, u => u = Value.ref a
  | .ty n, u => u = Value.type n

abbrev Vals : List V → List Value → Prop := Paired RelV
theorem Vals.length {xs : List V} {us : List Value} (r : Vals xs us) : xs.length = us.length := Paired.length r
theorem Vals.get : ∀ {xs : List V} {us : List Value} {i : Nat} {x : V}, Vals xs us → xs[i]? = some x → ∃ u, us[i]? = some u ∧ RelV x u
  | _, _, _, _, .nil, e => by simp at e
  | _, _, 0, _, .cons r _, e => by simp at e; subst e; exact ⟨_, rfl, r⟩
  | _, _, i + 1, x, .cons _ t, e => by
    obtain ⟨u, h1, h2⟩ := Vals.get (i := i) (x := x) t (by simpa using e)
    exact ⟨u, by simpa using h1, h2⟩
theorem Vals.set {x : V} {u : Value} (r : RelV x u) : ∀ {xs : List V} {us : List Value} (i : Nat), Vals xs us → Vals (xs.set i x) (us.set i u)
  | _, _, _, .nil => .nil
  | _, _, 0, .cons _ t => .cons r t
  | _, _, i + 1, .cons q t => .cons q (Vals.set r i t)
theorem Vals.append : ∀ {xs ys : List V} {us ws : List Value}, Vals xs us → Vals ys ws → Vals (xs ++ ys) (us ++ ws)
  | _, _, _, _, .nil, s => s
  | _, _, _, _, .cons r t, s => .cons r (Vals.append t s)
theorem Vals.take : ∀ {xs : List V} {us : List Value} (n : Nat), Vals xs us → Vals (xs.take n) (us.take n)
  | _, _, 0, _ => .nil
  | _, _, _ + 1, .nil => .nil
  | _, _, n + 1, .cons r t => .cons r (Vals.take n t)
theorem Vals.drop : ∀ {xs : List V} {us : List Value} (n : Nat), Vals xs us → Vals (xs.drop n) (us.drop n)
  | _, _, 0, r => r
  | _, _, _ + 1, .nil => .nil
  | _, _, n + 1, .cons _ t => Vals.drop n t
theorem Vals.none_of : ∀ {xs : List V} {us : List Value} {i : Nat}, Vals xs us → xs[i]? = none → us[i]? = none := fun {xs us i} r e => by
  have h1 := r.length
  have h2 : xs.length ≤ i := List.getElem?_eq_none_iff.mp e
  exact List.getElem?_eq_none_iff.mpr (by omega)

def RelO : Option V → Option Value → Prop
  | some v, some u => RelV v u
  | none, none => True
  | _, _ => False
def KV {κ : Type} : List (κ × V) → List (κ × Value) → Prop := Paired fun (p : κ × V) (q : κ × Value) => p.1 = q.1 ∧ RelV p.2 q.2

/-- a key of a dict (00_mix): an int or a text -/
def kV : Key → V
  | .inl i => .int i
  | .inr x => .str x

/-- what stands at a tracked address -/
inductive HO where
  /-- a list -/
  | lst (xs : List V)
  /-- a tuple (never changes) -/
  | tup (xs : List V)
  /-- a dict whose keys are ints and texts; one whose keys are tuples of ints and texts (the empty one is both) -/
  | dK (kvs : List (Key × V)) | dT (kvs : List (List Key × V))
  /-- a set of ints: its members, its size -/
  | set (S : Int → Bool) (n : Nat)
  /-- an instance of the class at C, its dict at dx, its attributes -/
  | ins (C dx : Addr) (fs : List (Str × V))
  /-- the dict of the instance at x -/
  | own (x : Addr)
  /-- the dict of an exception -/
  | xd (fs : List (Str × V))
  /-- a bound method, f of x -/
  | met (f x : Addr)
  /-- a range object lo, lo + 1, .. below hi -/
  | rng (lo hi : Int)
  /-- a thing that is known to the object (the script; a dict while a loop walks it): read, never written while it is so -/
  | frz (o : Obj) (u : HO)
  /-- a code object's table -/
  | tbl (ps : Array Value)
  /-- any other thing, by what is true of its one object (a def of one's own: SetO a S n := HO.ext fun h => ..) -/
  | ext (φ : Heap → Prop)

abbrev Hp := Addr → Option HO
def upd (H : Hp) (a : Addr) (o : HO) : Hp := fun b => if b = a then some o else H b
theorem upd_same {H : Hp} {a : Addr} {o : HO} : upd H a o a = some o := by unfold upd; rw [if_pos rfl]
theorem upd_ne {H : Hp} {a b : Addr} {o : HO} (h : b ≠ a) : upd H a o b = H b := by unfold upd; rw [if_neg h]
theorem upd_upd {H : Hp} {a : Addr} {o u : HO} : upd (upd H a o) a u = upd H a u := by
  funext b; unfold upd; split <;> rfl
/-- two objects of different content stand apart -/
theorem ne_of {H : Hp} {a b : Addr} {o u : HO} (h : H a = some o) (h' : H b = some u) (d : o ≠ u) : a ≠ b := by
  intro e; subst e; rw [h] at h'; exact d (Option.some.inj h')
theorem ne_of_none {H : Hp} {a b : Addr} {o : HO} (h : H a = some o) (h' : H b = none) : a ≠ b := by
  intro e; subst e; rw [h] at h'; cases h'

section
variable (P : Program) (w : World)
def ObjOk (H : Hp) (h : Heap) (a : Addr) : HO → Prop
  | .lst xs => xs.length ≤ sizeLine ∧ ∃ (its : List Value) (n : Nat), Vals xs its ∧ h.get? a = some { cls := .type "list", data := .seq its.toArray n }
  | .tup xs => xs.length ≤ sizeLine ∧ ∃ its : List Value, Vals xs its ∧ IsTup h a its.toArray
  | .dK kvs => kvs.length ≤ sizeLine ∧ (a == sysModules) = false ∧ ∃ vs, KV kvs vs ∧ h.DictOf (mixKind P w) a vs
  | .dT kvs => kvs.length ≤ sizeLine ∧ (a == sysModules) = false ∧ ∃ xs : List (List Key × Addr × Value),
      Paired (fun (p : List Key × V) (q : List Key × Addr × Value) => p.1 = q.1 ∧ H q.2.1 = some (.tup (p.1.map kV)) ∧ RelV p.2 q.2.2) kvs xs ∧
      ∃ o es ep, h.get? a = some o ∧ o.ExactDict ∧ o.data = .dict es ep ∧ es.toList = xs.map (entryOfKey (tupleKind (mixKind P w))) ∧ (xs.map (·.1)).Nodup
  | .set S n => h.SetOf (intKind P w) a S n
  | .ins C dx fs => H dx = some (.own a) ∧ fs.length ≤ 1000 ∧ dx ≠ a ∧ h.get? a = some (PySem.W.instObj C dx) ∧
      ∃ mA, h.Ns1 dx mA ∧ (∀ f, RelO (fs.lookup f) (mA f)) ∧ PySem.Within mA (fs.map (·.1))
  | .own _ => ∃ o, h.get? a = some o
  | .xd fs => ∃ mA, h.Ns1 a mA ∧ ∀ f, RelO (fs.lookup f) (mA f)
  | .rng lo hi => ∃ t u v, h.get? a = some { cls := .type "range", data := .fields #[.int lo t, .int hi u, .int 1 v] }
  | .frz o u => h.get? a = some o ∧ ObjOk H h a u
  | .tbl ps => h.get? a = some { cls := .none, data := .fields ps }
  | .met f x => h.get? a = some (PySem.W.methodObj (.ref f) (.ref x))
  | .ext φ => φ h ∧ (∃ o, h.get? a = some o) ∧ ∀ h1 h2 : Heap, φ h1 → (∀ o, h1.get? a = some o → h2.get? a = some o) → φ h2
/-- the abstract heap is held -/
def HOk (H : Hp) (h : Heap) : Prop := ∀ a o, H a = some o → ObjOk P w H h a o
end

section
variable {P : Program} {w : World} {H H' : Hp} {h h' : Heap} {a : Addr} {o : HO}
theorem ObjOk.lt (x : ObjOk P w H h a o) : a < h.objs.size := by
  cases o with
  | lst xs => obtain ⟨_, _, _, _, e⟩ := x; exact Heap.lt_size e
  | tup xs => obtain ⟨_, _, _, p⟩ := x; exact p.lt
  | dK kvs => obtain ⟨_, _, _, _, o, _, _, e, _⟩ := x; exact Heap.lt_size e
  | dT kvs => obtain ⟨_, _, _, _, o, _, _, e, _⟩ := x; exact Heap.lt_size e
  | set S n => obtain ⟨o, _, _, _, e, _⟩ := x; exact Heap.lt_size e
  | ins C dx fs => obtain ⟨_, _, _, e, _⟩ := x; exact Heap.lt_size e
  | own y => obtain ⟨_, e⟩ := x; exact Heap.lt_size e
  | xd fs => obtain ⟨_, ⟨_, _, _, e, _⟩, _⟩ := x; exact Heap.lt_size e
  | rng lo hi => obtain ⟨_, _, _, e⟩ := x; exact Heap.lt_size e
  | frz ob u => obtain ⟨e, _⟩ := x; exact Heap.lt_size e
  | tbl ps => exact Heap.lt_size (show h.get? a = some _ from x)
  | met f y => exact Heap.lt_size (show h.get? a = some _ from x)
  | ext φ => obtain ⟨_, ⟨_, e⟩, _⟩ := x; exact Heap.lt_size e
theorem Paired.mapP {α β : Type} {F G : α → β → Prop} : ∀ {l₁ : List α} {l₂ : List β}, Paired F l₁ l₂ → (∀ a b, F a b → G a b) → Paired G l₁ l₂
  | _, _, .nil, _ => .nil
  | _, _, .cons r t, f => .cons (f _ _ r) (Paired.mapP t f)
/-- what an object's description leans on: its own object, its own dict, the tuples -/
theorem ObjOk.stay (x : ObjOk P w H h a o) (k : ∀ b u, (b = a ∨ H b = some (.own a)) → h.get? b = some u → h'.get? b = some u)
    (ho : ∀ b, H b = some (.own a) → H' b = some (.own a)) (ht : ∀ b xs, H b = some (.tup xs) → H' b = some (.tup xs)) : ObjOk P w H' h' a o := by
  induction o with
  | lst xs => obtain ⟨z, its, n, r, e⟩ := x; exact ⟨z, its, n, r, k _ _ (.inl rfl) e⟩
  | tup xs => obtain ⟨z, its, r, ob, e, c⟩ := x; exact ⟨z, its, r, ob, k _ _ (.inl rfl) e, c⟩
  | dK kvs => obtain ⟨z, y, vs, r, ob, es, ep, e, c⟩ := x; exact ⟨z, y, vs, r, ob, es, ep, k _ _ (.inl rfl) e, c⟩
  | dT kvs =>
    obtain ⟨z, y, xs, r, ob, es, ep, e, c⟩ := x
    exact ⟨z, y, xs, Paired.mapP r fun p q z => ⟨z.1, ht _ _ z.2.1, z.2.2⟩, ob, es, ep, k _ _ (.inl rfl) e, c⟩
  | set S n => obtain ⟨ob, es, ep, t, e, c⟩ := x; exact ⟨ob, es, ep, t, k _ _ (.inl rfl) e, c⟩
  | ins C dx fs =>
    obtain ⟨d, z, ne, e, mA, ⟨od, es, ep, e2, c⟩, r⟩ := x
    exact ⟨ho _ d, z, ne, k _ _ (.inl rfl) e, mA, ⟨od, es, ep, k _ _ (.inr d) e2, c⟩, r⟩
  | own y => obtain ⟨ob, e⟩ := x; exact ⟨ob, k _ _ (.inl rfl) e⟩
  | xd fs => obtain ⟨mA, ⟨od, es, ep, e, c⟩, r⟩ := x; exact ⟨mA, ⟨od, es, ep, k _ _ (.inl rfl) e, c⟩, r⟩
  | rng lo hi => obtain ⟨t, u, v, e⟩ := x; exact ⟨t, u, v, k _ _ (.inl rfl) e⟩
  | frz ob u ih => obtain ⟨e, q⟩ := x; exact ⟨k _ _ (.inl rfl) e, ih q⟩
  | tbl ps =>
    have e : h.get? a = some { cls := .none, data := .fields ps } := x
    show h'.get? a = some { cls := .none, data := .fields ps }
    exact k a _ (.inl rfl) e
  | met f y =>
    have e : h.get? a = some (PySem.W.methodObj (.ref f) (.ref y)) := x
    show h'.get? a = some (PySem.W.methodObj (.ref f) (.ref y))
    exact k a _ (.inl rfl) e
  | ext φ => obtain ⟨p, ⟨o, e⟩, st⟩ := x; exact ⟨st _ _ p fun o q => k _ _ (.inl rfl) q, ⟨o, k _ _ (.inl rfl) e⟩, st⟩
theorem HOk.lt (x : HOk P w H h) (e : H a = some o) : a < h.objs.size := (x a o e).lt
theorem HOk.fresh (x : HOk P w H h) (e : h.objs.size ≤ a) : H a = none := by
  cases q : H a with
  | none => rfl
  | some u => exact absurd (Nat.lt_of_lt_of_le (x.lt q) e) (Nat.lt_irrefl _)
/-- every object of the heap is kept -/
theorem HOk.kept (x : HOk P w H h) (k : ∀ b u, h.get? b = some u → h'.get? b = some u) : HOk P w H h' := fun a o e =>
  (x a o e).stay (fun b u _ q => k b u q) (fun _ q => q) fun _ _ q => q
/-- a new object is laid and tracked -/
theorem HOk.laid (x : HOk P w H h) (k : ∀ b u, h.get? b = some u → h'.get? b = some u) (hp : h.objs.size ≤ a) (new : ObjOk P w (upd H a o) h' a o) : HOk P w (upd H a o) h' := fun b u e => by
  have hn := x.fresh hp
  by_cases hb : b = a
  · subst hb; rw [upd_same] at e; cases e; exact new
  · rw [upd_ne hb] at e
    exact (x b u e).stay (fun c v _ q => k c v q) (fun c q => by rw [upd_ne (ne_of_none q hn)]; exact q) fun c xs q => by rw [upd_ne (ne_of_none q hn)]; exact q
end

/-- what may be read as u: it is u, or a known u -/
def Rd (H : Hp) (a : Addr) (u : HO) : Prop := H a = some u ∨ ∃ o, H a = some (.frz o u)
theorem Rd.of {H : Hp} {a : Addr} {u : HO} (h : H a = some u) : Rd H a u := .inl h
theorem Rd.ok {P : Program} {w : World} {H : Hp} {h : Heap} {a : Addr} {u : HO} (r : Rd H a u) (x : HOk P w H h) : ObjOk P w H h a u := by
  rcases r with r | ⟨o, r⟩
  · exact x a u r
  · obtain ⟨_, q⟩ := x a _ r
    exact q
/-- what may be written -/
def Mut : Option HO → Prop
  | some (.lst _) => True
  | some (.dK _) => True
  | some (.dT _) => True
  | some (.set _ _) => True
  | some (.ins _ _ _) => True
  | some (.ext _) => True
  | _ => False
section
variable {P : Program} {w : World} {H : Hp} {h h' : Heap} {x e : Addr} {o' : HO}
/-- the object at e is changed: x itself, or the dict of the instance x -/
theorem HOk.write (ok : HOk P w H h) (mu : Mut (H x)) (he : e = x ∨ H e = some (.own x)) (k : ∀ b u, b ≠ e → h.get? b = some u → h'.get? b = some u) (heo : ∃ u, h'.get? e = some u)
    (new : ObjOk P w (upd H x o') h' x o') : HOk P w (upd H x o') h' := fun b u q => by
  have nown : ∀ c y, H c = some (.own y) → c ≠ x := fun c y r z => by subst z; rw [r] at mu; exact mu
  have ntup : ∀ c xs, H c = some (.tup xs) → c ≠ x := fun c xs r z => by subst z; rw [r] at mu; exact mu
  by_cases hb : b = x
  · subst hb; rw [upd_same] at q; cases q; exact new
  · rw [upd_ne hb] at q
    by_cases hbe : b = e
    · have q' : H b = some (.own x) := by
        rcases he with z | z
        · exact absurd (hbe.trans z) hb
        · rw [hbe]; exact z
      rw [q] at q'; cases q'
      obtain ⟨v, hv⟩ := heo
      exact ⟨v, by rw [hbe]; exact hv⟩
    · refine (ok b u q).stay (fun c v hc r => k c v ?_ r) (fun c r => by rw [upd_ne (nown c b r)]; exact r) fun c xs r => by rw [upd_ne (ntup c xs r)]; exact r
      rcases hc with rfl | hc
      · exact hbe
      · rintro rfl
        rcases he with z | z
        · exact nown c b hc z
        · rw [hc] at z; cases z; exact hb rfl
end

structure Un (fs ex : List Addr) (H H' : Hp) (h h' : Heap) : Prop where
  keep : ∀ b o, h.get? b = some o → H b = none → b ∉ fs → b ∉ ex → h'.get? b = some o
  slot : ∀ b o, h.get? b = some o → H b = none → b ∈ fs → b ∉ ex → ∃ sl, h'.get? b = some { o with slots := sl }
  free : ∀ b o, h.get? b = some o → H b = none → b ∉ ex → H' b = none
  there : ∀ b o, h.get? b = some o → b ∉ ex → ∃ o', h'.get? b = some o'
  tups : ∀ b xs, H b = some (.tup xs) → H' b = some (.tup xs)
  frzs : ∀ b o u, H b = some (.frz o u) → H' b = some (.frz o u)
  tbls : ∀ b ps, H b = some (.tbl ps) → ∃ more, H' b = some (.tbl (ps ++ more))
section
variable {fs fs' ex ex' : List Addr} {H H1 H2 : Hp} {h h1 h2 h' : Heap} {a x e : Addr} {o : HO}
theorem Un.any (u : Un fs ex H H1 h h1) {b : Addr} {ob : Obj} (q : h.get? b = some ob) (n : H b = none) (hx : b ∉ ex) : ∃ sl, h1.get? b = some { ob with slots := sl } := by
  by_cases hb : b ∈ fs
  · exact u.slot b ob q n hb hx
  · exact ⟨ob.slots, u.keep b ob q n hb hx⟩
theorem Un.trans (a : Un fs ex H H1 h h1) (b : Un fs ex H1 H2 h1 h2) : Un fs ex H H2 h h2 where
  keep := fun c ob q n hc hx => b.keep c ob (a.keep c ob q n hc hx) (a.free c ob q n hx) hc hx
  slot := fun c ob q n hc hx => by
    obtain ⟨sl, e1⟩ := a.slot c ob q n hc hx
    obtain ⟨sl', e2⟩ := b.slot c _ e1 (a.free c ob q n hx) hc hx
    exact ⟨sl', e2⟩
  free := fun c ob q n hx => by
    obtain ⟨o', e1⟩ := a.there c ob q hx
    exact b.free c o' e1 (a.free c ob q n hx) hx
  there := fun c ob q hx => by
    obtain ⟨o', e1⟩ := a.there c ob q hx
    exact b.there c o' e1 hx
  tups := fun c xs q => b.tups c xs (a.tups c xs q)
  frzs := fun c ob xs q => b.frzs c ob xs (a.frzs c ob xs q)
  tbls := fun c ps q => by
    obtain ⟨m1, e1⟩ := a.tbls c ps q
    obtain ⟨m2, e2⟩ := b.tbls c _ e1
    exact ⟨m1 ++ m2, by rw [e2, Array.append_assoc]⟩
theorem Un.kept (k : ∀ b u, h.get? b = some u → h'.get? b = some u) : Un fs ex H H h h' :=
  ⟨fun b ob q _ _ _ => k b ob q, fun b ob q _ _ _ => ⟨ob.slots, k b ob q⟩, fun _ _ _ n _ => n, fun b ob q _ => ⟨ob, k b ob q⟩, fun _ _ q => q, fun _ _ _ q => q, fun _ ps q => ⟨#[], by rw [q]; simp⟩⟩
theorem Un.refl : Un fs ex H H h h := Un.kept fun _ _ q => q
theorem Un.laid (k : ∀ b u, h.get? b = some u → h'.get? b = some u) (hp : h.objs.size ≤ a) (hn : H a = none) : Un fs ex H (upd H a o) h h' where
  keep := fun b u q _ _ _ => k b u q
  slot := fun b u q _ _ _ => ⟨u.slots, k b u q⟩
  free := fun b u q n _ => by rw [upd_ne (Nat.ne_of_lt (Nat.lt_of_lt_of_le (Heap.lt_size q) hp))]; exact n
  there := fun b u q _ => ⟨u, k b u q⟩
  tups := fun b xs q => by rw [upd_ne (ne_of_none q hn)]; exact q
  frzs := fun b u xs q => by rw [upd_ne (ne_of_none q hn)]; exact q
  tbls := fun b ps q => ⟨#[], by rw [upd_ne (ne_of_none q hn), q]; simp⟩
theorem Un.write (mu : Mut (H x)) (he : e = x ∨ H e = some (.own x)) (k : ∀ b u, b ≠ e → h.get? b = some u → h'.get? b = some u) (heo : ∃ u, h'.get? e = some u) : Un fs ex H (upd H x o) h h' := by
  have hx : ∀ b, H b = none → b ≠ x := fun b n z => by subst z; rw [n] at mu; exact mu
  have hb : ∀ b, H b = none → b ≠ e := fun b n z => by
    subst z
    rcases he with r | r
    · exact hx b n r
    · rw [n] at r; cases r
  have hm : ∀ b u, H b = some u → ¬ Mut (some u) → b ≠ x := fun b u q nm z => by subst z; rw [q] at mu; exact nm mu
  refine ⟨fun b u q n _ _ => k b u (hb b n) q, fun b u q n _ _ => ⟨u.slots, k b u (hb b n) q⟩, fun b u q n _ => by rw [upd_ne (hx b n)]; exact n, fun b u q _ => ?_,
    fun b xs q => by rw [upd_ne (hm b _ q fun z => z)]; exact q, fun b u xs q => by rw [upd_ne (hm b _ q fun z => z)]; exact q, fun b ps q => ⟨#[], by rw [upd_ne (hm b _ q fun z => z), q]; simp⟩⟩
  by_cases hbe : b = e
  · subst hbe; exact heo
  · exact ⟨u, k b u hbe q⟩
theorem Un.mono (u : Un fs ex H H1 h h1) (hs : ∀ b ∈ fs, b ∈ fs') (hx : ∀ b ∈ ex, b ∈ ex') : Un fs' ex' H H1 h h1 :=
  ⟨fun b ob q n hb he => u.keep b ob q n (fun z => hb (hs b z)) fun z => he (hx b z), fun _ _ q n _ he => u.any q n fun z => he (hx _ z), fun b ob q n he => u.free b ob q n fun z => he (hx b z), fun b ob q he => u.there b ob q fun z => he (hx b z), u.tups, u.frzs, u.tbls⟩
end

def trk (h : Heap) (H : Hp) : List Addr := (List.range h.objs.size).filter fun a => (H a).isSome
def hidT (h : Heap) (H : Hp) : Heap := PySem.W.hideAll h (trk h H)
theorem hidT_size (h : Heap) (H : Hp) : (hidT h H).objs.size = h.objs.size := PySem.W.hideAll_size _ _
theorem hidT_get {h : Heap} {H : Hp} {b : Addr} {o : Obj} (e : h.get? b = some o) (n : H b = none) : (hidT h H).get? b = some o :=
  PySem.W.hideAll_get _ e fun hm => by
    have q : (H b).isSome = true := (List.mem_filter.mp hm).2
    rw [n] at q; simp at q
theorem of_hidT {h : Heap} {H : Hp} {b : Addr} {o : Obj} (e : (hidT h H).get? b = some o) : h.get? b = some o ∧ H b = none := by
  have e' : h.get? b = some o := PySem.W.of_hideAll (trk h H) e
  refine ⟨e', ?_⟩
  cases q : H b with
  | none => rfl
  | some x =>
    have hm : b ∈ trk h H := List.mem_filter.mpr ⟨List.mem_range.mpr (Heap.lt_size e'), by simp [q]⟩
    have z : (hidT h H).get? b = none := PySem.W.hideAll_none (trk h H) hm
    rw [z] at e; cases e

def allNews (g h : Heap) (L : Addr) : List (Addr × Obj) := (List.range h.objs.size).filterMap fun a => if a = L ∨ (g.get? a).isSome = true then none else (h.get? a).map fun o => (a, o)
def rest (g h : Heap) (L d : Addr) : List (Addr × Obj) := (allNews g h L).filter fun p => decide (p.1 ≠ d)
end L2

namespace L2
open PySem PySem.Spec PyProof.Rows

/-- the module's facts, over the base: the heap at the law's entry without what is tracked there -/
structure Mod (K : PySem.W.Frag) (mg : Str → Option Value) (base : Heap) : Prop where
  kin : K.In base
  glob : base.Ns mainGlobals mg
  blt : ∃ mb, base.Ns builtinsNs mb ∧ ∀ x : Str, x ≠ "__name__" → mb x = bootBuiltins x
  nolimit : base.NoLimit

/-- the context: a def's body (or a comprehension's block) running. base: fixed through the whole law; s₀, H₀: the entry; outer: the frames whose slots others may change (a def's callers); stack: all frames that run;
   ex: iterators that were made ahead of the entry and are walked here (a comprehension's); fn: the names whose cells were made at the entry (a def: all; a comprehension's block: its own); calm: not within an except suite; pn: pins that every state bears; xe: what is wanted of an exception that leaves the code -/
structure Cx where
  prog : Program
  w : World
  K : PySem.W.Frag
  mg : Str → Option Value
  base : Heap
  A : Around
  N : List Str
  s_0 : Shared
  H_0 : Hp
  env : Env
  outer : List Env
  stack : List Env
  ex : List Addr
  fn : Str → Bool
  calm : Bool
  pn : List (Addr × Obj)
  xe : Value → Shared → Prop
/-- the callers' frames -/
def frs (l : List Env) : List Addr := l.filterMap (·.frame)
abbrev Cx.fs (X : Cx) : List Addr := frs X.outer

def Vis (sc : Scope) (x : Str) : Prop := sc.names.lookup x = some .local ∨ sc.names.lookup x = some .cell ∨ sc.names.lookup x = some .free
def Loc (sc : Scope) (x : Str) : Prop := sc.names.lookup x = some .local ∨ sc.names.lookup x = some .cell
def Look (env : Env) (h : Heap) (m : Str → Option Value) (x : Str) (u : Value) : Prop :=
  (env.kindOf x = some .local ∧ m x = some u) ∨ ((env.kindOf x = some .cell ∨ env.kindOf x = some .free) ∧ ∃ c, env.cells.lookup x = some c ∧ h.IsCell c (some u))

structure Cx.Ok (X : Cx) : Prop where
  mod : Mod X.K X.mg X.base
  kind : X.env.scope.kind = .function
  glob : X.env.globals = mainGlobals
  blt : X.env.builtins = builtinsNs
  above : X.s_0.heap.objs.size ≤ X.env.locals
  inj : ∀ x y c, X.env.cells.lookup x = some c → X.env.cells.lookup y = some c → x = y
  has : ∀ x, (X.env.kindOf x = some .cell ∨ X.env.kindOf x = some .free) → ∃ c, X.env.cells.lookup x = some c
  cab : ∀ x c, X.fn x = true → X.env.cells.lookup x = some c → X.s_0.heap.objs.size ≤ c
  hd : X.calm = true → X.A.handled = none
  frames : X.A.frames = some X.stack
  stk : X.stack = X.outer ∨ (X.stack = X.env :: X.outer ∧ X.env.frame = some X.env.locals)
  exf : ∀ b ∈ X.ex, b ≠ X.env.locals ∧ ∀ x c, X.env.cells.lookup x = some c → c ≠ b
  bs : ∀ b o, X.base.get? b = some o → X.s_0.heap.get? b = some o ∧ X.H_0 b = none
  bsz : X.base.objs.size ≤ X.s_0.heap.objs.size
  noex : ∀ b o, X.base.get? b = some o → b ∉ X.ex
  exfs : ∀ b ∈ X.ex, b ∉ X.fs
  funs : X.s_0.heap.FunFrames X.base X.outer
  frf : ∀ b ∈ X.fs, X.H_0 b = none

structure Inv (X : Cx) (pins : List (Addr × Obj)) (σ : List (Option V)) (H : Hp) (s : Shared) : Prop where
  ok : X.Ok
  os : s.os = X.s_0.os
  bare : AllBare s.gens
  base : Un X.fs X.ex X.H_0 H X.s_0.heap s.heap
  loc : ∃ m, s.heap.Ns X.env.locals m ∧ ∀ (i : Nat) (x : Str) (v : V), X.N[i]? = some x → σ[i]? = some (some v) → Vis X.env.scope x → ∃ u, RelV v u ∧ Look X.env s.heap m x u
  cell : ∀ x c, X.env.cells.lookup x = some c → ∃ v, s.heap.IsCell c v
  free : H X.env.locals = none
  freeC : ∀ x c, X.env.cells.lookup x = some c → H c = none
  pin : ∀ p ∈ X.pn ++ pins, s.heap.get? p.1 = some p.2 ∧ H p.1 = none ∧ p.1 ≠ X.env.locals ∧ p.1 ∉ X.fs ∧ ∀ v, p.2.data ≠ .cell v
  hok : HOk X.prog X.w H s.heap
  len : σ.length = X.N.length

section
variable {X : Cx} {pins : List (Addr × Obj)} {σ : List (Option V)} {H H' : Hp} {s : Shared} {h' : Heap}

theorem Cx.Ok.nofr (ok : X.Ok) {b : Addr} {o : Obj} (e : X.base.get? b = some o) : b ∉ X.fs := fun hb => by
  have := (ok.funs.mem hb).1
  rw [e] at this; cases this
theorem Inv.bs (I : Inv X pins σ H s) : ∀ b o, X.base.get? b = some o → s.heap.get? b = some o ∧ H b = none := fun b o e =>
  ⟨I.base.keep b o (I.ok.bs b o e).1 (I.ok.bs b o e).2 (I.ok.nofr e) (I.ok.noex b o e), I.base.free b o (I.ok.bs b o e).1 (I.ok.bs b o e).2 (I.ok.noex b o e)⟩
theorem Inv.bk (I : Inv X pins σ H s) : ∀ b o, X.base.get? b = some o → s.heap.get? b = some o := fun b o e => (I.bs b o e).1
theorem Inv.mod (I : Inv X pins σ H s) : Mod X.K X.mg X.base := I.ok.mod
theorem Inv.kIn (I : Inv X pins σ H s) : X.K.In s.heap := I.ok.mod.kin.keeps I.bk
theorem Inv.nolimit (I : Inv X pins σ H s) : s.heap.NoLimit := I.ok.mod.nolimit.keeps I.bk
/-- the frame over the base: for OpenK's rules (K.In X.base is I.mod.kin) -/
theorem Inv.fr (I : Inv X pins σ H s) : ∃ m, Fr X.base X.env.locals s.heap m :=
  let ⟨m, hn, _⟩ := I.loc
  ⟨m, hn, I.bk, Nat.le_trans I.ok.bsz I.ok.above⟩
theorem Inv.lt (I : Inv X pins σ H s) : X.env.locals < s.heap.objs.size := let ⟨_, hn, _⟩ := I.loc; hn.lt
theorem Inv.sz (I : Inv X pins σ H s) : X.s_0.heap.objs.size ≤ s.heap.objs.size := Nat.le_trans I.ok.above (Nat.le_of_lt I.lt)
theorem Inv.nofs (I : Inv X pins σ H s) {a : Addr} (h : s.heap.objs.size ≤ a) : a ∉ X.fs := fun hb => by
  obtain ⟨_, o, ho, _⟩ := I.ok.funs.mem hb
  exact absurd (Nat.lt_of_lt_of_le (Heap.lt_size ho) (Nat.le_trans I.sz h)) (Nat.lt_irrefl _)
theorem Inv.cne (I : Inv X pins σ H s) : ∀ x c, X.env.cells.lookup x = some c → c ≠ X.env.locals := fun x c e z => by
  obtain ⟨v, o, ho, hd⟩ := I.cell x c e
  obtain ⟨m, ⟨o', es, ep, ho', hd', _⟩, _⟩ := I.loc
  rw [z, ho'] at ho; cases ho; rw [hd'] at hd; cases hd
theorem Inv.funs (I : Inv X pins σ H s) : s.heap.FunFrames X.base X.outer := by
  have all : ∀ (l : List Env), (∀ b ∈ frs l, b ∈ X.fs) → X.s_0.heap.FunFrames X.base l → s.heap.FunFrames X.base l := by
    intro l
    induction l with
    | nil => intro _ _; trivial
    | cons env r ih =>
      intro hs hl
      obtain ⟨hk, ⟨L, o, hf, hn, ho, hd⟩, hr⟩ := hl
      have hL : L ∈ X.fs := hs L (by unfold frs; rw [List.filterMap_cons, hf]; exact List.mem_cons_self)
      obtain ⟨sl, e⟩ := I.base.slot L o ho (I.ok.frf L hL) hL fun z => I.ok.exfs L z hL
      exact ⟨hk, ⟨L, _, hf, hn, e, hd⟩, ih (fun b hb => hs b (by unfold frs; rw [List.filterMap_cons, hf]; exact List.mem_cons_of_mem _ hb)) hr⟩
  exact all X.outer (fun _ hb => hb) I.ok.funs

/-- the frames that run, for a call -/
theorem Inv.stack (I : Inv X pins σ H s) : s.heap.FunFrames X.base X.stack := by
  rcases I.ok.stk with e | ⟨e, hf⟩
  · rw [e]; exact I.funs
  · rw [e]
    obtain ⟨m, hn, _⟩ := I.loc
    refine .cons (by rw [I.ok.kind]; decide) hf hn ?_ I.funs
    exact Heap.get?_none_of_le (Nat.le_trans I.ok.bsz I.ok.above)
theorem Inv.stkSub (I : Inv X pins σ H s) : ∀ b ∈ frs X.stack, b ∈ X.env.locals :: X.fs := fun b hb => by
  rcases I.ok.stk with e | ⟨e, hf⟩
  · rw [e] at hb; exact List.mem_cons_of_mem _ hb
  · rw [e] at hb
    unfold frs at hb
    rw [List.filterMap_cons, hf] at hb
    exact hb
theorem Inv.stkFree (I : Inv X pins σ H s) : ∀ b ∈ frs X.stack, H b = none := fun b hb => by
  rcases List.mem_cons.mp (I.stkSub b hb) with e | hb
  · rw [e]; exact I.free
  · obtain ⟨_, o, ho, _⟩ := I.ok.funs.mem hb
    exact I.base.free b o ho (I.ok.frf b hb) fun z => I.ok.exfs b z hb

/-- THE STEP: the untracked objects but the frame and the records at ch are kept (the callers' frames up to slots), the frame's map is kept, the new abstract heap is held -/
theorem Inv.step {g' : Array GenState} {t' : Nat} {d' : Drawn} {ch : List Addr} (I : Inv X pins σ H s)
    (hch : ∀ b ∈ ch, (b ∈ X.ex ∨ X.s_0.heap.objs.size ≤ b) ∧ b ≠ X.env.locals ∧ (∀ x c, X.env.cells.lookup x = some c → c ≠ b) ∧ ∀ p ∈ X.pn ++ pins, p.1 ≠ b)
    (keep : ∀ b o, b ≠ X.env.locals → b ∉ X.fs → b ∉ ch → s.heap.get? b = some o → H b = none → h'.get? b = some o)
    (slot : ∀ b o, b ≠ X.env.locals → b ∈ X.fs → b ∉ ch → s.heap.get? b = some o → H b = none → ∃ sl, h'.get? b = some { o with slots := sl }) (free : ∀ b o, b ∉ ch → s.heap.get? b = some o → H b = none → H' b = none)
    (there : ∀ b o, b ∉ ch → s.heap.get? b = some o → ∃ o', h'.get? b = some o')
    (tups : ∀ b xs, H b = some (.tup xs) → H' b = some (.tup xs)) (frzs : ∀ b o u, H b = some (.frz o u) → H' b = some (.frz o u)) (tbls : ∀ b ps, H b = some (.tbl ps) → ∃ more, H' b = some (.tbl (ps ++ more)))
    (ns : ∀ m, s.heap.Ns X.env.locals m → h'.Ns X.env.locals m) (hok : HOk X.prog X.w H' h') (hg : AllBare g') :
    Inv X pins σ H' { s with heap := h', gens := g', drawn := d', toks := t' } := by
  have neL : ∀ b o, X.s_0.heap.get? b = some o → b ≠ X.env.locals := fun b o e => Nat.ne_of_lt (Nat.lt_of_lt_of_le (Heap.lt_size e) I.ok.above)
  have neC : ∀ b o, X.s_0.heap.get? b = some o → b ∉ X.ex → b ∉ ch := fun b o e hx hb => by
    rcases (hch b hb).1 with z | z
    · exact hx z
    · exact absurd (Nat.lt_of_lt_of_le (Heap.lt_size e) z) (Nat.lt_irrefl _)
  have cellK : ∀ x c, X.env.cells.lookup x = some c → ∀ v, s.heap.IsCell c v → h'.IsCell c v := fun x c e v ⟨o, ho, hd⟩ => by
    have nch : c ∉ ch := fun z => (hch c z).2.2.1 x c e rfl
    by_cases hc : c ∈ X.fs
    · obtain ⟨sl, q⟩ := slot c o (I.cne x c e) hc nch ho (I.freeC x c e)
      exact ⟨_, q, hd⟩
    · exact ⟨o, keep c o (I.cne x c e) hc nch ho (I.freeC x c e), hd⟩
  refine ⟨I.ok, I.os, hg, ⟨fun b o e n hb hx => ?_, fun b o e n hb hx => ?_, fun b o e n hx => ?_, fun b o e hx => ?_, fun b xs e => tups b xs (I.base.tups b xs e), fun b o xs e => frzs b o xs (I.base.frzs b o xs e), fun b ps e => ?_⟩, ?_, fun x c e => ?_, ?_, fun x c e => ?_, fun p hp => ?_, hok, I.len⟩
  · exact keep b o (neL b o e) hb (neC b o e hx) (I.base.keep b o e n hb hx) (I.base.free b o e n hx)
  · obtain ⟨sl, e1⟩ := I.base.slot b o e n hb hx
    obtain ⟨sl', e2⟩ := slot b _ (neL b o e) hb (neC b o e hx) e1 (I.base.free b o e n hx)
    exact ⟨sl', e2⟩
  · obtain ⟨o', e1⟩ := I.base.there b o e hx
    exact free b o' (neC b o e hx) e1 (I.base.free b o e n hx)
  · obtain ⟨o', e1⟩ := I.base.there b o e hx
    exact there b o' (neC b o e hx) e1
  · obtain ⟨m1, e1⟩ := I.base.tbls b ps e
    obtain ⟨m2, e2⟩ := tbls b _ e1
    exact ⟨m1 ++ m2, by rw [e2, Array.append_assoc]⟩
  · obtain ⟨m, hn, hl⟩ := I.loc
    refine ⟨m, ns m hn, fun i x v e1 e2 e3 => ?_⟩
    obtain ⟨u, r, l⟩ := hl i x v e1 e2 e3
    refine ⟨u, r, ?_⟩
    rcases l with l | ⟨k, c, e, z⟩
    · exact .inl l
    · exact .inr ⟨k, c, e, cellK x c e _ z⟩
  · obtain ⟨v, z⟩ := I.cell x c e
    exact ⟨v, cellK x c e v z⟩
  · obtain ⟨m, ⟨o, _, _, ho, _⟩, _⟩ := I.loc
    exact free _ o (fun z => (hch _ z).2.1 rfl) ho I.free
  · obtain ⟨v, o, ho, hd⟩ := I.cell x c e
    exact free c o (fun z => (hch c z).2.2.1 x c e rfl) ho (I.freeC x c e)
  · obtain ⟨e, n, ne, nf, d⟩ := I.pin p hp
    have nch : p.1 ∉ ch := fun z => (hch p.1 z).2.2.2 p hp rfl
    exact ⟨keep p.1 p.2 ne nf nch e n, free p.1 p.2 nch e n, ne, nf, d⟩
/-- .. where the frame's own object is kept too -/
theorem Inv.un {t' : Nat} (I : Inv X pins σ H s) (u : Un X.fs [] H H' s.heap h') (hok : HOk X.prog X.w H' h') : Inv X pins σ H' { s with heap := h', toks := t' } := by
  obtain ⟨m, ⟨o, es, ep, ho, r⟩, _⟩ := id I.loc
  obtain ⟨sl, hL⟩ := u.any ho I.free (by simp)
  exact I.step (g' := s.gens) (d' := s.drawn) (ch := []) (fun _ z => nomatch z) (fun b o _ hb _ e n => u.keep b o e n hb (by simp)) (fun b o _ hb _ e n => u.slot b o e n hb (by simp)) (fun b o _ e n => u.free b o e n (by simp)) (fun b o _ e => u.there b o e (by simp)) u.tups u.frzs u.tbls (fun m' hm => by
    obtain ⟨o', es', ep', ho', r'⟩ := hm
    rw [ho] at ho'; cases ho'
    exact ⟨_, es', ep', hL, r'⟩) hok I.bare
/-- behind a call (or a comprehension's block): the slots of this frame may have changed too, the records at ch may have turned -/
theorem Inv.call {g' : Array GenState} {t' : Nat} {d' : Drawn} {ch : List Addr} (I : Inv X pins σ H s) (u : Un (frs X.stack) ch H H' s.heap h') (hok : HOk X.prog X.w H' h') (hg : AllBare g')
    (hch : ∀ b ∈ ch, (b ∈ X.ex ∨ X.s_0.heap.objs.size ≤ b) ∧ b ≠ X.env.locals ∧ (∀ x c, X.env.cells.lookup x = some c → c ≠ b) ∧ ∀ p ∈ X.pn ++ pins, p.1 ≠ b) :
    Inv X pins σ H' { s with heap := h', gens := g', drawn := d', toks := t' } := by
  obtain ⟨m, ⟨o, es, ep, ho, r⟩, _⟩ := id I.loc
  obtain ⟨sl, hL⟩ := u.any ho I.free fun z => (hch _ z).2.1 rfl
  exact I.step (ch := ch) hch (fun b o hL hb hc e n => u.keep b o e n (fun z => (List.mem_cons.mp (I.stkSub b z)).elim hL hb) hc) (fun b o _ _ hc e n => u.any e n hc) (fun b o hc e n => u.free b o e n hc) (fun b o hc e => u.there b o e hc) u.tups u.frzs u.tbls (fun m' hm => by
    obtain ⟨o', es', ep', ho', r'⟩ := hm
    rw [ho] at ho'; cases ho'
    exact ⟨_, es', ep', hL, r'⟩) hok hg
/-- an untracked record of ours (an iterator) has turned -/
theorem Inv.turned {t' : Nat} {it : Addr} (I : Inv X pins σ H s) (k : ∀ b o, b ≠ it → s.heap.get? b = some o → h'.get? b = some o) (hn : H it = none) (hL : it ≠ X.env.locals)
    (h1 : it ∈ X.ex ∨ X.s_0.heap.objs.size ≤ it) (h2 : ∀ x c, X.env.cells.lookup x = some c → c ≠ it) (h3 : ∀ p ∈ X.pn ++ pins, p.1 ≠ it) : Inv X pins σ H { s with heap := h', toks := t' } := by
  have nit : ∀ b u, H b = some u → b ≠ it := fun b u e z => by rw [z, hn] at e; cases e
  refine I.step (g' := s.gens) (d' := s.drawn) (ch := [it]) (fun b hb => ?_) (fun b o _ _ hc e _ => k b o (fun z => hc (by simp [z])) e) (fun b o _ _ hc e _ => ⟨o.slots, k b o (fun z => hc (by simp [z])) e⟩) (fun _ _ _ _ n => n)
    (fun b o hc e => ⟨o, k b o (fun z => hc (by simp [z])) e⟩) (fun _ _ e => e) (fun _ _ _ e => e) (fun b ps e => ⟨#[], by rw [e]; simp⟩) (fun m hm => ?_) (fun b u e => ?_) I.bare
  · have e : b = it := by simpa using hb
    subst e
    exact ⟨h1, hL, h2, h3⟩
  · obtain ⟨o, es, ep, ho, r⟩ := hm
    exact ⟨o, es, ep, k _ o (Ne.symm hL) ho, r⟩
  · refine (I.hok b u e).stay (fun c v hc q => k c v ?_ q) (fun _ q => q) fun _ _ q => q
    rcases hc with z | z
    · rw [z]; exact nit b u e
    · exact nit c _ z
theorem Inv.tok (I : Inv X pins σ H s) (t : Nat) : Inv X pins σ H { s with toks := t } := I.un (h' := s.heap) (t' := t) Un.refl I.hok
/-- all objects kept -/
theorem Inv.kept {t' : Nat} (I : Inv X pins σ H s) (k : ∀ b u, s.heap.get? b = some u → h'.get? b = some u) : Inv X pins σ H { s with heap := h', toks := t' } := I.un (Un.kept k) (I.hok.kept k)
/-- a new object laid and tracked -/
theorem Inv.laid {a : Addr} {o : HO} {t' : Nat} (I : Inv X pins σ H s) (k : ∀ b u, s.heap.get? b = some u → h'.get? b = some u) (hp : s.heap.objs.size ≤ a) (new : ObjOk X.prog X.w (upd H a o) h' a o) :
    Inv X pins σ (upd H a o) { s with heap := h', toks := t' } := I.un (Un.laid k hp (I.hok.fresh hp)) (I.hok.laid k hp new)
/-- an object written -/
theorem Inv.write {x e : Addr} {o : HO} {t' : Nat} (I : Inv X pins σ H s) (mu : Mut (H x)) (he : e = x ∨ H e = some (.own x)) (k : ∀ b u, b ≠ e → s.heap.get? b = some u → h'.get? b = some u) (heo : ∃ u, h'.get? e = some u)
    (new : ObjOk X.prog X.w (upd H x o) h' x o) : Inv X pins σ (upd H x o) { s with heap := h', toks := t' } := I.un (Un.write mu he k heo) (I.hok.write mu he k heo new)
/-- forgetting slots, pins -/
theorem Inv.weak {σ' : List (Option V)} (I : Inv X pins σ H s) (hl : σ'.length = σ.length) (w : ∀ (i : Nat) v, σ'[i]? = some (some v) → σ[i]? = some (some v)) : Inv X pins σ' H s :=
  ⟨I.ok, I.os, I.bare, I.base, let ⟨m, hn, hl'⟩ := I.loc; ⟨m, hn, fun i x v e1 e2 e3 => hl' i x v e1 (w i v e2) e3⟩, I.cell, I.free, I.freeC, I.pin, I.hok, hl.trans I.len⟩
theorem Inv.pins_of {pins' : List (Addr × Obj)} (I : Inv X pins σ H s) (h : ∀ p ∈ pins', s.heap.get? p.1 = some p.2 ∧ H p.1 = none ∧ p.1 ≠ X.env.locals ∧ p.1 ∉ X.fs ∧ ∀ v, p.2.data ≠ .cell v) : Inv X pins' σ H s :=
  ⟨I.ok, I.os, I.bare, I.base, I.loc, I.cell, I.free, I.freeC, fun p hp => (List.mem_append.mp hp).elim (fun z => I.pin p (List.mem_append_left _ z)) (h p), I.hok, I.len⟩

theorem nodup_ix {N : List Str} (hN : N.Nodup) {i j : Nat} {x : Str} (a : N[i]? = some x) (b : N[j]? = some x) : i = j := by
  obtain ⟨h1, e1⟩ := List.getElem?_eq_some_iff.mp a
  obtain ⟨h2, e2⟩ := List.getElem?_eq_some_iff.mp b
  exact (List.getElem_inj hN).mp (e1.trans e2.symm)

/-- a name is stored; what changed -/
theorem store_ok2 {M : Model} {A : Around} {E : Value → Shared → Prop} {i : Nat} {x : Str} {v : V} {u : Value} {Q : Unit → Shared → Prop} (I : Inv X pins σ H s) (hN : X.N.Nodup) (hi : X.N[i]? = some x) (hx : Loc X.env.scope x) (r : RelV v u)
    (h : ∀ s', Inv X pins (σ.set i (some v)) H s' → (∃ a, Heap.SameBut a s.heap s'.heap ∧ (a = X.env.locals ∨ X.env.cells.lookup x = some a)) → Q () s') (hf : X.fn x = true ∨ X.env.scope.names.lookup x = some .local := by first | exact .inl rfl | exact .inr rfl | assumption) : wpAny M A (storeName X.env x u) Q E s := by
  obtain ⟨m, hn, hl⟩ := id I.loc
  have hcls : (X.env.scope.kind == .class || (X.env.scope.kind == .module && X.env.locals != X.env.globals)) = false := by rw [I.ok.kind]; rfl
  have hiσ : i < σ.length := by rw [I.len]; exact (List.getElem?_eq_some_iff.mp hi).1
  have cne := I.cne
  have tracked : ∀ {a : Addr} {h' : Heap}, (∃ o, s.heap.get? a = some o ∧ H a = none) → Heap.SameBut a s.heap h' → HOk X.prog X.w H h' := fun {a h'} ha hs b ob e => by
    obtain ⟨_, _, hfree⟩ := ha
    refine (I.hok b ob e).stay (fun c w' hc q => (hs.2 c ?_).trans q) (fun _ q => q) fun _ _ q => q
    rintro rfl
    rcases hc with rfl | hc
    · rw [hfree] at e; cases e
    · rw [hfree] at hc; cases hc
  rcases hx with hk | hk
  · refine wpAny_storeName_local hk hn (fun h' hn' hs => ?_) hcls
    obtain ⟨oL, _, _, hoL, _⟩ := id hn
    refine h _ ⟨I.ok, I.os, I.bare, ⟨fun b o e n hb hx => ?_, fun b o e n hb hx => ?_, I.base.free, fun b o e hx => ?_, I.base.tups, I.base.frzs, I.base.tbls⟩, ⟨_, hn', fun j y v' e1 e2 e3 => ?_⟩, fun y c e => ?_, I.free, I.freeC, fun p hp => ?_, tracked ⟨oL, hoL, I.free⟩ hs, by simpa using I.len⟩ ⟨_, hs, .inl rfl⟩
    · exact (hs.2 b (Nat.ne_of_lt (Nat.lt_of_lt_of_le (Heap.lt_size e) I.ok.above))).trans (I.base.keep b o e n hb hx)
    · obtain ⟨sl, e1⟩ := I.base.slot b o e n hb hx
      exact ⟨sl, (hs.2 b (Nat.ne_of_lt (Nat.lt_of_lt_of_le (Heap.lt_size e) I.ok.above))).trans e1⟩
    · obtain ⟨o', e1⟩ := I.base.there b o e hx
      exact ⟨o', (hs.2 b (Nat.ne_of_lt (Nat.lt_of_lt_of_le (Heap.lt_size e) I.ok.above))).trans e1⟩
    · by_cases hj : j = i
      · subst hj
        rw [hi] at e1; cases e1
        rw [List.getElem?_set_self hiσ] at e2
        cases e2
        exact ⟨u, r, .inl ⟨hk, by simp⟩⟩
      · rw [List.getElem?_set_ne (Ne.symm hj)] at e2
        obtain ⟨u', r', q⟩ := hl j y v' e1 e2 e3
        refine ⟨u', r', ?_⟩
        rcases q with ⟨k, e⟩ | ⟨k, c, e, z⟩
        · refine .inl ⟨k, ?_⟩
          have : y ≠ x := fun e => hj (nodup_ix hN e1 (e ▸ hi))
          simp [this, e]
        · exact .inr ⟨k, c, e, z.sameBut hs (cne y c e)⟩
    · obtain ⟨w', z⟩ := I.cell y c e
      exact ⟨w', z.sameBut hs (cne y c e)⟩
    · obtain ⟨e, n, ne, nf, d⟩ := I.pin p hp
      exact ⟨(hs.2 p.1 ne).trans e, n, ne, nf, d⟩
  · have hfn : X.fn x = true := by
      rcases hf with z | z
      · exact z
      · rw [z] at hk; cases hk
    obtain ⟨c, hc⟩ := I.ok.has x (.inl hk)
    obtain ⟨w', z⟩ := I.cell x c hc
    refine wpAny_storeName_cell I.ok.kind hk hc z (fun h' hc' hs => ?_)
    obtain ⟨oc, hoc, hocd⟩ := id z
    refine h { s with heap := h' } ⟨I.ok, I.os, I.bare, ⟨fun b o e n hb hx => ?_, fun b o e n hb hx => ?_, I.base.free, fun b o e hx => ?_, I.base.tups, I.base.frzs, I.base.tbls⟩, ⟨m, hn.sameBut hs (Ne.symm (cne x c hc)), fun j y v' e1 e2 e3 => ?_⟩, fun y c' e => ?_, I.free, I.freeC, fun p hp => ?_, tracked ⟨oc, hoc, I.freeC x c hc⟩ hs, by simpa using I.len⟩ ⟨c, hs, .inr hc⟩
    · exact (hs.2 b (Nat.ne_of_lt (Nat.lt_of_lt_of_le (Heap.lt_size e) (I.ok.cab x c hfn hc)))).trans (I.base.keep b o e n hb hx)
    · obtain ⟨sl, e1⟩ := I.base.slot b o e n hb hx
      exact ⟨sl, (hs.2 b (Nat.ne_of_lt (Nat.lt_of_lt_of_le (Heap.lt_size e) (I.ok.cab x c hfn hc)))).trans e1⟩
    · obtain ⟨o', e1⟩ := I.base.there b o e hx
      exact ⟨o', (hs.2 b (Nat.ne_of_lt (Nat.lt_of_lt_of_le (Heap.lt_size e) (I.ok.cab x c hfn hc)))).trans e1⟩
    · by_cases hj : j = i
      · subst hj
        rw [hi] at e1; cases e1
        rw [List.getElem?_set_self hiσ] at e2
        cases e2
        exact ⟨u, r, .inr ⟨.inl hk, c, hc, hc'⟩⟩
      · rw [List.getElem?_set_ne (Ne.symm hj)] at e2
        obtain ⟨u', r', q⟩ := hl j y v' e1 e2 e3
        refine ⟨u', r', ?_⟩
        rcases q with q | ⟨k, c', e, z'⟩
        · exact .inl q
        · refine .inr ⟨k, c', e, z'.sameBut hs ?_⟩
          rintro rfl
          exact hj (nodup_ix hN e1 (I.ok.inj _ _ _ e hc ▸ hi))
    · by_cases hcc : c' = c
      · subst hcc; exact ⟨_, hc'⟩
      · obtain ⟨w2, z2⟩ := I.cell y c' e
        exact ⟨w2, z2.sameBut hs hcc⟩
    · obtain ⟨e, n, ne, nf, d⟩ := I.pin p hp
      refine ⟨(hs.2 p.1 ?_).trans e, n, ne, nf, d⟩
      intro q
      rw [q, hoc] at e
      have q' : oc = p.2 := Option.some.inj e
      exact d w' (by rw [← q']; exact hocd)
theorem store_ok {M : Model} {A : Around} {E : Value → Shared → Prop} {i : Nat} {x : Str} {v : V} {u : Value} {Q : Unit → Shared → Prop} (I : Inv X pins σ H s) (hN : X.N.Nodup) (hi : X.N[i]? = some x) (hx : Loc X.env.scope x) (r : RelV v u)
    (h : ∀ s', Inv X pins (σ.set i (some v)) H s' → Q () s') (hf : X.fn x = true ∨ X.env.scope.names.lookup x = some .local := by first | exact .inl rfl | exact .inr rfl | assumption) : wpAny M A (storeName X.env x u) Q E s :=
  store_ok2 I hN hi hx r (fun s' I' _ => h s' I') hf
/-- behind a call or a block, the state as it is -/
theorem Inv.call' {s' : Shared} {ch : List Addr} (I : Inv X pins σ H s) (ho : s'.os = s.os) (u : Un (frs X.stack) ch H H' s.heap s'.heap) (hok : HOk X.prog X.w H' s'.heap) (hg : AllBare s'.gens)
    (hch : ∀ b ∈ ch, (b ∈ X.ex ∨ X.s_0.heap.objs.size ≤ b) ∧ b ≠ X.env.locals ∧ (∀ x c, X.env.cells.lookup x = some c → c ≠ b) ∧ ∀ p ∈ X.pn ++ pins, p.1 ≠ b) : Inv X pins σ H' s' := by
  obtain ⟨h', g', d', t', o'⟩ := s'
  have e : o' = s.os := ho
  subst e
  exact I.call (g' := g') (t' := t') (d' := d') u hok hg hch
end

/-- an exception: its class, its own dict's address (where it has one), the abstract heap behind it -/
abbrev XK := Value → Option Addr → Hp → Prop
abbrev St := List (Option V)
abbrev VK := V → Hp → Prop
/-- an expression's reading; a test's; an argument list's -/
abbrev TE := St → Hp → VK → Prop
abbrev TT := St → Hp → (Bool → Hp → Prop) → Prop
abbrev TA := St → Hp → (List V → Hp → Prop) → Prop
/-- what is wanted behind a statement -/
structure Ends where
  nx : St → Hp → Prop
  rt : VK
  bk : St → Hp → Prop := fun _ _ => False
  ct : St → Hp → Prop := fun _ _ => False
abbrev TS := Ends → St → Hp → Prop

def EP (X : Cx) (pins : List (Addr × Obj)) (σ : St) (Q : VK) (u : Value) (s' : Shared) : Prop := ∃ v H', Inv X pins σ H' s' ∧ RelV v u ∧ Q v H'
def TP (X : Cx) (pins : List (Addr × Obj)) (σ : St) (Q : Bool → Hp → Prop) (b : Bool) (s' : Shared) : Prop := ∃ H', Inv X pins σ H' s' ∧ Q b H'
def AP (X : Cx) (pins : List (Addr × Obj)) (σ : St) (Q : List V → Hp → Prop) (us : List Value) (s' : Shared) : Prop := ∃ vs H', Inv X pins σ H' s' ∧ Vals vs us ∧ Q vs H'
def SP (X : Cx) (pins : List (Addr × Obj)) (D : Ends) (f : Flow) (s' : Shared) : Prop :=
  match f with
  | .next => ∃ σ' H', Inv X pins σ' H' s' ∧ D.nx σ' H'
  | .brk => ∃ σ' H', Inv X pins σ' H' s' ∧ D.bk σ' H'
  | .cont => ∃ σ' H', Inv X pins σ' H' s' ∧ D.ct σ' H'
  | .ret u => ∃ v σ' H', Inv X pins σ' H' s' ∧ RelV v u ∧ D.rt v H'

def PE (X : Cx) (e : Expr) (t : TE) : Prop :=
  ∀ (pins : List (Addr × Obj)) (s : Shared) (σ : St) (H : Hp) (Q : VK), Inv X pins σ H s → t σ H Q → wpAny (model X.prog X.w) X.A (eval e X.env) (EP X pins σ Q) X.xe s
def PT (X : Cx) (e : Expr) (t : TT) : Prop :=
  ∀ (pins : List (Addr × Obj)) (s : Shared) (σ : St) (H : Hp) (Q : Bool → Hp → Prop), Inv X pins σ H s → t σ H Q → wpAny (model X.prog X.w) X.A (isTrue e X.env (eval e X.env)) (TP X pins σ Q) X.xe s
/-- a test whatever its 'whole' is (and, or) -/
def PW (X : Cx) (e : Expr) (t : TT) : Prop :=
  ∀ (whole : Sem Value) (pins : List (Addr × Obj)) (s : Shared) (σ : St) (H : Hp) (Q : Bool → Hp → Prop), Inv X pins σ H s → t σ H Q → wpAny (model X.prog X.w) X.A (isTrue e X.env whole) (TP X pins σ Q) X.xe s
theorem PW.pt {X : Cx} {e : Expr} {t : TT} (h : PW X e t) : PT X e t := h _
/-- an argument list (no star), from the left -/
def PA (X : Cx) (es : List Expr) (t : TA) : Prop :=
  ∀ (pos : Pos) (pins : List (Addr × Obj)) (s : Shared) (σ : St) (H : Hp) (Q : List V → Hp → Prop), Inv X pins σ H s → t σ H Q → wpAny (model X.prog X.w) X.A (spliced (backTo pos (starEach es X.env))) (AP X pins σ Q) X.xe s
def PS (X : Cx) (st : Stmt) (t : TS) : Prop :=
  ∀ (pins : List (Addr × Obj)) (s : Shared) (σ : St) (H : Hp) (D : Ends), Inv X pins σ H s → t D σ H → wpAny (model X.prog X.w) X.A (exec st X.env) (SP X pins D) X.xe s
def PSs (X : Cx) (st : List Stmt) (t : TS) : Prop :=
  ∀ (pins : List (Addr × Obj)) (s : Shared) (σ : St) (H : Hp) (D : Ends), Inv X pins σ H s → t D σ H → wpAny (model X.prog X.w) X.A (execs st X.env) (SP X pins D) X.xe s
/-- weaken the end -/
theorem thn {α : Type} {t : Sem α} {Q Q' : α → Shared → Prop} {M : Model} {A : Around} {E : Value → Shared → Prop} {s : Shared} (h : wpAny M A t Q E s) (hQ : ∀ a s, Q a s → Q' a s) : wpAny M A t Q' E s := wpAny_mono h hQ fun _ _ x => x
end L2

namespace L2
open PySem PySem.Spec PyProof.Rows
section
variable {X : Cx}

def tVar (i : Nat) : TE := fun σ H Q => ∃ v, σ[i]? = some (some v) ∧ Q v H
def tC (v : V) : TE := fun _ H Q => Q v H
theorem pe_var {i : Nat} {x : Str} {pos : Pos} (hN : X.N[i]? = some x) (hv : Vis X.env.scope x) (hd : (x == ("__debug__" : Str)) = false := by decide) (hcd : (x == ("__classdict__" : Str)) = false := by decide) : PE X (.Name x pos) (tVar i) := by
  intro pins s σ H Q I h
  obtain ⟨v, e, h⟩ := h
  obtain ⟨m, hn, hl⟩ := I.loc
  obtain ⟨u, r, l⟩ := hl i x v hN e hv
  have fin : EP X pins σ Q u s := ⟨v, H, I, r, h⟩
  rcases l with ⟨hk, hm⟩ | ⟨hk, c, hc, hcell⟩
  · exact wpAny_Name (wpAny_loadName_local I.ok.kind hk hn hm fin) hd
  · rcases hk with hk | hk
    · exact wpAny_Name (wpAny_loadName_cell I.ok.kind hk hc hcell fin) hd
    · exact wpAny_Name (wpAny_loadName_free I.ok.kind hk hc hcell fin hcd) hd
theorem pe_int {i j pos} : PE X (.Constant (.int i) j pos) (tC (.int i)) := fun _ _ _ H _ I h => wpAny_Constant_int ⟨.int i, H, I.tok _, ⟨_, rfl⟩, h⟩
theorem pe_bl {b j pos} : PE X (.Constant (.bool b) j pos) (tC (.bl b)) := fun _ _ _ H _ I h => Constant_bool ⟨.bl b, H, I, rfl, h⟩
theorem pe_non {j pos} : PE X (.Constant .none j pos) (tC .non) := fun _ _ _ H _ I h => Constant_none ⟨.non, H, I, rfl, h⟩
/-- a global name of the def -/
def Gl (X : Cx) (x : Str) : Prop := X.env.kindOf x = some .globalImplicit
theorem ld_glob {E : Value → Shared → Prop} {pins : List (Addr × Obj)} {s : Shared} {σ : St} {H : Hp} {x : Str} {u : Value} {pos : Pos} {Q : Value → Shared → Prop} (I : Inv X pins σ H s) (hg : Gl X x) (hm : X.mg x = some u) (h : Q u s)
    (hd : (x == ("__debug__" : Str)) = false := by decide) : wpAny (model X.prog X.w) X.A (eval (.Name x pos) X.env) Q E s :=
  Calls.Name_function_global I.ok.kind hg (Calls.loadGlobal_global (by rw [I.ok.glob]; exact I.mod.glob.keeps I.bk) hm h) hd
theorem ld_blt {E : Value → Shared → Prop} {pins : List (Addr × Obj)} {s : Shared} {σ : St} {H : Hp} {x : Str} {u : Value} {pos : Pos} {Q : Value → Shared → Prop} (I : Inv X pins σ H s) (hg : Gl X x) (hm : X.mg x = none) (hv : bootBuiltins x = some u) (h : Q u s)
    (hn : x ≠ "__name__" := by decide) (hd : (x == ("__debug__" : Str)) = false := by decide) : wpAny (model X.prog X.w) X.A (eval (.Name x pos) X.env) Q E s := by
  obtain ⟨mb, h1, h2⟩ := I.mod.blt
  exact Calls.Name_function_global I.ok.kind hg (Calls.loadGlobal_builtin (by rw [I.ok.glob]; exact I.mod.glob.keeps I.bk) hm (by rw [I.ok.blt]; exact h1.keeps I.bk) ((h2 x hn).trans hv) h) hd
/-- a module's constant, a class, a function, as a value -/
theorem pe_glob {x : Str} {v : V} {u : Value} {pos : Pos} (hg : Gl X x) (hm : X.mg x = some u) (r : RelV v u) (hd : (x == ("__debug__" : Str)) = false := by decide) : PE X (.Name x pos) (tC v) :=
  fun _ _ _ H _ I h => ld_glob I hg hm ⟨v, H, I, r, h⟩ hd
variable {a b : Expr} {ta tb : TE} {pos : Pos}
/-- a comparison as a value, as a test -/
def tB (t : TE) : TT := fun σ H Q => t σ H fun x H1 => ∃ c, x = .bl c ∧ Q c H1
/-- an expression whose value is a bool, as a test -/
theorem pt_val {e : Expr} {t : TE} (h : PE X e t) (he : ∀ whole, isTrue e X.env whole = (do let v ← whole; standAt e.pos; holding [v] (truthy v)) := by intro _; rfl) : PT X e (tB t) := by
  intro pins s σ H Q I hw
  refine isTrue_plain (thn (h pins s σ H _ I hw) fun v s1 ⟨x, H1, I1, r1, q1⟩ => ?_) (he _)
  obtain ⟨d, rfl, q⟩ := q1
  cases r1
  exact wpAny_truthy_bool ⟨H1, I1, q⟩

variable {tA tB' : TT} {rest : List Expr}
def tOr (t u : TT) : TT := fun σ H Q => t σ H fun c H1 => if c = true then Q true H1 else u σ H1 Q
def tNot (t : TT) : TT := fun σ H Q => t σ H fun c H1 => Q (!c) H1
theorem pw_or1 (ha : PT X a tA) : PW X (.BoolOp .Or [a] pos) tA := by
  intro wh pins s σ H Q I h
  refine isTrue_or (thn (ha pins s σ H Q I h) fun c s1 e => ?_)
  cases c with
  | false => exact isTrue_or_nil e
  | true => exact e
theorem pw_or (ha : PT X a tA) (hb : PW X (.BoolOp .Or (b :: rest) pos) tB') : PW X (.BoolOp .Or (a :: b :: rest) pos) (tOr tA tB') := by
  intro wh pins s σ H Q I h
  refine isTrue_or (thn (ha pins s σ H _ I h) fun c s1 ⟨H1, I1, q1⟩ => ?_)
  cases c with
  | true => exact ⟨H1, I1, q1⟩
  | false => exact hb wh pins s1 σ H1 Q I1 q1
theorem pt_not (ha : PT X a tA) : PT X (.UnaryOp .Not a pos) (tNot tA) := by
  intro pins s σ H Q I h
  exact isTrue_not (ha pins s σ H (fun c H1 => Q (!c) H1) I h)
end
end L2

namespace L2
open PySem PySem.Spec PyProof.Rows

def SqL (K : PySem.W.Frag) (H : Hp) (a : Addr) (xs : List V) : Prop :=
  Rd H a (.lst xs) ∨
    ∃ (o : Obj) (its : Array Value) (n : Nat), K.lookup a = some o ∧ o.cls = .type "list" ∧ o.dict = none ∧ o.data = .seq its n ∧ its.size ≤ sizeLine ∧ Vals xs its.toList
def SqT (K : PySem.W.Frag) (H : Hp) (a : Addr) (xs : List V) : Prop :=
  Rd H a (.tup xs) ∨
    ∃ (o : Obj) (its : Array Value) (n : Nat), K.lookup a = some o ∧ o.cls = .type "tuple" ∧ o.data = .seq its n ∧ its.size ≤ sizeLine ∧ Vals xs its.toList
def absV : Value → Option V
  | .none => some .non
  | .bool b => some (.bl b)
  | .int i _ => some (.int i)
  | .str x _ => some (.str x)
  | .bytes b _ => some (.byt b)
  | .float b _ => some (.flt b)
  | .ref a => some (.ref a)
  | .type n => some (.ty n)
  | _ => none
theorem RelV.abs {x : V} {u : Value} (r : RelV x u) : absV u = some x := by
  cases x with
  | non => cases r; rfl
  | bl _ => cases r; rfl
  | int _ => obtain ⟨t, rfl⟩ := r; rfl
  | str _ => obtain ⟨t, rfl⟩ := r; rfl
  | byt _ => obtain ⟨t, rfl⟩ := r; rfl
  | flt _ => obtain ⟨t, rfl⟩ := r; rfl
  | ref _ => cases r; rfl
  | ty _ => cases r; rfl
theorem RelV.inj {x y : V} {u : Value} (r : RelV x u) (q : RelV y u) : x = y := Option.some.inj (r.abs.symm.trans q.abs)
theorem Vals.inj : ∀ {xs ys : List V} {us : List Value}, Vals xs us → Vals ys us → xs = ys
  | _, _, _, .nil, .nil => rfl
  | _, _, _, .cons r t, .cons r' t' => by rw [r.inj r', Vals.inj t t']
section
variable {X : Cx} {pins : List (Addr × Obj)} {σ : St} {H : Hp} {s : Shared} {a : Addr} {xs ys : List V}
theorem SqL.of {K : PySem.W.Frag} (h : H a = some (.lst xs)) : SqL K H a xs := .inl (.inl h)
theorem SqT.of {K : PySem.W.Frag} (h : H a = some (.tup xs)) : SqT K H a xs := .inl (.inl h)
theorem Inv.list (I : Inv X pins σ H s) (h : SqL X.K H a xs) : ∃ its : List Value, Vals xs its ∧ PlainL s.heap a its.toArray ∧ xs.length ≤ sizeLine := by
  rcases h with h | ⟨o, its, n, hk, hc, hd, hs, hz, r⟩
  · obtain ⟨z, its, n, r, e⟩ := h.ok I.hok
    exact ⟨its, r, ⟨_, n, e, rfl, rfl, rfl⟩, z⟩
  · refine ⟨its.toList, r, ⟨o, n, I.kIn a o hk, hc, hd, by simpa using hs⟩, ?_⟩
    have e := r.length
    simp only [Array.length_toList] at e
    omega
theorem Inv.tuple (I : Inv X pins σ H s) (h : SqT X.K H a xs) : ∃ its : List Value, Vals xs its ∧ IsTup s.heap a its.toArray ∧ xs.length ≤ sizeLine := by
  rcases h with h | ⟨o, its, n, hk, hc, hs, hz, r⟩
  · obtain ⟨z, its, r, p⟩ := h.ok I.hok
    exact ⟨its, r, p, z⟩
  · refine ⟨its.toList, r, ⟨o, I.kIn a o hk, hc, n, by simpa using hs⟩, ?_⟩
    have e := r.length
    simp only [Array.length_toList] at e
    omega
theorem Inv.list_inj (I : Inv X pins σ H s) (h : SqL X.K H a xs) (h' : SqL X.K H a ys) : xs = ys := by
  obtain ⟨its, r, ⟨o, n, e, _, _, d⟩, _⟩ := I.list h
  obtain ⟨its', r', ⟨o', n', e', _, _, d'⟩, _⟩ := I.list h'
  rw [e] at e'; cases e'
  rw [d] at d'
  injection d' with d1 _
  have : its = its' := by simpa using congrArg Array.toList d1
  subst this
  exact r.inj r'
end

abbrev Cx.wish (X : Cx) (E : Value → Shared → Prop) : Cx := { X with xe := E }
/-- no exception leaves -/
abbrev Cx.nox (X : Cx) : Cx := X.wish fun _ _ => False
theorem Cx.Ok.wish {X : Cx} (ok : X.Ok) (E : Value → Shared → Prop) : (X.wish E).Ok :=
  ⟨ok.mod, ok.kind, ok.glob, ok.blt, ok.above, ok.inj, ok.has, ok.cab, ok.hd, ok.frames, ok.stk, ok.exf, ok.bs, ok.bsz, ok.noex, ok.exfs, ok.funs, ok.frf⟩
theorem Cx.Ok.unwish {X : Cx} {E : Value → Shared → Prop} (ok : (X.wish E).Ok) : X.Ok :=
  ⟨ok.mod, ok.kind, ok.glob, ok.blt, ok.above, ok.inj, ok.has, ok.cab, ok.hd, ok.frames, ok.stk, ok.exf, ok.bs, ok.bsz, ok.noex, ok.exfs, ok.funs, ok.frf⟩
section
variable {X : Cx} {pins : List (Addr × Obj)} {σ : St} {H : Hp} {s : Shared} {E : Value → Shared → Prop}
theorem Inv.wish (I : Inv X pins σ H s) (E : Value → Shared → Prop) : Inv (X.wish E) pins σ H s := ⟨I.ok.wish E, I.os, I.bare, I.base, I.loc, I.cell, I.free, I.freeC, I.pin, I.hok, I.len⟩
theorem Inv.unwish (I : Inv (X.wish E) pins σ H s) : Inv X pins σ H s := ⟨I.ok.unwish, I.os, I.bare, I.base, I.loc, I.cell, I.free, I.freeC, I.pin, I.hok, I.len⟩
theorem SP.unwish {D : Ends} {f : Flow} {s' : Shared} (h : SP (X.wish E) pins D f s') : SP X pins D f s' := by
  cases f with
  | next => obtain ⟨σ', H', I, q⟩ := h; exact ⟨σ', H', I.unwish, q⟩
  | brk => obtain ⟨σ', H', I, q⟩ := h; exact ⟨σ', H', I.unwish, q⟩
  | cont => obtain ⟨σ', H', I, q⟩ := h; exact ⟨σ', H', I.unwish, q⟩
  | ret u => obtain ⟨v, σ', H', I, r, q⟩ := h; exact ⟨v, σ', H', I.unwish, r, q⟩
theorem PE.nox {e : Expr} {t : TE} (h : PE X.nox e t) : PE X e t := fun pins s σ H Q I hw =>
  wpAny_mono (h pins s σ H Q (I.wish _) hw) (fun _ _ ⟨v, H', I', r, q⟩ => ⟨v, H', I'.unwish, r, q⟩) fun _ _ z => False.elim z
theorem PT.nox {e : Expr} {t : TT} (h : PT X.nox e t) : PT X e t := fun pins s σ H Q I hw =>
  wpAny_mono (h pins s σ H Q (I.wish _) hw) (fun _ _ ⟨H', I', q⟩ => ⟨H', I'.unwish, q⟩) fun _ _ z => False.elim z
theorem PSs.nox {st : List Stmt} {t : TS} (h : PSs X.nox st t) : PSs X st t := fun pins s σ H D I hw =>
  wpAny_mono (h pins s σ H D (I.wish _) hw) (fun _ _ q => q.unwish) fun _ _ z => False.elim z
end

section
variable {X : Cx} {st : Stmt} {rest : List Stmt} {t u : TS} {e : Expr} {te : TE} {pos : Pos}
def tNext : TS := fun D σ H => D.nx σ H
def tSeq (t u : TS) : TS := fun D σ H => t { D with nx := u D } σ H
theorem pss_nil : PSs X [] tNext := fun _ _ σ H _ I h => wpAny_execs_nil ⟨σ, H, I, h⟩
theorem pss_cons (h1 : PS X st t) (h2 : PSs X rest u) : PSs X (st :: rest) (tSeq t u) := by
  intro pins s σ H D I h
  refine wpAny_execs_cons (thn (h1 pins s σ H { D with nx := u D } I h) fun f s1 q => ?_)
  cases f with
  | next =>
    obtain ⟨σ', H', I', q⟩ := q
    exact h2 pins s1 σ' H' D I' q
  | ret v => exact q
  | brk => exact q
  | cont => exact q
theorem pss_one (h1 : PS X st t) : PSs X [st] t := by
  intro pins s σ H D I h
  refine wpAny_execs_cons (thn (h1 pins s σ H D I h) fun f s1 q => ?_)
  cases f with
  | next => exact wpAny_execs_nil q
  | ret v => exact q
  | brk => exact q
  | cont => exact q
/-- in a def's body nothing is shown -/
theorem Inv.quiet {pins : List (Addr × Obj)} {σ : St} {H : Hp} {s : Shared} (I : Inv X pins σ H s) : interactive X.env = false := by simp [interactive, I.ok.kind]
/-- an expression whose value is dropped -/
def tDrop (te : TE) : TS := fun D σ H => te σ H fun _ H1 => D.nx σ H1
theorem ps_expr (he : PE X e te) (hs : swapsWith e none pos.line X.env = pure false := by rfl) : PS X (.Expr e pos) (tDrop te) := by
  intro pins s σ H D I h
  exact wpAny_Expr_any (thn (he pins s σ H _ I h) fun v s1 ⟨x, H1, I1, r1, q1⟩ => ⟨σ, H1, I1, q1⟩) I.quiet hs
def tRet (te : TE) : TS := fun D σ H => te σ H D.rt
theorem ps_ret (he : PE X e te) : PS X (.Return (some e) pos) (tRet te) := by
  intro pins s σ H D I h
  exact wpAny_Return_some (thn (he pins s σ H _ I h) fun v s1 ⟨x, H1, I1, r1, q1⟩ => ⟨x, σ, H1, I1, r1, q1⟩)
def tIfS (c : TT) (t u : TS) : TS := fun D σ H => c σ H fun b H1 => if b = true then t D σ H1 else u D σ H1
theorem ps_if {c : Expr} {a b : List Stmt} {tc : TT} (hc : PT X c tc) (ha : PSs X a t) (hb : PSs X b u) : PS X (.If c a b pos) (tIfS tc t u) := by
  intro pins s σ H D I h
  refine wpAny_If (thn (hc pins s σ H _ I h) fun d s1 ⟨H1, I1, q1⟩ => ?_)
  cases d with
  | true => exact ha pins s1 σ H1 D I1 q1
  | false => exact hb pins s1 σ H1 D I1 q1
end

abbrev TG := V → St → Hp → (St → Hp → Prop) → Prop
abbrev TGs := List V → St → Hp → (St → Hp → Prop) → Prop
def PG (X : Cx) (target : Expr) (t : TG) : Prop :=
  ∀ (pins : List (Addr × Obj)) (s : Shared) (σ : St) (H : Hp) (v : V) (u : Value) (Q : St → Hp → Prop), Inv X pins σ H s → RelV v u → t v σ H Q →
    wpAny (model X.prog X.w) X.A (assign target X.env u) (fun _ s' => ∃ σ' H', Inv X pins σ' H' s' ∧ Q σ' H') X.xe s
/-- several targets, one after another -/
def PGs (X : Cx) (ts : List Expr) (t : TGs) : Prop :=
  ∀ (pins : List (Addr × Obj)) (s : Shared) (σ : St) (H : Hp) (vs : List V) (us : List Value) (Q : St → Hp → Prop), Inv X pins σ H s → Vals vs us → t vs σ H Q →
    wpAny (model X.prog X.w) X.A (assignInOrder ((assignEach ts X.env).map (·.2)) us) (fun _ s' => ∃ σ' H', Inv X pins σ' H' s' ∧ Q σ' H') X.xe s
/-- o[i] = v, by values -/
abbrev TSet := V → V → V → Hp → (Hp → Prop) → Prop
def PSet (X : Cx) (t : TSet) : Prop :=
  ∀ (pins : List (Addr × Obj)) (s : Shared) (σ : St) (H : Hp) (o i v : V) (ov iv u : Value) (Q : Hp → Prop), Inv X pins σ H s → RelV o ov → RelV i iv → RelV v u → t o i v H Q →
    wpAny (model X.prog X.w) X.A (setItem ov iv u) (fun _ s' => ∃ H', Inv X pins σ H' s' ∧ Q H') X.xe s
section
variable {X : Cx} {pos : Pos}
def gName (i : Nat) : TG := fun v σ H Q => Q (σ.set i (some v)) H
theorem pg_name {i : Nat} {x : Str} (hN : X.N.Nodup) (hi : X.N[i]? = some x) (hx : Loc X.env.scope x) (hf : X.fn x = true ∨ X.env.scope.names.lookup x = some .local := by first | exact .inl rfl | exact .inr rfl | assumption) : PG X (.Name x pos) (gName i) := by
  intro pins s σ H v u Q I r h
  exact wpAny_assign_Name (store_ok I hN hi hx r (fun s' I' => ⟨_, H, I', h⟩) hf)
def gNil : TGs := fun vs σ H Q => vs = [] ∧ Q σ H
def gCons (t : TG) (u : TGs) : TGs := fun vs σ H Q => ∃ v r, vs = v :: r ∧ t v σ H fun σ' H' => u r σ' H' Q
theorem pgs_nil : PGs X [] gNil := by
  intro pins s σ H vs us Q I r h
  obtain ⟨e, h⟩ := h
  subst e
  cases r
  exact assignInOrder_nil ⟨σ, H, I, h⟩
theorem pgs_cons {e : Expr} {es : List Expr} {t : TG} {u : TGs} (h1 : PG X e t) (h2 : PGs X es u)
    (hs : (assignEach (e :: es) X.env).map (·.2) = assign e X.env :: (assignEach es X.env).map (·.2) := by rfl) : PGs X (e :: es) (gCons t u) := by
  intro pins s σ H vs us Q I r h
  obtain ⟨v, vr, e1, h⟩ := h
  subst e1
  cases r with
  | cons r rr =>
    rw [hs]
    refine assignInOrder_cons (thn (h1 pins s σ H _ _ _ I r h) fun _ s1 ⟨σ1, H1, I1, q1⟩ => ?_)
    exact h2 pins s1 σ1 H1 _ _ Q I1 rr q1
/-- (a, b, ..) = a tuple of that length -/
def gTup (K : PySem.W.Frag) (n : Nat) (t : TGs) : TG := fun v σ H Q => ∃ a xs, v = .ref a ∧ SqT K H a xs ∧ xs.length = n ∧ t xs σ H Q
theorem pg_tup {es : List Expr} {k : Nat} {t : TGs} {n : Nat} (hc : X.calm = true) (h : PGs X es t)
    (hn : (assignEach es X.env).length = n := by rfl) (hst : (assignEach es X.env).findIdx? (·.1) = none := by rfl) : PG X (.Tuple es k pos) (gTup X.K n t) := by
  intro pins s σ H v u Q I r hw
  obtain ⟨a, xs, e1, hq, hl, hw⟩ := hw
  subst e1
  cases r
  obtain ⟨its, rv, ht, hz⟩ := I.tuple hq
  refine assign_Tuple_tuple (I.ok.hd hc) ht (by simp [hn, ← hl, rv.length]) hst fun h' hx => ?_
  have I1 : Inv X pins σ H { s with heap := h' } := I.kept (t' := s.toks) fun b o e => hx b o (Nat.ne_of_lt (Heap.lt_size e)) e
  exact h pins _ σ H xs _ Q I1 (by simpa using rv) hw
/-- o[i] = .. -/
def gSub (to ti : TE) (t : TSet) : TG := fun v σ H Q => to σ H fun o H1 => ti σ H1 fun i H2 => t o i v H2 fun H3 => Q σ H3
theorem pg_sub {o i : Expr} {to ti : TE} {t : TSet} (ho : PE X o to) (hi : PE X i ti) (hs : PSet X t)
    (ha : ∀ v, assign (.Subscript o i pos) X.env v = (do
      let ov ← holding [v] (eval o X.env)
      let iv ← holding [v, ov] (eval i X.env)
      standAt pos
      holding [v, ov, iv] (setItem ov iv v)
      release [v, ov, iv] []) := by intro _; rfl) : PG X (.Subscript o i pos) (gSub to ti t) := by
  intro pins s σ H v u Q I r h
  rw [ha]
  refine wpAny_bind (wpAny_holding (thn (ho pins s σ H _ I h) fun ov s1 ⟨x, H1, I1, r1, q1⟩ => ?_))
  refine wpAny_bind (wpAny_holding (thn (hi pins s1 σ H1 _ I1 q1) fun iv s2 ⟨y, H2, I2, r2, q2⟩ => ?_))
  refine wpAny_bind (wpAny_standAt (wpAny_bind (wpAny_holding (thn (hs pins s2 σ H2 x y v ov iv u _ I2 r1 r2 r q2) fun _ s3 ⟨H3, I3, q3⟩ => ?_))))
  exact wpAny_release ⟨σ, H3, I3, q3⟩
/-- target = value -/
def tAsg (te : TE) (g : TG) : TS := fun D σ H => te σ H fun x H1 => g x σ H1 D.nx
theorem ps_asg {tg e : Expr} {te : TE} {g : TG} (he : PE X e te) (hg : PG X tg g) (hs : swapsWithSole [tg] e pos.line X.env = pure false := by rfl) (hw : swappedStores [tg] e X.env = pure none := by rfl)
    (h1 : (assignEach [tg] X.env).map (·.2) = [assign tg X.env] := by rfl) : PS X (.Assign [tg] e pos) (tAsg te g) := by
  intro pins s σ H D I h
  refine wpAny_Assign_stores (thn (he pins s σ H _ I h) fun v s1 ⟨x, H1, I1, r1, q1⟩ => ?_) hs hw
  rw [h1]
  exact thn (hg pins s1 σ H1 x v _ I1 r1 q1) fun _ s2 q => q
/-- name = value -/
theorem ps_set {i : Nat} {x : Str} {e : Expr} {te : TE} {pos' : Pos} (hN : X.N.Nodup) (hi : X.N[i]? = some x) (hx : Loc X.env.scope x) (he : PE X e te) (hs : swapsWith e (some (.Name x pos')) pos.line X.env = pure false := by rfl) (hf : X.fn x = true ∨ X.env.scope.names.lookup x = some .local := by first | exact .inl rfl | exact .inr rfl | assumption) :
    PS X (.Assign [.Name x pos'] e pos) (tAsg te (gName i)) := by
  intro pins s σ H D I h
  refine wpAny_Assign_Name (thn (he pins s σ H _ I h) fun v s1 ⟨y, H1, I1, r1, q1⟩ => ?_) hs
  exact store_ok I1 hN hi hx r1 (fun s2 I2 => ⟨_, H1, I2, q1⟩) hf
end

section
variable {X : Cx} {pos : Pos}
/-- the invariant W with its measure -/
def tWhile (c : TT) (tb : TS) : TS := fun D σ H => ∃ W : Nat → St → Hp → Prop, (∃ m, W m σ H) ∧ ∀ m σ H, W m σ H →
  c σ H fun b H1 => if b = true then ∃ N : St → Hp → Prop, (∀ σ' H', N σ' H' → ∃ m', m' < m ∧ W m' σ' H') ∧ tb { D with nx := N, ct := N, bk := D.nx } σ H1 else D.nx σ H1
theorem ps_while {c : Expr} {body : List Stmt} {tc : TT} {tb : TS} (hp : PassesOwn (model X.prog X.w) X.A X.env X.xe) (hc : PT X c tc) (hb : PSs X body tb) : PS X (.While c body [] pos) (tWhile tc tb) := by
  intro pins s σ H D I h
  obtain ⟨W, ⟨m0, w0⟩, turn⟩ := h
  refine wpAny_While (codeAny_whileLoop (fun n s' => ∃ σ' H', Inv X pins σ' H' s' ∧ W n σ' H') ?_ m0 ⟨σ, H, I, w0⟩)
  rintro n s1 ⟨σ1, H1, I1, w1⟩
  refine wpAny_passesOwn hp (thn (hc pins s1 σ1 H1 _ I1 (turn n σ1 H1 w1)) fun b s2 ⟨H2, I2, q2⟩ => ?_)
  cases b with
  | true =>
    obtain ⟨N, hN, q2⟩ := q2
    rw [if_pos rfl]
    refine wpAny_passesOwn hp (thn (hb pins s2 σ1 H2 _ I2 q2) fun f s3 q3 => ?_)
    cases f with
    | next =>
      obtain ⟨σ3, H3, I3, n3⟩ := q3
      obtain ⟨m', hm, w3⟩ := hN σ3 H3 n3
      exact ⟨m', hm, σ3, H3, I3, w3⟩
    | cont =>
      obtain ⟨σ3, H3, I3, n3⟩ := q3
      obtain ⟨m', hm, w3⟩ := hN σ3 H3 n3
      exact ⟨m', hm, σ3, H3, I3, w3⟩
    | brk => exact q3
    | ret v => exact q3
  | false =>
    rw [if_neg Bool.false_ne_true]
    exact wpAny_execs_nil ⟨σ1, H2, I2, q2⟩
end

/-- at turn i: it yields x (the heap may grow), or it stops -/
structure It where
  go : Nat → Hp → Prop
  yld : Nat → Hp → V → Hp → Prop
  stop : Nat → Hp → Prop
/-- the iterator's own objects may turn: they are not the frame's, not pinned, younger than the entry (or a comprehension's own) -/
def FpOk (X : Cx) (pins : List (Addr × Obj)) (H : Hp) (b : Addr) : Prop :=
  H b = none ∧ b ≠ X.env.locals ∧ b ∉ X.fs ∧ (b ∈ X.ex ∨ X.s_0.heap.objs.size ≤ b) ∧ (∀ x c, X.env.cells.lookup x = some c → c ≠ b) ∧ ∀ p ∈ X.pn ++ pins, p.1 ≠ b
theorem Inv.fpOk {X : Cx} {pins : List (Addr × Obj)} {σ : St} {H H' : Hp} {s : Shared} {b : Addr} (I : Inv X pins σ H s) (hb : s.heap.objs.size ≤ b) (hn : H' b = none) : FpOk X pins H' b := by
  refine ⟨hn, Nat.ne_of_gt (Nat.lt_of_lt_of_le I.lt hb), I.nofs hb, .inr (Nat.le_trans I.sz hb), fun x c e z => ?_, fun p hp z => ?_⟩
  · obtain ⟨v, q⟩ := I.cell x c e
    exact absurd (Nat.lt_of_lt_of_le q.lt (by rw [z]; exact hb)) (Nat.lt_irrefl _)
  · exact absurd (Nat.lt_of_lt_of_le (Heap.lt_size (I.pin p hp).1) (by rw [z]; exact hb)) (Nat.lt_irrefl _)
structure Turn (P : Program) (w : World) (K : PySem.W.Frag) (tg : Expr) (J : It) (fp : List Addr) (it : Addr) (tn : Nat → Heap → Prop) : Prop where
  mem : it ∈ fp
  obj : ∀ i h, tn i h → ∀ b ∈ fp, ∃ o, h.get? b = some o ∧ ∀ v, o.data ≠ .cell v
  keep : ∀ i h h', tn i h → (∀ b ∈ fp, ∀ o, h.get? b = some o → h'.get? b = some o) → tn i h'
  item : ∀ (X : Cx), X.prog = P → X.w = w → X.K = K → X.calm = true → ∀ (i : Nat) (pins : List (Addr × Obj)) (s : Shared) (σ : St) (H : Hp) (E : Value → Shared → Prop), Inv X pins σ H s → (∀ b ∈ fp, FpOk X pins H b) → tn i s.heap → J.go i H →
    wpAny (model P w) X.A (pyNext (.ref it)) (fun r s1 => ∃ u, r = some u ∧
      wpAny (model P w) X.A (letOwnedTupleGo tg (.ref it) u) (fun _ s2 => ∃ x H', Inv X pins σ H' s2 ∧ RelV x u ∧ J.yld i H x H' ∧ tn (i + 1) s2.heap ∧ ∀ b ∈ fp, H' b = none) E s1) E s
  done : ∀ (X : Cx), X.prog = P → X.w = w → X.K = K → X.calm = true → ∀ (i : Nat) (pins : List (Addr × Obj)) (s : Shared) (σ : St) (H : Hp) (E : Value → Shared → Prop), Inv X pins σ H s → (∀ b ∈ fp, FpOk X pins H b) → tn i s.heap → J.stop i H →
    wpAny (model P w) X.A (pyNext (.ref it)) (fun r s1 => r = none ∧ Inv X pins σ H s1) E s
  self : ∀ (A : Around) (i : Nat) (s : Shared) (Q : Value → Shared → Prop) (E : Value → Shared → Prop), tn i s.heap → Q (.ref it) s → wpAny (model P w) A (pyIter (.ref it)) Q E s
abbrev TI := St → Hp → (It → Hp → Prop) → Prop
/-- an iterator has come -/
def PIE (X : Cx) (pins : List (Addr × Obj)) (σ : St) (tg : Expr) (R : It → Hp → Prop) (itv : Value) (s2 : Shared) : Prop :=
  ∃ (it : Addr) (fp : List Addr) (tn : Nat → Heap → Prop) (J : It) (H' : Hp), itv = .ref it ∧ Inv X pins σ H' s2 ∧ Turn X.prog X.w X.K tg J fp it tn ∧ tn 0 s2.heap ∧ (∀ b ∈ fp, FpOk X pins H' b) ∧ R J H'
def PI (X : Cx) (tg iter : Expr) (wi : TI) : Prop :=
  ∀ (pins : List (Addr × Obj)) (s : Shared) (σ : St) (H : Hp) (R : It → Hp → Prop), Inv X pins σ H s → wi σ H R →
    wpAny (model X.prog X.w) X.A (eval iter X.env) (fun v s1 => wpAny (model X.prog X.w) X.A (pyIter v) (PIE X pins σ tg R) X.xe s1) X.xe s

/-- the step ahead of the store is nothing for an iterator that keeps no tuple -/
theorem go_of {M : Model} {A : Around} {E : Value → Shared → Prop} {s : Shared} {tg : Expr} {it : Addr} {u : Value} {o : Obj} {n : String} {vs : Array Value} {Q : Unit → Shared → Prop} (ho : s.heap.get? it = some o) (hc : o.cls = .type n) (hd : o.data = .fields vs)
    (hn : ["enumerate", "zip", "dict_itemiterator", "dict_reverseitemiterator", "odict_iterator", "itertools.zip_longest", "itertools.pairwise"].contains n = false) (hQ : Q () s) : wpAny M A (letOwnedTupleGo tg (.ref it) u) Q E s := by
  unfold letOwnedTupleGo
  cases tg <;> first
    | exact wpAny_pure hQ
    | (cases u <;> first
        | exact wpAny_pure hQ
        | (refine wpAny_bind (wpAny_load ho ?_)
           rw [hc, hd]
           show wpAny M A (if (["enumerate", "zip", "dict_itemiterator", "dict_reverseitemiterator", "odict_iterator", "itertools.zip_longest", "itertools.pairwise"].contains n && vs[0]? == some (rawInt _)) = true then _ else _) Q E s
           rw [if_neg (by intro h; rw [hn, Bool.false_and] at h; cases h)]
           exact wpAny_pure hQ))

/-- the list at a, as it stands at each turn (a loop may append to it) -/
def Itl (K : PySem.W.Frag) (a : Addr) : It :=
  ⟨fun i H => ∃ xs x, SqL K H a xs ∧ xs[i]? = some x, fun i H x H' => H' = H ∧ ∀ xs, SqL K H a xs → xs[i]? = some x, fun i H => ∃ xs, SqL K H a xs ∧ xs.length ≤ i⟩
/-- lo, lo + 1, .. (n of them) -/
def Itr (lo : Int) (n : Nat) : It := ⟨fun i _ => i < n, fun i H x H' => H' = H ∧ x = .int (lo + i), fun i _ => n ≤ i⟩
theorem turn_list {P : Program} {w : World} {K : PySem.W.Frag} {tg : Expr} (a it : Addr) : Turn P w K tg (Itl K a) [it] it (fun i h => h.IsListIter it a i) where
  mem := by simp
  obj := fun i h st b hb => by
    have e : b = it := by simpa using hb
    subst e
    obtain ⟨o, e, c, d⟩ := st
    exact ⟨o, e, fun v z => by rw [d] at z; cases z⟩
  keep := fun i h h' st k => st.at fun o e => k it (by simp) o e
  item := by
    intro X hP hw hK hc i pins s σ H E I hf st hg
    subst hP hw hK
    obtain ⟨xs, x, hq, hx⟩ := hg
    obtain ⟨its, rv, p, hz⟩ := I.list hq
    obtain ⟨u, hu, ru⟩ := rv.get hx
    obtain ⟨f0, f1, f2, f3, f4, f5⟩ := hf it (by simp)
    refine wpAny_pyNext_list_item st p.isList (x := u) (by simpa using hu) fun h' st' sb => ?_
    have I1 : Inv X pins σ H { s with heap := h' } := I.turned (t' := s.toks) (fun b o hb e => (sb.2 b hb).trans e) f0 f1 f3 f4 f5
    obtain ⟨o, e, c, d⟩ := id st'
    exact ⟨u, rfl, go_of (s := { s with heap := h' }) e c d (by decide) ⟨x, H, I1, ru, ⟨rfl, fun ys hy => by rw [I.list_inj hy hq]; exact hx⟩, st', fun b hb => (hf b hb).1⟩⟩
  done := by
    intro X hP hw hK hc i pins s σ H E I hf st hg
    subst hP hw hK
    obtain ⟨xs, hq, hx⟩ := hg
    obtain ⟨its, rv, p, hz⟩ := I.list hq
    obtain ⟨f0, f1, f2, f3, f4, f5⟩ := hf it (by simp)
    have hl := rv.length
    exact wpAny_pyNext_list_end (I.ok.hd hc) st p.isList (by simp; omega) fun h' eb => ⟨rfl, I.turned (t' := s.toks) (fun b o hb e => eb b o hb e) f0 f1 f3 f4 f5⟩
  self := fun _ _ _ _ _ st h => wpAny_pyIter_listiter st h
theorem turn_range {P : Program} {w : World} {K : PySem.W.Frag} {tg : Expr} (it : Addr) (lo : Int) (n : Nat) : Turn P w K tg (Itr lo n) [it] it (fun i h => IsRangeIter h it (lo + (i : Nat) * 1) ((n : Int) - (i : Nat)) 1) where
  mem := by simp
  obj := fun i h st b hb => by
    have e : b = it := by simpa using hb
    subst e
    exact ⟨_, st, fun v z => by
      have z' : Data.fields _ = Data.cell v := z
      cases z'⟩
  keep := fun i h h' st k => k it (by simp) _ st
  item := by
    intro X hP hw hK hc i pins s σ H E I hf st hg
    subst hP hw hK
    obtain ⟨f0, f1, f2, f3, f4, f5⟩ := hf it (by simp)
    have W := Walks.range (prog := X.prog) (w := X.w) (I.ok.hd hc) it lo 1 n
    refine W.item i s _ _ hg st fun v h' tk hv st' kk => ?_
    obtain ⟨t, rfl⟩ := hv
    have I1 : Inv X pins σ H { s with heap := h', toks := tk } := I.turned (fun b o hb e => kk b o (by simpa using hb) e) f0 f1 f3 f4 f5
    refine ⟨_, rfl, go_of (s := { s with heap := h', toks := tk }) (n := "range_iterator") st' rfl rfl (by decide) ⟨.int (lo + i), H, I1, ⟨t, ?_⟩, ⟨rfl, rfl⟩, st', fun b hb => (hf b hb).1⟩⟩
    rw [Int.mul_one]
  done := by
    intro X hP hw hK hc i pins s σ H E I hf st hg
    subst hP hw hK
    obtain ⟨f0, f1, f2, f3, f4, f5⟩ := hf it (by simp)
    exact wpAny_pyNext_range_end (I.ok.hd hc) st (by have : n ≤ i := hg; omega) fun h' eb => ⟨rfl, I.turned (t' := s.toks) (fun b o hb e => eb b o hb e) f0 f1 f3 f4 f5⟩
  self := fun _ _ _ _ _ st h => wpAny_pyIter_rangeiter st h
end L2

namespace L2
open PySem PySem.Spec PyProof.Rows
section
variable {X : Cx} {tg : Expr}
def iList (K : PySem.W.Frag) (tl : TE) : TI := fun σ H R => tl σ H fun x H1 => ∃ a, x = .ref a ∧ (∃ xs, SqL K H1 a xs) ∧ R (Itl K a) H1
theorem pi_list {l : Expr} {tl : TE} (hl : PE X l tl) : PI X tg l (iList X.K tl) := by
  intro pins s σ H R I h
  refine thn (hl pins s σ H _ I h) fun v s1 ⟨x, H1, I1, r1, q1⟩ => ?_
  obtain ⟨a, e, ⟨xs, hq⟩, q⟩ := q1
  subst e
  cases r1
  obtain ⟨its, rv, p, hz⟩ := I1.list hq
  refine wpAny_pyIter_list p.isList ?_
  refine ⟨s1.heap.objs.size, [s1.heap.objs.size], _, _, H1, rfl, I1.kept (t' := s1.toks) fun b o e => Heap.get?_push_of_some _ e, turn_list a _, ⟨_, Heap.get?_push_size _ rfl, rfl, rfl⟩, fun b hb => ?_, q⟩
  have e : b = s1.heap.objs.size := by simpa using hb
  subst e
  exact I1.fpOk (Nat.le_refl _) (I1.hok.fresh (Nat.le_refl _))
/-- a range object just made, walked -/
theorem range_it {pins : List (Addr × Obj)} {σ : St} {H : Hp} {s : Shared} {R : It → Hp → Prop} {E : Value → Shared → Prop} {lo hi : Int} {t u v : Tok} {tk : Nat} (I : Inv X pins σ H s) (h1 : -(2 ^ 62) ≤ lo) (h2 : lo < 2 ^ 62) (h3 : -(2 ^ 62) ≤ hi) (h4 : hi < 2 ^ 62)
    (q : R (Itr lo (hi - lo).toNat) H) : wpAny (model X.prog X.w) X.A (pyIter (.ref s.heap.objs.size)) (PIE X pins σ tg R) E { s with heap := s.heap.push { cls := .type "range", data := .fields #[.int lo t, .int hi u, .int 1 v] }, toks := tk } := by
  refine wpAny_pyIter_range (IsRange.new ..) (small_one h1 h2 h3 h4) ?_
  have I1 : Inv X pins σ H { s with heap := s.heap.push { cls := .type "range", data := .fields #[.int lo t, .int hi u, .int 1 v] }, toks := tk } := I.kept fun b o e => Heap.get?_push_of_some _ e
  refine ⟨(s.heap.push { cls := .type "range", data := .fields #[.int lo t, .int hi u, .int 1 v] }).objs.size, [(s.heap.push { cls := .type "range", data := .fields #[.int lo t, .int hi u, .int 1 v] }).objs.size], _, _, H, rfl,
    I1.kept (t' := tk) fun b o e => Heap.get?_push_of_some _ e, turn_range _ lo (hi - lo).toNat, ?_, fun b hb => ?_, q⟩
  · have e1 : lo + ((0 : Nat) : Int) * 1 = lo := by simp
    have e2 : (((hi - lo).toNat : Nat) : Int) - ((0 : Nat) : Int) = Builtin.Range.rangeSize lo hi 1 := by rw [rangeSize_one]; split <;> omega
    show IsRangeIter _ _ (lo + ((0 : Nat) : Int) * 1) ((((hi - lo).toNat : Nat) : Int) - ((0 : Nat) : Int)) 1
    rw [e1, e2]
    exact Heap.get?_push_size _ rfl
  · have e : b = (s.heap.push { cls := .type "range", data := .fields #[.int lo t, .int hi u, .int 1 v] }).objs.size := by simpa using hb
    subst e
    exact I1.fpOk (Nat.le_refl _) (I1.hok.fresh (Nat.le_refl _))
def iRng1 (ta : TA) : TI := fun σ H R => ta σ H fun vs H1 => ∃ j : Int, vs = [.int j] ∧ -(2 ^ 62) ≤ j ∧ j < 2 ^ 62 ∧ R (Itr 0 j.toNat) H1
theorem pi_range1 {a : Expr} {ta : TA} {p pos : Pos} (hg : Gl X "range") (hm : X.mg "range" = none) (ha : PA X [a] ta) (hs : starEach [a] X.env = [(false, eval a X.env)] := by rfl) : PI X tg (.Call (.Name "range" p) [a] [] pos) (iRng1 ta) := by
  intro pins s σ H R I h
  refine Call_ (ld_blt I hg hm boot_range (PyProof.Rows.callWith_type1 (thn (ha pos pins s σ H _ I h) fun us s1 ⟨vs, H1, I1, r1, q1⟩ => ?_) hs rfl))
  obtain ⟨j, e, q1, q2, q⟩ := q1
  subst e
  cases r1 with
  | cons r rr =>
    cases rr
    obtain ⟨t, rfl⟩ := r
    exact call_range_1 (range_it I1 (by omega) (by omega) q1 q2 (by simpa using q))
/-- W: the invariant by the turn and a measure; N: what the body is to reach -/
def tFor (wi : TI) (g : TG) (tb : TS) : TS := fun D σ H => wi σ H fun J H1 => ∃ W : Nat → Nat → St → Hp → Prop, (∃ m, W 0 m σ H1) ∧ ∀ i m σ H, W i m σ H →
  (J.stop i H ∧ D.nx σ H) ∨ (J.go i H ∧ ∃ N : St → Hp → Prop, (∀ σ' H', N σ' H' → ∃ m', m' < m ∧ W (i + 1) m' σ' H') ∧ ∀ x H', J.yld i H x H' → g x σ H' fun σ2 H2 => tb { D with nx := N, ct := N, bk := D.nx } σ2 H2)
/-- the records at fp as they stand -/
def pinsAt (fp : List Addr) (h : Heap) : List (Addr × Obj) := fp.filterMap fun b => (h.get? b).map fun o => (b, o)
theorem mem_pinsAt {fp : List Addr} {h : Heap} {b : Addr} {o : Obj} (hb : b ∈ fp) (e : h.get? b = some o) : (b, o) ∈ pinsAt fp h := List.mem_filterMap.mpr ⟨b, hb, by rw [e]; rfl⟩
theorem of_pinsAt {fp : List Addr} {h : Heap} {p : Addr × Obj} (hp : p ∈ pinsAt fp h) : p.1 ∈ fp ∧ h.get? p.1 = some p.2 := by
  obtain ⟨b, hb, e⟩ := List.mem_filterMap.mp hp
  cases q : h.get? b with
  | none => rw [q] at e; cases e
  | some o =>
    rw [q] at e
    have e' : (b, o) = p := Option.some.inj e
    subst e'
    exact ⟨hb, q⟩
theorem Inv.pinned {pins : List (Addr × Obj)} {σ : St} {H : Hp} {s : Shared} {fp : List Addr} (I : Inv X pins σ H s) (hf : ∀ b ∈ fp, FpOk X pins H b) (ho : ∀ b ∈ fp, ∃ o, s.heap.get? b = some o ∧ ∀ v, o.data ≠ .cell v) : Inv X (pins ++ pinsAt fp s.heap) σ H s :=
  I.pins_of fun p hp => (List.mem_append.mp hp).elim (fun z => I.pin p (List.mem_append_right _ z)) fun z => by
    obtain ⟨hb, e⟩ := of_pinsAt z
    obtain ⟨f0, f1, f2, _⟩ := hf p.1 hb
    obtain ⟨o, e', d⟩ := ho p.1 hb
    rw [e] at e'; cases e'
    exact ⟨e, f0, f1, f2, d⟩
theorem Inv.unpinned {pins pl : List (Addr × Obj)} {σ : St} {H : Hp} {s : Shared} (I : Inv X (pins ++ pl) σ H s) : Inv X pins σ H s := I.pins_of fun p hp => I.pin p (List.mem_append_right _ (List.mem_append_left _ hp))
theorem ps_for {iter : Expr} {body : List Stmt} {wi : TI} {g : TG} {tb : TS} {pos : Pos} (hp : PassesOwn (model X.prog X.w) X.A X.env X.xe) (hc : X.calm = true) (hi : PI X tg iter wi) (hg : PG X tg g) (hb : PSs X body tb)
    (hs : ∀ x, foldedSetIterable iter X.env x = pure x := by intro _; rfl) : PS X (.For tg iter body [] pos) (tFor wi g tb) := by
  intro pins s σ H D I h
  refine wpAny_For (thn (hi pins s σ H _ I h) fun v s1 h1 => thn h1 fun itv s2 h2 => ?_) hs
  obtain ⟨it, fp, tn, J, H2, e, I2, T, st2, f2, W, ⟨m0, w0⟩, turn⟩ := h2
  subst e
  -- what stays true of the iterator's objects through the loop
  have stat : ∀ {H' : Hp}, (∀ b ∈ fp, H' b = none) → ∀ b ∈ fp, FpOk X pins H' b := fun hn b hb => ⟨hn b hb, (f2 b hb).2⟩
  refine codeAny_forLoop_any (fun n s' => ∃ i σ' H', Inv X pins σ' H' s' ∧ tn i s'.heap ∧ (∀ b ∈ fp, H' b = none) ∧ W i n σ' H') ?_ m0 ⟨0, σ, H2, I2, st2, fun b hb => (f2 b hb).1, w0⟩
  rintro n s3 ⟨i, σ3, H3, I3, st3, fr3, w3⟩
  rcases turn i n σ3 H3 w3 with ⟨stop, qn⟩ | ⟨go, N, hN, step⟩
  · refine wpAny_passesOwn hp (thn (T.done X rfl rfl rfl hc i pins s3 σ3 H3 X.xe I3 (stat fr3) st3 stop) fun r s4 ⟨hr, I4⟩ => ?_)
    subst hr
    exact wpAny_execs_nil ⟨σ3, H3, I4, qn⟩
  · refine wpAny_passesOwn hp (thn (T.item X rfl rfl rfl hc i pins s3 σ3 H3 X.xe I3 (stat fr3) st3 go) fun r s4 ⟨u, hr, h4⟩ => ?_)
    subst hr
    refine wpAny_passesOwn hp (thn h4 fun _ s5 ⟨x, H5, I5, r5, y5, st5, fr5⟩ => ?_)
    have I5' := I5.pinned (stat fr5) (T.obj _ _ st5)
    refine wpAny_passesOwn hp (thn (hg _ s5 σ3 H5 x u _ I5' r5 (step x H5 y5)) fun _ s6 ⟨σ6, H6, I6, q6⟩ => ?_)
    refine wpAny_passesOwn hp (thn (hb _ s6 σ6 H6 _ I6 q6) fun f s7 q7 => ?_)
    have again : ∀ {σ7 : St} {H7 : Hp}, Inv X (pins ++ pinsAt fp s5.heap) σ7 H7 s7 → N σ7 H7 → ∃ m, m < n ∧ ∃ i σ' H', Inv X pins σ' H' s7 ∧ tn i s7.heap ∧ (∀ b ∈ fp, H' b = none) ∧ W i m σ' H' := fun {σ7 H7} I7 n7 => by
      obtain ⟨m', hm, w7⟩ := hN σ7 H7 n7
      refine ⟨m', hm, i + 1, σ7, H7, I7.unpinned, T.keep _ _ _ st5 fun b hb o e => (I7.pin (b, o) (List.mem_append_right _ (List.mem_append_right _ (mem_pinsAt hb e)))).1, fun b hb => ?_, w7⟩
      obtain ⟨o, e, d⟩ := T.obj _ _ st5 b hb
      exact (I7.pin (b, o) (List.mem_append_right _ (List.mem_append_right _ (mem_pinsAt hb e)))).2.1
    cases f with
    | next => obtain ⟨σ7, H7, I7, n7⟩ := q7; exact again I7 n7
    | cont => obtain ⟨σ7, H7, I7, n7⟩ := q7; exact again I7 n7
    | brk => obtain ⟨σ7, H7, I7, q7⟩ := q7; exact ⟨σ7, H7, I7.unpinned, q7⟩
    | ret v => obtain ⟨x7, σ7, H7, I7, r7, q7⟩ := q7; exact ⟨x7, σ7, H7, I7.unpinned, r7, q7⟩
end

theorem for_range {lo : Int} {n : Nat} {g : TG} {tb : TS} {D : Ends} {σ : St} {H : Hp} (Pv : Nat → St → Hp → Prop) (h0 : Pv 0 σ H)
    (hs : ∀ i σ H, i < n → Pv i σ H → g (.int (lo + i)) σ H fun σ2 H2 => tb { D with nx := Pv (i + 1), ct := Pv (i + 1), bk := D.nx } σ2 H2) (hd : ∀ σ H, Pv n σ H → D.nx σ H) :
    ∃ W : Nat → Nat → St → Hp → Prop, (∃ m, W 0 m σ H) ∧ ∀ i m σ H, W i m σ H →
      ((Itr lo n).stop i H ∧ D.nx σ H) ∨ ((Itr lo n).go i H ∧ ∃ N : St → Hp → Prop, (∀ σ' H', N σ' H' → ∃ m', m' < m ∧ W (i + 1) m' σ' H') ∧ ∀ x H', (Itr lo n).yld i H x H' → g x σ H' fun σ2 H2 => tb { D with nx := N, ct := N, bk := D.nx } σ2 H2) := by
  refine ⟨fun i m σ H => m = n - i ∧ i ≤ n ∧ Pv i σ H, ⟨n, by simp, Nat.zero_le _, h0⟩, ?_⟩
  rintro i m σ H ⟨rfl, hi, p⟩
  by_cases hlt : i < n
  · refine .inr ⟨hlt, Pv (i + 1), fun σ' H' p' => ⟨n - (i + 1), by omega, rfl, hlt, p'⟩, fun x H' y => ?_⟩
    obtain ⟨e, y⟩ := y
    subst e y
    exact hs i σ _ hlt p
  · have e : i = n := by omega
    subst e
    exact .inl ⟨Nat.le_refl _, hd σ H p⟩
/-- while, by a word and a measure of the state -/
theorem while_by {c : TT} {tb : TS} {D : Ends} {σ : St} {H : Hp} (Pv : St → Hp → Prop) (μ : St → Hp → Nat) (h0 : Pv σ H)
    (hs : ∀ σ H, Pv σ H → c σ H fun b H1 => if b = true then tb { D with nx := fun σ' H' => Pv σ' H' ∧ μ σ' H' < μ σ H, ct := fun σ' H' => Pv σ' H' ∧ μ σ' H' < μ σ H, bk := D.nx } σ H1 else D.nx σ H1)
    (mono : ∀ σ H Q Q', (∀ b H1, Q b H1 → Q' b H1) → c σ H Q → c σ H Q') : tWhile c tb D σ H := by
  refine ⟨fun m σ H => m = μ σ H ∧ Pv σ H, ⟨_, rfl, h0⟩, ?_⟩
  rintro m σ H ⟨rfl, p⟩
  refine mono σ H _ _ (fun b H1 q => ?_) (hs σ H p)
  cases b with
  | true => exact ⟨_, fun σ' H' ⟨p', l⟩ => ⟨_, l, rfl, p'⟩, q⟩
  | false => exact q
end L2

namespace L2
open PySem PySem.Spec PyProof.Rows

abbrev R2 := V → V → Hp → VK → Prop
/-- a two-place operation on values: f is binaryOp op, inplaceOp op or compareOp op -/
def OpR (X : Cx) (f : Value → Value → Sem Value) (r : R2) : Prop :=
  ∀ (pins : List (Addr × Obj)) (s : Shared) (σ : St) (H : Hp) (x y : V) (v u : Value) (Q : VK), Inv X pins σ H s → RelV x v → RelV y u → r x y H Q →
    wpAny (model X.prog X.w) X.A (f v u) (EP X pins σ Q) X.xe s
/-- a call of a value that is known (a builtin, a type) with values -/
def CallR (X : Cx) (f : Value) (r : List V → Hp → VK → Prop) : Prop :=
  ∀ (pins : List (Addr × Obj)) (s : Shared) (σ : St) (H : Hp) (xs : List V) (us : List Value) (Q : VK), Inv X pins σ H s → Vals xs us → r xs H Q →
    wpAny (model X.prog X.w) X.A (call f us) (EP X pins σ Q) X.xe s
def tOp (r : R2) (ta tb : TE) : TE := fun σ H Q => ta σ H fun x H1 => tb σ H1 fun y H2 => r x y H2 Q
/-- ints in, under C, and a value out -/
def rI (C : Int → Int → Prop) (g : Int → Int → V) : R2 := fun x y H Q => ∃ i j, x = .int i ∧ y = .int j ∧ C i j ∧ Q (g i j) H
def rI0 (g : Int → Int → V) : R2 := fun x y H Q => ∃ i j, x = .int i ∧ y = .int j ∧ Q (g i j) H
section
variable {X : Cx} {a b c : Expr} {ta tb tc : TE} {pos : Pos}

theorem binT (ha : PE X a ta) (hb : PE X b tb) {pins : List (Addr × Obj)} {s : Shared} {σ : St} {H : Hp} {R : V → V → Hp → Prop} (I : Inv X pins σ H s)
    (h : ta σ H fun x H1 => tb σ H1 fun y H2 => R x y H2) {Q : Value → Shared → Prop} {f : Value → Value → Sem Value}
    (hf : ∀ v u s2 x y H2, Inv X pins σ H2 s2 → RelV x v → RelV y u → R x y H2 → wpAny (model X.prog X.w) X.A (f v u) Q X.xe s2) :
    wpAny (model X.prog X.w) X.A (eval a X.env) (fun v s₁ => wpAny (model X.prog X.w) X.A (eval b X.env) (fun u s₂ => wpAny (model X.prog X.w) X.A (f v u) Q X.xe s₂) X.xe s₁) X.xe s := by
  refine thn (ha pins s σ H _ I h) fun v s1 ⟨x, H1, I1, r1, q1⟩ => ?_
  refine thn (hb pins s1 σ H1 _ I1 q1) fun u s2 ⟨y, H2, I2, r2, q2⟩ => ?_
  exact hf v u s2 x y H2 I2 r1 r2 q2

theorem pe_op {op : Operator} {r : R2} (ho : OpR X (binaryOp op) r) (ha : PE X a ta) (hb : PE X b tb) : PE X (.BinOp a op b pos) (tOp r ta tb) := by
  intro pins s σ H Q I h
  exact wpAny_BinOp (binT ha hb I h fun v u s2 x y H2 I2 rx ry q => ho pins s2 σ H2 x y v u Q I2 rx ry q)
theorem opI {f : Value → Value → Sem Value} {C : Int → Int → Prop} {g : Int → Int → Int}
    (rule : ∀ (i j : Int) (t u : Tok) (s : Shared) (Q : Value → Shared → Prop) (E : Value → Shared → Prop), C i j → Q (.int (g i j) s.toks) { s with toks := s.toks + 1 } → wpAny (model X.prog X.w) X.A (f (.int i t) (.int j u)) Q E s) :
    OpR X f (rI C fun i j => .int (g i j)) := by
  intro pins s σ H x y v u Q I rx ry h
  obtain ⟨i, j, rfl, rfl, hc, q⟩ := h
  obtain ⟨t, rfl⟩ := rx
  obtain ⟨t', rfl⟩ := ry
  exact rule i j t t' s _ _ hc ⟨.int (g i j), H, I.tok _, ⟨_, rfl⟩, q⟩
theorem opI0 {f : Value → Value → Sem Value} {g : Int → Int → Int}
    (rule : ∀ (i j : Int) (t u : Tok) (s : Shared) (Q : Value → Shared → Prop) (E : Value → Shared → Prop), Q (.int (g i j) s.toks) { s with toks := s.toks + 1 } → wpAny (model X.prog X.w) X.A (f (.int i t) (.int j u)) Q E s) :
    OpR X f (rI0 fun i j => .int (g i j)) := by
  intro pins s σ H x y v u Q I rx ry h
  obtain ⟨i, j, rfl, rfl, q⟩ := h
  obtain ⟨t, rfl⟩ := rx
  obtain ⟨t', rfl⟩ := ry
  exact rule i j t t' s _ _ ⟨.int (g i j), H, I.tok _, ⟨_, rfl⟩, q⟩
theorem opB0 {f : Value → Value → Sem Value} {g : Int → Int → Bool}
    (rule : ∀ (i j : Int) (t u : Tok) (s : Shared) (Q : Value → Shared → Prop) (E : Value → Shared → Prop), Q (.bool (g i j)) s → wpAny (model X.prog X.w) X.A (f (.int i t) (.int j u)) Q E s) :
    OpR X f (rI0 fun i j => .bl (g i j)) := by
  intro pins s σ H x y v u Q I rx ry h
  obtain ⟨i, j, rfl, rfl, q⟩ := h
  obtain ⟨t, rfl⟩ := rx
  obtain ⟨t', rfl⟩ := ry
  exact rule i j t t' s _ _ ⟨.bl (g i j), H, I, rfl, q⟩

def CDiv (i j : Int) : Prop := 0 < j ∧ j < 1073741824
def CPow (i j : Int) : Prop := 0 ≤ j ∧ j ≤ 1000000 ∧ i.natAbs < 2 ^ 64
def CMul (i j : Int) : Prop := (-(2 ^ 64) < i ∧ i < 2 ^ 64) ∨ (-(2 ^ 64) < j ∧ j < 2 ^ 64)
theorem CMul.ok {i j : Int} (h : CMul i j) : IntMulOk i j := by
  rcases h with ⟨h1, h2⟩ | ⟨h1, h2⟩
  · exact .of_left (intBits_le_64 h1 h2)
  · exact .of_right (intBits_le_64 h1 h2)
theorem op_add : OpR X (binaryOp .Add) (rI0 fun i j => .int (i + j)) := opI0 fun _ _ _ _ _ _ _ q => add_int q
theorem op_sub : OpR X (binaryOp .Sub) (rI0 fun i j => .int (i - j)) := opI0 fun _ _ _ _ _ _ _ q => sub_int q
theorem op_mul : OpR X (binaryOp .Mult) (rI CMul fun i j => .int (i * j)) := opI fun _ _ _ _ _ _ _ hc q => mul_int q hc.ok
/-- // by a positive divisor -/
theorem op_fdiv : OpR X (binaryOp .FloorDiv) (rI CDiv fun i j => .int (i / j)) := opI fun i j _ _ _ _ _ hc q => by
  have h1 : (0 : Int) < j := hc.1
  have h2 : j < 1073741824 := hc.2
  exact floordiv_int (by omega) (by rw [Int.fdiv_eq_ediv_of_nonneg i (by omega)]; exact q) (.inl (PyProof.noPylong_small (by omega)))
/-- % by a positive divisor of any size -/
theorem op_mod : OpR X (binaryOp .Mod) (rI (fun _ j => 0 < j) fun i j => .int (i % j)) := opI fun i j _ _ _ _ _ hc q => by
  have h1 : (0 : Int) < j := hc
  exact mod_int' (by omega) (by rw [Int.fmod_eq_emod_of_nonneg i (by omega)]; exact q)
theorem op_shl : OpR X (binaryOp .LShift) (rI CPow fun i j => .int (i * 2 ^ j.toNat)) := opI fun _ _ _ _ _ _ _ hc q => lshift_int_small hc.1 hc.2.1 hc.2.2 q
theorem op_or : OpR X (binaryOp .BitOr) (rI0 fun i j => .int (Builtin.bitOr i j)) := opI0 fun _ _ _ _ _ _ _ q => or_int q
end

/-- the scalars that == tells apart as data does -/
def scal : V → V → Bool
  | .non, .non => true | .non, .int _ => true | .int _, .non => true | .non, .bl _ => true | .bl _, .non => true | .non, .str _ => true | .str _, .non => true
  | .int _, .int _ => true | .bl _, .bl _ => true | .str _, .str _ => true | .byt _, .byt _ => true
  | .int _, .str _ => true | .str _, .int _ => true | .bl _, .str _ => true | .str _, .bl _ => true
  | _, _ => false
def rEq : R2 := fun x y H Q => scal x y = true ∧ Q (.bl (decide (x = y))) H
theorem dec_int {i j : Int} : decide (V.int i = V.int j) = (i == j) := by
  rw [Bool.eq_iff_iff]
  simp
theorem dec_bl {i j : Bool} : decide (V.bl i = V.bl j) = (i == j) := by
  rw [Bool.eq_iff_iff]
  simp
theorem dec_str {i j : Str} : decide (V.str i = V.str j) = (i == j) := by
  rw [Bool.eq_iff_iff]
  simp
theorem dec_byt {i j : Array UInt8} : decide (V.byt i = V.byt j) = (i.toList == j.toList) := by
  rw [Bool.eq_iff_iff]
  cases i
  cases j
  simp

section
variable {X : Cx} {a b c : Expr} {ta tb tc : TE} {pos : Pos}
theorem fin_bl {pins : List (Addr × Obj)} {σ : St} {H : Hp} {s : Shared} {Q : VK} {k k' : Bool} (I : Inv X pins σ H s) (q : Q (.bl k) H) (e : k = k') : EP X pins σ Q (.bool k') s := by
  subst e
  exact ⟨.bl k, H, I, rfl, q⟩
theorem op_eq : OpR X (compareOp .Eq) rEq := by
  intro pins s σ H x y v u Q I rx ry h
  obtain ⟨hs, q⟩ := h
  cases x with
  | non =>
    cases rx
    cases y with
    | non => cases ry; exact PySem.EqNone.eq_none_none (fin_bl I q (by simp))
    | bl j => cases ry; exact PySem.EqNone.eq_none_bool (fin_bl I q (by simp))
    | int j => obtain ⟨t', rfl⟩ := ry; exact PySem.EqNone.eq_none_int (fin_bl I q (by simp))
    | str j => obtain ⟨t', rfl⟩ := ry; exact PySem.EqNone.eq_none_str (fin_bl I q (by simp))
    | _ => exact absurd (show false = true from hs) Bool.false_ne_true
  | bl i =>
    cases rx
    cases y with
    | non => cases ry; exact PySem.EqNone.eq_bool_none (fin_bl I q (by simp))
    | bl j => cases ry; exact eq_bool (fin_bl I q dec_bl)
    | str j => obtain ⟨t', rfl⟩ := ry; exact PySem.EqMixed.eq_bool_str (fin_bl I q (by simp))
    | _ => exact absurd (show false = true from hs) Bool.false_ne_true
  | int i =>
    obtain ⟨t, rfl⟩ := rx
    cases y with
    | non => cases ry; exact PySem.EqNone.eq_int_none (fin_bl I q (by simp))
    | int j => obtain ⟨t', rfl⟩ := ry; exact eq_int (fin_bl I q dec_int)
    | str j => obtain ⟨t', rfl⟩ := ry; exact PySem.EqMixed.eq_int_str (fin_bl I q (by simp))
    | _ => exact absurd (show false = true from hs) Bool.false_ne_true
  | str i =>
    obtain ⟨t, rfl⟩ := rx
    cases y with
    | non => cases ry; exact PySem.EqNone.eq_str_none (fin_bl I q (by simp))
    | bl j => cases ry; exact PySem.EqMixed.eq_str_bool (fin_bl I q (by simp))
    | int j => obtain ⟨t', rfl⟩ := ry; exact PySem.EqMixed.eq_str_int (fin_bl I q (by simp))
    | str j => obtain ⟨t', rfl⟩ := ry; exact eq_str (fin_bl I q dec_str)
    | _ => exact absurd (show false = true from hs) Bool.false_ne_true
  | byt i =>
    obtain ⟨t, rfl⟩ := rx
    cases y with
    | byt j => obtain ⟨t', rfl⟩ := ry; exact PySem.W.eq_bytes (fin_bl I q dec_byt)
    | _ => exact absurd (show false = true from hs) Bool.false_ne_true
  | _ => cases y <;> exact absurd (show false = true from hs) Bool.false_ne_true
theorem op_lt : OpR X (compareOp .Lt) (rI0 fun i j => .bl (decide (i < j))) := opB0 fun _ _ _ _ _ _ _ q => lt_int q
theorem op_le : OpR X (compareOp .LtE) (rI0 fun i j => .bl (decide (i ≤ j))) := opB0 fun _ _ _ _ _ _ _ q => le_int q
theorem op_gt : OpR X (compareOp .Gt) (rI0 fun i j => .bl (decide (j < i))) := opB0 fun _ _ _ _ _ _ _ q => gt_int q
theorem op_ge : OpR X (compareOp .GtE) (rI0 fun i j => .bl (decide (j ≤ i))) := opB0 fun _ _ _ _ _ _ _ q => ge_int q
/-- is None, is not None: the right side a value none -/
theorem op_isN : OpR X (compareOp .Is) (fun x y H Q => y = .non ∧ Q (.bl (decide (x = .non))) H) := by
  intro pins s σ H x y v u Q I rx ry h
  obtain ⟨rfl, q⟩ := h
  cases ry
  refine is_none_gen (fin_bl I q ?_)
  cases x <;> first
    | (cases rx; rfl)
    | (obtain ⟨t, rfl⟩ := rx; rfl)
/-- two rules for one operation: by cases -/
theorem OpR.or {f : Value → Value → Sem Value} {r r' : R2} (h : OpR X f r) (h' : OpR X f r') : OpR X f (fun x y H Q => r x y H Q ∨ r' x y H Q) := by
  intro pins s σ H x y v u Q I rx ry q
  rcases q with q | q
  · exact h pins s σ H x y v u Q I rx ry q
  · exact h' pins s σ H x y v u Q I rx ry q

theorem nomark (b : Expr) {op : CmpOp} (h : op ≠ .In := by decide) (h2 : op ≠ .NotIn := by decide) : behindInMarks op b = false := by
  have e1 : (op == CmpOp.In) = false := by cases op <;> first | rfl | exact absurd rfl h
  have e2 : (op == CmpOp.NotIn) = false := by cases op <;> first | rfl | exact absurd rfl h2
  cases b <;> simp [behindInMarks, e1, e2]
/-- a comparison as a value; hm: nomark b, or (for in, not in) by with_unfolding_all rfl -/
theorem pe_cmpR {op : CmpOp} {r : R2} (ho : OpR X (compareOp op) r) (ha : PE X a ta) (hb : PE X b tb) (hm : behindInMarks op b = false) : PE X (.Compare a [op] [b] pos) (tOp r ta tb) := by
  intro pins s σ H Q I h
  exact wpAny_Compare1 (binT ha hb I h fun v u s2 x y H2 I2 rx ry q => ho pins s2 σ H2 x y v u Q I2 rx ry q) hm
/-- a reading of a value as a test -/
def tTest (t : TE) : TT := fun σ H Q => t σ H fun x H' => ∃ k, x = .bl k ∧ Q k H'
theorem pt_cmpR {op : CmpOp} {r : R2} (ho : OpR X (compareOp op) r) (ha : PE X a ta) (hb : PE X b tb) (hm : behindInMarks op b = false) : PT X (.Compare a [op] [b] pos) (tTest (tOp r ta tb)) := by
  intro pins s σ H Q I h
  refine wpAny_isTrue_Compare1 (thn (ha pins s σ H _ I h) fun v s1 ⟨x, H1, I1, r1, q1⟩ => thn (hb pins s1 σ H1 _ I1 q1) fun u s2 ⟨y, H2, I2, r2, q2⟩ =>
    thn (ho pins s2 σ H2 x y v u _ I2 r1 r2 q2) fun c s3 ⟨z, H3, I3, r3, k, e, q3⟩ => ?_) hm
  subst e
  cases r3
  exact wpAny_truthy_bool ⟨H3, I3, q3⟩
/-- a op1 b op2 c -/
def tChain (r r' : R2) (ta tb tc : TE) : TE := fun σ H Q => ta σ H fun x H1 => tb σ H1 fun y H2 => r x y H2 fun z H3 => ∃ k, z = .bl k ∧
  (if k = true then tc σ H3 fun w' H4 => r' y w' H4 Q else Q (.bl false) H3)
theorem pe_chain {op op' : CmpOp} {r r' : R2} (ho : OpR X (compareOp op) r) (ho' : OpR X (compareOp op') r') (ha : PE X a ta) (hb : PE X b tb) (hc : PE X c tc)
    (hm : lastMarks [op, op'] [b, c] = false := by with_unfolding_all rfl) : PE X (.Compare a [op, op'] [b, c] pos) (tChain r r' ta tb tc) := by
  intro pins s σ H Q I h
  refine Compare_chain (thn (ha pins s σ H _ I h) fun v s1 ⟨x, H1, I1, r1, q1⟩ => chain_link (thn (hb pins s1 σ H1 _ I1 q1) fun u s2 ⟨y, H2, I2, r2, q2⟩ =>
    thn (ho pins s2 σ H2 x y v u _ I2 r1 r2 q2) fun d s3 ⟨z, H3, I3, r3, k, e, q3⟩ => ?_)) hm
  subst e
  cases r3
  refine wpAny_truthy_bool ?_
  cases k with
  | false => exact ite_ff ⟨.bl false, H3, I3, rfl, q3⟩
  | true => exact ite_tt (chain_last (thn (hc pins s3 σ H3 _ I3 q3) fun w' s4 ⟨z', H4, I4, r4, q4⟩ => ho' pins s4 σ H4 y z' u w' Q I4 r2 r4 q4))
theorem line63 : (sizeLine : Nat) < 2 ^ 63 := by rw [sizeLine_eq]; decide
theorem vals1 {x : V} {us : List Value} (r : Vals [x] us) : ∃ u, us = [u] ∧ RelV x u := by
  cases r with
  | cons r1 r2 => cases r2; exact ⟨_, rfl, r1⟩
theorem vals2 {x y : V} {us : List Value} (r : Vals [x, y] us) : ∃ u w', us = [u, w'] ∧ RelV x u ∧ RelV y w' := by
  cases r with
  | cons r1 r2 =>
    cases r2 with
    | cons r3 r4 => cases r4; exact ⟨_, _, rfl, r1, r3⟩
theorem call_max2 (hc : X.calm = true) : CallR X (.builtin "max") (fun xs H Q => ∃ i j, xs = [.int i, .int j] ∧ Q (.int (if j > i then j else i)) H) := by
  intro pins s σ H xs us Q I r h
  obtain ⟨i, j, rfl, q⟩ := h
  obtain ⟨u, w', rfl, ⟨t, rfl⟩, ⟨t', rfl⟩⟩ := vals2 r
  refine max_two_ints (I.ok.hd hc) fun h' tk k => ⟨_, H, I.kept k, ?_, q⟩
  by_cases hj : j > i
  · rw [if_pos hj, if_pos hj]; exact ⟨_, rfl⟩
  · rw [if_neg hj, if_neg hj]; exact ⟨_, rfl⟩
theorem call_min2 (hc : X.calm = true) : CallR X (.builtin "min") (fun xs H Q => ∃ i j, xs = [.int i, .int j] ∧ Q (.int (if j < i then j else i)) H) := by
  intro pins s σ H xs us Q I r h
  obtain ⟨i, j, rfl, q⟩ := h
  obtain ⟨u, w', rfl, ⟨t, rfl⟩, ⟨t', rfl⟩⟩ := vals2 r
  refine min_two_ints (I.ok.hd hc) fun h' tk k => ⟨_, H, I.kept k, ?_, q⟩
  by_cases hj : j < i
  · rw [if_pos hj, if_pos hj]; exact ⟨_, rfl⟩
  · rw [if_neg hj, if_neg hj]; exact ⟨_, rfl⟩
end
end L2

namespace L2
open PySem PySem.Spec PyProof.Rows

structure ObjM (h : Heap) (x dx C : Addr) (mA : Str → Option Value) : Prop where
  obj : h.get? x = some (PySem.W.instObj C dx)
  ns : h.Ns1 dx mA
  ne : dx ≠ x

theorem lookIn_ns {h : Heap} {dx : Addr} {mA : Str → Option Value} (n : h.Ns1 dx mA) : ∃ od, h.get? dx = some od ∧ ∀ name, PySem.W.lookIn name od = some (mA name) := by
  obtain ⟨o, es, ep, ho, hd, hk, _, hm⟩ := n
  refine ⟨o, ho, fun name => ?_⟩
  have e := hm name
  unfold nsFind findBy at e
  rw [← Array.find?_toList] at e
  unfold PySem.W.lookIn
  rw [hd]
  dsimp only
  split
  · rename_i y q
    rw [q] at e
    exact congrArg some e
  · rename_i q
    rw [q] at e
    have a : es.toList.any (·.refKey) = false := by
      rw [List.any_eq_false]
      intro y hy
      obtain ⟨z, t, hkey⟩ := hk y (Array.mem_toList_iff.mp hy)
      simp [DictEntry.refKey, hkey]
    have a' : ¬ es.toList.any (·.refKey) = true := by rw [a]; exact Bool.false_ne_true
    rw [if_neg a']
    exact congrArg some e

theorem ObjM.look {h : Heap} {x dx C : Addr} {mA : Str → Option Value} (I : ObjM h x dx C mA) : ∃ od, PySem.W.InstAt h x (PySem.W.instObj C dx) C (some od) ∧ ∀ name, PySem.W.lookIn name od = some (mA name) :=
  let ⟨od, ho, hl⟩ := lookIn_ns I.ns
  ⟨od, ⟨I.obj, rfl, rfl, ho⟩, hl⟩

section
variable {prog : Program} {w : World} {A : Around} {E : Value → Shared → Prop} {s : Shared} {K : PySem.W.Frag} {x dx C f : Addr} {mA : Str → Option Value} {name : Str} {v : Value}

theorem get_map {expr : Bool} {Q : Value → Shared → Prop} (X : K.In s.heap) (I : ObjM s.heap x dx C mA) (hg : PySem.W.plainGet K C name = true) (hh : PySem.W.hasDictIn K C = true)
    (ha : PySem.W.findIn K (.ref C) name = some none) (hv : mA name = some v) (hv' : PySem.W.handedIn v = true) (h : Q v { s with toks := s.toks + 1 }) :
    wpAny (model prog w) A (getAttr (.ref x) name expr) Q E s := by
  obtain ⟨od, J, hl⟩ := I.look
  exact PySem.W.get_value X J (PySem.W.plainGet_of hg).1 (PySem.W.findObj_own hh ha rfl (by rw [hl, hv])) hv' h

theorem get_meth {pl : Sem Bool} {Q : Value × List Value → Shared → Prop} (X : K.In s.heap) (I : ObjM s.heap x dx C mA) (hg : PySem.W.plainGet K C name = true)
    (hf : PySem.W.findIn K (.ref C) name = some (some (.ref f))) (ht : PySem.W.isFn K (.ref f) = true) (hv : mA name = none) (h : Q (.ref f, [.ref x]) s) :
    wpAny (model prog w) A (getMethod (.ref x) name pl) Q E s := by
  obtain ⟨od, J, hl⟩ := I.look
  exact PySem.W.method_fn X J (PySem.W.plainGet_of hg).1 (PySem.W.plainGet_of hg).2 hf (beq_iff_eq.mp ht) (by show (PySem.W.lookIn name od).map (·.isSome) = some false; rw [hl, hv]; rfl) h

theorem set_map {ns : List Str} {Q : Unit → Shared → Prop} (X : K.In s.heap) (I : ObjM s.heap x dx C mA)
    (hs : PySem.W.findIn K (.ref C) "__setattr__" = some (some (.builtin "object.__setattr__"))) (hp : PySem.W.plainOver K C = true) (ht : PySem.W.takerIn K C name = some none) (hh : PySem.W.hasDictIn K C = true)
    (hw : PySem.Within mA ns) (hsz : ns.length ≤ sizeLine)
    (h : ∀ h', ObjM h' x dx C (fun y => if y = name then some v else mA y) → Heap.SameBut dx s.heap h' → Q () { s with heap := h', toks := s.toks + 2 }) :
    wpAny (model prog w) A (setAttr (.ref x) name v) Q E s := by
  obtain ⟨od, J, hl⟩ := I.look
  refine PySem.W.set_plain X J hs (PySem.W.osa_open (s := { s with toks := s.toks + 1 }) (r := none) X J hp ht fun b => ?_)
  obtain ⟨cd, hc, hd'⟩ := PySem.W.any_some hh
  have hx : s.heap.get? x = some ⟨.ref C, some dx, .plain, #[]⟩ := I.obj
  refine wpAny_bind (wpAny_pure (wpAny_bind (wpAny_bind (wpAny_loadPart hx (wpAny_bind (PySem.W.Looks.here (s := { s with toks := s.toks + 1 }) (PySem.W.looks_clsIn X hc) ?_))))))
  rw [hd']
  refine wpAny_pure (a := some dx) (wpAny_bind (wpAny_pure (wpAny_bind ?_)))
  refine wpAny_nsSet1 (s := { s with toks := s.toks + 1 }) I.ns fun h' hn2 hs2 => ?_
  obtain ⟨oD, esD, epD, hoD, hdD, hcD⟩ := hn2.count (PySem.Within.cons name v hw)
  refine wpAny_bind (wpAny_lookBehind hoD (by rw [hdD]; exact pastItsLine_dict (Nat.le_trans hcD (by rw [List.length_cons]; omega))) ?_)
  exact wpAny_pure (h _ ⟨(hs2.2 _ (Ne.symm I.ne)).trans I.obj, hn2, I.ne⟩ hs2)

/-- C(..): the dict at the heap's end, the instance behind it; then its __init__ -/
theorem make_map {R : Result → Shared → Prop} {vs : List Value} {kw : List (Str × Value)} (X : K.In s.heap) (hm : PySem.W.makesIn K C = true)
    (hi : PySem.W.findIn K (.ref C) "__init__" = some (some (.ref f))) (hf : PySem.W.typeIn K (.ref f) = some (.type "function"))
    (h : codeAny (model prog w) (A.under (.builtin "type.__call__" ⟨.ref C :: vs, kw⟩)) (.call (.ref f) ⟨.ref (s.heap.objs.size + 1) :: vs, kw⟩) (PySem.W.InitBack (s.heap.objs.size + 1) R)
      { s with heap := (s.heap.push PySem.W.emptyDict).push (PySem.W.instObj C s.heap.objs.size) }) :
    codeAny (model prog w) A (.call (.ref C) ⟨vs, kw⟩) R s := by
  obtain ⟨hh, g, d, t, os⟩ := s
  exact PySem.W.make_core (PySem.W.makes_of X hm) (PySem.W.looks_findIn X hi) (fun self => PySem.W.bind_fn X self hf) (.inl rfl) h
end

def putF (f : Str) (v : V) : List (Str × V) → List (Str × V)
  | [] => [(f, v)]
  | (g, x) :: r => if g = f then (g, v) :: r else (g, x) :: putF f v r
theorem lookup_putF (f g : Str) (v : V) : ∀ fs : List (Str × V), (putF f v fs).lookup g = if g = f then some v else fs.lookup g
  | [] => by
    show List.lookup g [(f, v)] = _
    by_cases h : g = f
    · have hb : (g == f) = true := beq_iff_eq.mpr h
      simp only [List.lookup, hb, if_pos h]
    · have hb : (g == f) = false := beq_eq_false_iff_ne.mpr h
      simp only [List.lookup, hb, if_neg h]
  | (k, x) :: r => by
    have ih := lookup_putF f g v r
    rw [show putF f v ((k, x) :: r) = (if k = f then (k, v) :: r else (k, x) :: putF f v r) from rfl]
    by_cases hk : k = f
    · rw [if_pos hk]
      by_cases h : g = k
      · have hb : (g == k) = true := beq_iff_eq.mpr h
        simp only [List.lookup, hb, if_pos (h.trans hk)]
      · have hb : (g == k) = false := beq_eq_false_iff_ne.mpr h
        simp only [List.lookup, hb, if_neg (fun e : g = f => h (e.trans hk.symm))]
    · rw [if_neg hk]
      by_cases h : g = k
      · have hb : (g == k) = true := beq_iff_eq.mpr h
        simp only [List.lookup, hb, if_neg (fun e : g = f => hk (h.symm.trans e))]
      · have hb : (g == k) = false := beq_eq_false_iff_ne.mpr h
        simp only [List.lookup, hb]
        exact ih
theorem keys_putF (f : Str) (v : V) : ∀ fs : List (Str × V), f ∈ (putF f v fs).map (·.1) ∧ ∀ g, g ∈ fs.map (·.1) → g ∈ (putF f v fs).map (·.1)
  | [] => ⟨by simp [putF], fun g h => by simp at h⟩
  | (k, x) :: r => by
    obtain ⟨i1, i2⟩ := keys_putF f v r
    rw [show putF f v ((k, x) :: r) = (if k = f then (k, v) :: r else (k, x) :: putF f v r) from rfl]
    by_cases hk : k = f
    · rw [if_pos hk]
      subst hk
      exact ⟨by simp, fun g h => by simpa using h⟩
    · rw [if_neg hk]
      refine ⟨?_, fun g h => ?_⟩
      · rw [List.map_cons]
        exact List.mem_cons_of_mem _ i1
      · rw [List.map_cons] at h ⊢
        rcases List.mem_cons.mp h with e | e
        · exact List.mem_cons.mpr (.inl e)
        · exact List.mem_cons_of_mem _ (i2 g e)
theorem length_putF (f : Str) (v : V) : ∀ fs : List (Str × V), (putF f v fs).length ≤ fs.length + 1
  | [] => by simp [putF]
  | (k, x) :: r => by
    have ih := length_putF f v r
    rw [show putF f v ((k, x) :: r) = (if k = f then (k, v) :: r else (k, x) :: putF f v r) from rfl]
    by_cases hk : k = f
    · rw [if_pos hk, List.length_cons, List.length_cons]; omega
    · rw [if_neg hk, List.length_cons, List.length_cons]; omega

theorem RelO.some_of {v : V} {o : Option Value} (r : RelO (some v) o) : ∃ u, o = some u ∧ RelV v u := by
  cases o with
  | none => exact (show False from r).elim
  | some u => exact ⟨u, rfl, r⟩
theorem RelO.none_of {o : Option Value} (r : RelO none o) : o = none := by
  cases o with
  | none => rfl
  | some u => exact (show False from r).elim
theorem handed_of {v : V} {u : Value} (r : RelV v u) : PySem.W.handedIn u = true := by
  cases v with
  | non => cases (show u = Value.none from r); rfl
  | bl b => cases (show u = Value.bool b from r); rfl
  | int i => obtain ⟨t, e⟩ := (show ∃ t, u = Value.int i t from r); cases e; rfl
  | str x => obtain ⟨t, e⟩ := (show ∃ t, u = Value.str x t from r); cases e; rfl
  | byt b => obtain ⟨t, e⟩ := (show ∃ t, u = Value.bytes b t from r); cases e; rfl
  | flt b => obtain ⟨t, e⟩ := (show ∃ t, u = Value.float b t from r); cases e; rfl
  | ref a => cases (show u = Value.ref a from r); rfl
  | ty n => cases (show u = Value.type n from r); rfl

section
variable {P : Program} {w : World} {H H' : Hp} {h h' : Heap} {a C dx : Addr} {fs fs' : List (Str × V)}
theorem ins_get (hok : HOk P w H h) (e : H a = some (.ins C dx fs)) : ∃ mA, ObjM h a dx C mA ∧ (∀ f, RelO (fs.lookup f) (mA f)) ∧ PySem.Within mA (fs.map (·.1)) ∧ fs.length ≤ 1000 ∧ H dx = some (.own a) := by
  obtain ⟨d, z, ne, ob, mA, n, r, q⟩ := (show ObjOk P w H h a (.ins C dx fs) from hok a _ e)
  exact ⟨mA, ⟨ob, n, ne⟩, r, q, z, d⟩
end

structure Cls (K : PySem.W.Frag) (C : Addr) : Prop where
  pg : PySem.W.plainGet K C Str.empty = true
  hd : PySem.W.hasDictIn K C = true
  po : PySem.W.plainOver K C = true
  sa : PySem.W.findIn K (.ref C) "__setattr__" = some (some (.builtin "object.__setattr__"))
theorem Cls.get {K : PySem.W.Frag} {C : Addr} (c : Cls K C) (f : Str) : PySem.W.plainGet K C f = true := c.pg
/-- no class of it has the name -/
def NoAttr (K : PySem.W.Frag) (C : Addr) (f : Str) : Prop := PySem.W.findIn K (.ref C) f = some none
theorem NoAttr.taker {K : PySem.W.Frag} {C : Addr} {f : Str} (n : NoAttr K C f) : PySem.W.takerIn K C f = some none := by
  unfold PySem.W.takerIn
  rw [show PySem.W.findIn K (.ref C) f = some none from n]
  rfl
/-- a method: a plain def of the class or of one above it -/
structure Meth (K : PySem.W.Frag) (C : Addr) (m : Str) (f : Addr) : Prop where
  at_ : PySem.W.findIn K (.ref C) m = some (some (.ref f))
  fn : PySem.W.isFn K (.ref f) = true
  kp : PySem.W.keepIn K (.ref f) = true

section
variable {X : Cx} {pins : List (Addr × Obj)} {σ : St} {H : Hp} {s : Shared} {a C dx : Addr} {fs : List (Str × V)} {f : Str} {v : V} {A : Around} {E : Value → Shared → Prop}

theorem getattr_ok {b : Bool} {Q : Value → Shared → Prop} (I : Inv X pins σ H s) (e : H a = some (.ins C dx fs)) (c : Cls X.K C) (n : NoAttr X.K C f) (l : fs.lookup f = some v)
    (h : ∀ u s', Inv X pins σ H s' → RelV v u → Q u s') : wpAny (model X.prog X.w) A (getAttr (.ref a) f b) Q E s := by
  obtain ⟨mA, O, r, _, _, _⟩ := ins_get I.hok e
  obtain ⟨u, hu, ru⟩ := RelO.some_of (v := v) (o := mA f) (by rw [← l]; exact r f)
  exact get_map I.kIn O (c.get f) c.hd n hu (handed_of ru) (h u _ (I.tok _) ru)

theorem getmeth_ok {m : Str} {g : Addr} {pl : Sem Bool} {Q : Value × List Value → Shared → Prop} (I : Inv X pins σ H s) (e : H a = some (.ins C dx fs)) (c : Cls X.K C) (k : Meth X.K C m g) (l : fs.lookup m = none)
    (h : Q (.ref g, [.ref a]) s) : wpAny (model X.prog X.w) A (getMethod (.ref a) m pl) Q E s := by
  obtain ⟨mA, O, r, _, _, _⟩ := ins_get I.hok e
  have hn : mA m = none := RelO.none_of (by rw [← l]; exact r m)
  exact get_meth I.kIn O (c.get m) k.at_ k.fn hn h

theorem setattr_ok {y : V} {u : Value} {Q : Unit → Shared → Prop} (I : Inv X pins σ H s) (e : H a = some (.ins C dx fs)) (c : Cls X.K C) (n : NoAttr X.K C f) (hl : fs.length < 1000) (ry : RelV y u)
    (h : ∀ s', Inv X pins σ (upd H a (.ins C dx (putF f y fs))) s' → Q () s') : wpAny (model X.prog X.w) A (setAttr (.ref a) f u) Q E s := by
  obtain ⟨mA, O, r, wi, _, ho⟩ := ins_get I.hok e
  have hz : (fs.map (·.1)).length ≤ sizeLine := by rw [List.length_map, sizeLine_eq]; omega
  refine set_map I.kIn O c.sa c.po n.taker c.hd wi hz fun h' O' sb => h _ ?_
  have hd : ∃ o, h'.get? dx = some o := let ⟨o, _, _, e', _⟩ := O'.ns; ⟨o, e'⟩
  refine I.write (x := a) (e := dx) (by rw [e]; exact True.intro) (.inr ho) (fun b q hb z => (sb.2 b hb).trans z) hd ?_
  refine ⟨by rw [upd_ne O.ne]; exact ho, ?_, O.ne, O'.obj, _, O'.ns, fun g => ?_, fun g hg => ?_⟩
  · have := length_putF f y fs; omega
  · show RelO ((putF f y fs).lookup g) (if g = f then some u else mA g)
    rw [lookup_putF]
    by_cases q : g = f
    · rw [if_pos q, if_pos q]; exact ry
    · rw [if_neg q, if_neg q]; exact r g
  · by_cases q : g = f
    · rw [q]; exact (keys_putF f y fs).1
    · refine (keys_putF f y fs).2 g (wi g fun z => hg ?_)
      show (if g = f then some u else mA g) = none
      rw [if_neg q]; exact z

/-- a new instance, tracked, without attributes -/
theorem Inv.made (I : Inv X pins σ H s) : Inv X pins σ (upd (upd H s.heap.objs.size (.own (s.heap.objs.size + 1))) (s.heap.objs.size + 1) (.ins C s.heap.objs.size []))
    { s with heap := (s.heap.push PySem.W.emptyDict).push (PySem.W.instObj C s.heap.objs.size) } := by
  have e1 : (s.heap.push PySem.W.emptyDict).get? s.heap.objs.size = some PySem.W.emptyDict := Heap.get?_push_size s.heap rfl
  have e2 : ((s.heap.push PySem.W.emptyDict).push (PySem.W.instObj C s.heap.objs.size)).get? (s.heap.objs.size + 1) = some (PySem.W.instObj C s.heap.objs.size) := by
    have := Heap.get?_push_size (s.heap.push PySem.W.emptyDict) (o := PySem.W.instObj C s.heap.objs.size) rfl
    rwa [Heap.size_push] at this
  have e3 : (s.heap.push PySem.W.emptyDict).Ns s.heap.objs.size (fun _ => none) := ⟨PySem.W.emptyDict, #[], _, e1, rfl, (fun e he => absurd he (by simp)), fun _ => rfl⟩
  have I1 := I.laid (a := s.heap.objs.size) (o := .own (s.heap.objs.size + 1)) (h' := s.heap.push PySem.W.emptyDict) (t' := s.toks) (fun b u q => Heap.get?_push_of_some _ q) (Nat.le_refl _) ⟨_, e1⟩
  refine I1.laid (a := s.heap.objs.size + 1) (o := .ins C s.heap.objs.size []) (t' := s.toks) (fun b u q => Heap.get?_push_of_some _ q) (Nat.le_of_eq (Heap.size_push _ _)) ?_
  have ne : s.heap.objs.size ≠ s.heap.objs.size + 1 := Nat.ne_of_lt (Nat.lt_succ_self _)
  refine ⟨by rw [upd_ne ne, upd_same], Nat.zero_le _, ne, e2, fun _ => none, (Heap.Ns1.of_empty e3).at fun o q => Heap.get?_push_of_some _ q, fun _ => True.intro, fun y hy => absurd rfl hy⟩

/-- e.f where nothing but the object is asked: through attributeBase (super) and the last hold -/
theorem attr_of {prog : Program} {w : World} {env : Env} {e : Expr} {f : Str} {pos : Pos} {s : Shared} {Q : Value → Shared → Prop} (hb : attributeBase e f env (eval e env) = eval e env)
    (h : wpAny (model prog w) A (eval e env) (fun o s₁ => wpAny (model prog w) A (getAttr o f true) Q E s₁) E s) : wpAny (model prog w) A (eval (.Attribute e f pos) env) Q E s :=
  Attribute_any_ h (by rw [arm_eval_Attribute, hb])
end

/-- e.f, an attribute of the instance -/
def tFld (K : PySem.W.Frag) (ta : TE) (f : Str) : TE := fun σ H Q => ta σ H fun x H1 => ∃ a C dx fs v, x = .ref a ∧ H1 a = some (.ins C dx fs) ∧ Cls K C ∧ NoAttr K C f ∧ fs.lookup f = some v ∧ Q v H1
/-- e.f = value -/
def sFld (K : PySem.W.Frag) (ta tv : TE) (f : Str) : TS := fun D σ H => tv σ H fun y H1 => ta σ H1 fun x H2 => ∃ a C dx fs, x = .ref a ∧ H2 a = some (.ins C dx fs) ∧ Cls K C ∧ NoAttr K C f ∧ fs.length < 1000 ∧
  D.nx σ (upd H2 a (.ins C dx (putF f y fs)))
section
variable {X : Cx} {o e value : Expr} {f : Str} {pos pos' tpos : Pos} {ta tv : TE}
theorem pe_fld (he : PE X e ta) (hb : attributeBase e f X.env (eval e X.env) = eval e X.env) : PE X (.Attribute e f pos) (tFld X.K ta f) := by
  intro pins s σ H Q I h
  refine attr_of hb (thn (he pins s σ H _ I h) fun u s1 ⟨x, H1, I1, rx, a, C, dx, fs, v, ex, ea, c, n, l, q⟩ => ?_)
  subst ex
  obtain rfl : u = Value.ref a := rx
  exact getattr_ok I1 ea c n l fun u' s2 I2 ru => ⟨v, H1, I2, ru, q⟩
theorem ps_fld (ha : PE X o ta) (hv : PE X value tv) (hs : swapsWith value (some (.Attribute o f pos')) pos.line X.env = pure false) : PS X (.Assign [.Attribute o f pos'] value pos) (sFld X.K ta tv f) := by
  intro pins s σ H D I h
  refine plainObj_wpAny_Assign_Attribute (thn (hv pins s σ H _ I h) fun u s1 ⟨y, H1, I1, ry, q⟩ => thn (ha pins s1 σ H1 _ I1 q) fun ov s2 ⟨x, H2, I2, rx, a, C, dx, fs, ex, ea, c, n, l, q2⟩ => ?_) hs
  subst ex
  obtain rfl : ov = Value.ref a := rx
  exact setattr_ok I2 ea c n l ry fun s3 I3 => ⟨σ, _, I3, q2⟩
end

section
variable {X : Cx} {pins : List (Addr × Obj)} {σ : St} {H : Hp} {s : Shared} {A : Around} {E : Value → Shared → Prop} {Q : Value → Shared → Prop} {c : Value} {b : Bool}
end
end L2

namespace L2
open PySem PySem.Spec PyProof.Rows

structure Room (k : Nat) (A : Around) : Prop where
  hd : A.handled = none
  dp : A.depth + 3 * k + 5 < recursionLimit
  un : A.units + 16 * k + 200 < cLine
theorem Room.mono {j k : Nat} {A : Around} (r : Room k A) (h : j ≤ k) : Room j A := ⟨r.hd, by have := r.dp; omega, by have := r.un; omega⟩
theorem Room.deeper {k : Nat} {A : Around} (r : Room (k + 1) A) (env : Env) : Room k (A.deeper env) :=
  ⟨r.hd, by have := r.dp; show A.depth + 1 + 3 * k + 5 < _; omega, by have := r.un; show A.units + 3 + 16 * k + 200 < _; omega⟩
theorem make_depth {A : Around} {C : Addr} {us : List Value} {kw : List (Str × Value)} : (A.under (.builtin "type.__call__" ⟨.ref C :: us, kw⟩)).depth = A.depth + 1 := by
  first | rfl | simp [Around.under, Code.weight, Code.isCreation, Code.isGuard, Code.isCaller, Code.frames, Code.isFrame, guardIds]
theorem make_units {A : Around} {C : Addr} {us : List Value} {kw : List (Str × Value)} : (A.under (.builtin "type.__call__" ⟨.ref C :: us, kw⟩)).units = A.units + 1 := by
  first | rfl | simp [Around.under, Code.cUnits, Code.frames, Code.isFrame]
theorem Room.make {k : Nat} {A : Around} (r : Room (k + 1) A) (C : Addr) (us : List Value) (kw : List (Str × Value)) : Room k (A.under (.builtin "type.__call__" ⟨.ref C :: us, kw⟩)) :=
  ⟨r.hd, by have := r.dp; rw [make_depth]; omega, by have := r.un; rw [make_units]; omega⟩
theorem Room.depth {k : Nat} {A : Around} (r : Room k A) : A.depth < recursionLimit := by have := r.dp; omega
theorem Room.units {k : Nat} {A : Around} (r : Room k A) : A.units + 64 < cLine := by have := r.un; omega
def tNil : TA := fun _ H Q => Q [] H
def tCons (ta : TE) (tr : TA) : TA := fun σ H Q => ta σ H fun x H1 => tr σ H1 fun xs H2 => Q (x :: xs) H2
section
variable {X : Cx} {e : Expr} {es : List Expr} {te : TE} {t : TA} {pos : Pos}
theorem pa_nil : PA X [] tNil := fun _ _ _ _ H Q I h => Calls.spliced_nil ⟨[], H, I, .nil, h⟩
theorem pa_cons (ha : PE X e te) (hr : PA X es t) (hs : starEach (e :: es) X.env = (false, eval e X.env) :: starEach es X.env := by rfl) : PA X (e :: es) (tCons te t) := by
  intro pos pins s σ H Q I h
  rw [hs]
  show wpAny _ _ (spliced ((false, eval e X.env) :: backTo pos (starEach es X.env))) _ _ s
  refine Calls.spliced_cons (thn (ha pins s σ H _ I h) fun u s1 ⟨x, H1, I1, r1, q1⟩ => ?_)
  exact thn (hr pos pins s1 σ H1 _ I1 q1) fun us s2 ⟨xs, H2, I2, r2, q2⟩ => ⟨x :: xs, H2, I2, .cons r1 r2, q2⟩

def tLst (t : TA) : TE := fun σ H Q => t σ H fun xs H1 => xs.length ≤ sizeLine ∧ ∀ p, H1 p = none → Q (.ref p) (upd H1 p (.lst xs))
theorem pe_lst (h : PA X es t) : PE X (.List es pos) (tLst t) := by
  intro pins s σ H Q I hq
  refine wpAny_List_spliced (thn (h pos pins s σ H _ I hq) fun us s1 ⟨xs, H1, I1, r, z, q⟩ => ⟨by rw [← r.length]; exact z, ?_⟩)
  have hf : H1 s1.heap.objs.size = none := I1.hok.fresh (Nat.le_refl _)
  refine ⟨.ref s1.heap.objs.size, upd H1 s1.heap.objs.size (.lst xs), I1.laid (t' := s1.toks) (fun b u e => Heap.get?_push_of_some _ e) (Nat.le_refl _) ?_, rfl, q _ hf⟩
  exact ⟨z, us, 0, r, Heap.get?_push_size _ rfl⟩
end

/-- a def's promise: the bound arguments in the parameters' order, the heap, the wanted end, the wanted exception -/
abbrev Sp := List V → Hp → VK → XK → Prop
/-- how an exception lies behind a call (file 08 gives it): the callers' frames, abstract heap and state ahead of the call, the wish, the exception, the state -/
abbrev CXT := List Env → Hp → Shared → XK → Value → Shared → Prop

/-- the state at a call -/
structure Env0 (P : Program) (w : World) (K : PySem.W.Frag) (mg : Str → Option Value) (base : Heap) (A : Around) (outer : List Env) (s : Shared) (H : Hp) : Prop where
  frames : A.frames = some outer
  mod : Mod K mg base
  bs : ∀ b o, base.get? b = some o → s.heap.get? b = some o ∧ H b = none
  bsz : base.objs.size ≤ s.heap.objs.size
  funs : s.heap.FunFrames base outer
  frf : ∀ b ∈ frs outer, H b = none
  hok : HOk P w H s.heap
  bare : AllBare s.gens
/-- a call's end -/
def CE (outer : List Env) (P : Program) (w : World) (H : Hp) (s : Shared) (Q : VK) (u : Value) (s' : Shared) : Prop :=
  ∃ v H', s'.os = s.os ∧ AllBare s'.gens ∧ Un (frs outer) [] H H' s.heap s'.heap ∧ HOk P w H' s'.heap ∧ RelV v u ∧ Q v H'
def CR (CX : CXT) (outer : List Env) (P : Program) (w : World) (H : Hp) (s : Shared) (Q : VK) (E : XK) (r : Result) (s' : Shared) : Prop :=
  match r with
  | .ok (.ret u) => CE outer P w H s Q u s'
  | .ok _ => False
  | .error e => CX outer H s E e s'
structure FnOk (P : Program) (w : World) (K : PySem.W.Frag) (mg : Str → Option Value) (base : Heap) (CX : CXT) (k : Nat) (f : Addr) (fd : FuncData) (ps : List Str) (sp : Sp) : Prop where
  len : ∀ vs H Q E, sp vs H Q E → vs.length = ps.length
  run : ∀ (A : Around) (outer : List Env) (s : Shared) (H : Hp) (args : Args) (us : List Value) (vs : List V) (Q : VK) (E : XK), Room k A → Env0 P w K mg base A outer s H → BindsTo s fd args (ps.zip us) → Vals vs us → sp vs H Q E →
    codeAny (model P w) A (.call (.ref f) args) (CR CX outer P w H s Q E) s
theorem FnOk.mono {P : Program} {w : World} {K : PySem.W.Frag} {mg : Str → Option Value} {base : Heap} {CX : CXT} {j k : Nat} {f : Addr} {fd : FuncData} {ps : List Str} {sp : Sp} (F : FnOk P w K mg base CX j f fd ps sp) (h : j ≤ k) :
    FnOk P w K mg base CX k f fd ps sp := ⟨F.len, fun A outer s H args us vs Q E hr => F.run A outer s H args us vs Q E (hr.mono h)⟩
theorem Env0.make {P : Program} {w : World} {K : PySem.W.Frag} {mg : Str → Option Value} {base : Heap} {A : Around} {outer : List Env} {s : Shared} {H : Hp} (e : Env0 P w K mg base A outer s H) (C : Addr) (us : List Value) (kw : List (Str × Value)) :
    Env0 P w K mg base (A.under (.builtin "type.__call__" ⟨.ref C :: us, kw⟩)) outer s H := ⟨by first | exact e.frames | (simpa [Around.under, Code.envs, Code.isFrame, pushEnvs] using e.frames), e.mod, e.bs, e.bsz, e.funs, e.frf, e.hok, e.bare⟩
section
variable {X : Cx} {pins : List (Addr × Obj)} {σ : St} {H : Hp} {s s' : Shared}
/-- from a body: what a callee wants -/
theorem Inv.env0 (I : Inv X pins σ H s) : Env0 X.prog X.w X.K X.mg X.base X.A X.stack s H :=
  ⟨I.ok.frames, I.ok.mod, I.bs, Nat.le_trans I.ok.bsz I.sz, I.stack, I.stkFree, I.hok, I.bare⟩
/-- behind a call -/
theorem Inv.after {Q : VK} {u : Value} (I : Inv X pins σ H s) (h : CE X.stack X.prog X.w H s Q u s') : EP X pins σ Q u s' := by
  obtain ⟨v, H', os, bare, un, hok, r, q⟩ := h
  obtain ⟨hh, g, d, t, os'⟩ := s'
  obtain rfl : os' = s.os := os
  exact ⟨v, H', I.call (h' := hh) (g' := g) (d' := d) (t' := t) (ch := []) un hok bare (fun b z => absurd z (by simp)), r, q⟩
end

/-- f(..): the written arguments, then the defaults dvs; E: what is wanted of an exception -/
def tCall (sp : Sp) (dvs : List V) (E : XK) (t : TA) : TE := fun σ H Q => t σ H fun vs H1 => sp (vs ++ dvs) H1 Q E
/-- o.m(..) of an instance of the class at C -/
def tMeth (C : Addr) (m : Str) (sp : Sp) (dvs : List V) (E : XK) (ta : TE) (t : TA) : TE := fun σ H Q => ta σ H fun x H1 => ∃ a dx fs, x = .ref a ∧ H1 a = some (.ins C dx fs) ∧ fs.lookup m = none ∧
  t σ H1 fun vs H2 => sp (x :: (vs ++ dvs)) H2 Q E
/-- C(..): a new instance and its dict, then __init__ -/
def tMake (C : Addr) (sp : Sp) (dvs : List V) (E : XK) (t : TA) : TE := fun σ H Q => t σ H fun vs H1 => ∀ x dx, H1 x = none → H1 dx = none → dx ≠ x →
  sp (.ref x :: (vs ++ dvs)) (upd (upd H1 dx (.own x)) x (.ins C dx [])) (fun v H2 => v = .non ∧ Q (.ref x) H2) E

/-- how the parameters are bound: us the positional arguments, kw the keywords' values by name, ds the defaults that fill up -/
def Binds (K : PySem.W.Frag) (fd : FuncData) (ps : List Str) (ds : List Value) : Prop :=
  ∀ (s : Shared) (us : List Value), K.In s.heap → (us ++ ds).length = ps.length → BindsTo s fd ⟨us, []⟩ (ps.zip (us ++ ds))
/-- every parameter is given -/
theorem Binds.all {K : PySem.W.Frag} {fd : FuncData} {ps : List Str} (h : ∀ us : List Value, us.length = ps.length → bindArgs fd ⟨us, []⟩ = pure (ps.zip us)) : Binds K fd ps [] := fun s us _ hl => by
  rw [List.append_nil] at hl ⊢
  exact .of_eq (h us hl)

/-- an exception of a callee reaches what this body wants of exceptions -/
def Passes (CX : CXT) (X : Cx) (E : XK) : Prop := ∀ (pins : List (Addr × Obj)) (σ : St) (H : Hp) (s : Shared) (e : Value) (s' : Shared), Inv X pins σ H s → CX X.stack H s E e s' → X.xe e s'

section
variable {X : Cx} {CX : CXT} {k : Nat} {f C : Addr} {fd : FuncData} {ps : List Str} {sp : Sp} {dvs : List V} {ds : List Value} {E : XK} {x m : Str} {p pos apos : Pos} {e o : Expr} {es : List Expr} {ta : TE} {t : TA}

/-- the callee runs -/
theorem run_fn {pins : List (Addr × Obj)} {σ : St} {H : Hp} {s : Shared} {Q : VK} {us : List Value} {vs : List V} (F : FnOk X.prog X.w X.K X.mg X.base CX k f fd ps sp) (hr : Room k X.A) (hb : Binds X.K fd ps ds) (hd : Vals dvs ds) (hx : Passes CX X E)
    (I : Inv X pins σ H s) (r : Vals vs us) (h : sp (vs ++ dvs) H Q E) : wpAny (model X.prog X.w) X.A (call (.ref f) us) (EP X pins σ Q) X.xe s := by
  have r2 : Vals (vs ++ dvs) (us ++ ds) := r.append hd
  have hl : (us ++ ds).length = ps.length := by rw [← r2.length]; exact F.len _ _ _ _ h
  refine wpAny_call (codeAny_mono (F.run X.A X.stack s H ⟨us, []⟩ (us ++ ds) (vs ++ dvs) Q E hr I.env0 (hb s us I.kIn hl) r2 h) fun r s' hq => ?_)
  cases r with
  | error e => exact hx pins σ H s e s' I hq
  | ok fl =>
    cases fl with
    | ret u => exact I.after hq
    | next => exact False.elim hq
    | brk => exact False.elim hq
    | cont => exact False.elim hq

theorem pe_call (F : FnOk X.prog X.w X.K X.mg X.base CX k f fd ps sp) (hr : Room k X.A) (hg : Gl X x) (hm : X.mg x = some (.ref f)) (hk : PySem.W.keepIn X.K (.ref f) = true) (hb : Binds X.K fd ps ds) (hd : Vals dvs ds) (hx : Passes CX X E)
    (ha : PA X (e :: es) t) (hdb : (x == ("__debug__" : Str)) = false := by decide) (he : starEach (e :: es) X.env = (false, eval e X.env) :: starEach es X.env := by rfl) (hpl : (backTo pos (starEach es X.env)).any (·.1) = false := by rfl) :
    PE X (.Call (.Name x p) (e :: es) [] pos) (tCall sp dvs E t) := by
  intro pins s σ H Q I h
  refine wpAny_Call_Name_kw (ld_glob I hg hm ?_ hdb)
  refine PySem.W.callWith_K (h₀ := X.base) I.ok.mod.kin hk (thn (ha pos pins s σ H _ I h) fun us s1 ⟨vs, H1, I1, r, q⟩ => ⟨I1.kIn, ?_⟩) he hpl
  exact run_fn F hr hb hd hx I1 r q
/-- o.m(e, ..) -/
theorem pe_meth {pl : Sem Bool} (he : PE X o ta) (c : Cls X.K C) (hm : Meth X.K C m f) (F : FnOk X.prog X.w X.K X.mg X.base CX k f fd ps sp) (hr : Room k X.A) (hb : Binds X.K fd ps ds) (hd : Vals dvs ds) (hx : Passes CX X E) (ha : PA X (e :: es) t)
    (hst : starEach (e :: es) X.env = (false, eval e X.env) :: starEach es X.env := by rfl) (hpl : (backTo pos (starEach es X.env)).any (·.1) = false := by rfl)
    (ht : eval (.Call (.Attribute o m apos) (e :: es) [] pos) X.env = (do
      let ov ← eval o X.env
      standAt apos.atName
      let (f, first) ← holding [ov] (getMethod ov m pl)
      callWith pos f first (backTo pos (starEach (e :: es) X.env)) (backToKw pos (keywordEach [] X.env))) := by rfl) :
    PE X (.Call (.Attribute o m apos) (e :: es) [] pos) (tMeth C m sp dvs E ta t) := by
  intro pins s σ H Q I h
  refine PySem.W.methodCall_KW (pl := pl) (thn (he pins s σ H _ I h) fun u s1 ⟨x, H1, I1, rx, a, dx, fs, ex, ea, l, q⟩ => ?_) ht
  subst ex
  obtain rfl : u = Value.ref a := rx
  refine getmeth_ok I1 ea c hm l ?_
  refine PySem.W.callWith_K (first := [.ref a]) (h₀ := X.base) I.ok.mod.kin hm.kp (thn (ha pos pins s1 σ H1 _ I1 q) fun us s2 ⟨vs, H2, I2, r, q2⟩ => ⟨I2.kIn, ?_⟩) hst hpl
  exact run_fn (us := .ref a :: us) (vs := .ref a :: vs) F hr hb hd hx I2 (.cons rfl r) q2
/-- o.m() -/
theorem pe_meth0 {pl : Sem Bool} (he : PE X o ta) (c : Cls X.K C) (hm : Meth X.K C m f) (F : FnOk X.prog X.w X.K X.mg X.base CX k f fd ps sp) (hr : Room k X.A) (hb : Binds X.K fd ps ds) (hd : Vals dvs ds) (hx : Passes CX X E)
    (ht : eval (.Call (.Attribute o m apos) [] [] pos) X.env = (do
      let ov ← eval o X.env
      standAt apos.atName
      let (f, first) ← holding [ov] (getMethod ov m pl)
      callWith pos f first (backTo pos (starEach [] X.env)) (backToKw pos (keywordEach [] X.env))) := by rfl) :
    PE X (.Call (.Attribute o m apos) [] [] pos) (tMeth C m sp dvs E ta tNil) := by
  intro pins s σ H Q I h
  refine PySem.W.methodCall_KW (pl := pl) (thn (he pins s σ H _ I h) fun u s1 ⟨x, H1, I1, rx, a, dx, fs, ex, ea, l, q⟩ => ?_) ht
  subst ex
  obtain rfl : u = Value.ref a := rx
  refine getmeth_ok I1 ea c hm l ?_
  exact PySem.W.callWith_K0 (first := [.ref a]) I1.kIn hm.kp (run_fn (us := [.ref a]) (vs := [.ref a]) F hr hb hd hx I1 (.cons rfl .nil) q)

/-- what a class must have to be made -/
structure Mk (K : PySem.W.Frag) (C f : Addr) : Prop where
  makes : PySem.W.makesIn K C = true
  init : PySem.W.findIn K (.ref C) "__init__" = some (some (.ref f))
  fn : PySem.W.isFn K (.ref f) = true
  kp : PySem.W.keepIn K (.ref C) = true

theorem run_make {pins : List (Addr × Obj)} {σ : St} {H : Hp} {s : Shared} {Q : VK} {us : List Value} {vs : List V} (M : Mk X.K C f) (F : FnOk X.prog X.w X.K X.mg X.base CX k f fd ps sp) (hr : Room (k + 1) X.A) (hb : Binds X.K fd ps ds) (hd : Vals dvs ds)
    (hx : Passes CX X E) (I : Inv X pins σ H s) (r : Vals vs us)
    (h : ∀ x dx, H x = none → H dx = none → dx ≠ x → sp (.ref x :: (vs ++ dvs)) (upd (upd H dx (.own x)) x (.ins C dx [])) (fun v H2 => v = .non ∧ Q (.ref x) H2) E) :
    wpAny (model X.prog X.w) X.A (call (.ref C) us) (EP X pins σ Q) X.xe s := by
  have hq := h (s.heap.objs.size + 1) s.heap.objs.size (I.hok.fresh (Nat.le_succ _)) (I.hok.fresh (Nat.le_refl _)) (Nat.ne_of_lt (Nat.lt_succ_self _))
  have I2 := Inv.made (C := C) I
  have r2 : Vals (V.ref (s.heap.objs.size + 1) :: (vs ++ dvs)) (Value.ref (s.heap.objs.size + 1) :: (us ++ ds)) := .cons rfl (r.append hd)
  have hl : (Value.ref (s.heap.objs.size + 1) :: us ++ ds).length = ps.length := by
    have e := r2.length
    rw [F.len _ _ _ _ hq] at e
    exact e.symm
  refine wpAny_call (make_map (f := f) I.kIn M.makes M.init (beq_iff_eq.mp M.fn) (codeAny_mono (F.run _ X.stack _ _ ⟨Value.ref (s.heap.objs.size + 1) :: us, []⟩ (Value.ref (s.heap.objs.size + 1) :: (us ++ ds)) _ _ E (hr.make C us [])
    (I2.env0.make C us []) (hb _ (Value.ref (s.heap.objs.size + 1) :: us) I2.kIn hl) r2 hq) fun r s' hq' => ?_))
  cases r with
  | error e => exact hx pins σ _ _ e s' I2 hq'
  | ok fl =>
    cases fl with
    | ret u =>
      obtain ⟨v, H', I3, rv, ev, q3⟩ := I2.after hq'
      subst ev
      exact ⟨rv, ⟨V.ref (s.heap.objs.size + 1), H', I3, rfl, q3⟩⟩
    | next => exact False.elim hq'
    | brk => exact False.elim hq'
    | cont => exact False.elim hq'
theorem pe_make0 (M : Mk X.K C f) (F : FnOk X.prog X.w X.K X.mg X.base CX k f fd ps sp) (hr : Room (k + 1) X.A) (hg : Gl X x) (hm : X.mg x = some (.ref C)) (hb : Binds X.K fd ps ds) (hd : Vals dvs ds) (hx : Passes CX X E)
    (hdb : (x == ("__debug__" : Str)) = false := by decide) : PE X (.Call (.Name x p) [] [] pos) (tMake C sp dvs E tNil) := by
  intro pins s σ H Q I h
  refine wpAny_Call_Name_kw (ld_glob I hg hm ?_ hdb)
  exact PySem.W.callWith_K0 I.kIn M.kp (run_make (us := []) M F hr hb hd hx I .nil h)
end

section
variable {X : Cx} {CX : CXT} {k : Nat} {f C : Addr} {fd : FuncData} {ps ks : List Str} {sp : Sp} {E : XK} {x m : Str} {p pos apos kpos : Pos} {e o : Expr} {es : List Expr} {kws : List Keyword} {te ta : TE} {t tk : TA} {nm : Option Str}
variable {g : List Value → List Value → List Value} {gV : List V → List V → List V}
end

/-- names: the parameters first -/
structure FnScope (N P : List Str) (sc : Scope) : Prop where
  kind : sc.kind = .function
  co : sc.isCoroutine = false
  gen : sc.isGenerator = false
  nd : N.Nodup
  pre : N.take P.length = P
  par : ∀ x ∈ P, sc.names.lookup x = some .local ∨ sc.names.lookup x = some .cell
  nofree : ∀ y ∈ sc.names, y.2 ≠ .free

theorem bindL_out {kindOf : Str → Option NameKind} {x : Str} : ∀ {binds : List (Str × Value)} {m : Str → Option Value}, (∀ v, (x, v) ∉ binds) → bindL kindOf binds m x = m x
  | [], _, _ => rfl
  | (n, v) :: r, m, h => by
    unfold bindL
    rw [bindL_out fun w hw => h w (List.mem_cons_of_mem _ hw)]
    split
    · have : x ≠ n := by rintro rfl; exact h v List.mem_cons_self
      simp [this]
    · rfl
theorem bindC_out {kindOf : Str → Option NameKind} {x : Str} : ∀ {binds : List (Str × Value)} {m : Str → Option Value}, (∀ v, (x, v) ∉ binds) → bindC kindOf binds m x = m x
  | [], _, _ => rfl
  | (n, v) :: r, m, h => by
    unfold bindC
    rw [bindC_out fun w hw => h w (List.mem_cons_of_mem _ hw)]
    split
    · rfl
    · have : x ≠ n := by rintro rfl; exact h v List.mem_cons_self
      simp [this]
theorem bindL_get {kindOf : Str → Option NameKind} {x : Str} {v : Value} : ∀ {P : List Str} {vs : List Value} {i : Nat} {m : Str → Option Value}, P.Nodup → P[i]? = some x → vs[i]? = some v → kindOf x = some .local →
    bindL kindOf (P.zip vs) m x = some v
  | [], _, _, _, _, h, _, _ => by simp at h
  | _ :: _, [], _, _, _, _, h, _ => by simp at h
  | p :: P, w :: vs, 0, m, nd, h1, h2, hk => by
    simp at h1 h2; subst h1; subst h2
    show bindL kindOf ((p, w) :: P.zip vs) m p = _
    unfold bindL
    rw [bindL_out fun v hv => (List.nodup_cons.mp nd).1 (List.of_mem_zip hv).1, if_pos hk]
    simp
  | p :: P, w :: vs, i + 1, m, nd, h1, h2, hk => by
    show bindL kindOf ((p, w) :: P.zip vs) m x = _
    unfold bindL
    exact bindL_get (i := i) (List.nodup_cons.mp nd).2 (by simpa using h1) (by simpa using h2) hk
theorem bindC_get {kindOf : Str → Option NameKind} {x : Str} {v : Value} : ∀ {P : List Str} {vs : List Value} {i : Nat} {m : Str → Option Value}, P.Nodup → P[i]? = some x → vs[i]? = some v → kindOf x ≠ some .local →
    bindC kindOf (P.zip vs) m x = some v
  | [], _, _, _, _, h, _, _ => by simp at h
  | _ :: _, [], _, _, _, _, h, _ => by simp at h
  | p :: P, w :: vs, 0, m, nd, h1, h2, hk => by
    simp at h1 h2; subst h1; subst h2
    show bindC kindOf ((p, w) :: P.zip vs) m p = _
    unfold bindC
    rw [bindC_out fun v hv => (List.nodup_cons.mp nd).1 (List.of_mem_zip hv).1, if_neg hk]
    simp
  | p :: P, w :: vs, i + 1, m, nd, h1, h2, hk => by
    show bindC kindOf ((p, w) :: P.zip vs) m x = _
    unfold bindC
    exact bindC_get (i := i) (List.nodup_cons.mp nd).2 (by simpa using h1) (by simpa using h2) hk

/-- the names' values at the entry -/
def start (N : List Str) (vs : List V) : St := vs.map some ++ List.replicate (N.length - vs.length) none

/-- the context of a def's body, at its entry; an exception leaves the frame, then lies as CX says -/
def cxOf (CX : CXT) (P : Program) (w : World) (K : PySem.W.Frag) (mg : Str → Option Value) (base : Heap) (N : List Str) (qual : Str) (scope : Scope) (f : Addr) (cd : Value) (A : Around) (outer : List Env) (s : Shared) (H : Hp) (E : XK) : Cx where
  prog := P
  w := w
  K := K
  mg := mg
  base := base
  A := A.deeper (envOfC qual scope s.heap.objs.size f cd)
  N := N
  s_0 := s
  H_0 := H
  env := envOfC qual scope s.heap.objs.size f cd
  outer := outer
  stack := envOfC qual scope s.heap.objs.size f cd :: outer
  ex := []
  calm := true
  fn := fun _ => true
  pn := []
  xe := fun e s' => wpAny (model P w) (A.deeper (envOfC qual scope s.heap.objs.size f cd)) (leaving (envOfC qual scope s.heap.objs.size f cd) e) (fun _ s'' => CX outer H s E e s'') (fun e' s'' => CX outer H s E e' s'') s'

theorem cell_has {sc : Scope} {n : Nat} {x : Str} (h : sc.names.lookup x = some .cell) : ∃ c, (cellsFrom n sc.names []).lookup x = some c := by
  have q := PySem.W.cellsFrom_some sc.names n [] (.inl h)
  exact Option.isSome_iff_exists.mp q

theorem inv_start {CX : CXT} {P : Program} {w : World} {K : PySem.W.Frag} {mg : Str → Option Value} {base : Heap} {N ps : List Str} {qual : Str} {scope : Scope} {f : Addr} {cd : Value} {A : Around} {outer : List Env} {s s1 : Shared} {H : Hp} {E : XK} {us : List Value} {vs : List V}
    (S : FnScope N ps scope) (hd : A.handled = none) (e0 : Env0 P w K mg base A outer s H) (hl : vs.length = ps.length) (r : Vals vs us)
    (x : InCallC s s.heap.objs.size (bindL (envOfC qual scope s.heap.objs.size f cd).kindOf (ps.zip us) fun _ => none) (cellsFrom (s.heap.objs.size + 1) scope.names []) (bindC (envOfC qual scope s.heap.objs.size f cd).kindOf (ps.zip us) fun _ => none) s1) :
    Inv (cxOf CX P w K mg base N qual scope f cd A outer s H E) [] (start N vs) H s1 := by
  have hpl : ps.length ≤ N.length := by have := congrArg List.length S.pre; rw [List.length_take] at this; omega
  obtain ⟨h1, tk, rfl, hk⟩ := x.done
  have noA : ∀ b : Addr, b ∉ (cxOf CX P w K mg base N qual scope f cd A outer s H E).ex := fun b z => absurd (show b ∈ ([] : List Addr) from z) (by simp)
  refine ⟨⟨e0.mod, S.kind, rfl, rfl, Nat.le_refl _, fun y z c h1 h2 => ?_, fun y hy => ?_, fun y c _ h => ?_, fun _ => hd, Around.frames_deeper e0.frames, .inr ⟨rfl, rfl⟩, fun b z => absurd z (noA b), e0.bs, e0.bsz, fun b _ _ => noA b, fun b z => absurd z (noA b), e0.funs, e0.frf⟩,
    rfl, e0.bare, Un.kept hk, ⟨_, x.toInCall.ns, fun i y v h1 h2 h3 => ?_⟩, fun y c h => ⟨_, x.cell y c h⟩, e0.hok.fresh (Nat.le_refl _), fun y c h => ?_, fun p hp => absurd (show p ∈ ([] : List (Addr × Obj)) from hp) (by simp), e0.hok.kept hk, ?_⟩
  · exact name_of_addr x.apart (PySem.mem_of_lookup h1) (PySem.mem_of_lookup h2)
  · have hy : scope.names.lookup y = some .cell ∨ scope.names.lookup y = some .free := hy
    rcases hy with hy | hy
    · exact cell_has hy
    · exact absurd rfl (S.nofree _ (PySem.mem_of_lookup hy))
  · exact Nat.le_of_lt (x.above y c (PySem.mem_of_lookup h))
  · have hi : i < vs.length := by
      unfold start at h2
      by_cases hi : i < vs.length
      · exact hi
      · rw [List.getElem?_append_right (by simpa using hi)] at h2
        rw [List.getElem?_replicate] at h2
        split at h2 <;> cases h2
    have ha : vs[i]? = some v := by
      unfold start at h2
      rw [List.getElem?_append_left (by simpa using hi), List.getElem?_map] at h2
      cases e : vs[i]? with
      | none => rw [e] at h2; cases h2
      | some a => rw [e] at h2; cases h2; rfl
    obtain ⟨u, hu, rv⟩ := r.get ha
    have hp : ps[i]? = some y := by
      rw [← S.pre, List.getElem?_take_of_lt (by omega)]; exact h1
    have ndP : ps.Nodup := by rw [← S.pre]; exact S.nd.sublist (List.take_sublist _ _)
    refine ⟨u, rv, ?_⟩
    rcases S.par y (List.mem_of_getElem? hp) with k | k
    · exact .inl ⟨k, bindL_get ndP hp hu k⟩
    · obtain ⟨c, e⟩ := cell_has (n := s.heap.objs.size + 1) k
      refine .inr ⟨.inl k, c, e, ?_⟩
      have q := x.cell y c e
      rw [bindC_get ndP hp hu (by show scope.names.lookup y ≠ _; rw [k]; decide)] at q
      exact q
  · exact e0.hok.fresh (Nat.le_of_lt (x.above y c (PySem.mem_of_lookup h)))
  · unfold start
    show _ = N.length
    rw [List.length_append, List.length_map, List.length_replicate]
    omega

/-- THE RULE: a def (or a method) of the text, by its body. The body's reading t is chosen for each entry; it is run at the parameters' values -/
theorem fn_of {CX : CXT} {P : Program} {w : World} {K : PySem.W.Frag} {mg : Str → Option Value} {base : Heap} {k : Nat} {f : Addr} {name qual : Str} {params : Arguments} {body : List Stmt} {scope : Scope} {dV kV doc pm cdv ct oc : Value} {an od : Option Addr}
    {osl : Array (Option Value)} {N ps : List Str} {sp : Sp} (lk : K.lookup f = some ⟨oc, od, .func (PySem.W.fnOf name qual params body scope dV kV doc pm an cdv ct), osl⟩) (hcd : PySem.W.codeIn K cdv qual = true) (S : FnScope N ps scope)
    (len : ∀ vs H Q E, sp vs H Q E → vs.length = ps.length)
    (hbody : ∀ (A : Around) (outer : List Env) (s : Shared) (H : Hp) (vs : List V) (Q : VK) (E : XK), Room k (A.deeper (envOfC qual scope s.heap.objs.size f cdv)) → sp vs H Q E →
      ∃ t, PSs (cxOf CX P w K mg base N qual scope f cdv A outer s H E) body t ∧ t { nx := fun _ H' => Q .non H', rt := Q } (start N vs) H) :
    FnOk P w K mg base CX (k + 1) f (PySem.W.fnOf name qual params body scope dV kV doc pm an cdv ct) ps sp := by
  refine ⟨len, fun A outer s H args us vs Q E hr e0 hb r hsp => ?_⟩
  have hl := len _ _ _ _ hsp
  have KX : K.In s.heap := e0.mod.kin.keeps fun b o e => (e0.bs b o e).1
  have lim : s.heap.NoLimit := e0.mod.nolimit.keeps fun b o e => (e0.bs b o e).1
  have hkind : ∀ y ∈ ps.zip us, scope.names.lookup y.1 = some .local ∨ (scope.names.lookup y.1 = some .cell ∧ ((cellsFrom (s.heap.objs.size + 1) scope.names []).lookup y.1).isSome = true) := fun ⟨n, v⟩ hy => by
    rcases S.par n (List.of_mem_zip hy).1 with q | q
    · exact .inl q
    · exact .inr ⟨q, PySem.W.cellsFrom_some _ _ _ (.inl q)⟩
  refine codeAny_call_function hr.depth (KX _ _ lk) rfl S.co S.gen rfl (PySem.W.codeRec_of KX hcd) (hb _ _ _ _ ?_)
  refine wpAny_newFunctionEnv_cells S.kind hkind fun env he s1 x => ?_
  subst he
  refine ⟨lim.keeps x.toInCall.keep, codeAny_func ?_⟩
  obtain ⟨t, ht, hq⟩ := hbody A outer s H vs Q E (hr.deeper _) hsp
  have I : Inv (cxOf CX P w K mg base N qual scope f cdv A outer s H E) [] (start N vs) H s1 := inv_start S hr.hd e0 hl r x
  refine wpAny_mono (ht [] s1 (start N vs) H _ I hq) (fun fl s' hs => ?_) fun e s' hs => hs
  have fin : ∀ {σ' : St} {H' : Hp} {v : V} {u : Value}, Inv (cxOf CX P w K mg base N qual scope f cdv A outer s H E) [] σ' H' s' → RelV v u → Q v H' → CE outer P w H s Q u s' :=
    fun {σ' H' v u} J rv q => ⟨v, H', J.os, J.bare, J.base, J.hok, rv, q⟩
  cases fl with
  | ret u =>
    obtain ⟨v, σ', H', J, rv, q⟩ := hs
    exact fin J rv q
  | next =>
    obtain ⟨σ', H', J, q⟩ := hs
    exact fin (v := V.non) (u := Value.none) J rfl q
  | brk =>
    obtain ⟨_, _, _, q⟩ := hs
    exact False.elim q
  | cont =>
    obtain ⟨_, _, _, q⟩ := hs
    exact False.elim q
end L2

namespace L2
open PySem PySem.Spec PyProof.Rows
section
variable {X : Cx} {x : Str} {p pos : Pos} {e : Expr} {es : List Expr} {t : TA} {id T : String} {r : List V → Hp → VK → Prop}

def tCB (r : List V → Hp → VK → Prop) (t : TA) : TE := fun σ H Q => t σ H fun vs H1 => r vs H1 Q
/-- f(e, ..), f a built-in function -/
theorem pe_callB (hc : CallR X (.builtin id) r) (hg : Gl X x) (hm : X.mg x = none) (hv : bootBuiltins x = some (.builtin id)) (ha : PA X (e :: es) t) (hn : x ≠ "__name__" := by decide) (hdb : (x == ("__debug__" : Str)) = false := by decide)
    (he : starEach (e :: es) X.env = (false, eval e X.env) :: starEach es X.env := by rfl) (hpl : (backTo pos (starEach es X.env)).any (·.1) = false := by rfl) : PE X (.Call (.Name x p) (e :: es) [] pos) (tCB r t) := by
  intro pins s σ H Q I h
  refine wpAny_Call_Name_kw (ld_blt I hg hm hv ?_ hn hdb)
  exact PyProof.Rows.callWith_builtin1 (thn (ha pos pins s σ H _ I h) fun us s1 ⟨vs, H1, I1, r1, q1⟩ => hc pins s1 σ H1 vs us Q I1 r1 q1) he hpl
/-- T(e, ..), T a built-in type -/
theorem pe_callTy (hc : CallR X (.type T) r) (hg : Gl X x) (hm : X.mg x = none) (hv : bootBuiltins x = some (.type T)) (ha : PA X (e :: es) t) (hn : x ≠ "__name__" := by decide) (hdb : (x == ("__debug__" : Str)) = false := by decide)
    (he : starEach (e :: es) X.env = (false, eval e X.env) :: starEach es X.env := by rfl) (hpl : (backTo pos (starEach es X.env)).any (·.1) = false := by rfl) : PE X (.Call (.Name x p) (e :: es) [] pos) (tCB r t) := by
  intro pins s σ H Q I h
  refine wpAny_Call_Name_kw (ld_blt I hg hm hv ?_ hn hdb)
  exact PyProof.Rows.callWith_type1 (thn (ha pos pins s σ H _ I h) fun us s1 ⟨vs, H1, I1, r1, q1⟩ => hc pins s1 σ H1 vs us Q I1 r1 q1) he hpl
end
end L2

namespace HT
open PySem PyProof.Rows

section
open PySem.SeqAt
open PySem.AutoSeq1 (wpAny_loadPart')
open PySem.MeetsSeq PySem.MeetsSeq2 PySem.MeetsSeq3

end

section
variable {prog : Program} {w : World} {A : Around} {E : Value → Shared → Prop} {s : Shared}

/-- a slice's bound as a place among n (d where it is left out) -/
def sIx (n d : Nat) : Option Int → Nat
  | none => d
  | some v => if v < 0 then (v + (n : Int)).toNat else min v.toNat n
theorem sIx_nat (n d k : Nat) : sIx n d (some (k : Int)) = min k n := by
  show (if (k : Int) < 0 then ((k : Int) + (n : Int)).toNat else min (k : Int).toNat n) = min k n
  rw [if_neg (by omega), Int.toNat_natCast]
end
end HT

namespace L2
open PySem PySem.Spec PyProof.Rows

abbrev TO := St → Hp → (Option Int → Hp → Prop) → Prop
/-- a slice's part (left out, or an int) -/
def PO (X : Cx) (e : Option Expr) (t : TO) : Prop :=
  ∀ (pins : List (Addr × Obj)) (s : Shared) (σ : St) (H : Hp) (Q : Option Int → Hp → Prop), Inv X pins σ H s → t σ H Q →
    wpAny (model X.prog X.w) X.A (evalPart e X.env) (fun u s' => ∃ o H', Inv X pins σ H' s' ∧ IsPart u o ∧ Q o H') X.xe s
def tPart (t : TE) : TO := fun σ H Q => t σ H fun x H1 => ∃ i, x = .int i ∧ Q (some i) H1

section
variable {X : Cx} {e : Expr} {te : TE} {lo hi : Option Expr} {tl th : TO} {pos p2 : Pos}

theorem po_some (h : PE X e te) : PO X (some e) (tPart te) := by
  intro pins s σ H Q I hw
  rw [evalPart_some]
  refine thn (h pins s σ H _ I hw) fun u s1 ⟨x, H1, I1, r1, q1⟩ => ?_
  obtain ⟨i, rfl, q⟩ := q1
  obtain ⟨t, rfl⟩ := r1
  exact ⟨some i, H1, I1, .int i t, q⟩

/-- what a slice of a value is, by values: the slice object stands at sl -/
def SlR (X : Cx) (r : V → Option Int → Option Int → Hp → VK → Prop) : Prop :=
  ∀ (pins : List (Addr × Obj)) (s : Shared) (σ : St) (H : Hp) (x : V) (v vl vu : Value) (lo hi : Option Int) (sl : Addr) (Q : VK), Inv X pins σ H s → RelV x v → s.heap.IsSliceOf sl vl vu .none → IsPart vl lo → IsPart vu hi → r x lo hi H Q →
    ∃ T id, typeLookup (.type T) "__getitem__" = pure (some (.builtin id)) ∧ s.TypeIs v T ∧ wpAny (model X.prog X.w) X.A (getItem v (.ref sl)) (EP X pins σ Q) X.xe s
theorem SlR.or {r r' : V → Option Int → Option Int → Hp → VK → Prop} (h : SlR X r) (h' : SlR X r') : SlR X (fun x lo hi H Q => r x lo hi H Q ∨ r' x lo hi H Q) := by
  intro pins s σ H x v vl vu lo hi sl Q I rx hs pl pu q
  rcases q with q | q
  · exact h pins s σ H x v vl vu lo hi sl Q I rx hs pl pu q
  · exact h' pins s σ H x v vl vu lo hi sl Q I rx hs pl pu q
def tSl (r : V → Option Int → Option Int → Hp → VK → Prop) (te : TE) (tl th : TO) : TE := fun σ H Q => te σ H fun x H1 => tl σ H1 fun l H2 => th σ H2 fun u H3 => r x l u H3 Q
/-- a[lo:hi], any a -/
theorem pe_slice {r : V → Option Int → Option Int → Hp → VK → Prop} (hr : SlR X r) (he : PE X e te) (hl : PO X lo tl) (hu : PO X hi th) : PE X (.Subscript e (.Slice lo hi none p2) pos) (tSl r te tl th) := by
  intro pins s σ H Q I h
  refine Subscript_ (thn (he pins s σ H _ I h) fun v s1 ⟨x, H1, I1, r1, q1⟩ => ?_)
  refine wpAny_Slice (thn (hl pins s1 σ H1 _ I1 q1) fun vl s2 ⟨l, H2, I2, pl, q2⟩ => thn (hu pins s2 σ H2 _ I2 q2) fun vu s3 ⟨u, H3, I3, pu, q3⟩ => ?_)
  rw [evalPart_none]
  refine wpAny_pure ?_
  have I4 : Inv X pins σ H3 { s3 with heap := s3.heap.push { cls := .type "slice", data := .fields #[vl, vu, .none] } } := I3.kept (t' := s3.toks) fun b ob q => Heap.get?_push_of_some _ q
  obtain ⟨T, id, hT, ht, hg⟩ := hr pins { s3 with heap := s3.heap.push { cls := .type "slice", data := .fields #[vl, vu, .none] } } σ H3 x v vl vu l u s3.heap.objs.size Q I4 r1 (Heap.IsSliceOf.new ..) pl pu q3
  show wpAny (model X.prog X.w) X.A (subscriptTail e (.Slice lo hi none p2) v (.ref s3.heap.objs.size)) (EP X pins σ Q) X.xe { s3 with heap := s3.heap.push { cls := .type "slice", data := .fields #[vl, vu, .none] } }
  exact tail_any (ops := [.ref s3.heap.objs.size, v]) ht hT hg (by with_unfolding_all rfl)

/-- the items of xs[lo:hi] -/
def cutV (xs : List V) (lo hi : Option Int) : List V := (xs.drop (HT.sIx xs.length 0 lo)).take (HT.sIx xs.length xs.length hi - HT.sIx xs.length 0 lo)
theorem cutV_length (xs : List V) (lo hi : Option Int) : (cutV xs lo hi).length ≤ xs.length := by
  unfold cutV
  rw [List.length_take, List.length_drop]
  omega
end
end L2

namespace L2
open PySem PySem.Spec PyProof.Rows

/-- the place that an index of any sign means -/
def ixN (n : Nat) (i : Int) : Option Nat := if 0 ≤ i then (if i < n then some i.toNat else none) else if -(n : Int) ≤ i then some (i + n).toNat else none
def atI {α : Type} (xs : List α) (i : Int) : Option α := (ixN xs.length i).bind fun j => xs[j]?
theorem ixN_seq {n : Nat} {i : Int} {j : Nat} (h : ixN n i = some j) : seqIndex? i n = some j ∧ j < n ∧ -(n : Int) ≤ i ∧ i < n := by
  unfold ixN at h
  by_cases h0 : 0 ≤ i
  · rw [if_pos h0] at h
    by_cases h1 : i < n
    · rw [if_pos h1] at h
      have e : i.toNat = j := Option.some.inj h
      exact ⟨by rw [seqIndex_of h0 h1, e], by omega, by omega, h1⟩
    · rw [if_neg h1] at h; cases h
  · rw [if_neg h0] at h
    by_cases h1 : -(n : Int) ≤ i
    · rw [if_pos h1] at h
      have e : (i + n).toNat = j := Option.some.inj h
      exact ⟨by rw [seqIndex_neg (by omega) h1, e], by omega, h1, by omega⟩
    · rw [if_neg h1] at h; cases h
theorem atI_get {α : Type} {xs : List α} {i : Int} {v : α} (h : atI xs i = some v) : ∃ j, seqIndex? i xs.length = some j ∧ xs[j]? = some v ∧ j < xs.length ∧ -(xs.length : Int) ≤ i ∧ i < xs.length := by
  unfold atI at h
  cases e : ixN xs.length i with
  | none => rw [e] at h; cases h
  | some j =>
    rw [e] at h
    obtain ⟨h1, h2, h3, h4⟩ := ixN_seq e
    exact ⟨j, h1, h, h2, h3, h4⟩
theorem atI_nat {α : Type} {xs : List α} {j : Nat} {v : α} (h : xs[j]? = some v) : atI xs (j : Int) = some v := by
  have hj : j < xs.length := (List.getElem?_eq_some_iff.mp h).1
  have e : ixN xs.length (j : Int) = some j := by
    unfold ixN
    rw [if_pos (by omega), if_pos (by omega)]; simp
  unfold atI; rw [e]; exact h
/-- what stands as an index of a plain subscript -/
def PlainIx (b : Expr) : Prop := ∀ o i, subscripted b false o i = operate [o, i] (getItem o i)
/-- a subscript by values -/
def IxR (X : Cx) (r : R2) : Prop :=
  ∀ (value slice : Expr) (pins : List (Addr × Obj)) (s : Shared) (σ : St) (H : Hp) (x y : V) (v u : Value) (Q : VK), Inv X pins σ H s → RelV x v → RelV y u → r x y H Q →
    subscripted slice false v u = operate [v, u] (getItem v u) → wpAny (model X.prog X.w) X.A (subscriptTail value slice v u) (EP X pins σ Q) X.xe s
/-- a call of a builtin's method by values: the receiver, the arguments -/
def MtR (X : Cx) (id : String) (r : V → List V → Hp → VK → Prop) : Prop :=
  ∀ (pins : List (Addr × Obj)) (s : Shared) (σ : St) (H : Hp) (x : V) (xs : List V) (v : Value) (us : List Value) (Q : VK), Inv X pins σ H s → RelV x v → Vals xs us → r x xs H Q →
    wpAny (model X.prog X.w) X.A (call (.builtin id) (v :: us)) (EP X pins σ Q) X.xe s
section
variable {X : Cx} {a b : Expr} {ta tb : TE} {pos : Pos}
theorem IxR.or {r r' : R2} (h : IxR X r) (h' : IxR X r') : IxR X (fun x y H Q => r x y H Q ∨ r' x y H Q) := by
  intro value slice pins s σ H x y v u Q I rx ry q hs
  rcases q with q | q
  · exact h value slice pins s σ H x y v u Q I rx ry q hs
  · exact h' value slice pins s σ H x y v u Q I rx ry q hs
theorem MtR.or {id : String} {r r' : V → List V → Hp → VK → Prop} (h : MtR X id r) (h' : MtR X id r') : MtR X id (fun x xs H Q => r x xs H Q ∨ r' x xs H Q) := by
  intro pins s σ H x xs v us Q I rx rs q
  rcases q with q | q
  · exact h pins s σ H x xs v us Q I rx rs q
  · exact h' pins s σ H x xs v us Q I rx rs q
/-- a[b] -/
theorem pe_ix {r : R2} (hr : IxR X r) (ha : PE X a ta) (hb : PE X b tb) (hs : PlainIx b) : PE X (.Subscript a b pos) (tOp r ta tb) := by
  intro pins s σ H Q I h
  exact Subscript_ (binT ha hb I h fun v u s2 x y H2 I2 rx ry q => hr a b pins s2 σ H2 x y v u Q I2 rx ry q (hs _ _))

def rIxL (K : PySem.W.Frag) : R2 := fun x y H Q => ∃ p xs i v, x = .ref p ∧ y = .int i ∧ SqL K H p xs ∧ atI xs i = some v ∧ Q v H
def rIxT (K : PySem.W.Frag) : R2 := fun x y H Q => ∃ p xs i v, x = .ref p ∧ y = .int i ∧ SqT K H p xs ∧ atI xs i = some v ∧ Q v H
theorem ix_list : IxR X (rIxL X.K) := by
  intro value slice pins s σ H x y v u Q I rx ry h hs
  obtain ⟨p, xs, i, z, rfl, rfl, hq, he, q⟩ := h
  cases rx
  obtain ⟨t, rfl⟩ := ry
  obtain ⟨its, r, pl, hz⟩ := I.list hq
  obtain ⟨j, h1, h2, h3, h4, h5⟩ := atI_get he
  obtain ⟨w, ew, rw'⟩ := r.get h2
  have hl := r.length
  have hn := line63
  have fin : EP X pins σ Q w s := ⟨z, H, I, rw', q⟩
  by_cases h0 : 0 ≤ i
  · have hj : i.toNat = j := by
      rw [seqIndex_of h0 h5] at h1
      exact Option.some.inj h1
    exact item_listR pl.isList h0 (by omega) (by rw [hj]; simpa using ew) fin hs
  · have hj : (i + (its.toArray.size : Int)).toNat = j := by
      rw [seqIndex_neg (by omega) h4] at h1
      rw [List.size_toArray, ← hl]
      exact Option.some.inj h1
    exact subscriptTail_builtinR (x := w) pl.isList.typeIs slot_list_getitem.lookup
      (wpAny_getItem_list_neg (Q := fun r s' => r = w ∧ EP X pins σ Q r s') pl.isList (by omega) (by rw [List.size_toArray] <;> omega) (by omega) (by rw [hj]; simpa using ew) ⟨rfl, fin⟩) hs
theorem ix_tup : IxR X (rIxT X.K) := by
  intro value slice pins s σ H x y v u Q I rx ry h hs
  obtain ⟨p, xs, i, z, rfl, rfl, hq, he, q⟩ := h
  cases rx
  obtain ⟨t, rfl⟩ := ry
  obtain ⟨its, r, pl, hz⟩ := I.tuple hq
  obtain ⟨j, h1, h2, h3, h4, h5⟩ := atI_get he
  obtain ⟨w, ew, rw'⟩ := r.get h2
  have hl := r.length
  have hn := line63
  have fin : EP X pins σ Q w s := ⟨z, H, I, rw', q⟩
  exact subscriptTail_builtinR (x := w) pl.typeIs slot_tuple_getitem.lookup
    (getItem_tuple (j := j) (Q := fun r s' => r = w ∧ EP X pins σ Q r s') pl (by omega) (by omega) (by rw [List.size_toArray, ← hl]; exact h1) (by simpa using ew) ⟨rfl, fin⟩) hs
/-- the list's object behind a store -/
theorem mapSeq_set (its : List Value) (n j : Nat) (u : Value) : Obj.mapSeq (·.setIfInBounds j u) { cls := .type "list", data := .seq its.toArray n } = { cls := .type "list", data := .seq (its.set j u).toArray n } := by
  simp [Obj.mapSeq]
theorem Inv.lst {pins : List (Addr × Obj)} {σ : St} {H : Hp} {s : Shared} {p : Addr} {xs : List V} (I : Inv X pins σ H s) (h : H p = some (.lst xs)) :
    ∃ (its : List Value) (n : Nat), Vals xs its ∧ s.heap.get? p = some { cls := .type "list", data := .seq its.toArray n } ∧ xs.length ≤ sizeLine := by
  obtain ⟨z, its, n, r, e⟩ := I.hok p _ h
  exact ⟨its, n, r, e, z⟩
/-- the list at p is written by an update of its object -/
theorem Inv.lstUpd {pins : List (Addr × Obj)} {σ : St} {H : Hp} {s : Shared} {p : Addr} {xs ys : List V} {its its' : List Value} {n n' : Nat} {f : Obj → Obj} (I : Inv X pins σ H s) (h : H p = some (.lst xs))
    (ho : s.heap.get? p = some { cls := .type "list", data := .seq its.toArray n }) (hf : f { cls := .type "list", data := .seq its.toArray n } = { cls := .type "list", data := .seq its'.toArray n' }) (r : Vals ys its') (hz : ys.length ≤ sizeLine) (t : Nat) :
    Inv X pins σ (upd H p (.lst ys)) { s with heap := s.heap.update p f, toks := t } := by
  have e : (s.heap.update p f).get? p = some { cls := .type "list", data := .seq its'.toArray n' } := by
    rw [Heap.get?_update_self f ho (by rw [hf] <;> rfl), hf]
  refine I.write (x := p) (e := p) (by rw [h]; trivial) (.inl rfl) (fun b u hb q => (Heap.get?_update_other _ _ (Ne.symm hb)).trans q) ⟨_, e⟩ ?_
  exact ⟨hz, its', n', r, e⟩
def rSetL : V → V → V → Hp → (Hp → Prop) → Prop := fun o i v H Q => ∃ p xs k j, o = .ref p ∧ i = .int k ∧ H p = some (.lst xs) ∧ ixN xs.length k = some j ∧ Q (upd H p (.lst (xs.set j v)))
theorem set_list : PSet X rSetL := by
  intro pins s σ H o i v ov iv u Q I ro ri rv h
  obtain ⟨p, xs, k, j, rfl, rfl, hp, hj, q⟩ := h
  cases ro
  obtain ⟨t, rfl⟩ := ri
  obtain ⟨its, n, r, ho, hz⟩ := I.lst hp
  obtain ⟨h1, h2, h3, h4⟩ := ixN_seq hj
  have hl := r.length
  have hn := line63
  have I' : Inv X pins σ (upd H p (.lst (xs.set j v))) { s with heap := s.heap.update p (Obj.mapSeq (·.setIfInBounds j u)) } :=
    I.lstUpd hp ho (mapSeq_set its n j u) (r.set rv j) (by rw [List.length_set]; exact hz) s.toks
  by_cases h0 : 0 ≤ k
  · have hk : k.toNat = j := by
      rw [seqIndex_of h0 h4] at h1
      exact Option.some.inj h1
    exact PySem.W.ki_setAt ho h0 (by omega) (by rw [List.size_toArray, ← hl]; exact h4) (by rw [hk]; exact ⟨_, I', q⟩)
  · have hk : (k + (its.toArray.size : Int)).toNat = j := by
      rw [seqIndex_neg (by omega) h3] at h1
      rw [List.size_toArray, ← hl]
      exact Option.some.inj h1
    exact PySem.W.ki_setBack ho (by omega) (by rw [List.size_toArray, ← hl]; exact h3) (by omega) (by rw [hk]; exact ⟨_, I', q⟩)

theorem slice_bounds (lo hi : Option Int) (n : Nat) : (sliceBounds lo hi none n).1 = ((HT.sIx n 0 lo : Nat) : Int) ∧ (sliceBounds lo hi none n).2.1 = ((HT.sIx n n hi : Nat) : Int) ∧ (sliceBounds lo hi none n).2.2 = 1 := by
  refine ⟨?_, ?_, rfl⟩
  · cases lo with
    | none => simp [sliceBounds, HT.sIx]
    | some i =>
      simp only [sliceBounds, HT.sIx, Option.getD_none, show (1 : Int) > 0 by decide, if_true]
      by_cases h : i < 0
      · simp only [h, if_true] <;> omega
      · simp only [h, if_false] <;> omega
  · cases hi with
    | none => simp [sliceBounds, HT.sIx]
    | some i =>
      simp only [sliceBounds, HT.sIx, Option.getD_none, show (1 : Int) > 0 by decide, if_true]
      by_cases h : i < 0
      · simp only [h, if_true] <;> omega
      · simp only [h, if_false] <;> omega
theorem slicePick_cut (its : List Value) (lo hi : Option Int) : slicePick its.toArray lo hi none = ((its.drop (HT.sIx its.length 0 lo)).take (HT.sIx its.length its.length hi - HT.sIx its.length 0 lo)).toArray := by
  obtain ⟨h1, h2, h3⟩ := slice_bounds lo hi its.toArray.size
  unfold slicePick
  rw [h1, h2, h3]
  simp only [sliceRange_one, pick_run, List.size_toArray] <;> rfl
/-- xs[lo:hi] of a list: a new list -/
def rSlL (K : PySem.W.Frag) : V → Option Int → Option Int → Hp → VK → Prop := fun x lo hi H Q => ∃ a xs, x = .ref a ∧ SqL K H a xs ∧ ∀ p, H p = none → Q (.ref p) (upd H p (.lst (cutV xs lo hi)))
theorem sl_list : SlR X (rSlL X.K) := by
  intro pins s σ H x v vl vu lo hi sl Q I rx hs pl pu h
  obtain ⟨a, xs, rfl, hx, q⟩ := h
  cases rx
  obtain ⟨its, r, ht, hz⟩ := I.list hx
  have hlen := r.length
  refine ⟨"list", _, slot_list_getitem.lookup, ht.isList.typeIs, ?_⟩
  refine wpAny_getItem_list_slice ht.isList hs pl pu .none (by simp) ?_ (by rw [List.size_toArray] <;> omega)
  rw [slicePick_cut, ← hlen]
  refine ⟨.ref s.heap.objs.size, _, I.laid (t' := s.toks) (o := .lst (cutV xs lo hi)) (fun b ob q => Heap.get?_push_of_some _ q) (Nat.le_refl _) ?_, rfl, q _ (I.hok.fresh (Nat.le_refl _))⟩
  exact ⟨Nat.le_trans (cutV_length xs lo hi) hz, _, 0, (r.drop (HT.sIx xs.length 0 lo)).take (HT.sIx xs.length xs.length hi - HT.sIx xs.length 0 lo), Heap.get?_push_size _ rfl⟩

def flatV : V → Bool
  | .non => true
  | .bl _ => true
  | .int _ => true
  | .str _ => true
  | _ => false
/-- == of flat values -/
def eqV : V → V → Bool
  | .non, .non => true
  | .bl a, .bl b => a == b
  | .bl a, .int b => (if a then 1 else 0) == b
  | .int a, .bl b => a == (if b then 1 else 0)
  | .int a, .int b => a == b
  | .str a, .str b => a == b
  | _, _ => false
theorem eqAt_V {A : Around} {s : Shared} {y x : V} {u v : Value} (ry : RelV y u) (rx : RelV x v) (fy : flatV y = true) (fx : flatV x = true) : SeqAt.EqAt A s u v (eqV y x) := by
  cases y with
  | non =>
    cases ry
    cases x with
    | non => cases rx; exact SeqAt.EqAt.same _
    | bl b => cases rx; exact SeqAt.EqAt.none_bool b
    | int b => obtain ⟨t, rfl⟩ := rx; exact SeqAt.EqAt.none_int b t
    | str b => obtain ⟨t, rfl⟩ := rx; exact SeqAt.EqAt.none_str b t
    | _ => exact absurd (show false = true from fx) Bool.false_ne_true
  | bl a =>
    cases ry
    cases x with
    | non => cases rx; exact SeqAt.EqAt.bool_none a
    | bl b => cases rx; exact SeqAt.EqAt.bool_bool a b
    | int b => obtain ⟨t, rfl⟩ := rx; exact SeqAt.EqAt.bool_int a b t
    | str b => obtain ⟨t, rfl⟩ := rx; exact SeqAt.EqAt.bool_str a b t
    | _ => exact absurd (show false = true from fx) Bool.false_ne_true
  | int a =>
    obtain ⟨t', rfl⟩ := ry
    cases x with
    | non => cases rx; exact SeqAt.EqAt.int_none a t'
    | bl b => cases rx; exact SeqAt.EqAt.int_bool a t' b
    | int b => obtain ⟨t, rfl⟩ := rx; exact SeqAt.EqAt.int_int a t' b t
    | str b => obtain ⟨t, rfl⟩ := rx; exact SeqAt.EqAt.int_str a t' b t
    | _ => exact absurd (show false = true from fx) Bool.false_ne_true
  | str a =>
    obtain ⟨t', rfl⟩ := ry
    cases x with
    | non => cases rx; exact SeqAt.EqAt.str_none a t'
    | bl b => cases rx; exact SeqAt.EqAt.str_bool a t' b
    | int b => obtain ⟨t, rfl⟩ := rx; exact SeqAt.EqAt.str_int a t' b t
    | str b => obtain ⟨t, rfl⟩ := rx; exact SeqAt.EqAt.str_str a t' b t
    | _ => exact absurd (show false = true from fx) Bool.false_ne_true
  | _ => exact absurd (show false = true from fy) Bool.false_ne_true
/-- the items' answers, read off the values (a value's own answer does not lean on its token) -/
def eqU (x : V) (u : Value) : Bool := match u with
  | .none => eqV .non x
  | .bool b => eqV (.bl b) x
  | .int i _ => eqV (.int i) x
  | .str z _ => eqV (.str z) x
  | _ => false
theorem eqU_of {x y : V} {u : Value} (r : RelV y u) (f : flatV y = true) : eqU x u = eqV y x := by
  cases y with
  | non => cases r; rfl
  | bl b => cases r; rfl
  | int i => obtain ⟨t, rfl⟩ := r; rfl
  | str z => obtain ⟨t, rfl⟩ := r; rfl
  | _ => exact absurd (show false = true from f) Bool.false_ne_true
theorem mem_eqAt {A : Around} {s : Shared} {x : V} {v : Value} (rx : RelV x v) (fx : flatV x = true) : ∀ {xs : List V} {us : List Value}, Vals xs us → xs.all flatV = true → ∀ u ∈ us, SeqAt.EqAt A s u v (eqU x u)
  | _, _, .nil, _ => fun u hu => by cases hu
  | y :: xs, u :: us, .cons r t, f => fun u' hu => by
    rw [List.all_cons, Bool.and_eq_true] at f
    rcases List.mem_cons.mp hu with rfl | hu
    · rw [eqU_of r f.1]; exact eqAt_V r rx f.1 fx
    · exact mem_eqAt rx fx t f.2 u' hu
theorem call_len_seq : CallR X (.builtin "len") (fun xs H Q => ∃ p ys, xs = [.ref p] ∧ (SqL X.K H p ys ∨ SqT X.K H p ys) ∧ Q (.int ys.length) H) := by
  intro pins s σ H xs us Q I r h
  obtain ⟨p, ys, rfl, hq, q⟩ := h
  obtain ⟨u, rfl, rx⟩ := vals1 r
  cases rx
  have hn := line63
  rcases hq with hq | hq
  · obtain ⟨its, r', pl, hz⟩ := I.list hq
    have hlen := r'.length
    exact Calls.call_len_list pl.isList (by simp only [List.size_toArray] <;> omega) ⟨.int ys.length, H, I.tok _, ⟨s.toks + 1, by rw [List.size_toArray, hlen]⟩, q⟩
  · obtain ⟨its, r', pl, hz⟩ := I.tuple hq
    have hlen := r'.length
    exact len_tuple pl (by simp only [List.size_toArray] <;> omega) ⟨.int ys.length, H, I.tok _, ⟨s.toks + 1, by rw [List.size_toArray, hlen]⟩, q⟩
theorem CallR.or {f : Value} {r r' : List V → Hp → VK → Prop} (h : CallR X f r) (h' : CallR X f r') : CallR X f (fun xs H Q => r xs H Q ∨ r' xs H Q) := by
  intro pins s σ H xs us Q I rs q
  rcases q with q | q
  · exact h pins s σ H xs us Q I rs q
  · exact h' pins s σ H xs us Q I rs q
theorem call_list_of : CallR X (.type "list") (fun xs H Q => ∃ p ys, xs = [.ref p] ∧ (SqL X.K H p ys ∨ SqT X.K H p ys) ∧ ∀ l, H l = none → Q (.ref l) (upd H l (.lst ys))) := by
  intro pins s σ H xs us Q I r h
  obtain ⟨p, ys, rfl, hq, q⟩ := h
  obtain ⟨u, rfl, rx⟩ := vals1 r
  cases rx
  have fin : ∀ (its : List Value), Vals ys its → ys.length ≤ sizeLine → ∀ (h' : Heap) (c' : Nat), (∀ b o', s.heap.get? b = some o' → h'.get? b = some o') →
      h'.get? s.heap.objs.size = some { cls := .type "list", dict := none, data := .seq its.toArray c', slots := #[] } → EP X pins σ Q (.ref s.heap.objs.size) { s with heap := h' } := fun its r' hz h' c' kp e =>
    ⟨.ref s.heap.objs.size, _, I.laid (t' := s.toks) kp (Nat.le_refl _) (show ObjOk X.prog X.w _ h' _ (.lst ys) from ⟨hz, its, c', r', e⟩), rfl, q _ (I.hok.fresh (Nat.le_refl _))⟩
  rcases hq with hq | hq
  · obtain ⟨its, r', pl, hz⟩ := I.list hq
    have hlen := r'.length
    obtain ⟨o, ho, hc, n, hd⟩ := pl.isList
    exact call_list_seq p (.inl rfl) ho hc hd (fun h' c' kp e => fin its r' hz h' c' kp e) (by simp only [List.size_toArray] <;> omega)
  · obtain ⟨its, r', pl, hz⟩ := I.tuple hq
    have hlen := r'.length
    obtain ⟨o, ho, hc, n, hd⟩ := pl
    exact call_list_seq p (.inr rfl) ho hc hd (fun h' c' kp e => fin its r' hz h' c' kp e) (by simp only [List.size_toArray] <;> omega)
/-- the value is of that builtin type -/
def tyV (K : PySem.W.Frag) (T : String) (x : V) (H : Hp) : Prop := match x with
  | .str _ => T = "str"
  | .int _ => T = "int"
  | .ref p => (T = "list" ∧ ∃ xs, SqL K H p xs) ∨ (T = "tuple" ∧ ∃ o, K.lookup p = some o ∧ o.cls = .type "tuple" ∧ o.dict = none) ∨
      (T = "dict" ∧ ((∃ kvs, H p = some (.dK kvs)) ∨ ∃ kvs, H p = some (.dT kvs))) ∨ (T = "set" ∧ ∃ S n, H p = some (.set S n))
  | _ => False
theorem tyV_is {pins : List (Addr × Obj)} {σ : St} {H : Hp} {s : Shared} {T : String} {x : V} {v : Value} (I : Inv X pins σ H s) (r : RelV x v) (ty : tyV X.K T x H) :
    s.TypeIs v T ∧ ∀ a, v = .ref a → ∃ ob, s.heap.get? a = some ob ∧ ob.dict = none := by
  cases x with
  | str z =>
    obtain ⟨t, rfl⟩ := r
    cases (show T = "str" from ty)
    exact ⟨typeIs_str s z t, fun _ e => nomatch e⟩
  | int i =>
    obtain ⟨t, rfl⟩ := r
    cases (show T = "int" from ty)
    exact ⟨typeIs_int s i t, fun _ e => nomatch e⟩
  | ref p =>
    cases r
    rcases ty with ⟨rfl, xs, hq⟩ | ⟨rfl, o, hk, hc, hd⟩ | ⟨rfl, hk⟩ | ⟨rfl, S, n, hk⟩
    · obtain ⟨its, _, pl, _⟩ := I.list hq
      refine ⟨pl.isList.typeIs, fun a e => ?_⟩
      cases e
      obtain ⟨o, n, e, c, hd, _⟩ := pl
      exact ⟨o, e, hd⟩
    · refine ⟨⟨o, I.kIn p o hk, hc⟩, fun a e => ?_⟩
      cases e
      exact ⟨o, I.kIn _ o hk, hd⟩
    · have z : ∃ o, s.heap.get? p = some o ∧ o.ExactDict := by
        rcases hk with ⟨kvs, hk⟩ | ⟨kvs, hk⟩
        · obtain ⟨_, _, _, _, o, _, _, e, ex, _⟩ := I.hok p _ hk
          exact ⟨o, e, ex⟩
        · obtain ⟨_, _, _, _, o, _, _, e, ex, _⟩ := I.hok p _ hk
          exact ⟨o, e, ex⟩
      obtain ⟨o, e, ex⟩ := z
      refine ⟨⟨o, e, ex.1⟩, fun a e2 => ?_⟩
      cases e2
      exact ⟨o, e, ex.2.1⟩
    · obtain ⟨o, _, _, _, e, ex, _⟩ := I.hok p _ hk
      refine ⟨⟨o, e, ex.1⟩, fun a e2 => ?_⟩
      cases e2
      exact ⟨o, e, ex.2.1⟩
  | _ => exact False.elim ty
def tBM (K : PySem.W.Frag) (T : String) (r : V → List V → Hp → VK → Prop) (to : TE) (t : TA) : TE := fun σ H Q => to σ H fun x H1 => tyV K T x H1 ∧ t σ H1 fun xs H2 => r x xs H2 Q
variable {o e : Expr} {es : List Expr} {to : TE} {t : TA} {name : Str} {apos cpos : Pos} {T id : String} {r : V → List V → Hp → VK → Prop}
theorem pe_bm (pa : PlainAttrs T) (slot : Slot T name id) (hty : typeOf (.builtin id) = pure (.type "method_descriptor")) (hm : MtR X id r) (ho : PE X o to) (ha : PA X (e :: es) t)
    (hbase : attributeBase o name X.env (eval o X.env) = eval o X.env := by rfl)
    (hfew : ((backTo cpos (starEach (e :: es) X.env)).all (fun x => !x.1) && (backToKw cpos (keywordEach [] X.env)).all (fun x => x.1.isSome)
      && decide ((e :: es).length + ([] : List Keyword).length + (if ([] : List Keyword).isEmpty then 0 else 1) < 30)) = true := by rfl)
    (hline : (apos.endLine == cpos.line) = true := by rfl) (hs : starEach (e :: es) X.env = (false, eval e X.env) :: starEach es X.env := by rfl) (hplain : (backTo cpos (starEach es X.env)).any (·.1) = false := by rfl) :
    PE X (.Call (.Attribute o name apos) (e :: es) [] cpos) (tBM X.K T r to t) := by
  intro pins s σ H Q I h
  refine wpAny_Call_method_late hbase hfew hline rfl (thn (ho pins s σ H _ I h) fun v s1 ⟨x, H1, I1, r1, ty, q1⟩ => ?_)
  obtain ⟨h1, h2⟩ := tyV_is I1 r1 ty
  refine ⟨T, id, pa, slot, hty, h1, h2, ?_⟩
  have hA := ha cpos pins s1 σ H1 _ I1 q1
  rw [hs] at hA ⊢
  refine Calls.callWith_builtin (by show (false || (backTo cpos (starEach es X.env)).any (·.1)) = false; rw [hplain] <;> rfl) (Calls.evalArgs_plain ?_)
  exact thn hA fun us s2 ⟨vs, H2, I2, r2, q2⟩ => hm pins s2 σ H2 x vs v us Q I2 r1 r2 q2
end
end L2

namespace L2
open PySem PySem.Spec PyProof.Rows

def MtM (X : Cx) (id : String) (r : V → List V → Hp → VK → Prop) : Prop :=
  ∀ (pins : List (Addr × Obj)) (s : Shared) (σ : St) (H : Hp) (x : V) (xs : List V) (v : Value) (us : List Value) (Q : VK), Inv X pins σ H s → RelV x v → Vals xs us → r x xs H Q →
    wpAny (model X.prog X.w) X.A (call (.builtin id) (v :: us)) (EP X pins σ Q) X.xe s

theorem Vals.one : ∀ {x : V} {us : List Value}, Vals [x] us → ∃ u, us = [u] ∧ RelV x u
  | _, _, .cons r .nil => ⟨_, rfl, r⟩
theorem Vals.two : ∀ {x y : V} {us : List Value}, Vals [x, y] us → ∃ u v, us = [u, v] ∧ RelV x u ∧ RelV y v
  | _, _, _, .cons r (.cons q .nil) => ⟨_, _, rfl, r, q⟩
theorem Vals.zero : ∀ {us : List Value}, Vals [] us → us = []
  | _, .nil => rfl
theorem Vals.eraseIdx : ∀ {xs : List V} {us : List Value} (i : Nat), Vals xs us → Vals (xs.eraseIdx i) (us.eraseIdx i)
  | _, _, _, .nil => .nil
  | _, _, 0, .cons _ t => t
  | _, _, i + 1, .cons r t => .cons r (Vals.eraseIdx i t)
theorem Vals.rep {xs : List V} {us : List Value} (h : Vals xs us) : ∀ k : Nat, Vals (List.replicate k xs).flatten (List.replicate k us).flatten
  | 0 => .nil
  | k + 1 => by
    rw [List.replicate_succ, List.replicate_succ, List.flatten_cons, List.flatten_cons]
    exact Vals.append h (Vals.rep h k)
theorem len_erase {α : Type} : ∀ (l : List α) (i : Nat), (l.eraseIdx i).length ≤ l.length
  | [], _ => Nat.le_refl _
  | _ :: _, 0 => Nat.le_succ _
  | _ :: r, i + 1 => Nat.succ_le_succ (len_erase r i)
theorem foldl_rep (its : List Value) : ∀ (k : Nat) (acc : List Value),
    List.foldl (fun x1 x2 => x1 ++ x2) acc.toArray (List.replicate k its.toArray) = (acc ++ (List.replicate k its).flatten).toArray
  | 0, acc => by simp
  | k + 1, acc => by
    have e : acc.toArray ++ its.toArray = (acc ++ its).toArray := by simp
    have e2 : (acc ++ its) ++ (List.replicate k its).flatten = acc ++ (List.replicate (k + 1) its).flatten := by
      rw [List.replicate_succ, List.flatten_cons, List.append_assoc]
    rw [← e2, ← foldl_rep its k (acc ++ its), ← e, List.replicate_succ, List.foldl_cons]

section
variable {X : Cx} {pins : List (Addr × Obj)} {σ : St} {H : Hp} {s : Shared} {l b : Addr} {xs ys zs : List V}

theorem Inv.lset {its its' : List Value} {n : Nat} {f : Array Value → Array Value} {t' : Nat} (I : Inv X pins σ H s) (hH : H l = some (.lst xs))
    (e : s.heap.get? l = some { cls := .type "list", data := .seq its.toArray n }) (hf : f its.toArray = its'.toArray) (hv : Vals ys its') (hz : ys.length ≤ sizeLine) :
    Inv X pins σ (upd H l (.lst ys)) { s with heap := s.heap.update l (Obj.mapSeq f), toks := t' } := by
  have q := PySem.IsL.update e f
  rw [hf] at q
  refine I.write (x := l) (e := l) (by rw [hH]; exact trivial) (.inl rfl) (fun b' u hb hu => (Heap.get?_update_other s.heap (Obj.mapSeq f) (Ne.symm hb)).trans hu) ⟨_, q⟩ ?_
  exact ⟨hz, its', _, hv, q⟩
theorem Inv.lnew {its : List Value} {t' : Nat} (I : Inv X pins σ H s) (hv : Vals ys its) (hz : ys.length ≤ sizeLine) :
    Inv X pins σ (upd H s.heap.objs.size (.lst ys)) { s with heap := s.heap.push { cls := .type "list", data := .seq its.toArray }, toks := t' } :=
  I.laid (fun _ _ q => Heap.get?_push_of_some _ q) (Nat.le_refl _) ⟨hz, its, 0, hv, Heap.get?_push_size _ rfl⟩
theorem Inv.fresh (I : Inv X pins σ H s) : H s.heap.objs.size = none := I.hok.fresh (Nat.le_refl _)
theorem Inv.lstM (I : Inv X pins σ H s) (hH : H l = some (.lst xs)) : xs.length ≤ sizeLine ∧ ∃ (its : List Value) (n : Nat), Vals xs its ∧ xs.length = its.length ∧ s.heap.get? l = some { cls := .type "list", data := .seq its.toArray n } := by
  obtain ⟨z, its, n, r, e⟩ := I.hok l _ hH
  exact ⟨z, its, n, r, r.length, e⟩

theorem notLongL {n : Nat} (h : n ≤ sizeLine) : Builtin.List.listTooLong n = false := by
  unfold Builtin.List.listTooLong
  exact decide_eq_false (by omega)
end

section
variable {X : Cx}

def rAppend : V → List V → Hp → VK → Prop := fun x vs H Q => ∃ l xs y, x = .ref l ∧ vs = [y] ∧ H l = some (.lst xs) ∧ xs.length < sizeLine ∧ Q .non (upd H l (.lst (xs ++ [y])))
theorem mt_append : MtM X "list.append" rAppend := by
  intro pins s σ H x vs v us Q I rx rv h
  obtain ⟨l, xs, y, rfl, rfl, hH, hz, q⟩ := h
  cases rx
  obtain ⟨u, rfl, ru⟩ := rv.one
  obtain ⟨z, its, n, r, hl, e⟩ := I.lstM hH
  refine call_meets F.slot_list_append ⟨_, e, rfl⟩ F.entry_list_append (F.args_list_append_2 _ _) (PySem.list_append l its.toArray n u (by rw [List.size_toArray]; omega)) ⟨e, ?_⟩
  refine ⟨.non, _, I.lset (its' := its ++ [u]) hH e (by simp) (r.append (.cons ru .nil)) ?_, rfl, q⟩
  rw [List.length_append, List.length_singleton]
  omega

def rExtend : V → List V → Hp → VK → Prop := fun x vs H Q => ∃ l b xs zs, x = .ref l ∧ vs = [.ref b] ∧ H l = some (.lst xs) ∧ H b = some (.lst zs) ∧ xs.length + zs.length ≤ sizeLine ∧ Q .non (upd H l (.lst (xs ++ zs)))
theorem mt_extend : MtM X "list.extend" rExtend := by
  intro pins s σ H x vs v us Q I rx rv h
  obtain ⟨l, b, xs, zs, rfl, rfl, hH, hB, hz, q⟩ := h
  cases rx
  obtain ⟨u, rfl, ru⟩ := rv.one
  cases ru
  obtain ⟨z, its, n, r, hl, e⟩ := I.lstM hH
  obtain ⟨z2, its2, n2, r2, hl2, e2⟩ := I.lstM hB
  have hsz : its.toArray.size + its2.toArray.size ≤ sizeLine := by rw [List.size_toArray, List.size_toArray]; omega
  have hlong : ¬ (!its.toArray.isEmpty && Builtin.List.listTooLong (its.toArray.size + its2.toArray.size)) = true := by
    rw [notLongL hsz, Bool.and_false]
    exact Bool.false_ne_true
  refine call_meets F.slot_list_extend ⟨_, e, rfl⟩ F.entry_list_extend (F.args_list_extend_2 _ _)
    (AutoSeq1.list_extend_list_list_0 l its.toArray n b its2.toArray n2 hlong (by rw [List.size_toArray]; omega) (by omega)) ⟨e, e2, ?_⟩
  refine ⟨.non, _, I.lset (its' := its ++ its2) hH e (by simp) (r.append r2) ?_, rfl, q⟩
  rw [List.length_append]
  omega

def rPopAt : V → List V → Hp → VK → Prop := fun x vs H Q => ∃ l xs i k y, x = .ref l ∧ vs = [.int i] ∧ H l = some (.lst xs) ∧ -(2 ^ 63) ≤ i ∧ i < 2 ^ 63 ∧ seqIndex? i xs.length = some k ∧ xs[k]? = some y ∧ Q y (upd H l (.lst (xs.eraseIdx k)))
theorem mt_popAt : MtM X "list.pop" rPopAt := by
  intro pins s σ H x vs v us Q I rx rv h
  obtain ⟨l, xs, i, k, y, rfl, rfl, hH, h1, h2, hk, hy, q⟩ := h
  cases rx
  obtain ⟨u, rfl, ru⟩ := rv.one
  obtain ⟨t, rfl⟩ := ru
  obtain ⟨z, its, n, r, hl, e⟩ := I.lstM hH
  obtain ⟨w, hw, rw'⟩ := r.get hy
  refine call_meets F.slot_list_pop ⟨_, e, rfl⟩ F.entry_list_pop (F.args_list_pop_2 _ _)
    (MeetsSeq.list_pop_at l its.toArray n i t k w (fitsIndex_both h1 h2) (by rw [List.size_toArray, ← hl]; exact hk) (by rw [← Array.getElem?_toList]; exact hw) (by rw [List.size_toArray]; omega)) ⟨e, ?_⟩
  refine ⟨y, _, I.lset (its' := its.eraseIdx k) hH e ?_ (r.eraseIdx k) ?_, rw', q⟩
  · show its.toArray.eraseIdxIfInBounds k = (its.eraseIdx k).toArray
    rw [List.eraseIdxIfInBounds_toArray]
  · have := len_erase xs k
    omega

def rCat : R2 := fun x y H Q => ∃ l b xs zs, x = .ref l ∧ y = .ref b ∧ H l = some (.lst xs) ∧ H b = some (.lst zs) ∧ xs.length + zs.length ≤ sizeLine ∧ ∀ p, H p = none → Q (.ref p) (upd H p (.lst (xs ++ zs)))
theorem op_cat : OpR X (binaryOp .Add) rCat := by
  intro pins s σ H x y v u Q I rx ry h
  obtain ⟨l, b, xs, zs, rfl, rfl, hH, hB, hz, q⟩ := h
  cases rx
  cases ry
  obtain ⟨z, its, n, r, hl, e⟩ := I.lstM hH
  obtain ⟨z2, its2, n2, r2, hl2, e2⟩ := I.lstM hB
  refine PySem.P.add_list e e2 ?_ (by rw [List.size_toArray, List.size_toArray]; omega)
  have ea : its.toArray ++ its2.toArray = (its ++ its2).toArray := by simp
  rw [ea]
  exact ⟨.ref _, _, I.lnew (t' := s.toks) (r.append r2) (by rw [List.length_append]; omega), rfl, q _ I.fresh⟩
/-- a list times an int (a negative one is nothing) -/
def rRep : R2 := fun x y H Q => ∃ l k xs, x = .ref l ∧ y = .int k ∧ H l = some (.lst xs) ∧ -(2 ^ 63) ≤ k ∧ k < 2 ^ 63 ∧ xs.length * k.toNat ≤ sizeLine ∧
  ∀ p, H p = none → Q (.ref p) (upd H p (.lst (List.replicate k.toNat xs).flatten))
theorem len_rep {α : Type} (xs : List α) (k : Nat) : (List.replicate k xs).flatten.length = k * xs.length := by
  induction k with
  | zero => simp
  | succ k ih => rw [List.replicate_succ, List.flatten_cons, List.length_append, ih, Nat.succ_mul, Nat.add_comm]
theorem op_rep : OpR X (binaryOp .Mult) rRep := by
  intro pins s σ H x y v u Q I rx ry h
  obtain ⟨l, k, xs, rfl, rfl, hH, h1, h2, hz, q⟩ := h
  cases rx
  obtain ⟨t, rfl⟩ := ry
  obtain ⟨z, its, n, r, hl, e⟩ := I.lstM hH
  have hlen : its.toArray.size * k.toNat ≤ sizeLine := by rw [List.size_toArray, ← hl]; exact hz
  have hcap : ¬ its.toArray.size * k.toNat > (2 ^ 63 - 1) / 8 := by
    have : (sizeLine : Nat) ≤ (2 ^ 63 - 1) / 8 := by decide
    omega
  have hfit : ¬ (!Builtin.List.listFitsIndex k) = true := by
    rw [fitsIndex_both h1 h2]
    exact Bool.false_ne_true
  have hlong : ¬ Builtin.List.listTooLong (its.toArray.size * k.toNat) = true := by
    rw [notLongL hlen]
    exact Bool.false_ne_true
  have hnew : List.foldl (fun x1 x2 => x1 ++ x2) #[] (List.replicate (if its.toArray.isEmpty = true then 0 else k.toNat) its.toArray) = (List.replicate k.toNat its).flatten.toArray := by
    have f0 : ∀ m : Nat, List.foldl (fun x1 x2 => x1 ++ x2) #[] (List.replicate m its.toArray) = (List.replicate m its).flatten.toArray := fun m => by
      have := foldl_rep its m []
      rw [List.nil_append] at this
      exact this
    rw [f0]
    cases its with
    | nil => simp
    | cons a r' => rw [if_neg (by simp)]
  refine wpAny_binaryOp_repeat_ref (T := "list") (U := "int") (by decide) ⟨_, e, rfl⟩ (fun s' => typeIs_int s' k t) noFill_list_mul F.fills_int_mul F.slot_int_rmul repeat_list F.slot_int_index.lookup
    (call_meets F.slot_int_rmul (typeIs_int s k t) F.entry_int_rmul (F.args_int_rmul_2 _ _) (int___rmul___int_list k t l its.toArray n)
      ⟨e, rfl, ⟨_, e, rfl⟩, call_meets F.slot_list_mul ⟨_, e, rfl⟩ F.entry_list_mul (F.args_list_mul_2 _ _) (AutoListH.list___mul___list_int_3 l its.toArray n k t hfit hcap hlong) ⟨e, ?_⟩⟩)
  rw [hnew]
  exact ⟨.ref _, _, I.lnew (t' := s.toks) (r.rep k.toNat) (by rw [len_rep, Nat.mul_comm]; exact hz), rfl, q _ I.fresh⟩

end

section
variable {prog : Program} {w : World} {A : Around} {E : Value → Shared → Prop} {s : Shared}
end

section
variable {X : Cx}
end
end L2

namespace L2
open PySem PySem.Spec PyProof.Rows

theorem Vals.ints : ∀ {ns : List Int} {us : List Value}, Vals (ns.map V.int) us → IntsAre us ns
  | [], us, h => by
    rw [List.map_nil] at h
    cases h
    exact IntsAre.nil
  | n :: ns, us, h => by
    rw [List.map_cons] at h
    cases h with
    | cons r t =>
      obtain ⟨k, rfl⟩ := r
      exact IntsAre.cons n k (Vals.ints t)
theorem Vals.strs : ∀ {xs : List Str} {us : List Value}, Vals (xs.map V.str) us → StrsAre us xs
  | [], us, h => by
    rw [List.map_nil] at h
    cases h
    exact StrsAre.nil
  | x :: xs, us, h => by
    rw [List.map_cons] at h
    cases h with
    | cons r t =>
      obtain ⟨k, rfl⟩ := r
      exact StrsAre.cons x k (Vals.strs t)
theorem Vals.ref1 {a : Addr} {us : List Value} (r : Vals [V.ref a] us) : us = [Value.ref a] := by
  cases r with
  | cons r t =>
    cases t
    cases r
    rfl
section
variable {prog : Program} {w : World} {A : Around} {E : Value → Shared → Prop} {s : Shared} {l : Addr} {its : List Value} {ns : List Int} {Q : Value → Shared → Prop}
theorem sum_raw (hh : A.handled = none) (hl : s.heap.IsList l its.toArray) (hi : IntsAre its ns)
    (h : ∀ h' tk t', (∀ b o, s.heap.get? b = some o → h'.get? b = some o) → Q (.int ns.sum t') { s with heap := h', toks := tk }) : wpAny (model prog w) A (call (.builtin "sum") [.ref l]) Q E s := by
  obtain ⟨xs, e⟩ := hi.allInts.items
  have hn : numsOf (intItems xs).toList = ns := by rw [← e]; exact hi.numsOf
  rw [nums_intItems] at hn
  rw [e] at hl
  refine PySem.sum_intListG hh hl fun h' tk t' hk => ?_
  have := h h' tk t' hk
  rw [preSum_eq, List.take_of_length_le (by simp), hn]; exact this
theorem max_raw (hh : A.handled = none) (hl : s.heap.IsList l its.toArray) (hi : IntsAre its ns) (hne : 0 < ns.length)
    (h : ∀ h' tk M t', (∀ b o, s.heap.get? b = some o → h'.get? b = some o) → M ∈ ns → (∀ a, a ∈ ns → a ≤ M) → Q (.int M t') { s with heap := h', toks := tk }) : wpAny (model prog w) A (call (.builtin "max") [.ref l]) Q E s := by
  obtain ⟨xs, e⟩ := hi.allInts.items
  have hn : numsOf (intItems xs).toList = ns := by rw [← e]; exact hi.numsOf
  rw [nums_intItems] at hn
  subst hn
  rw [e] at hl
  have hsz : 0 < xs.size := by simpa using hne
  refine PySem.max_intList hh hl hsz fun v h' tk hv hk => ?_
  obtain ⟨t, rfl⟩ := intItems_at hv
  obtain ⟨h1, h2⟩ := argBest_gt (numAt xs) (xs.size - 1)
  refine h h' tk _ t hk ?_ fun a ha => ?_
  · rw [numAt_eq]; exact PySem.getD_mem (by rw [List.length_map, Array.length_toList]; omega)
  · obtain ⟨j, hj, rfl⟩ := mem_getD ha
    rw [List.length_map, Array.length_toList] at hj
    rw [← numAt_eq]; exact h2 j (by omega)
end

section
variable {X : Cx}
/-- sum(xs) of a list of ints -/
def rSum (K : PySem.W.Frag) : List V → Hp → VK → Prop := fun vs H Q => ∃ (a : Addr) (ns : List Int), vs = [V.ref a] ∧ SqL K H a (ns.map V.int) ∧ Q (.int ns.sum) H
/-- max(xs), min(xs) of a list of ints -/
def rMax (K : PySem.W.Frag) : List V → Hp → VK → Prop := fun vs H Q => ∃ (a : Addr) (ns : List Int), vs = [V.ref a] ∧ SqL K H a (ns.map V.int) ∧ 0 < ns.length ∧ ∀ m, m ∈ ns → (∀ y, y ∈ ns → y ≤ m) → Q (.int m) H
theorem cr_sum (hc : X.calm = true) : CallR X (.builtin "sum") (rSum X.K) := by
  intro pins s σ H vs us Q I r h
  obtain ⟨a, ns, rfl, hs, q⟩ := h
  obtain ⟨its, rv, hl, _⟩ := I.list hs
  rw [Vals.ref1 r]
  exact sum_raw (I.ok.hd hc) hl.isList rv.ints fun h' tk t' hk => ⟨.int _, H, I.kept hk, ⟨_, rfl⟩, q⟩
theorem cr_max (hc : X.calm = true) : CallR X (.builtin "max") (rMax X.K) := by
  intro pins s σ H vs us Q I r h
  obtain ⟨a, ns, rfl, hs, hne, q⟩ := h
  obtain ⟨its, rv, hl, _⟩ := I.list hs
  rw [Vals.ref1 r]
  exact max_raw (I.ok.hd hc) hl.isList rv.ints hne fun h' tk m t' hk h1 h2 => ⟨.int _, H, I.kept hk, ⟨_, rfl⟩, q m h1 h2⟩
end

section
variable {X : Cx}
def rIndex (K : PySem.W.Frag) : V → List V → Hp → VK → Prop := fun x xs H Q => ∃ (a : Addr) (ys : List V) (y : V) (j : Nat) (z : V), x = V.ref a ∧ xs = [y] ∧ SqL K H a ys ∧ flatV y = true ∧ ys.all flatV = true ∧ ys[j]? = some z ∧ eqV z y = true ∧
  (∀ (m : Nat) (z' : V), m < j → ys[m]? = some z' → eqV z' y = false) ∧ Q (.int (j : Nat)) H
theorem flat_at {ys : List V} (f : ys.all flatV = true) {j : Nat} {z : V} (h : ys[j]? = some z) : flatV z = true := List.all_eq_true.mp f z (List.mem_of_getElem? h)
theorem mt_index : MtR X "list.index" (rIndex X.K) := by
  intro pins s σ H x xs v us Q I rx rxs h
  obtain ⟨a, ys, y, j, z, rfl, rfl, hs, fy, fys, hz, hzj, hno, q⟩ := h
  cases rx
  cases rxs with
  | cons ry rt =>
    rename_i uy ut
    cases rt
    obtain ⟨its, rv, ⟨⟨cls, dd, data, sl⟩, n, ho, hc, hdn, hd⟩, hlen⟩ := I.list hs
    simp only at hc hd
    subst hc hd
    obtain ⟨u, hu, ru⟩ := rv.get hz
    obtain ⟨hjl, hje⟩ := List.getElem?_eq_some_iff.mp hu
    have hvl := rv.length
    have hj : j < its.toArray.size := by simpa using hjl
    have hsl := sizeLine_eq
    refine call_meets PySem.F.slot_list_index ⟨_, ho, rfl⟩ PySem.F.entry_list_index (PySem.F.args_list_index_2 _ _)
      (SeqAt.list_indexAt a its.toArray n dd sl uy (eqU y) j hj (by omega) ?_ ?_) ⟨ho, fun u' hu' => mem_eqAt ry fy rv fys u' (by simpa using hu'), ?_⟩
    · have e1 : its.toArray[j] = u := by simpa using hje
      rw [e1, eqU_of ru (flat_at fys hz)]
      exact hzj
    · intro m hm hmj
      have hml : m < its.length := by simpa using hm
      have hmy : m < ys.length := by omega
      have hy' : ys[m]? = some ys[m] := List.getElem?_eq_getElem hmy
      obtain ⟨u2, hu2, ru2⟩ := rv.get hy'
      obtain ⟨_, hme⟩ := List.getElem?_eq_some_iff.mp hu2
      have e1 : its.toArray[m] = u2 := by simpa using hme
      rw [e1, eqU_of ru2 (flat_at fys hy')]
      exact hno m _ hmj hy'
    · exact ⟨.int (j : Nat), H, I.tok _, ⟨_, rfl⟩, q⟩
end

section
variable {X : Cx}
end

section
variable {X : Cx}
end

mutual
inductive Dp (K : PySem.W.Frag) (H : Hp) : V → PyData → Prop
  | non : Dp K H .non .none
  | bl (b : Bool) : Dp K H (.bl b) (.bool b)
  | int (i : Int) : Dp K H (.int i) (.int i)
  | str (x : Str) : Dp K H (.str x) (.str x)
  | lst {a : Addr} {xs : List V} {ds : List PyData} : SqL K H a xs → DpAll K H xs ds → Dp K H (.ref a) (.list ds)
  | tup {a : Addr} {xs : List V} {ds : List PyData} : SqT K H a xs → DpAll K H xs ds → Dp K H (.ref a) (.tuple ds)
inductive DpAll (K : PySem.W.Frag) (H : Hp) : List V → List PyData → Prop
  | nil : DpAll K H [] []
  | cons {v : V} {vs : List V} {d : PyData} {ds : List PyData} : Dp K H v d → DpAll K H vs ds → DpAll K H (v :: vs) (d :: ds)
end
section
variable {X : Cx} {pins : List (Addr × Obj)} {σ : St} {H : Hp} {s : Shared}
mutual
theorem Dp.reads (I : Inv X pins σ H s) : ∀ (d : PyData) (v : V) (u : Value), Dp X.K H v d → RelV v u → ∃ as, Reads s.heap u d as
  | .none, _, _, h, r => by
    cases h
    cases r
    exact ⟨_, Reads.none⟩
  | .bool b, _, _, h, r => by
    cases h
    cases r
    exact ⟨_, Reads.bool b⟩
  | .int i, _, _, h, r => by
    cases h
    obtain ⟨t, rfl⟩ := r
    exact ⟨_, Reads.int i t⟩
  | .str x, _, _, h, r => by
    cases h
    obtain ⟨t, rfl⟩ := r
    exact ⟨_, Reads.str x t⟩
  | .list ds, _, _, h, r => by
    cases h with
    | lst hs ha =>
      cases r
      obtain ⟨its, rv, ⟨o, n, ho, hc, _, hd⟩, _⟩ := I.list hs
      obtain ⟨as, hr⟩ := Dp.readsAll I ds _ its ha rv
      exact ⟨_, Reads.list ho hc hd hr⟩
  | .tuple ds, _, _, h, r => by
    cases h with
    | tup hs ha =>
      cases r
      obtain ⟨its, rv, ⟨o, ho, hc, n, hd⟩, _⟩ := I.tuple hs
      obtain ⟨as, hr⟩ := Dp.readsAll I ds _ its ha rv
      exact ⟨_, Reads.tuple ho hc hd hr⟩
  | .dict _, _, _, h, _ => by cases h
theorem Dp.readsAll (I : Inv X pins σ H s) : ∀ (ds : List PyData) (vs : List V) (us : List Value), DpAll X.K H vs ds → Vals vs us → ∃ as, ReadsAll s.heap us ds as
  | [], _, _, h, r => by
    cases h
    cases r
    exact ⟨_, ReadsAll.nil⟩
  | d :: ds, _, _, h, r => by
    cases h with
    | cons h1 h2 =>
      cases r with
      | cons r1 r2 =>
        obtain ⟨as, q1⟩ := Dp.reads I d _ _ h1 r1
        obtain ⟨bs, q2⟩ := Dp.readsAll I ds _ _ h2 r2
        exact ⟨_, ReadsAll.cons q1 q2⟩
end
end
section
variable {X : Cx}
end
end L2

namespace L2
open PySem PySem.Spec PyProof.Rows
abbrev CellAt (h : Heap) (c : Addr) (v : Option Value) : Prop := h.IsCell c v
def relS (scope sc : Scope) : Scope :=
  { scope with names := scope.names.map fun (n, k) => if (k == .free && sc.kind == .function && sc.names.lookup n == some .cell) then (n, .cell) else (n, k) }

def cloFrom (cells : List (Str × Addr)) : List (Str × NameKind) → List (Str × Addr) → List (Str × Addr)
  | [], acc => acc
  | (n, k) :: r, acc => if k == .free then cloFrom cells r ((n, (cells.lookup n).getD 0) :: acc) else cloFrom cells r acc

theorem closure_loop (env : Env) (f : Str × NameKind → List (Str × Addr) → Sem (ForInStep (List (Str × Addr))))
    (hf : ∀ n k c, f (n, k) c = if k == .free then (do let a ← cellOf env n; pure (.yield ((n, a) :: c))) else pure (.yield c)) :
    ∀ (names : List (Str × NameKind)) (acc : List (Str × Addr)), (∀ y ∈ names, y.2 = .free → ∃ c, env.cells.lookup y.1 = some c) → forIn names acc f = pure (cloFrom env.cells names acc)
  | [], acc, _ => by rw [List.forIn_nil]; rfl
  | (n, k) :: r, acc, h => by
    rw [List.forIn_cons, hf]
    have ih := fun acc => closure_loop env f hf r acc fun y hy => h y (List.mem_cons_of_mem _ hy)
    unfold cloFrom
    by_cases hk : (k == NameKind.free) = true
    · rw [if_pos hk, if_pos hk]
      obtain ⟨c, hc⟩ := h (n, k) List.mem_cons_self (by simpa using hk)
      have e : cellOf env n = pure c := by unfold cellOf; rw [hc]
      rw [e]
      have e2 : (env.cells.lookup n).getD 0 = c := by rw [hc]; rfl
      rw [e2]
      exact ih _
    · rw [if_neg hk, if_neg hk]
      exact ih _
theorem closure_ok {scope : Scope} {env : Env} (h : ∀ y ∈ scope.names, y.2 = .free → ∃ c, env.cells.lookup y.1 = some c) : closureFor scope env = pure (cloFrom env.cells scope.names []) := by
  simp only [closureFor]
  rw [closure_loop env _ (fun n k c => rfl) scope.names [] h]
  rfl

theorem mem_lookup {α : Type} : ∀ {l : List (Str × α)} {n : Str} {c : α}, (n, c) ∈ l → ∃ c', l.lookup n = some c'
  | (k, v) :: r, n, c, h => by
    rw [List.lookup_cons]
    cases hb : n == k with
    | true => exact ⟨_, rfl⟩
    | false =>
      rcases List.mem_cons.mp h with e | h
      · cases e; simp at hb
      · exact mem_lookup h

theorem cloFrom_mem {cells : List (Str × Addr)} : ∀ {names : List (Str × NameKind)} {acc : List (Str × Addr)} {n : Str} {c : Addr}, (n, c) ∈ cloFrom cells names acc → (n, c) ∈ acc ∨ ((n, .free) ∈ names ∧ c = (cells.lookup n).getD 0)
  | [], _, _, _, h => .inl h
  | (m, k) :: r, acc, n, c, h => by
    unfold cloFrom at h
    split at h
    · rename_i hk
      have hk : k = .free := by simpa using hk
      rcases cloFrom_mem h with h | ⟨h1, h2⟩
      · rcases List.mem_cons.mp h with e | h
        · cases e; exact .inr ⟨hk ▸ List.mem_cons_self, rfl⟩
        · exact .inl h
      · exact .inr ⟨List.mem_cons_of_mem _ h1, h2⟩
    · rcases cloFrom_mem h with h | ⟨h1, h2⟩
      · exact .inl h
      · exact .inr ⟨List.mem_cons_of_mem _ h1, h2⟩
theorem cloFrom_acc {cells : List (Str × Addr)} : ∀ {names : List (Str × NameKind)} {acc : List (Str × Addr)} {p : Str × Addr}, p ∈ acc → p ∈ cloFrom cells names acc
  | [], _, _, h => h
  | (m, k) :: r, acc, p, h => by
    unfold cloFrom
    split
    · exact cloFrom_acc (List.mem_cons_of_mem _ h)
    · exact cloFrom_acc h
theorem cloFrom_has {cells : List (Str × Addr)} : ∀ {names : List (Str × NameKind)} {acc : List (Str × Addr)} {n : Str}, (n, .free) ∈ names → (n, (cells.lookup n).getD 0) ∈ cloFrom cells names acc
  | (m, k) :: r, acc, n, h => by
    unfold cloFrom
    rcases List.mem_cons.mp h with e | h
    · cases e
      exact cloFrom_acc List.mem_cons_self
    · split
      · exact cloFrom_has h
      · exact cloFrom_has h

theorem cells_mem : ∀ {names : List (Str × NameKind)} {h : Heap} {acc : List (Str × Addr)} {x : Str} {c : Addr}, (x, c) ∈ cellsFrom h.objs.size names acc →
    (x, c) ∈ acc ∨ ((x, .cell) ∈ names ∧ h.objs.size ≤ c ∧ CellAt (pushCells h names) c none)
  | [], _, _, _, _, h => .inl h
  | (n, k) :: r, h, acc, x, c, hm => by
    unfold cellsFrom at hm
    unfold pushCells
    split at hm
    · rename_i hk
      rw [if_pos hk]
      have hk : k = .cell := by simpa using hk
      rw [← Heap.size_push h { cls := .type "cell", data := .cell none }] at hm
      rcases cells_mem hm with hm | ⟨h1, h2, h3⟩
      · rcases List.mem_cons.mp hm with e | hm
        · cases e
          exact .inr ⟨hk ▸ List.mem_cons_self, Nat.le_refl _, _, pushCells_keeps r _ _ _ (Heap.get?_push_size _ rfl), rfl⟩
        · exact .inl hm
      · rw [Heap.size_push] at h2
        exact .inr ⟨List.mem_cons_of_mem _ h1, Nat.le_of_succ_le h2, h3⟩
    · rename_i hk
      rw [if_neg hk]
      rcases cells_mem hm with hm | ⟨h1, h2, h3⟩
      · exact .inl hm
      · exact .inr ⟨List.mem_cons_of_mem _ h1, h2, h3⟩
theorem cells_acc : ∀ {names : List (Str × NameKind)} {n : Nat} {acc : List (Str × Addr)} {p : Str × Addr}, p ∈ acc → p ∈ cellsFrom n names acc
  | [], _, _, _, h => h
  | (m, k) :: r, n, acc, p, h => by
    unfold cellsFrom
    split
    · exact cells_acc (List.mem_cons_of_mem _ h)
    · exact cells_acc h
theorem cells_has : ∀ {names : List (Str × NameKind)} {n : Nat} {acc : List (Str × Addr)} {x : Str}, (x, .cell) ∈ names → ∃ c, (x, c) ∈ cellsFrom n names acc
  | (m, k) :: r, n, acc, x, h => by
    unfold cellsFrom
    rcases List.mem_cons.mp h with e | h
    · cases e
      exact ⟨n, cells_acc List.mem_cons_self⟩
    · split
      · exact cells_has h
      · exact cells_has h
theorem cells_inj : ∀ {names : List (Str × NameKind)} {h : Heap} {acc : List (Str × Addr)} {x y : Str} {c : Addr}, (∀ p ∈ acc, p.2 < h.objs.size) → (∀ x y c, (x, c) ∈ acc → (y, c) ∈ acc → x = y) →
    (x, c) ∈ cellsFrom h.objs.size names acc → (y, c) ∈ cellsFrom h.objs.size names acc → x = y
  | [], _, _, _, _, _, _, hi, h1, h2 => hi _ _ _ h1 h2
  | (n, k) :: r, h, acc, x, y, c, hl, hi, h1, h2 => by
    unfold cellsFrom at h1 h2
    split at h1
    · rename_i hk
      rw [if_pos hk] at h2
      rw [← Heap.size_push h { cls := .type "cell", data := .cell none }] at h1 h2
      refine cells_inj (h := h.push _) (fun p hp => ?_) (fun x y c a b => ?_) h1 h2
      · rw [Heap.size_push]
        rcases List.mem_cons.mp hp with rfl | hp
        · exact Nat.lt_succ_self _
        · exact Nat.lt_succ_of_lt (hl p hp)
      · rcases List.mem_cons.mp a with e | a <;> rcases List.mem_cons.mp b with e' | b
        · cases e; cases e'; rfl
        · cases e; exact absurd (hl _ b) (Nat.lt_irrefl _)
        · cases e'; exact absurd (hl _ a) (Nat.lt_irrefl _)
        · exact hi _ _ _ a b
    · rename_i hk
      rw [if_neg hk] at h2
      exact cells_inj hl hi h1 h2

theorem newEnv_comp {M : Model} {A : Around} {E : Value → Shared → Prop} {s : Shared} {scope : Scope} {globals : Addr} {closure : List (Str × Addr)} {qual : Str} {func : Option Addr} {code : Value} {around : Env} {builtins : Addr} {Q : Env → Shared → Prop}
    (h : Q (newEnv scope s.heap.objs.size globals (cellsFrom (s.heap.objs.size + 1) scope.names closure) qual func code (some around) builtins)
      { s with heap := pushCells (s.heap.push { cls := .type "dict", data := .dict #[] }) scope.names }) :
    wpAny M A (newFunctionEnv scope globals closure [] qual func code (some around) builtins) Q E s := by
  simp only [newFunctionEnv, Option.isSome_some, if_true]
  refine wpAny_bind (wpAny_alloc ?_)
  refine wpAny_bind (wpAny_layCells _ (fun n k c => rfl) scope.names closure _ _ ?_)
  rw [show ({ s with heap := s.heap.push { cls := .type "dict", data := .dict #[] } } : Shared).heap.objs.size = s.heap.objs.size + 1 from Heap.size_push ..]
  rw [List.forIn_nil]
  exact wpAny_bind (wpAny_pure (wpAny_pure h))

/-- every name of the written scope, in the scope that runs -/
theorem lookup_relS {sc : Scope} : ∀ {names : List (Str × NameKind)} {x : Str} {k : NameKind},
    (names.map fun (n, k) => if (k == NameKind.free && sc.kind == .function && sc.names.lookup n == some .cell) then (n, NameKind.cell) else (n, k)).lookup x = some k →
    ∃ k', names.lookup x = some k' ∧ (k = k' ∨ (k' = .free ∧ k = .cell))
  | [], _, _, h => by simp at h
  | (n, k₀) :: r, x, k, h => by
    have ih := @lookup_relS sc r x k
    have h' : List.lookup x ((if (k₀ == NameKind.free && sc.kind == .function && sc.names.lookup n == some .cell) = true then (n, NameKind.cell) else (n, k₀)) :: (r.map _)) = some k := h
    cases hx : x == n with
    | true =>
      simp only [List.lookup_cons, hx]
      by_cases hc : (k₀ == NameKind.free && sc.kind == .function && sc.names.lookup n == some .cell) = true
      · rw [if_pos hc] at h'
        simp only [List.lookup_cons, hx] at h'
        cases h'
        simp only [Bool.and_eq_true, beq_iff_eq] at hc
        exact ⟨k₀, rfl, .inr ⟨hc.1.1, rfl⟩⟩
      · rw [if_neg hc] at h'
        simp only [List.lookup_cons, hx] at h'
        cases h'
        exact ⟨_, rfl, .inl rfl⟩
    | false =>
      simp only [List.lookup_cons, hx]
      by_cases hc : (k₀ == NameKind.free && sc.kind == .function && sc.names.lookup n == some .cell) = true
      · rw [if_pos hc] at h'
        simp only [List.lookup_cons, hx] at h'
        exact ih h'
      · rw [if_neg hc] at h'
        simp only [List.lookup_cons, hx] at h'
        exact ih h'
/-- the names of a comprehension's block: its own (with their places in N), or captured -/
structure BlkOk (N : List Str) (sc scope : Scope) (own : List (Str × Nat)) : Prop where
  kind : scope.kind = .function
  uniq : ∀ y ∈ scope.names, scope.names.lookup y.1 = some y.2
  ix : ∀ p ∈ own, N[p.2]? = some p.1
  free : ∀ y ∈ scope.names, y.2 = .free → sc.names.lookup y.1 = some .cell ∨ sc.names.lookup y.1 = some .free
  own : ∀ y ∈ scope.names, y.2 = .local ∨ y.2 = .cell → y.1 ∈ own.map (·.1) ∨ y.1 ∉ N
/-- the slots of the block's own names forgotten -/
def wipe (σ : St) : List Nat → St
  | [] => σ
  | v :: vs => (wipe σ vs).set v none
theorem wipe_length (σ : St) : ∀ vs : List Nat, (wipe σ vs).length = σ.length
  | [] => rfl
  | v :: vs => by unfold wipe; rw [List.length_set, wipe_length σ vs]
theorem wipe_some {σ : St} {i : Nat} {x : V} : ∀ {vs : List Nat}, (wipe σ vs)[i]? = some (some x) → σ[i]? = some (some x) ∧ i ∉ vs
  | [], h => ⟨h, by simp⟩
  | v :: vs, h => by
    unfold wipe at h
    by_cases hi : v = i
    · subst hi
      by_cases hv : v < (wipe σ vs).length
      · rw [List.getElem?_set_self hv] at h; cases h
      · rw [List.getElem?_eq_none (by simpa using hv)] at h; cases h
    · rw [List.getElem?_set_ne hi] at h
      obtain ⟨h1, h2⟩ := wipe_some h
      exact ⟨h1, by simp only [List.mem_cons, not_or]; exact ⟨fun e => hi e.symm, h2⟩⟩

/-- the context of a block that starts at s, its iterator's objects at fp -/
abbrev Cx.blk (X : Cx) (s : Shared) (H : Hp) (scope : Scope) (cenv : Env) (fp : List Addr) : Cx := { X with s_0 := s, H_0 := H, env := cenv, outer := X.stack, ex := fp, fn := fun x => scope.names.lookup x == some .cell, pn := [], xe := fun _ _ => False }
section
variable {X : Cx} {pins : List (Addr × Obj)} {σ : St} {H : Hp} {s : Shared}
theorem block_start {scope : Scope} {own : List (Str × Nat)} {fp : List Addr} (I : Inv X pins σ H s) (ok : BlkOk X.N X.env.scope scope own) (hN : X.N.Nodup) (hfp : ∀ b ∈ fp, FpOk X pins H b ∧ b < s.heap.objs.size) :
    Inv (X.blk s H scope (compEnvC scope (cellsFrom (s.heap.objs.size + 1) scope.names (cloFrom X.env.cells scope.names [])) s.heap.objs.size X.env) fp) [] (wipe σ (own.map (·.2))) H { s with heap := pushCells (s.heap.push { cls := .type "dict", data := .dict #[] }) scope.names } := by
  have hfree : ∀ y ∈ scope.names, y.2 = .free → ∃ c, X.env.cells.lookup y.1 = some c := fun y hy e => by
    rcases ok.free y hy e with k | k
    · exact I.ok.has _ (.inl k)
    · exact I.ok.has _ (.inr k)
  generalize hcenv : compEnvC scope (cellsFrom (s.heap.objs.size + 1) scope.names (cloFrom X.env.cells scope.names [])) s.heap.objs.size X.env = cenv
  have kp : ∀ b o, s.heap.get? b = some o → (pushCells (s.heap.push { cls := .type "dict", data := .dict #[] }) scope.names).get? b = some o := fun b o e => pushCells_keeps _ _ _ _ (Heap.get?_push_of_some _ e)
  have hL : cenv.locals = s.heap.objs.size := by rw [← hcenv]; rfl
  have hcl : cenv.cells = cellsFrom (s.heap.objs.size + 1) scope.names (cloFrom X.env.cells scope.names []) := by rw [← hcenv]; rfl
  have hsc : cenv.scope = relS scope X.env.scope := by rw [← hcenv]; rfl
  rw [← Heap.size_push s.heap { cls := .type "dict", data := .dict #[] }] at hcl
  have cm : ∀ {y c}, (y, c) ∈ cloFrom X.env.cells scope.names [] → X.env.cells.lookup y = some c ∧ c < s.heap.objs.size := fun {y c} hm => by
    rcases cloFrom_mem hm with hm | ⟨h1, rfl⟩
    · cases hm
    · obtain ⟨c, hc⟩ := hfree _ h1 rfl
      rw [hc]
      obtain ⟨w, z⟩ := I.cell _ _ hc
      exact ⟨rfl, z.lt⟩
  have mem : ∀ {y c}, cenv.cells.lookup y = some c → (X.env.cells.lookup y = some c ∧ c < s.heap.objs.size) ∨ (s.heap.objs.size + 1 ≤ c ∧ CellAt (pushCells (s.heap.push { cls := .type "dict", data := .dict #[] }) scope.names) c none) := fun {y c} e => by
    rw [hcl] at e
    rcases cells_mem (PySem.mem_of_lookup e) with hm | ⟨_, h2, h3⟩
    · exact .inl (cm hm)
    · rw [Heap.size_push] at h2; exact .inr ⟨h2, h3⟩
  have look : ∀ {y}, scope.names.lookup y = some .free → ∃ c, cenv.cells.lookup y = some c ∧ X.env.cells.lookup y = some c := fun {y} hl => by
    have hy : (y, NameKind.free) ∈ scope.names := PySem.mem_of_lookup hl
    obtain ⟨c', e'⟩ := mem_lookup (cells_acc (names := scope.names) (n := (s.heap.push { cls := .type "dict", data := .dict #[] }).objs.size) (cloFrom_has (cells := X.env.cells) (acc := []) hy))
    rw [← hcl] at e'
    refine ⟨c', e', ?_⟩
    rw [hcl] at e'
    rcases cells_mem (PySem.mem_of_lookup e') with hm | ⟨h1, _, _⟩
    · exact (cm hm).1
    · have := ok.uniq _ h1
      rw [hl] at this; cases this
  have okB : (X.blk s H scope cenv fp).Ok := by
    refine ⟨I.ok.mod, by show cenv.scope.kind = _; rw [hsc]; exact ok.kind, by show cenv.globals = _; rw [← hcenv]; exact I.ok.glob, by show cenv.builtins = _; rw [← hcenv]; exact I.ok.blt, by show s.heap.objs.size ≤ cenv.locals; rw [hL]; exact Nat.le_refl _,
      fun y z c e1 e2 => ?_, fun y hy => ?_, fun y c z e => ?_, I.ok.hd, I.ok.frames, .inl rfl, fun b hb => ⟨?_, fun y c e z => ?_⟩, I.bs, Nat.le_trans I.ok.bsz I.sz, fun b o e hb => ?_, fun b hb z => ?_, I.stack, I.stkFree⟩
    · have e1 : cenv.cells.lookup y = some c := e1
      have e2 : cenv.cells.lookup z = some c := e2
      rw [hcl] at e1 e2
      refine cells_inj (fun p hp => ?_) (fun y z c a b => I.ok.inj y z c (cm a).1 (cm b).1) (PySem.mem_of_lookup e1) (PySem.mem_of_lookup e2)
      rw [Heap.size_push]
      exact Nat.lt_succ_of_lt (cm (y := p.1) (c := p.2) hp).2
    · show ∃ c, cenv.cells.lookup y = some c
      have key : ∀ k, cenv.kindOf y = some k → (k = .cell ∨ k = .free) → ∃ c, cenv.cells.lookup y = some c := fun k hk hk' => by
        unfold Env.kindOf at hk
        rw [hsc] at hk
        obtain ⟨k', e, r⟩ := lookup_relS hk
        have : k' = .cell ∨ k' = .free := by
          rcases r with rfl | ⟨rfl, _⟩
          · exact hk'
          · exact .inr rfl
        rcases this with rfl | rfl
        · obtain ⟨c, hm⟩ := cells_has (n := (s.heap.push { cls := .type "dict", data := .dict #[] }).objs.size) (acc := cloFrom X.env.cells scope.names []) (PySem.mem_of_lookup e)
          obtain ⟨c', e'⟩ := mem_lookup hm
          exact ⟨c', by rw [hcl]; exact e'⟩
        · obtain ⟨c, h1, _⟩ := look e
          exact ⟨c, h1⟩
      rcases hy with hy | hy
      · exact key _ hy (.inl rfl)
      · exact key _ hy (.inr rfl)
    · have z : (scope.names.lookup y == some NameKind.cell) = true := z
      have z : scope.names.lookup y = some .cell := by simpa using z
      have e : cenv.cells.lookup y = some c := e
      rw [hcl] at e
      rcases cells_mem (PySem.mem_of_lookup e) with hm | ⟨_, h2, _⟩
      · rcases cloFrom_mem hm with hm | ⟨h1, _⟩
        · cases hm
        · have q := ok.uniq _ h1
          rw [z] at q; cases q
      · rw [Heap.size_push] at h2
        exact Nat.le_of_succ_le h2
    · show b ≠ cenv.locals
      rw [hL]; exact Nat.ne_of_lt (hfp b hb).2
    · have e : cenv.cells.lookup y = some c := e
      rcases mem e with ⟨h1, _⟩ | ⟨h1, _⟩
      · exact (hfp b hb).1.2.2.2.2.1 y c h1 z
      · have h2 : s.heap.objs.size + 1 ≤ b := by rw [← z]; exact h1
        exact absurd (Nat.lt_of_lt_of_le (hfp b hb).2 (Nat.le_of_succ_le h2)) (Nat.lt_irrefl _)
    · rcases (hfp b hb).1.2.2.2.1 with z | z
      · exact I.ok.noex b o e z
      · exact absurd (Nat.lt_of_lt_of_le (Heap.lt_size e) (Nat.le_trans I.ok.bsz z)) (Nat.lt_irrefl _)
    · rcases List.mem_cons.mp (I.stkSub b z) with z | z
      · exact (hfp b hb).1.2.1 z
      · exact (hfp b hb).1.2.2.1 z
  refine ⟨okB, rfl, I.bare, Un.kept kp, ⟨fun _ => none, ?_, fun i y av e1 e2 e3 => ?_⟩, fun y c e => ?_, ?_, fun y c e => ?_, fun p hp => ?_, I.hok.kept kp, by rw [wipe_length]; exact I.len⟩
  · show Heap.Ns _ cenv.locals _
    rw [hL]
    exact Heap.Ns.keeps (Heap.Ns.new ..) fun b o e => pushCells_keeps _ _ _ _ e
  · obtain ⟨e2, hne⟩ := wipe_some e2
    have hfr : scope.names.lookup y = some .free ∧ (cenv.kindOf y = some .cell ∨ cenv.kindOf y = some .free) := by
      have key : ∀ k, cenv.scope.names.lookup y = some k → k = .local ∨ k = .cell ∨ k = .free → scope.names.lookup y = some .free ∧ (cenv.kindOf y = some .cell ∨ cenv.kindOf y = some .free) := fun k hk hk' => by
        have hk0 := hk
        rw [hsc] at hk
        obtain ⟨k', e, r⟩ := lookup_relS hk
        have no : ¬ (k' = .local ∨ k' = .cell) := fun hh => by
          rcases ok.own _ (PySem.mem_of_lookup e) hh with e' | e'
          · obtain ⟨p, hp, hpy⟩ := List.mem_map.mp e'
            have e3 := ok.ix p hp
            have : p.1 = y := hpy
            rw [this] at e3
            exact hne (List.mem_map.mpr ⟨p, hp, nodup_ix hN e3 e1⟩)
          · exact e' (List.mem_of_getElem? e1)
        rcases r with rfl | ⟨rfl, rfl⟩
        · rcases hk' with rfl | rfl | rfl
          · exact absurd (.inl rfl) no
          · exact absurd (.inr rfl) no
          · exact ⟨e, .inr hk0⟩
        · exact ⟨e, .inl hk0⟩
      have e3 : Vis cenv.scope y := e3
      rcases e3 with e3 | e3 | e3
      · exact key _ e3 (.inl rfl)
      · exact key _ e3 (.inr (.inl rfl))
      · exact key _ e3 (.inr (.inr rfl))
    obtain ⟨m, hn, hl⟩ := I.loc
    have hvis : Vis X.env.scope y := (ok.free _ (PySem.mem_of_lookup hfr.1) rfl).elim (fun k => .inr (.inl k)) (fun k => .inr (.inr k))
    obtain ⟨w, r, q⟩ := hl i y av e1 e2 hvis
    refine ⟨w, r, .inr ⟨hfr.2, ?_⟩⟩
    obtain ⟨c, h1, h2⟩ := look hfr.1
    rcases q with ⟨k, _⟩ | ⟨_, c', e', z⟩
    · have k : X.env.scope.names.lookup y = some .local := k
      rcases ok.free _ (PySem.mem_of_lookup hfr.1) rfl with k' | k' <;> rw [show X.env.scope.names.lookup y = _ from k'] at k <;> cases k
    · rw [h2] at e'; cases e'
      exact ⟨c, h1, z.keeps kp⟩
  · have e : cenv.cells.lookup y = some c := e
    rcases mem e with ⟨h1, _⟩ | ⟨_, z⟩
    · obtain ⟨w, z⟩ := I.cell y c h1
      exact ⟨w, z.keeps kp⟩
    · exact ⟨_, z⟩
  · show H cenv.locals = none
    rw [hL]; exact I.hok.fresh (Nat.le_refl _)
  · have e : cenv.cells.lookup y = some c := e
    rcases mem e with ⟨h1, _⟩ | ⟨h1, _⟩
    · exact I.freeC y c h1
    · exact I.hok.fresh (Nat.le_of_succ_le h1)
  · exact absurd (show p ∈ ([] : List (Addr × Obj)) ++ [] from hp) (by simp)

/-- an item appended to a tracked list -/
theorem app_ok {E : Value → Shared → Prop} {D : Addr} {xs : List V} {y : V} {v : Value} {Q : Value → Shared → Prop} (I : Inv X pins σ H s) (hD : H D = some (.lst xs)) (hz : xs.length < sizeLine) (r : RelV y v)
    (h : ∀ s', Inv X pins σ (upd H D (.lst (xs ++ [y]))) s' → Q .none s') : wpAny (model X.prog X.w) X.A (call (.builtin "list.append") [.ref D, v]) Q E s := by
  obtain ⟨hz', its, n, ri, e⟩ := I.hok D _ hD
  have hl := ri.length
  refine append_at (hsz := by rw [List.size_toArray]; omega) e fun h' sb ho' => ?_
  refine h { s with heap := h' } (I.write (t' := s.toks) (by rw [hD]; trivial) (.inl rfl) (fun b u hb q => (sb.2 b hb).trans q) ⟨_, ho'⟩ ⟨by rw [List.length_append]; exact hz, its ++ [v], n + 1, ri.append (.cons r .nil), ?_⟩)
  rw [ho']
  simp

/-- a clause's tests -/
def PTs (X : Cx) (ifs : List Expr) (t : TT) : Prop :=
  ∀ (pins : List (Addr × Obj)) (s : Shared) (σ : St) (H : Hp) (Q : Bool → Hp → Prop), Inv X pins σ H s → t σ H Q →
    wpAny (model X.prog X.w) X.A (forIn ifs true fun c r => if r = true then do let ok ← isTrue c X.env (eval c X.env); pure (ForInStep.yield ok) else pure (ForInStep.yield r)) (TP X pins σ Q) X.xe s
def tYes : TT := fun _ H Q => Q true H
theorem pts_nil : PTs X [] tYes := fun _ _ _ H _ I h => wpAny_tests_nil ⟨H, I, h⟩
end

theorem thnF {α : Type} {t : Sem α} {Q Q' : α → Shared → Prop} {M : Model} {A : Around} {E : Value → Shared → Prop} {s : Shared} (h : wpAny M A t Q (fun _ _ => False) s) (hQ : ∀ a s, Q a s → Q' a s) : wpAny M A t Q' E s := wpAny_mono h hQ fun _ _ z => False.elim z

/-- the loop of a list comprehension's block, the target of any form (codeAny_compLoop_tests asks a target that no tuple goes to; statement and proof follow it, PyProof/CompMap.lean:41-61, with the step letOwnedTupleGo kept) -/
theorem compLoop_any {prog : Program} {w : World} {A : Around} {R : Result → Shared → Prop} {s : Shared} {elt target iter : Expr} {ifs : List Expr} {scope : Scope} {pos : Pos} {it acc : Value} {env : Env} (I : Nat → Shared → Prop)
    (turn : ∀ n s, I n s → wpAny (model prog w) A (pyNext it) (fun r s₁ => match r with
      | none => R (.ok .next) s₁
      | some v => wpAny (model prog w) A (letOwnedTupleGo target it v) (fun _ s₁' => wpAny (model prog w) A (assign target env v) (fun _ s₂ =>
          wpAny (model prog w) A (forIn ifs true fun c r => if r = true then do let ok ← isTrue c env (eval c env); pure (ForInStep.yield ok) else pure (ForInStep.yield r)) (fun ok s₃ =>
            if ok = true then wpAny (model prog w) A (eval elt env) (fun x s₄ =>
              wpAny (model prog w) A (call (.builtin "list.append") [acc, x]) (fun _ s₅ => ∃ m, m < n ∧ I m s₅) (notedBy (model prog w) A env fun e s' => R (.error e) s') s₄) (notedBy (model prog w) A env fun e s' => R (.error e) s') s₃
            else ∃ m, m < n ∧ I m s₃) (notedBy (model prog w) A env fun e s' => R (.error e) s') s₂) (notedBy (model prog w) A env fun e s' => R (.error e) s') s₁') (notedBy (model prog w) A env fun e s' => R (.error e) s') s₁) (notedBy (model prog w) A env fun e s' => R (.error e) s') s)
    (n : Nat) (h : I n s) :
    codeAny (model prog w) A (.compLoop (.ListComp elt [⟨target, iter, ifs, 0⟩] scope pos) 0 it acc env) R s := by
  refine codeAny_loop rfl I (fun n s hI => ?_) n h
  show wpAny _ A ((compTurn (.ListComp elt [⟨target, iter, ifs, 0⟩] scope pos) 0 it acc env).onRaise (fun x => do noteFrame x env; theTreesLotGoes x)) _ _ s
  refine wpAny_noted ?_
  rw [compTurn_list]
  refine wpAny_bind (wpAny_standAt (wpAny_bind (wpAny_mono (turn n s hI) (fun r s₁ h₁ => ?_) fun _ _ h' => h')))
  cases r with
  | none => exact wpAny_pure h₁
  | some v =>
    refine wpAny_bind (wpAny_mono h₁ (fun _ s₁' h₁' => ?_) fun _ _ h' => h')
    refine wpAny_bind (wpAny_mono h₁' (fun _ s₂ h₂ => wpAny_bind (wpAny_mono h₂ (fun ok s₃ h₃ => ?_) fun _ _ h' => h')) fun _ _ h' => h')
    cases ok with
    | false => exact wpAny_pure ⟨rfl, h₃⟩
    | true =>
      exact wpAny_bind (wpAny_bind (wpAny_mono h₃ (fun x s₄ h₄ => wpAny_bind (wpAny_mono h₄ (fun _ s₅ h₅ => wpAny_pure (wpAny_pure ⟨rfl, h₅⟩)) fun _ _ h' => h')) fun _ _ h' => h'))

section
variable {X : Cx}
/-- [elt for target in iter if ..]: D the new list; W by the turn and a measure, Nx what a turn is to reach -/
def tLc (wi : TI) (g : TG) (tt : TT) (te : TE) (vs : List Nat) : TE := fun σ H Q => wi σ H fun J H1 => ∀ D, H1 D = none → ∃ W : Nat → Nat → Hp → Prop, (∃ m, W 0 m (upd H1 D (.lst []))) ∧ ∀ i m H, W i m H →
  (J.stop i H ∧ Q (.ref D) H) ∨ (J.go i H ∧ ∃ Nx : Hp → Prop, (∀ H', Nx H' → ∃ m', m' < m ∧ W (i + 1) m' H') ∧ ∀ x H', J.yld i H x H' → g x (wipe σ vs) H' fun σ2 H2 => wipe σ2 vs = wipe σ vs ∧ tt σ2 H2 fun b H3 =>
    if b = true then te σ2 H3 fun y H4 => ∃ acc, H4 D = some (.lst acc) ∧ acc.length < sizeLine ∧ Nx (upd H4 D (.lst (acc ++ [y]))) else Nx H3)
theorem lc_core {pins : List (Addr × Obj)} {s : Shared} {σ : St} {H : Hp} {Q : VK} {elt tg iter : Expr} {ifs : List Expr} {scope : Scope} {own : List (Str × Nat)} {pos pos' : Pos} {wi : TI} {g : TG} {tt : TT} {te : TE} {use : Option (Value → Sem Unit)} {Qf : Value → Shared → Prop}
    (hc : X.calm = true) (hN : X.N.Nodup) (I : Inv X pins σ H s) (hi : PI X tg iter wi) (ok : BlkOk X.N X.env.scope scope own)
    (hg : ∀ (s : Shared) (H : Hp) (C : Addr) (cl : List (Str × Addr)) (fp : List Addr), PG (X.blk s H scope (compEnvC scope cl C X.env) fp) tg g) (ht : ∀ (s : Shared) (H : Hp) (C : Addr) (cl : List (Str × Addr)) (fp : List Addr), PTs (X.blk s H scope (compEnvC scope cl C X.env) fp) ifs tt)
    (he : ∀ (s : Shared) (H : Hp) (C : Addr) (cl : List (Str × Addr)) (fp : List Addr), PE (X.blk s H scope (compEnvC scope cl C X.env) fp) elt te) (hs : ∀ x, foldedSetIterable iter X.env x = pure x)
    (h : tLc wi g tt te (own.map (·.2)) σ H Q)
    (hRR : ∀ D C s' m H', Inv X pins σ H' s' → Q (.ref D) H' → s'.heap.Ns C m → FpOk X pins H' C → compPost (model X.prog X.w) X.A X.xe use Qf (.ref D) C (.ok .next) s') :
    wpAny (model X.prog X.w) X.A (comprehension (.ListComp elt [⟨tg, iter, ifs, 0⟩] scope pos) scope X.env pos' (newList []) false (eval iter X.env) use) Qf X.xe s := by
  have hfree : ∀ y ∈ scope.names, y.2 = .free → ∃ c, X.env.cells.lookup y.1 = some c := fun y hy e => by
    rcases ok.free y hy e with k | k
    · exact I.ok.has _ (.inl k)
    · exact I.ok.has _ (.inr k)
  refine wpAny_comprehension_free (use := use) rfl hs (closure_ok hfree) ok.kind (fun y hy e => by rw [ok.uniq y hy, e])
    (thn (hi pins s σ H _ I h) fun xv s1 hx => thn hx fun itv s2 h2 => ?_)
  obtain ⟨it, fp, tn, J, H2, e, I2, T, st2, f2, q⟩ := h2
  subst e
  refine wpAny_newObj_type (newEnv_comp ?_) (by show 0 ≤ sizeLine; decide)
  generalize hD : s2.heap.objs.size = D
  have hDn : H2 D = none := I2.hok.fresh (Nat.le_of_eq hD)
  obtain ⟨W, ⟨m0, w0⟩, turn⟩ := q D hDn
  -- the new list
  generalize hs3 : ({ s2 with heap := s2.heap.push { cls := .type "list", data := .seq ([] : List Value).toArray } } : Shared) = s3
  have I3 : Inv X pins σ (upd H2 D (.lst [])) s3 := by
    rw [← hs3]
    refine I2.laid (t' := s2.toks) (fun b o e => Heap.get?_push_of_some _ e) (Nat.le_of_eq hD) ⟨Nat.zero_le _, [], 0, .nil, ?_⟩
    rw [← hD]
    exact Heap.get?_push_size _ rfl
  have h3 : s3.heap = s2.heap.push { cls := .type "list", data := .seq ([] : List Value).toArray } := by rw [← hs3]
  have sz : ∀ b ∈ fp, b < s2.heap.objs.size := fun b hb => by
    obtain ⟨o, e, _⟩ := T.obj _ _ st2 b hb
    exact Heap.lt_size e
  have f3 : ∀ b ∈ fp, FpOk X pins (upd H2 D (.lst [])) b ∧ b < s3.heap.objs.size := fun b hb => by
    have hlt := sz b hb
    refine ⟨⟨?_, (f2 b hb).2⟩, by rw [h3, Heap.size_push]; exact Nat.lt_succ_of_lt hlt⟩
    rw [upd_ne (by rw [← hD]; exact Nat.ne_of_lt hlt)]
    exact (f2 b hb).1
  have st3 : tn 0 s3.heap := T.keep _ _ _ st2 fun b _ o e => by rw [h3]; exact Heap.get?_push_of_some _ e
  have I4 := block_start I3 ok hN f3
  have pg := hg s3 (upd H2 D (.lst [])) s3.heap.objs.size (cellsFrom (s3.heap.objs.size + 1) scope.names (cloFrom X.env.cells scope.names [])) fp
  have pt := ht s3 (upd H2 D (.lst [])) s3.heap.objs.size (cellsFrom (s3.heap.objs.size + 1) scope.names (cloFrom X.env.cells scope.names [])) fp
  have pe := he s3 (upd H2 D (.lst [])) s3.heap.objs.size (cellsFrom (s3.heap.objs.size + 1) scope.names (cloFrom X.env.cells scope.names [])) fp
  show codeAny _ _ (.compStart (.ListComp elt [⟨tg, iter, ifs, 0⟩] scope pos) 0 (.ref it) (.ref D) (compEnvC scope (cellsFrom (s3.heap.objs.size + 1) scope.names (cloFrom X.env.cells scope.names [])) s3.heap.objs.size X.env)) (compPost (model X.prog X.w) X.A X.xe use Qf (.ref D) s3.heap.objs.size) { s3 with heap := pushCells (s3.heap.push { cls := .type "dict", data := .dict #[] }) scope.names }
  have nfp : ∀ b ∈ fp, (upd H2 D (.lst [])) b = none := fun b hb => (f3 b hb).1.1
  generalize hce : compEnvC scope (cellsFrom (s3.heap.objs.size + 1) scope.names (cloFrom X.env.cells scope.names [])) s3.heap.objs.size X.env = ce at I4 pg pt pe ⊢
  have cL : ce.locals = s3.heap.objs.size := by subst hce; rfl
  generalize hH3 : upd H2 D (.lst []) = H3 at I3 I4 pg pt pe w0 nfp f3
  generalize hs4 : ({ s3 with heap := pushCells (s3.heap.push { cls := .type "dict", data := .dict #[] }) scope.names } : Shared) = s4 at I4 ⊢
  have st4 : tn 0 s4.heap := T.keep _ _ _ st3 fun b _ o e => by rw [← hs4]; exact pushCells_keeps _ _ _ _ (Heap.get?_push_of_some _ e)
  have stat : ∀ {σ' : St} {H' : Hp} {s' : Shared}, Inv (X.blk s3 H3 scope ce fp) [] σ' H' s' → (∀ b ∈ fp, H' b = none) → ∀ b ∈ fp, FpOk (X.blk s3 H3 scope ce fp) [] H' b := fun {σ' H' s'} I' hn b hb =>
    ⟨hn b hb, (I'.ok.exf b hb).1, I'.ok.exfs b hb, .inl hb, fun x c e => (I'.ok.exf b hb).2 x c e, fun p hp => absurd (show p ∈ ([] : List (Addr × Obj)) ++ [] from hp) (by simp)⟩
  have loop : codeAny (model X.prog X.w) X.A (.compLoop (.ListComp elt [⟨tg, iter, ifs, 0⟩] scope pos) 0 (.ref it) (.ref D) ce) (compPost (model X.prog X.w) X.A X.xe use Qf (.ref D) s3.heap.objs.size) s4 := by
    refine compLoop_any (fun n s' => ∃ i H', Inv (X.blk s3 H3 scope ce fp) [] (wipe σ (own.map (·.2))) H' s' ∧ tn i s'.heap ∧ (∀ b ∈ fp, H' b = none) ∧ W i n H') ?_ m0 ⟨0, H3, I4, st4, nfp, w0⟩
    rintro n s5 ⟨i, H5, I5, st5, n5, w5⟩
    rcases turn i n H5 w5 with ⟨stop, qq⟩ | ⟨go, Nx, hNx, step⟩
    · have td := T.done (X.blk s3 H3 scope ce fp) rfl rfl rfl hc i [] s5 _ H5 (fun _ _ => False) I5 (stat I5 n5) st5 stop
      refine thnF td fun r s6 ⟨hr, I6⟩ => ?_
      subst hr
      -- back in the def's context
      have I7 : Inv X pins σ H5 s6 := I3.call' (ch := fp) I6.os I6.base I6.hok I6.bare fun b hb => ⟨(f3 b hb).1.2.2.2.1, (f3 b hb).1.2.1, (f3 b hb).1.2.2.2.2.1, (f3 b hb).1.2.2.2.2.2⟩
      have nC : H5 s3.heap.objs.size = none := by
        have z : H5 ce.locals = none := I6.free
        rw [cL] at z
        exact z
      obtain ⟨m, hn, _⟩ := I6.loc
      have hn : s6.heap.Ns ce.locals m := hn
      rw [cL] at hn
      exact hRR D s3.heap.objs.size s6 m H5 I7 qq hn (I3.fpOk (Nat.le_refl _) nC)
    · have ti := T.item (X.blk s3 H3 scope ce fp) rfl rfl rfl hc i [] s5 _ H5 (fun _ _ => False) I5 (stat I5 n5) st5 go
      refine thnF ti fun r s6 ⟨u, hr, h6⟩ => ?_
      subst hr
      refine thnF h6 fun _ s7 ⟨x, H7, I7, r7, y7, st7, n7⟩ => ?_
      have I7' := I7.pinned (stat I7 n7) (T.obj _ _ st7)
      refine thnF (pg _ s7 _ H7 x u _ I7' r7 (step x H7 y7)) fun _ s8 ⟨σ8, H8, I8, hw8, q8⟩ => ?_
      refine thnF (pt _ s8 σ8 H8 _ I8 q8) fun b s9 ⟨H9, I9, q9⟩ => ?_
      -- the turn's end
      have fin : ∀ {s' : Shared} {H' : Hp}, Inv (X.blk s3 H3 scope ce fp) ([] ++ pinsAt fp s7.heap) σ8 H' s' → Nx H' → ∃ m, m < n ∧ ∃ i H', Inv (X.blk s3 H3 scope ce fp) [] (wipe σ (own.map (·.2))) H' s' ∧ tn i s'.heap ∧ (∀ b ∈ fp, H' b = none) ∧ W i m H' := fun {s' H'} I' nx => by
        obtain ⟨m', hm, w'⟩ := hNx H' nx
        have pin' : ∀ b ∈ fp, ∀ o, s7.heap.get? b = some o → s'.heap.get? b = some o ∧ H' b = none := fun b hb o e =>
          let z := I'.pin (b, o) (List.mem_append_right _ (List.mem_append_right _ (mem_pinsAt hb e)))
          ⟨z.1, z.2.1⟩
        have hl : (wipe σ (own.map (·.2))).length = σ8.length := by rw [← hw8, wipe_length]
        refine ⟨m', hm, i + 1, H', (I'.unpinned (pins := [])).weak hl (fun j v e => ?_), T.keep _ _ _ st7 fun b hb o e => (pin' b hb o e).1, fun b hb => ?_, w'⟩
        · rw [← hw8] at e
          exact (wipe_some e).1
        · obtain ⟨o, e, _⟩ := T.obj _ _ st7 b hb
          exact (pin' b hb o e).2
      cases b with
      | false =>
        simp only [Bool.false_eq_true, if_false] at q9 ⊢
        exact fin I9 q9
      | true =>
        simp only [if_true] at q9 ⊢
        refine thnF (pe _ s9 σ8 H9 _ I9 q9) fun z s10 ⟨yv, H10, I10, r10, acc, hD10, hz10, nx⟩ => ?_
        exact app_ok (X := X.blk s3 H3 scope ce fp) I10 hD10 hz10 r10 fun s11 I11 => fin I11 nx
  exact codeAny_compStart_list loop (T.self X.A 0 _ _ _ st4 loop)
/-- as a value -/
theorem pe_lc {elt tg iter : Expr} {ifs : List Expr} {scope : Scope} {own : List (Str × Nat)} {pos : Pos} {wi : TI} {g : TG} {tt : TT} {te : TE} (hc : X.calm = true) (hN : X.N.Nodup) (hi : PI X tg iter wi) (ok : BlkOk X.N X.env.scope scope own)
    (hg : ∀ (s : Shared) (H : Hp) (C : Addr) (cl : List (Str × Addr)) (fp : List Addr), PG (X.blk s H scope (compEnvC scope cl C X.env) fp) tg g) (ht : ∀ (s : Shared) (H : Hp) (C : Addr) (cl : List (Str × Addr)) (fp : List Addr), PTs (X.blk s H scope (compEnvC scope cl C X.env) fp) ifs tt)
    (he : ∀ (s : Shared) (H : Hp) (C : Addr) (cl : List (Str × Addr)) (fp : List Addr), PE (X.blk s H scope (compEnvC scope cl C X.env) fp) elt te) (hs : ∀ x, foldedSetIterable iter X.env x = pure x := by intro _; rfl) :
    PE X (.ListComp elt [⟨tg, iter, ifs, 0⟩] scope pos) (tLc wi g tt te (own.map (·.2))) := by
  intro pins s σ H Q I h
  rw [eval_ListComp]
  refine lc_core hc hN I hi ok hg ht he hs h fun D C s' m H' I' q hn f => ⟨m, hn, fun h'' sb => ?_⟩
  obtain ⟨f0, f1, f2, f3, f4, f5⟩ := f
  exact ⟨.ref D, H', I'.turned (t' := s'.toks) (fun b o hb e => (sb.2 b hb).trans e) f0 f1 f3 f4 f5, rfl, q⟩
/-- name = [..] on one line, the name a local -/
theorem ps_setLc {i : Nat} {y : Str} {py : Pos} {elt tg iter : Expr} {ifs : List Expr} {scope : Scope} {own : List (Str × Nat)} {pos spos : Pos} {wi : TI} {g : TG} {tt : TT} {te : TE} (hc : X.calm = true) (hN : X.N.Nodup) (hy : X.N[i]? = some y) (hyl : X.env.scope.names.lookup y = some .local)
    (hsw : swapsWith (.ListComp elt [⟨tg, iter, ifs, 0⟩] scope pos) (some (.Name y py)) spos.line X.env = pure true) (hi : PI X tg iter wi) (ok : BlkOk X.N X.env.scope scope own)
    (hg : ∀ (s : Shared) (H : Hp) (C : Addr) (cl : List (Str × Addr)) (fp : List Addr), PG (X.blk s H scope (compEnvC scope cl C X.env) fp) tg g) (ht : ∀ (s : Shared) (H : Hp) (C : Addr) (cl : List (Str × Addr)) (fp : List Addr), PTs (X.blk s H scope (compEnvC scope cl C X.env) fp) ifs tt)
    (he : ∀ (s : Shared) (H : Hp) (C : Addr) (cl : List (Str × Addr)) (fp : List Addr), PE (X.blk s H scope (compEnvC scope cl C X.env) fp) elt te) (hs : ∀ x, foldedSetIterable iter X.env x = pure x := by intro _; rfl) :
    PS X (.Assign [.Name y py] (.ListComp elt [⟨tg, iter, ifs, 0⟩] scope pos) spos) (tAsg (tLc wi g tt te (own.map (·.2))) (gName i)) := by
  intro pins s σ H D I h
  rw [exec_Assign_Name_used _ _ _ _ hsw]
  refine wpAny_bind (wpAny_standAt (wpAny_bind ?_))
  show wpAny _ X.A (do let _ ← comprehension (.ListComp elt [⟨tg, iter, ifs, 0⟩] scope pos) scope X.env (firstIterPos [⟨tg, iter, ifs, 0⟩] pos) (newList []) false (eval iter X.env) (some (assign (.Name y py) X.env))) _ _ s
  have h : tLc wi g tt te (own.map (·.2)) σ H (fun x H1 => gName i x σ H1 D.nx) := h
  refine wpAny_bind (thn (lc_core (Qf := fun _ s' => SP X pins D .next s') hc hN I hi ok hg ht he hs h fun L C s' m H' I' q hn f => ?_) fun _ s' hq => wpAny_pure (wpAny_pure hq))
  show wpAny _ _ (assign (.Name y py) X.env (.ref L)) _ _ _
  refine wpAny_assign_Name (store_ok2 (v := V.ref L) I' hN hy (.inl hyl) rfl (fun s2 I2 ⟨a, sb, ha⟩ => ?_) (.inr hyl))
  obtain ⟨f0, f1, f2, f3, f4, f5⟩ := f
  have haC : C ≠ a := by
    rcases ha with z | z
    · rw [z]; exact f1
    · exact fun e => f4 y a z e.symm
  refine ⟨m, hn.sameBut sb haC, fun h3 sb3 => ?_⟩
  exact ⟨_, H', I2.turned (t' := s2.toks) (fun b o hb e => (sb3.2 b hb).trans e) f0 f1 f3 f4 f5, q⟩
theorem sw_true {elt : Expr} {gs : List Comprehension} {scope : Scope} {pos py : Pos} {y : Str} {l : Nat} {env : Env} (hk : env.scope.kind = .function) (hy : env.scope.names.lookup y = some .local) (hl : (py.line == pos.line) = true)
    (ha : (scope.names.any fun (n, k) => n == y && (k == .local || k == .cell)) = false) : swapsWith (.ListComp elt gs scope pos) (some (.Name y py)) l env = pure true := by
  have ky : env.kindOf y = some .local := hy
  have hb : env.blockKind = .function := by unfold Env.blockKind; rw [hk]; rfl
  unfold swapsWith
  simp only [hb, ky, ha, Expr.pos, hl]
  rfl
end

/-- over a list that the block leaves as it is -/
theorem lc_list {K : PySem.W.Frag} {a : Addr} {xs : List V} {g : TG} {tt : TT} {te : TE} {vs : List Nat} {σ : St} {H1 : Hp} {D : Addr} {Qd : Hp → Prop} (Pv : Nat → Hp → Prop) (h0 : Pv 0 (upd H1 D (.lst []))) (hl : ∀ i H, i ≤ xs.length → Pv i H → SqL K H a xs)
    (hs : ∀ i x H, xs[i]? = some x → Pv i H → g x (wipe σ vs) H fun σ2 H2 => wipe σ2 vs = wipe σ vs ∧ tt σ2 H2 fun b H3 =>
      if b = true then te σ2 H3 fun y H4 => ∃ acc, H4 D = some (.lst acc) ∧ acc.length < sizeLine ∧ Pv (i + 1) (upd H4 D (.lst (acc ++ [y]))) else Pv (i + 1) H3) (hd : ∀ H, Pv xs.length H → Qd H) :
    ∃ W : Nat → Nat → Hp → Prop, (∃ m, W 0 m (upd H1 D (.lst []))) ∧ ∀ i m H, W i m H →
      ((Itl K a).stop i H ∧ Qd H) ∨ ((Itl K a).go i H ∧ ∃ Nx : Hp → Prop, (∀ H', Nx H' → ∃ m', m' < m ∧ W (i + 1) m' H') ∧ ∀ x H', (Itl K a).yld i H x H' → g x (wipe σ vs) H' fun σ2 H2 => wipe σ2 vs = wipe σ vs ∧ tt σ2 H2 fun b H3 =>
        if b = true then te σ2 H3 fun y H4 => ∃ acc, H4 D = some (.lst acc) ∧ acc.length < sizeLine ∧ Nx (upd H4 D (.lst (acc ++ [y]))) else Nx H3) := by
  refine ⟨fun i m H => m = xs.length - i ∧ i ≤ xs.length ∧ Pv i H, ⟨xs.length, by simp, Nat.zero_le _, h0⟩, ?_⟩
  rintro i m H ⟨rfl, hi, p⟩
  have q := hl i H hi p
  by_cases hlt : i < xs.length
  · refine .inr ⟨⟨xs, xs[i], q, by simp [hlt]⟩, Pv (i + 1), fun H' p' => ⟨xs.length - (i + 1), by omega, rfl, hlt, p'⟩, fun x H' y => ?_⟩
    obtain ⟨e, y⟩ := y
    subst e
    exact hs i x _ (y xs q) p
  · have e : i = xs.length := by omega
    subst e
    exact .inl ⟨⟨xs, q, Nat.le_refl _⟩, hd H p⟩
def blkC (N : List Str) (sc scope : Scope) (own : List (Str × Nat)) : Bool :=
  (match scope.kind with | .function => true | _ => false) && (scope.names.all fun y => decide (scope.names.lookup y.1 = some y.2)) && (own.all fun p => decide (N[p.2]? = some p.1)) &&
    (scope.names.all fun y => match y.2 with
      | .free => (match sc.names.lookup y.1 with | some .cell => true | some .free => true | _ => false)
      | .local => decide (y.1 ∈ own.map (·.1)) || decide (y.1 ∉ N)
      | .cell => decide (y.1 ∈ own.map (·.1)) || decide (y.1 ∉ N)
      | _ => true)
theorem blkOk_by {N : List Str} {sc scope : Scope} {own : List (Str × Nat)} (h : blkC N sc scope own = true) : BlkOk N sc scope own := by
  unfold blkC at h
  simp only [Bool.and_eq_true, List.all_eq_true, decide_eq_true_eq] at h
  obtain ⟨⟨⟨h1, h2⟩, h3⟩, h4⟩ := h
  refine ⟨?_, h2, h3, fun y hy e => ?_, fun y hy e => ?_⟩
  · split at h1
    · assumption
    · cases h1
  · have q := h4 y hy
    simp only [e] at q
    split at q <;> first | exact .inl (by assumption) | exact .inr (by assumption) | cases q
  · have q := h4 y hy
    rcases e with e | e <;> (simp only [e, Bool.or_eq_true, decide_eq_true_eq] at q; exact q)
end L2

namespace L2
open PySem PySem.Spec PyProof.Rows

section
variable {prog : Program} {w : World} {A : Around} {R : Result → Shared → Prop} {s : Shared} {elt t0 i0 t1 i1 : Expr} {ifs0 ifs1 : List Expr} {scope : Scope} {pos : Pos} {it acc : Value} {env : Env}
end

section
variable {X : Cx}
end
end L2

namespace L2
open PySem PySem.Spec PyProof.Rows

section
variable {κ : Type} [DecidableEq κ]
def valV (kvs : List (κ × V)) (k : κ) : Option V := (kvs.find? fun kv => decide (kv.1 = k)).map (·.2)
/-- in its place, or at the end -/
def putK (kvs : List (κ × V)) (k : κ) (v : V) : List (κ × V) :=
  if (kvs.any fun kv => decide (kv.1 = k)) = true then kvs.map (fun kv => if kv.1 = k then (kv.1, v) else kv) else kvs ++ [(k, v)]
def dropK (kvs : List (κ × V)) (k : κ) : List (κ × V) := kvs.filter fun kv => decide (kv.1 ≠ k)

theorem valV_pos {p : κ × V} {r : List (κ × V)} {k : κ} (e : p.1 = k) : valV (p :: r) k = some p.2 := by simp [valV, List.find?_cons, e]
theorem valV_neg {p : κ × V} {r : List (κ × V)} {k : κ} (e : ¬ p.1 = k) : valV (p :: r) k = valV r k := by simp [valV, List.find?_cons, e]
theorem valV_any (k : κ) : ∀ kvs : List (κ × V), (kvs.any fun kv => decide (kv.1 = k)) = (valV kvs k).isSome
  | [] => rfl
  | p :: r => by
    rw [List.any_cons]
    by_cases e : p.1 = k
    · simp only [valV_pos e, decide_eq_true e, Bool.true_or, Option.isSome_some]
    · rw [valV_neg e, decide_eq_false e, Bool.false_or]; exact valV_any k r
theorem RelO.isSome_eq {o : Option V} {u : Option Value} (r : RelO o u) : o.isSome = u.isSome := by
  cases o with
  | none => cases u with
    | none => rfl
    | some _ => exact (show False from r).elim
  | some _ => cases u with
    | none => exact (show False from r).elim
    | some _ => rfl
theorem RelO.getD {o : Option V} {u : Option Value} {d : V} {d' : Value} (r : RelO o u) (rd : RelV d d') : RelV (o.getD d) (u.getD d') := by
  cases o with
  | none => cases u with
    | none => exact rd
    | some _ => exact (show False from r).elim
  | some _ => cases u with
    | none => exact (show False from r).elim
    | some _ => exact r

/-- raw tables of the same keys -/
theorem KV.val {kvs : List (κ × V)} {vs : List (κ × Value)} (r : KV kvs vs) (k : κ) : RelO (valV kvs k) (valueAt vs k) := by
  unfold KV at r
  induction r with
  | nil => exact True.intro
  | @cons p q ps qs h t ih =>
    obtain ⟨h1, h2⟩ := h
    by_cases e : p.1 = k
    · have e' : q.1 = k := h1.symm.trans e
      have b : valueAt (q :: qs) k = some q.2 := by simp [valueAt, List.find?_cons, e']
      rw [valV_pos e, b]; exact h2
    · have e' : ¬ q.1 = k := fun z => e (h1.trans z)
      have b : valueAt (q :: qs) k = valueAt qs k := by simp [valueAt, List.find?_cons, e']
      rw [valV_neg e, b]; exact ih
theorem KV.any {kvs : List (κ × V)} {vs : List (κ × Value)} (r : KV kvs vs) (k : κ) : (kvs.any fun kv => decide (kv.1 = k)) = vs.any fun kv => decide (kv.1 = k) := by
  unfold KV at r
  induction r with
  | nil => rfl
  | cons h t ih => rw [List.any_cons, List.any_cons, ih, h.1]
theorem KV.repl {kvs : List (κ × V)} {vs : List (κ × Value)} (r : KV kvs vs) (k : κ) {y : V} {u : Value} (ry : RelV y u) :
    KV (kvs.map fun kv => if kv.1 = k then (kv.1, y) else kv) (vs.map fun kv => if kv.1 = k then (kv.1, u) else kv) := by
  unfold KV at r ⊢
  induction r with
  | nil => exact .nil
  | @cons p q ps qs h t ih =>
    rw [List.map_cons, List.map_cons]
    refine .cons ?_ ih
    obtain ⟨h1, h2⟩ := h
    by_cases e : p.1 = k
    · rw [if_pos e, if_pos (h1.symm.trans e)]; exact ⟨h1, ry⟩
    · rw [if_neg e, if_neg (fun z => e (h1.trans z))]; exact ⟨h1, h2⟩
theorem KV.put {kvs : List (κ × V)} {vs : List (κ × Value)} (r : KV kvs vs) (k : κ) {y : V} {u : Value} (ry : RelV y u) : KV (putK kvs k y) (stored vs k u) := by
  unfold putK stored
  rw [r.any k]
  by_cases e : (vs.any fun kv => decide (kv.1 = k)) = true
  · rw [if_pos e, if_pos e]; exact r.repl k ry
  · rw [if_neg e, if_neg e]; exact Paired.snoc r ⟨rfl, ry⟩
theorem KV.drop {kvs : List (κ × V)} {vs : List (κ × Value)} (r : KV kvs vs) (k : κ) : KV (dropK kvs k) (without vs k) := by
  unfold KV at r ⊢
  unfold dropK without
  induction r with
  | nil => exact .nil
  | @cons p q ps qs h t ih =>
    obtain ⟨h1, h2⟩ := h
    rw [List.filter_cons, List.filter_cons]
    by_cases e : p.1 = k
    · have a : ¬ decide (p.1 ≠ k) = true := by simp [e]
      have b : ¬ decide (q.1 ≠ k) = true := by simp [h1.symm.trans e]
      rw [if_neg a, if_neg b]; exact ih
    · have e' : ¬ q.1 = k := fun z => e (h1.trans z)
      have a : decide (p.1 ≠ k) = true := by simp [e]
      have b : decide (q.1 ≠ k) = true := by simp [e']
      rw [if_pos a, if_pos b]; exact .cons ⟨h1, h2⟩ ih
theorem KV.keys {kvs : List (κ × V)} {vs : List (κ × Value)} (r : KV kvs vs) : kvs.map (·.1) = vs.map (·.1) := by
  unfold KV at r
  induction r with
  | nil => rfl
  | cons h t ih => rw [List.map_cons, List.map_cons, ih, h.1]
theorem KV.length {kvs : List (κ × V)} {vs : List (κ × Value)} (r : KV kvs vs) : kvs.length = vs.length := Paired.length r
end


/-- raw entries of a dict with tuple keys -/
abbrev KT (H : Hp) : List (List Key × V) → List (List Key × Addr × Value) → Prop := Paired fun p q => p.1 = q.1 ∧ H q.2.1 = some (.tup (p.1.map kV)) ∧ RelV p.2 q.2.2
theorem KT.val {H : Hp} {kvs : List (List Key × V)} {xs : List (List Key × Addr × Value)} (r : KT H kvs xs) (k : List Key) : RelO (valV kvs k) ((atKey xs k).map (·.2)) := by
  induction r with
  | nil => exact True.intro
  | @cons p q ps qs h t ih =>
    obtain ⟨h1, _, h2⟩ := h
    by_cases e : p.1 = k
    · have e' : q.1 = k := h1.symm.trans e
      have b : atKey (q :: qs) k = some q.2 := by simp [atKey, List.find?_cons, e']
      rw [valV_pos e, b]; exact h2
    · have e' : ¬ q.1 = k := fun z => e (h1.trans z)
      have b : atKey (q :: qs) k = atKey qs k := by simp [atKey, List.find?_cons, e']
      rw [valV_neg e, b]; exact ih
theorem KT.repl {H : Hp} {kvs : List (List Key × V)} {xs : List (List Key × Addr × Value)} (r : KT H kvs xs) (k : List Key) {y : V} {u : Value} (ry : RelV y u) :
    KT H (kvs.map fun kv => if kv.1 = k then (kv.1, y) else kv) (xs.map (putAt k u)) := by
  induction r with
  | nil => exact .nil
  | @cons p q ps qs h t ih =>
    rw [List.map_cons, List.map_cons]
    refine .cons ?_ ih
    obtain ⟨h1, h2, h3⟩ := h
    unfold putAt
    by_cases e : p.1 = k
    · rw [if_pos e, if_pos (h1.symm.trans e)]; exact ⟨h1, h2, ry⟩
    · rw [if_neg e, if_neg (fun z => e (h1.trans z))]; exact ⟨h1, h2, h3⟩
theorem KT.put {H : Hp} {kvs : List (List Key × V)} {xs : List (List Key × Addr × Value)} (r : KT H kvs xs) (k : List Key) {b : Addr} {y : V} {u : Value} (hb : H b = some (.tup (k.map kV))) (ry : RelV y u) :
    KT H (putK kvs k y) (storedH xs k b u) := by
  have e : (kvs.any fun kv => decide (kv.1 = k)) = (atKey xs k).isSome := by
    rw [valV_any, (r.val k).isSome_eq, Option.isSome_map]
  unfold putK storedH
  rw [e]
  by_cases q : (atKey xs k).isSome = true
  · rw [if_pos q, if_pos q]; exact r.repl k ry
  · rw [if_neg q, if_neg q]; exact Paired.snoc r ⟨rfl, hb, ry⟩
theorem KT.keeps {H H' : Hp} {kvs : List (List Key × V)} {xs : List (List Key × Addr × Value)} (r : KT H kvs xs) (ht : ∀ b ys, H b = some (.tup ys) → H' b = some (.tup ys)) : KT H' kvs xs :=
  Paired.mapP r fun _ _ z => ⟨z.1, ht _ _ z.2.1, z.2.2⟩

section
variable {P : Program} {w : World} {H : Hp} {h : Heap} {a : Addr}
end

/-- what the dict at a holds at the key y -/
def DGet (H : Hp) (a : Addr) (y : V) (r : Option V) : Prop :=
  (∃ kvs k, Rd H a (.dK kvs) ∧ y = kV k ∧ r = valV kvs k) ∨ ∃ kvs k b, Rd H a (.dT kvs) ∧ y = .ref b ∧ H b = some (.tup (k.map kV)) ∧ r = valV kvs k
/-- the heap behind a[y] = v -/
def DPut (H : Hp) (a : Addr) (y v : V) (H' : Hp) : Prop :=
  (∃ kvs k, H a = some (.dK kvs) ∧ y = kV k ∧ kvs.length < sizeLine ∧ H' = upd H a (.dK (putK kvs k v))) ∨
  ∃ kvs k b, H a = some (.dT kvs) ∧ y = .ref b ∧ H b = some (.tup (k.map kV)) ∧ kvs.length < sizeLine ∧ H' = upd H a (.dT (putK kvs k v))
theorem DGet.k {H : Hp} {a : Addr} {kvs : List (Key × V)} {k : Key} (e : H a = some (.dK kvs)) : DGet H a (kV k) (valV kvs k) := .inl ⟨kvs, k, .inl e, rfl, rfl⟩
theorem DGet.t {H : Hp} {a b : Addr} {kvs : List (List Key × V)} {k : List Key} (e : H a = some (.dT kvs)) (eb : H b = some (.tup (k.map kV))) : DGet H a (.ref b) (valV kvs k) := .inr ⟨kvs, k, b, .inl e, rfl, eb, rfl⟩
theorem DPut.k {H : Hp} {a : Addr} {kvs : List (Key × V)} {k : Key} {v : V} (e : H a = some (.dK kvs)) (hl : kvs.length < sizeLine) : DPut H a (kV k) v (upd H a (.dK (putK kvs k v))) := .inl ⟨kvs, k, e, rfl, hl, rfl⟩
theorem DPut.t {H : Hp} {a b : Addr} {kvs : List (List Key × V)} {k : List Key} {v : V} (e : H a = some (.dT kvs)) (eb : H b = some (.tup (k.map kV))) (hl : kvs.length < sizeLine) :
    DPut H a (.ref b) v (upd H a (.dT (putK kvs k v))) := .inr ⟨kvs, k, b, e, rfl, eb, hl, rfl⟩


section
variable {X : Cx} {pins : List (Addr × Obj)} {σ : St} {H : Hp} {s : Shared} {a : Addr} {y v : V} {u r : Value} {o : Option V} {A : Around} {E : Value → Shared → Prop}

end

section
variable {X : Cx} {pins : List (Addr × Obj)} {σ : St} {H : Hp} {s : Shared} {a : Addr} {kvs : List (Key × V)} {k : Key} {u : Value} {A : Around} {E : Value → Shared → Prop}
end


section
variable {X : Cx} {o i e value : Expr} {pos pos' tpos : Pos} {td ty tv : TE}
end


section
variable {X : Cx} {pos : Pos}
end

/-- a method call o.m(e) of a built-in, with one argument: what must be seen of the text -/
structure M1 (X : Cx) (o : Expr) (m : Str) (apos : Pos) (e : Expr) (cpos : Pos) : Prop where
  base : attributeBase o m X.env (eval o X.env) = eval o X.env
  few : ((backTo cpos (starEach [e] X.env)).all (fun x => !x.1) && (backToKw cpos (keywordEach [] X.env)).all (fun x => x.1.isSome)
    && decide (([e] : List Expr).length + ([] : List Keyword).length + (if ([] : List Keyword).isEmpty then 0 else 1) < 30)) = true
  line : (apos.endLine == cpos.line) = true
  trees : backTo cpos (starEach [e] X.env) = [(false, eval e X.env)]
structure M2 (X : Cx) (o : Expr) (m : Str) (apos : Pos) (e f : Expr) (cpos : Pos) : Prop where
  base : attributeBase o m X.env (eval o X.env) = eval o X.env
  few : ((backTo cpos (starEach [e, f] X.env)).all (fun x => !x.1) && (backToKw cpos (keywordEach [] X.env)).all (fun x => x.1.isSome)
    && decide (([e, f] : List Expr).length + ([] : List Keyword).length + (if ([] : List Keyword).isEmpty then 0 else 1) < 30)) = true
  line : (apos.endLine == cpos.line) = true
  trees : backTo cpos (starEach [e, f] X.env) = [(false, eval e X.env), (false, eval f X.env)]

section
variable {X : Cx} {pins : List (Addr × Obj)} {σ : St} {H : Hp} {s : Shared} {a : Addr} {y d : V} {u r : Value} {o : Option V} {A : Around} {E : Value → Shared → Prop}
end

section
variable {X : Cx} {o e f : Expr} {apos cpos : Pos} {td ty tx : TE}
end

section
variable {X : Cx} {pins : List (Addr × Obj)} {σ : St} {H : Hp} {s : Shared} {a : Addr} {kvs : List (Key × V)} {A : Around} {E : Value → Shared → Prop}
end


section
variable {X : Cx} {pins : List (Addr × Obj)} {σ : St} {H : Hp} {s : Shared} {a : Addr} {y : V} {u : Value} {A : Around} {E : Value → Shared → Prop}
end
end L2

namespace L2
open PySem PySem.Spec PyProof.Rows

section
variable {prog : Program} {w : World} {A : Around} {E : Value → Shared → Prop}
end

section
variable {X : Cx}
end
end L2

namespace L2
open PySem PySem.Spec PyProof.Rows

section
variable {X : Cx} {pins : List (Addr × Obj)} {σ : St} {H : Hp} {s : Shared} {h' : Heap}
/-- several records of ours have turned -/
theorem Inv.turnedL {t' : Nat} {ch : List Addr} (I : Inv X pins σ H s) (k : ∀ b o, b ∉ ch → s.heap.get? b = some o → h'.get? b = some o) (hf : ∀ b ∈ ch, FpOk X pins H b) : Inv X pins σ H { s with heap := h', toks := t' } := by
  have nit : ∀ b u, H b = some u → b ∉ ch := fun b u e z => by
    have q := (hf b z).1
    rw [q] at e; cases e
  refine I.step (g' := s.gens) (d' := s.drawn) (ch := ch) (fun b hb => ⟨(hf b hb).2.2.2.1, (hf b hb).2.1, (hf b hb).2.2.2.2.1, (hf b hb).2.2.2.2.2⟩) (fun b o _ _ hc e _ => k b o hc e) (fun b o _ _ hc e _ => ⟨o.slots, k b o hc e⟩)
    (fun _ _ _ _ n => n) (fun b o hc e => ⟨o, k b o hc e⟩) (fun _ _ e => e) (fun _ _ _ e => e) (fun b ps e => ⟨#[], by rw [e]; simp⟩) (fun m hm => ?_) (fun b u e => ?_) I.bare
  · obtain ⟨o, es, ep, ho, r⟩ := hm
    exact ⟨o, es, ep, k _ o (fun z => (hf _ z).2.1 rfl) ho, r⟩
  · refine (I.hok b u e).stay (fun c v hc q => k c v ?_ q) (fun _ q => q) fun _ _ q => q
    rcases hc with z | z
    · rw [z]; exact nit b u e
    · exact nit c _ z
/-- .. and one new object is laid -/
theorem Inv.turnedNew {t' : Nat} {ch : List Addr} {T : Addr} {ob : HO} (I : Inv X pins σ H s) (k : ∀ b o, b ∉ ch → s.heap.get? b = some o → h'.get? b = some o) (hf : ∀ b ∈ ch, FpOk X pins H b) (hT : s.heap.objs.size ≤ T)
    (new : ObjOk X.prog X.w (upd H T ob) h' T ob) : Inv X pins σ (upd H T ob) { s with heap := h', toks := t' } := by
  have hn : H T = none := I.hok.fresh hT
  have nit : ∀ b u, H b = some u → b ∉ ch := fun b u e z => by
    have q := (hf b z).1
    rw [q] at e; cases e
  refine I.step (g' := s.gens) (d' := s.drawn) (ch := ch) (fun b hb => ⟨(hf b hb).2.2.2.1, (hf b hb).2.1, (hf b hb).2.2.2.2.1, (hf b hb).2.2.2.2.2⟩) (fun b o _ _ hc e _ => k b o hc e) (fun b o _ _ hc e _ => ⟨o.slots, k b o hc e⟩)
    (fun b o _ e n => ?_) (fun b o hc e => ⟨o, k b o hc e⟩) (fun b xs e => ?_) (fun b o u e => ?_) (fun b ps e => ⟨#[], ?_⟩) (fun m hm => ?_) (fun b u e => ?_) I.bare
  · rw [upd_ne (Nat.ne_of_lt (Nat.lt_of_lt_of_le (Heap.lt_size e) hT))]; exact n
  · rw [upd_ne (ne_of_none e hn)]; exact e
  · rw [upd_ne (ne_of_none e hn)]; exact e
  · rw [upd_ne (ne_of_none e hn), e]; simp
  · obtain ⟨o, es, ep, ho, r⟩ := hm
    exact ⟨o, es, ep, k _ o (fun z => (hf _ z).2.1 rfl) ho, r⟩
  · by_cases hb : b = T
    · subst hb
      rw [upd_same] at e
      cases e
      exact new
    · rw [upd_ne hb] at e
      refine (I.hok b u e).stay (fun c v hc q => k c v ?_ q) (fun c q => by rw [upd_ne (ne_of_none q hn)]; exact q) fun c xs q => by rw [upd_ne (ne_of_none q hn)]; exact q
      rcases hc with z | z
      · rw [z]; exact nit b u e
      · exact nit c _ z

end
section
variable {X : Cx}
end

section
variable {X : Cx} {tg : Expr}
end
section
variable {X : Cx} {tg : Expr}
end

section
variable {prog : Program} {w : World} {A : Around} {E : Value → Shared → Prop} {s : Shared}
end

section
variable {X : Cx} {pins : List (Addr × Obj)} {σ : St} {H : Hp} {s : Shared} {d : Addr} {o : Obj}
end

section
variable {P : Program} {w : World} {K : PySem.W.Frag} {tg : Expr} {d : Addr} {o : Obj} {es : Array DictEntry} {ep : Nat}
end

section
variable {X : Cx} {tg e : Expr} {td : TE} {apos cpos : Pos}
end

/-- the list at a as it stands at each turn, each item in a new pair -/
def Ite (K : PySem.W.Frag) (a : Addr) : It :=
  ⟨fun i H => ∃ (xs : List V) (x : V), SqL K H a xs ∧ xs[i]? = some x, fun i H v H' => ∃ T x, v = .ref T ∧ H T = none ∧ H' = upd H T (.tup [.int (i : Nat), x]) ∧ ∀ xs, SqL K H a xs → xs[i]? = some x, fun i H => ∃ xs : List V, SqL K H a xs ∧ xs.length ≤ i⟩
theorem turn_enum {P : Program} {w : World} {K : PySem.W.Frag} {elts : List Expr} {kk : Nat} {tpos : Pos} (a e it : Addr) :
    Turn P w K (.Tuple elts kk tpos) (Ite K a) [e, it] e (fun i h => (∃ old, IsEnum h e it ((i : Nat) : Int) old) ∧ h.IsListIter it a i ∧ e ≠ it) where
  mem := by simp
  obj := fun i h st b hb => by
    obtain ⟨⟨old, he⟩, ⟨o, ho, hc, hd⟩, _⟩ := st
    have e' : b = e ∨ b = it := by simpa using hb
    rcases e' with z | z
    · rw [z]; exact ⟨_, he, fun v q => nomatch q⟩
    · rw [z]; exact ⟨o, ho, fun v q => by rw [hd] at q; cases q⟩
  keep := fun i h h' st k => let ⟨⟨old, he⟩, hi, hne⟩ := st; ⟨⟨old, k e (by simp) _ he⟩, hi.at fun o q => k it (by simp) o q, hne⟩
  item := by
    intro X hP hw hK hc i pins s σ H E I hf st hg
    subst hP hw hK
    obtain ⟨⟨old, he⟩, hit, hne⟩ := st
    obtain ⟨xs, x, hq, hx⟩ := hg
    obtain ⟨its, rv, p, hz⟩ := I.list hq
    obtain ⟨u, hu, ru⟩ := rv.get hx
    have hel : e < s.heap.objs.size := Heap.lt_size he
    have hil : it < s.heap.objs.size := by obtain ⟨_, q, _⟩ := hit; exact Heap.lt_size q
    refine wpAny_pyNext_enum_item he hit p.isList (x := u) (by simpa using hu) hne fun h' ho hit' hT hsz hk => ?_
    refine ⟨_, rfl, wpAny_letOwnedTupleGo_enum (s := { s with heap := h', toks := s.toks + 1 }) ho fun h'' he' sb => ?_⟩
    have hT2 : h''.get? s.heap.objs.size = some { cls := .type "tuple", data := .seq #[.int i s.toks, u] } := (sb.2 _ (Nat.ne_of_gt hel)).trans hT
    have new : ObjOk X.prog X.w (upd H s.heap.objs.size (.tup [.int (i : Nat), x])) h'' s.heap.objs.size (.tup [.int (i : Nat), x]) :=
      ⟨by show 2 ≤ sizeLine; decide, [.int i s.toks, u], .cons ⟨_, rfl⟩ (.cons ru .nil), ⟨_, hT2, rfl, _, rfl⟩⟩
    have I1 : Inv X pins σ (upd H s.heap.objs.size (.tup [.int (i : Nat), x])) { s with heap := h'', toks := s.toks + 1 } :=
      I.turnedNew (ch := [e, it]) (fun b ob hb q => (sb.2 b (fun z => hb (by simp [z]))).trans (hk b ob (fun z => hb (by simp [z])) (fun z => hb (by simp [z])) q)) hf (Nat.le_refl _) new
    refine ⟨.ref s.heap.objs.size, _, I1, rfl, ⟨_, x, rfl, I.hok.fresh (Nat.le_refl _), rfl, fun ys hy => by rw [I.list_inj hy hq]; exact hx⟩, ⟨⟨u, ?_⟩, hit'.at fun o q => (sb.2 it (Ne.symm hne)).trans q, hne⟩, fun b hb => ?_⟩
    · have e1 : ((i + 1 : Nat) : Int) = (i : Int) + 1 := by omega
      rw [e1]; exact he'
    · have hb' : b < s.heap.objs.size := by
        have e' : b = e ∨ b = it := by simpa using hb
        rcases e' with z | z
        · rw [z]; exact hel
        · rw [z]; exact hil
      rw [upd_ne (Nat.ne_of_lt hb')]
      exact (hf b hb).1
  done := by
    intro X hP hw hK hc i pins s σ H E I hf st hg
    subst hP hw hK
    obtain ⟨⟨old, he⟩, hit, hne⟩ := st
    obtain ⟨xs, hq, hx⟩ := hg
    obtain ⟨its, rv, p, hz⟩ := I.list hq
    obtain ⟨f0, f1, f2, f3, f4, f5⟩ := hf it (by simp)
    have hl := rv.length
    exact wpAny_pyNext_enum_end (I.ok.hd hc) he hit p.isList (by simp; omega) fun h' eb => ⟨rfl, I.turned (t' := s.toks) (fun b o hb q => eb b o hb q) f0 f1 f3 f4 f5⟩
  self := fun A i s Q E st h => let ⟨⟨_, he⟩, _⟩ := st; wpAny_pyIter_enum he h
def iEnum (K : PySem.W.Frag) (ta : TA) : TI := fun σ H R => ta σ H fun vs H1 => ∃ a xs, vs = [.ref a] ∧ SqL K H1 a xs ∧ R (Ite K a) H1
theorem pi_enum {X : Cx} {e : Expr} {ta : TA} {p pos tpos : Pos} {elts : List Expr} {kk : Nat} (hg : Gl X "enumerate") (hm : X.mg "enumerate" = none) (ha : PA X [e] ta) (hs : starEach [e] X.env = [(false, eval e X.env)] := by rfl) :
    PI X (.Tuple elts kk tpos) (.Call (.Name "enumerate" p) [e] [] pos) (iEnum X.K ta) := by
  intro pins s σ H R I h
  refine Call_ (ld_blt I hg hm boot_enumerate (PyProof.Rows.callWith_type1 (thn (ha pos pins s σ H _ I h) fun us s1 ⟨vs, H1, I1, r1, q1⟩ => ?_) hs rfl))
  obtain ⟨a, xs, ex, hq, q⟩ := q1
  subst ex
  cases r1 with
  | cons r rr =>
    cases rr
    cases r
    obtain ⟨its, rv, p', hz⟩ := I1.list hq
    refine call_enumerate_list p'.isList fun h' he hit hsz hk => wpAny_pyIter_enum he ?_
    have I2 : Inv X pins σ H1 { s1 with heap := h' } := I1.kept (t' := s1.toks) hk
    refine ⟨s1.heap.objs.size + 1, [s1.heap.objs.size + 1, s1.heap.objs.size], _, _, H1, rfl, I2, turn_enum a (s1.heap.objs.size + 1) s1.heap.objs.size, ⟨⟨.none, he⟩, hit, Nat.succ_ne_self _⟩, fun b hb => ?_, q⟩
    have e' : b = s1.heap.objs.size + 1 ∨ b = s1.heap.objs.size := by simpa using hb
    have hle : s1.heap.objs.size ≤ b := by
      rcases e' with z | z
      · rw [z]; exact Nat.le_add_right _ _
      · rw [z]; exact Nat.le_refl _
    exact I1.fpOk hle (I1.hok.fresh hle)
theorem boot_zip5 : bootBuiltins "zip" = some (.type "zip") := by decide +kernel
/-- the lists at a and b as they stand at each turn, the items in new pairs -/
def Itz (K : PySem.W.Frag) (a b : Addr) : It :=
  ⟨fun i H => ∃ (xs ys : List V) (x y : V), SqL K H a xs ∧ SqL K H b ys ∧ xs[i]? = some x ∧ ys[i]? = some y,
    fun i H v H' => ∃ T x y, v = .ref T ∧ H T = none ∧ H' = upd H T (.tup [x, y]) ∧ (∀ xs, SqL K H a xs → xs[i]? = some x) ∧ ∀ ys, SqL K H b ys → ys[i]? = some y,
    fun i H => ∃ xs ys : List V, SqL K H a xs ∧ SqL K H b ys ∧ (xs.length ≤ i ∨ ys.length ≤ i)⟩
theorem turn_zip {P : Program} {w : World} {K : PySem.W.Frag} {elts : List Expr} {kk : Nat} {tpos : Pos} {a b z TI TO i1 i2 : Addr} (D : ZipApart z TI TO i1 i2 a b) :
    Turn P w K (.Tuple elts kk tpos) (Itz K a b) [z, TI, TO, i1, i2] z (fun i h => IsZip h z TI TO .none ∧ IsPair h TI (.ref i1) (.ref i2) ∧ (∃ x y, IsPair h TO x y) ∧ h.IsListIter i1 a i ∧ h.IsListIter i2 b i) where
  mem := by simp
  obj := fun i h st c hc => by
    obtain ⟨hz, hTI, ⟨x, y, hTO⟩, ⟨o1, e1, _, d1⟩, ⟨o2, e2, _, d2⟩⟩ := st
    have e' : c = z ∨ c = TI ∨ c = TO ∨ c = i1 ∨ c = i2 := by simpa using hc
    rcases e' with q | q | q | q | q
    · rw [q]; exact ⟨_, hz, fun v q => nomatch q⟩
    · rw [q]; exact ⟨_, hTI, fun v q => nomatch q⟩
    · rw [q]; exact ⟨_, hTO, fun v q => nomatch q⟩
    · rw [q]; exact ⟨o1, e1, fun v q => by rw [d1] at q; cases q⟩
    · rw [q]; exact ⟨o2, e2, fun v q => by rw [d2] at q; cases q⟩
  keep := fun i h h' st k => by
    obtain ⟨hz, hTI, ⟨x, y, hTO⟩, h1, h2⟩ := st
    exact ⟨k z (by simp) _ hz, k TI (by simp) _ hTI, ⟨x, y, k TO (by simp) _ hTO⟩, h1.at fun o q => k i1 (by simp) o q, h2.at fun o q => k i2 (by simp) o q⟩
  item := by
    intro X hP hw hK hc i pins s σ H E I hf st hg
    subst hP hw hK
    obtain ⟨hz, hTI, ⟨x0, y0, hTO⟩, h1, h2⟩ := st
    obtain ⟨xs, ys, x, y, hqx, hqy, hx, hy⟩ := hg
    obtain ⟨its, rv, p, _⟩ := I.list hqx
    obtain ⟨its2, rv2, p2, _⟩ := I.list hqy
    obtain ⟨u, hu, ru⟩ := rv.get hx
    obtain ⟨u2, hu2, ru2⟩ := rv2.get hy
    have hzl : z < s.heap.objs.size := Heap.lt_size hz
    refine wpAny_pyNext_zip_item D hz hTI hTO h1 h2 p.isList p2.isList (x := u) (y := u2) (by simpa using hu) (by simpa using hu2) fun h' z' TO' h1' h2' hT hsz hk => ?_
    refine ⟨_, rfl, wpAny_letOwnedTupleGo_zip (s := { s with heap := h' }) z' fun h'' z'' sb => ?_⟩
    have hT2 : h''.get? s.heap.objs.size = some { cls := .type "tuple", data := .seq #[u, u2] } := (sb.2 _ (Nat.ne_of_gt hzl)).trans hT
    have new : ObjOk X.prog X.w (upd H s.heap.objs.size (.tup [x, y])) h'' s.heap.objs.size (.tup [x, y]) :=
      ⟨by show 2 ≤ sizeLine; decide, [u, u2], .cons ru (.cons ru2 .nil), ⟨_, hT2, rfl, _, rfl⟩⟩
    have I1 : Inv X pins σ (upd H s.heap.objs.size (.tup [x, y])) { s with heap := h'' } :=
      I.turnedNew (t' := s.toks) (ch := [z, TI, TO, i1, i2]) (fun c o hb q => (sb.2 c (fun q' => hb (by simp [q']))).trans (hk c o (fun q' => hb (by simp [q'])) (fun q' => hb (by simp [q'])) (fun q' => hb (by simp [q'])) (fun q' => hb (by simp [q'])) q)) hf (Nat.le_refl _) new
    refine ⟨.ref s.heap.objs.size, _, I1, rfl, ⟨_, x, y, rfl, I.hok.fresh (Nat.le_refl _), rfl, fun l hl => by rw [I.list_inj hl hqx]; exact hx, fun l hl => by rw [I.list_inj hl hqy]; exact hy⟩, ⟨z'', ?_, ⟨u, u2, ?_⟩, ?_, ?_⟩, fun c hcm => ?_⟩
    · exact (sb.2 _ D.TIz).trans (hk _ _ D.TIz D.TITO D.TIi1 D.TIi2 hTI)
    · exact (sb.2 _ D.TOz).trans TO'
    · exact h1'.at fun o q => (sb.2 _ D.i1z).trans q
    · exact h2'.at fun o q => (sb.2 _ D.i2z).trans q
    · have hlt : c < s.heap.objs.size := by
        have e' : c = z ∨ c = TI ∨ c = TO ∨ c = i1 ∨ c = i2 := by simpa using hcm
        rcases e' with q | q | q | q | q
        · rw [q]; exact hzl
        · rw [q]; exact Heap.lt_size hTI
        · rw [q]; exact Heap.lt_size hTO
        · rw [q]; obtain ⟨_, e1, _⟩ := h1; exact Heap.lt_size e1
        · rw [q]; obtain ⟨_, e2, _⟩ := h2; exact Heap.lt_size e2
      rw [upd_ne (Nat.ne_of_lt hlt)]
      exact (hf c hcm).1
  done := by
    intro X hP hw hK hc i pins s σ H E I hf st hg
    subst hP hw hK
    obtain ⟨hz, hTI, ⟨x0, y0, hTO⟩, h1, h2⟩ := st
    obtain ⟨xs, ys, hqx, hqy, hend⟩ := hg
    obtain ⟨its, rv, p, _⟩ := I.list hqx
    obtain ⟨its2, rv2, p2, _⟩ := I.list hqy
    have l1 := rv.length
    have l2 := rv2.length
    have he : its.toArray[i]? = none ∨ its2.toArray[i]? = none := by
      rcases hend with q | q
      · exact .inl (by simp; omega)
      · exact .inr (by simp; omega)
    exact wpAny_pyNext_zip_end (I.ok.hd hc) D hz hTI hTO h1 h2 p.isList p2.isList he fun h' hk => ⟨rfl, I.turnedL (t' := s.toks) (ch := [z, TI, TO, i1, i2]) (fun c o hb q =>
      hk c o (fun q' => hb (by simp [q'])) (fun q' => hb (by simp [q'])) (fun q' => hb (by simp [q'])) (fun q' => hb (by simp [q'])) q) hf⟩
  self := fun A i s Q E st h => wpAny_pyIter_zip st.1 h
def iZip (K : PySem.W.Frag) (ta : TA) : TI := fun σ H R => ta σ H fun vs H1 => ∃ a b xs ys, vs = [.ref a, .ref b] ∧ SqL K H1 a xs ∧ SqL K H1 b ys ∧ R (Itz K a b) H1
theorem pi_zip {X : Cx} {e e2 : Expr} {ta : TA} {p pos tpos : Pos} {elts : List Expr} {kk : Nat} (hg : Gl X "zip") (hm : X.mg "zip" = none) (ha : PA X [e, e2] ta)
    (hs : starEach [e, e2] X.env = (false, eval e X.env) :: starEach [e2] X.env := by rfl) (hpl : (backTo pos (starEach [e2] X.env)).any (·.1) = false := by rfl) :
    PI X (.Tuple elts kk tpos) (.Call (.Name "zip" p) [e, e2] [] pos) (iZip X.K ta) := by
  intro pins s σ H R I h
  refine Call_ (ld_blt I hg hm boot_zip5 (PyProof.Rows.callWith_type1 (thn (ha pos pins s σ H _ I h) fun us s1 ⟨vs, H1, I1, r1, q1⟩ => ?_) hs hpl))
  obtain ⟨a, b, xs, ys, ex, hqx, hqy, q⟩ := q1
  subst ex
  cases r1 with
  | cons r rr =>
    cases rr with
    | cons r' rr =>
      cases rr
      cases r
      cases r'
      obtain ⟨its, rv, p1, _⟩ := I1.list hqx
      obtain ⟨its2, rv2, p2, _⟩ := I1.list hqy
      have la : a < s1.heap.objs.size := p1.lt
      have lb : b < s1.heap.objs.size := p2.lt
      refine call_zip_2 p1.isList p2.isList fun h' hz hTI hTO h1 h2 hsz hk => wpAny_pyIter_zip hz ?_
      have I2 : Inv X pins σ H1 { s1 with heap := h' } := I1.kept (t' := s1.toks) hk
      refine ⟨s1.heap.objs.size + 4, [s1.heap.objs.size + 4, s1.heap.objs.size + 2, s1.heap.objs.size + 3, s1.heap.objs.size, s1.heap.objs.size + 1], _, _, H1, rfl, I2, turn_zip (PySem.W.ktu_apart s1.heap.objs.size a b la lb), ⟨hz, hTI, ⟨_, _, hTO⟩, h1, h2⟩, fun c hcm => ?_, q⟩
      have e' : c = s1.heap.objs.size + 4 ∨ c = s1.heap.objs.size + 2 ∨ c = s1.heap.objs.size + 3 ∨ c = s1.heap.objs.size ∨ c = s1.heap.objs.size + 1 := by simpa using hcm
      have hle : s1.heap.objs.size ≤ c := by
        rcases e' with z | z | z | z | z
        · rw [z]; exact Nat.le_add_right _ _
        · rw [z]; exact Nat.le_add_right _ _
        · rw [z]; exact Nat.le_add_right _ _
        · rw [z]; exact Nat.le_refl _
        · rw [z]; exact Nat.le_add_right _ _
      exact I1.fpOk hle (I1.hok.fresh hle)
end L2

section 
namespace Bits
open PySem PyProof.Rows

end Bits
end 

section 
namespace TL
open PySem PySem.Builtin PySem.Builtin.Str PySem.StrLaws

abbrev tl (x : Str) : List Nat := x.cps.toList
theorem len_tl (x : Str) : x.length = (tl x).length := by simp [tl, Str.length]
/-- S stands at the head of l -/
def pre (S l : List Nat) : Bool := l.take S.length == S
/-- what stands before the first S, and behind it -/
def par (S : List Nat) : List Nat → List Nat → Option (List Nat × List Nat)
  | _, [] => none
  | acc, c :: r => if pre S (c :: r) = true then some (acc, (c :: r).drop S.length) else par S (acc ++ [c]) r

theorem len1 {y : Str} (hy : tl y ≠ []) : 1 ≤ y.length := by
  have e2 : 0 < (tl y).length := List.length_pos_iff.mpr hy
  rw [len_tl y]
  exact e2
end TL
end 

namespace L2
open PySem PySem.Spec PyProof.Rows

section
variable {X : Cx} {pins : List (Addr × Obj)} {σ : St} {H : Hp} {s : Shared} {Q : VK}
end

section
variable {X : Cx}

end

section
variable {X : Cx} {o e : Expr} {to te : TE}
end
end L2

namespace L2
open PySem PySem.Spec PyProof.Rows

section
variable {X : Cx}
end

theorem IsPart.raw {v : Value} {o : Option Int} (p : IsPart v o) : ∃ l : Option (Int × Tok), v = partValue l ∧ l.map (·.1) = o := by
  cases p with
  | none => exact ⟨none, rfl, rfl⟩
  | int i t => exact ⟨some (i, t), rfl, rfl⟩

end L2

namespace Att
open PySem PySem.W PySem.Calls PyProof.Rows

section
variable {prog : Program} {w : World} {A : Around} {E : Value → Shared → Prop} {s : Shared} {K : Frag}

end
end Att

namespace L2
open PySem PySem.Spec PyProof.Rows

end L2

namespace L2
open PySem PySem.Spec PyProof.Rows

abbrev KOf {K : PySem.W.Frag} {h : Heap} (_ : K.In h) : PySem.W.Frag := K

end L2


namespace L2
open PySem PySem.Spec PyProof.Rows

/-- the j-th statement of a class's body -/
def inClass (s : Stmt) (j : Nat) : Stmt := match s with
  | .ClassDef _ _ _ body _ _ _ _ _ _ _ => body.getD j (.Pass ⟨0, 0, 0, 0⟩)
  | _ => .Pass ⟨0, 0, 0, 0⟩
def defArgs (s : Stmt) : Arguments := match s with
  | .FunctionDef _ a _ _ _ _ _ _ _ _ => a
  | _ => { posonlyargs := [], args := [], vararg := none, kwonlyargs := [], kw_defaults := [], kwarg := none, defaults := [] }
def defBody (s : Stmt) : List Stmt := match s with
  | .FunctionDef _ _ b _ _ _ _ _ _ _ => b
  | _ => []
def defScope (s : Stmt) : Scope := match s with
  | .FunctionDef _ _ _ _ _ _ sc _ _ _ => sc
  | _ => { kind := .function, names := [], isGenerator := false, isCoroutine := false }

abbrev CX0 : CXT := fun _ _ _ _ _ _ => False
abbrev E0 : XK := fun _ _ _ => False
theorem pass0 {X : Cx} : Passes CX0 X E0 := fun _ _ _ _ _ _ _ h => h.elim

structure Fun (K : PySem.W.Frag) (x qual : Str) (st : Stmt) (f : Addr) (fd : FuncData) : Prop where
  ex : ∃ (oc : Value) (od : Option Addr) (kV doc pm : Value) (an : Option Addr) (cdv ct : Value) (osl : Array (Option Value)),
    fd = PySem.W.fnOf x qual (defArgs st) (defBody st) (defScope st) .none kV doc pm an cdv ct ∧ K.lookup f = some ⟨oc, od, .func fd, osl⟩ ∧ PySem.W.codeIn K cdv qual = true
  kp : PySem.W.keepIn K (.ref f) = true
section
variable {P : Program} {w : World} {K : PySem.W.Frag} {mg : Str → Option Value} {base : Heap}
/-- THE RULE for a def: its body as a term of rules, and the reading of that term -/
theorem Fun.ok {x qual : Str} {st : Stmt} {f : Addr} {fd : FuncData} {N ps : List Str} {k : Nat} {sp : Sp} (F : Fun K x qual st f fd) (S : FnScope N ps (defScope st)) (len : ∀ vs H Q E, sp vs H Q E → vs.length = ps.length)
    (hbody : ∀ (cdv : Value) (A : Around) (outer : List Env) (s : Shared) (H : Hp) (vs : List V) (Q : VK) (E : XK), Room k (A.deeper (envOfC qual (defScope st) s.heap.objs.size f cdv)) → sp vs H Q E →
      ∃ t, PSs (cxOf CX0 P w K mg base N qual (defScope st) f cdv A outer s H E).nox (defBody st) t ∧ t { nx := fun _ H' => Q .non H', rt := Q } (start N vs) H) : FnOk P w K mg base CX0 (k + 1) f fd ps sp := by
  obtain ⟨oc, od, kV, doc, pm, an, cdv, ct, osl, rfl, lk, hcd⟩ := F.ex
  refine fn_of lk hcd S len fun A outer s H vs Q E hr hsp => ?_
  obtain ⟨t, h, q⟩ := hbody cdv A outer s H vs Q E hr hsp
  exact ⟨t, h.nox, q⟩
/-- how its arguments bind (no defaults): h is «fun _ _ _ _ _ _ us hl => match us, hl with | [_, _], _ => rfl», one _ a parameter -/
theorem Fun.binds {x qual : Str} {st : Stmt} {f : Addr} {fd : FuncData} {ps : List Str} (F : Fun K x qual st f fd)
    (h : ∀ (kV doc pm : Value) (an : Option Addr) (cdv ct : Value) (us : List Value), us.length = ps.length → bindArgs (PySem.W.fnOf x qual (defArgs st) (defBody st) (defScope st) .none kV doc pm an cdv ct) ⟨us, []⟩ = pure (ps.zip us)) : Binds K fd ps [] := by
  obtain ⟨oc, od, kV, doc, pm, an, cdv, ct, osl, rfl, lk, hcd⟩ := F.ex
  exact .all (h kV doc pm an cdv ct)
theorem fun_mk {x qual : Str} {st : Stmt} {f : Addr} {oc : Value} {od an : Option Addr} {osl : Array (Option Value)} {kV doc pm cdv ct : Value} (l : K.lookup f = some ⟨oc, od, .func (PySem.W.fnOf x qual (defArgs st) (defBody st) (defScope st) .none kV doc pm an cdv ct), osl⟩)
    (c : PySem.W.codeIn K cdv qual = true) (k : PySem.W.keepIn K (.ref f) = true) : Fun K x qual st f (PySem.W.fnOf x qual (defArgs st) (defBody st) (defScope st) .none kV doc pm an cdv ct) := ⟨⟨oc, od, kV, doc, pm, an, cdv, ct, osl, rfl, l, c⟩, k⟩
end
section
variable {X : Cx}
theorem pv (i : Nat) {x : Str} {pos : Pos} (hN : X.N[i]? = some x := by rfl) (hv : Vis X.env.scope x := by first | exact Or.inl rfl | exact Or.inr (Or.inl rfl) | exact Or.inr (Or.inr rfl)) (hd : (x == ("__debug__" : Str)) = false := by decide)
    (hcd : (x == ("__classdict__" : Str)) = false := by decide) : PE X (.Name x pos) (tVar i) := pe_var hN hv hd hcd
end

theorem ite2 {c A B : Prop} [Decidable c] (h1 : c → A) (h2 : ¬ c → B) : if c then A else B := by
  by_cases h : c
  · rw [if_pos h]
    exact h1 h
  · rw [if_neg h]
    exact h2 h
/-- all that was tracked is as it was -/
def Same (H H' : Hp) : Prop := ∀ b o, H b = some o → H' b = some o
theorem Same.refl (H : Hp) : Same H H := fun _ _ h => h
theorem Same.trans {H H1 H2 : Hp} (a : Same H H1) (b : Same H1 H2) : Same H H2 := fun c o h => b c o (a c o h)
theorem Same.free {H H' : Hp} (e : Same H H') {l : Addr} (h : H' l = Option.none) : H l = Option.none := by
  cases q : H l with
  | none => rfl
  | some o =>
    rw [e l o q] at h
    cases h
theorem Same.seq {K : PySem.W.Frag} {H H' : Hp} {a : Addr} {xs : List V} (e : Same H H') (h : SqL K H a xs) : SqL K H' a xs := by
  rcases h with (h | ⟨o, h⟩) | h
  · exact .inl (.inl (e _ _ h))
  · exact .inl (.inr ⟨o, e _ _ h⟩)
  · exact .inr h

section
variable {κ : Type} [DecidableEq κ]
end
/-- a new instance and its __init__ leave all that was tracked as it was -/
theorem Same.made {H H1 : Hp} {x dx C : Addr} (nx : H x = Option.none) (nd : H dx = Option.none) (k : ∀ b o, (upd (upd H dx (.own x)) x (.ins C dx [])) b = some o → b ≠ x → H1 b = some o) : Same H H1 := fun b o e =>
  k b o (by rw [upd_ne (ne_of_none e nx), upd_ne (ne_of_none e nd)]; exact e) (ne_of_none e nx)
end L2

end
section
set_option Elab.async false
set_option linter.all false
set_option maxRecDepth 100000
set_option maxHeartbeats 2000000
namespace L2
open PySem PySem.Spec PyProof.Rows
open PySem.W (WData Codec OpenSpec Well WellAll ReadsW ReadsAllW)
mutual
/-- x stands for the datum d, lists and tuples all the way -/
inductive Dw (K : PySem.W.Frag) (H : Hp) : V → WData → Prop
  | non : Dw K H .non .none
  | bl (b : Bool) : Dw K H (.bl b) (.bool b)
  | int (i : Int) : Dw K H (.int i) (.int i)
  | str (x : Str) : Dw K H (.str x) (.str x)
  | byt (b : Array UInt8) : Dw K H (.byt b) (.bytes b.toList)
  | lst {a : Addr} {xs : List V} {ds : List WData} : SqL K H a xs → DwAll K H xs ds → Dw K H (.ref a) (.list ds)
  | tup {a : Addr} {xs : List V} {ds : List WData} : SqT K H a xs → DwAll K H xs ds → Dw K H (.ref a) (.tuple ds)
inductive DwAll (K : PySem.W.Frag) (H : Hp) : List V → List WData → Prop
  | nil : DwAll K H [] []
  | cons {v : V} {vs : List V} {d : WData} {ds : List WData} : Dw K H v d → DwAll K H vs ds → DwAll K H (v :: vs) (d :: ds)
end
theorem dw_ints {K : PySem.W.Frag} {H : Hp} : ∀ ns : List Int, DwAll K H (ns.map V.int) (ns.map WData.int)
  | [] => .nil
  | n :: r => .cons (.int n) (dw_ints r)
theorem ints_dw {K : PySem.W.Frag} {H : Hp} : ∀ (ns : List Int) (xs : List V), DwAll K H xs (ns.map WData.int) → xs = ns.map V.int
  | [], xs, h => by
    cases h
    rfl
  | n :: r, xs, h => by
    cases h with
    | cons h1 h2 =>
      cases h1
      rw [ints_dw r _ h2] <;> rfl
section
variable {P : Program} {w : World} {K : PySem.W.Frag} {H : Hp} {h : Heap} {R : PySem.W.WRecords} {cl : Str → Option Addr}
theorem sqL_at {a : Addr} {xs : List V} (hok : HOk P w H h) (KX : K.In h) (q : SqL K H a xs) : ∃ (its : List Value) (o : Obj) (n : Nat), Vals xs its ∧ h.get? a = some o ∧ o.cls = .type "list" ∧ o.data = .seq its.toArray n := by
  rcases q with q | ⟨o, its, n, e, hc, _, hd, _, hv⟩
  · obtain ⟨_, its, n, hv, e⟩ := (show ObjOk P w H h a (.lst xs) from q.ok hok)
    exact ⟨its, _, n, hv, e, rfl, rfl⟩
  · exact ⟨its.toList, o, n, hv, KX _ _ e, hc, by simp [hd]⟩
theorem sqT_at {a : Addr} {xs : List V} (hok : HOk P w H h) (KX : K.In h) (q : SqT K H a xs) : ∃ (its : List Value) (o : Obj) (n : Nat), Vals xs its ∧ h.get? a = some o ∧ o.cls = .type "tuple" ∧ o.data = .seq its.toArray n := by
  rcases q with q | ⟨o, its, n, e, hc, hd, _, hv⟩
  · obtain ⟨_, its, hv, o, e, hc, n, hd⟩ := (show ObjOk P w H h a (.tup xs) from q.ok hok)
    exact ⟨its, o, n, hv, e, hc, hd⟩
  · exact ⟨its.toList, o, n, hv, KX _ _ e, hc, by simp [hd]⟩
mutual
theorem Dw.reads (hok : HOk P w H h) (KX : K.In h) : ∀ (d : WData) (v : V) (u : Value), Dw K H v d → RelV v u → ∃ as, ReadsW R cl h u d as
  | .none, _, _, x, r => by
    cases x
    cases r
    exact ⟨_, ReadsW.none⟩
  | .bool b, _, _, x, r => by
    cases x
    cases r
    exact ⟨_, ReadsW.bool b⟩
  | .int i, _, _, x, r => by
    cases x
    obtain ⟨t, rfl⟩ := r
    exact ⟨_, ReadsW.int i t⟩
  | .str s, _, _, x, r => by
    cases x
    obtain ⟨t, rfl⟩ := r
    exact ⟨_, ReadsW.str s t⟩
  | .bytes b, _, _, x, r => by
    cases x
    obtain ⟨t, rfl⟩ := r
    exact ⟨_, ReadsW.bytes _ t⟩
  | .list ds, _, _, x, r => by
    cases x with
    | lst hs ha =>
      cases r
      obtain ⟨its, o, n, rv, ho, hc, hd⟩ := sqL_at hok KX hs
      obtain ⟨as, hr⟩ := Dw.readsAll hok KX ds _ its ha rv
      exact ⟨_, ReadsW.list ho hc hd hr⟩
  | .tuple ds, _, _, x, r => by
    cases x with
    | tup hs ha =>
      cases r
      obtain ⟨its, o, n, rv, ho, hc, hd⟩ := sqT_at hok KX hs
      obtain ⟨as, hr⟩ := Dw.readsAll hok KX ds _ its ha rv
      exact ⟨_, ReadsW.tuple ho hc hd hr⟩
  | .float _, _, _, x, _ => by cases x
  | .dict _, _, _, x, _ => by cases x
  | .bytearray _, _, _, x, _ => by cases x
  | .set _, _, _, x, _ => by cases x
  | .frozenset _, _, _, x, _ => by cases x
  | .obj _ _, _, _, x, _ => by cases x
theorem Dw.readsAll (hok : HOk P w H h) (KX : K.In h) : ∀ (ds : List WData) (vs : List V) (us : List Value), DwAll K H vs ds → Vals vs us → ∃ as, ReadsAllW R cl h us ds as
  | [], _, _, x, r => by
    cases x
    cases r
    exact ⟨_, ReadsAllW.nil⟩
  | d :: ds, _, _, x, r => by
    cases x with
    | cons h1 h2 =>
      cases r with
      | cons r1 r2 =>
        obtain ⟨as, q1⟩ := Dw.reads hok KX d _ _ h1 r1
        obtain ⟨bs, q2⟩ := Dw.readsAll hok KX ds _ _ h2 r2
        exact ⟨_, ReadsAllW.cons q1 q2⟩
end
end
mutual
/-- data that a codec tells -/
def plW : WData → Bool
  | .none => true
  | .bool _ => true
  | .int _ => true
  | .str _ => true
  | .bytes _ => true
  | .list xs => plWs xs
  | .tuple xs => plWs xs
  | _ => false
def plWs : List WData → Bool
  | [] => true
  | x :: r => plW x && plWs r
end
theorem plWs_map {α : Type} {f : α → WData} (h : ∀ a, plW (f a) = true) : ∀ l : List α, plWs (l.map f) = true
  | [] => rfl
  | x :: r => by
    show (plW (f x) && plWs (r.map f)) = true
    rw [h x, plWs_map h r] <;> rfl
theorem pl_enc : ∀ (c : Codec) (a : c.denote), plW (c.enc a) = true
  | .unit, _ => rfl
  | .bool, _ => rfl
  | .int _ _, _ => rfl
  | .nat _ _, _ => rfl
  | .u8, _ => rfl
  | .bytes _ _, _ => rfl
  | .text _ _ _ _, _ => rfl
  | .list _ _ c, a => plWs_map (fun x => pl_enc c x) a
  | .pair c d, a => by
    show (plW (c.enc a.1) && (plW (d.enc a.2) && true)) = true
    rw [pl_enc c a.1, pl_enc d a.2] <;> rfl
  | .triple c d e, a => by
    show (plW (c.enc a.1) && (plW (d.enc a.2.1) && (plW (e.enc a.2.2) && true))) = true
    rw [pl_enc c a.1, pl_enc d a.2.1, pl_enc e a.2.2] <;> rfl
  | .option c, none => rfl
  | .option c, some x => pl_enc c x
theorem pl_encAll : ∀ (cs : List Codec) (a : Codec.denoteAll cs), plWs (Codec.encAll cs a) = true
  | [], _ => rfl
  | c :: cs, a => by
    show (plW (c.enc a.1) && plWs (Codec.encAll cs a.2)) = true
    rw [pl_enc c a.1, pl_encAll cs a.2] <;> rfl
theorem weight_mem : ∀ {xs : List WData} {d : WData}, d ∈ xs → d.weight ≤ WData.weightAll xs
  | [], d, h => absurd h (by simp)
  | x :: r, d, h => by
    show d.weight ≤ x.weight + 1 + WData.weightAll r
    rcases List.mem_cons.mp h with e | m
    · rw [e]
      omega
    · have z := weight_mem m
      omega
def toV : Value → V
  | .none => .non
  | .bool b => .bl b
  | .int i _ => .int i
  | .str x _ => .str x
  | .bytes b _ => .byt b
  | .ref a => .ref a
  | _ => .non
/-- a value of the arguments, its objects among A -/
def OkU (A : List Addr) : Value → Prop
  | .none => True
  | .bool _ => True
  | .int _ _ => True
  | .str _ _ => True
  | .bytes _ _ => True
  | .ref a => a ∈ A
  | _ => False
theorem OkU.mono {A B : List Addr} (h : ∀ a ∈ A, a ∈ B) : ∀ {u : Value}, OkU A u → OkU B u := fun {u} x => by
  cases u with
  | ref a => exact h a x
  | none => trivial
  | bool b => trivial
  | int i t => trivial
  | str s t => trivial
  | bytes b t => trivial
  | _ => exact False.elim x
theorem relV_toV {A : List Addr} {u : Value} (x : OkU A u) : RelV (toV u) u := by
  cases u with
  | ref a => rfl
  | none => rfl
  | bool b => rfl
  | int i t => exact ⟨t, rfl⟩
  | str s t => exact ⟨t, rfl⟩
  | bytes b t => exact ⟨t, rfl⟩
  | _ => exact False.elim x
theorem vals_toV {A : List Addr} : ∀ {vs : List Value}, (∀ u ∈ vs, OkU A u) → Vals (vs.map toV) vs
  | [], _ => .nil
  | u :: r, h => .cons (relV_toV (h u (List.mem_cons_self ..))) (vals_toV fun x hx => h x (List.mem_cons_of_mem _ hx))
/-- an object of the arguments -/
def ArgOb (h : Heap) (A : List Addr) (a : Addr) : Prop := ∃ vs : List Value, vs.length ≤ sizeLine ∧ (∀ u ∈ vs, OkU A u) ∧
  (h.get? a = some { cls := .type "list", data := .seq vs.toArray } ∨ h.get? a = some { cls := .type "tuple", data := .seq vs.toArray })
theorem ArgOb.mono {h : Heap} {A B : List Addr} {a : Addr} (k : ∀ a ∈ A, a ∈ B) (x : ArgOb h A a) : ArgOb h B a := by
  obtain ⟨vs, h1, h2, h3⟩ := x
  exact ⟨vs, h1, fun u hu => (h2 u hu).mono k, h3⟩
theorem wellAll_len {P : Params} {h : Heap} : ∀ {vs : List Value} {ds : List WData}, WellAll P h vs ds → vs.length = ds.length
  | _, _, .nil => rfl
  | _, _, .cons _ b => by
    show _ + 1 = _ + 1
    rw [wellAll_len b]
theorem well_list {P : Params} {h : Heap} {v : Value} {ds : List WData} (x : Well P h v (.list ds)) : ∃ (a : Addr) (vs : List Value), v = .ref a ∧ h.get? a = some { cls := .type "list", data := .seq vs.toArray } ∧ WellAll P h vs ds := by
  cases x with
  | list ho hall => exact ⟨_, _, rfl, ho, hall⟩
theorem well_tuple {P : Params} {h : Heap} {v : Value} {ds : List WData} (x : Well P h v (.tuple ds)) : ∃ (a : Addr) (vs : List Value), v = .ref a ∧ h.get? a = some { cls := .type "tuple", data := .seq vs.toArray } ∧ WellAll P h vs ds := by
  cases x with
  | tuple ho hall => exact ⟨_, _, rfl, ho, hall⟩
theorem well_cons {P : Params} {h : Heap} {us : List Value} {d : WData} {ds : List WData} (x : WellAll P h us (d :: ds)) : ∃ (v : Value) (vs : List Value), us = v :: vs ∧ Well P h v d ∧ WellAll P h vs ds := by
  cases x with
  | cons a b => exact ⟨_, _, rfl, a, b⟩
theorem line_of {n : Nat} (h : n ≤ 1048576) : n ≤ sizeLine := Nat.le_trans h (by decide)
section
variable {P : Params} {h : Heap}
mutual
theorem area_one : ∀ (d : WData) (v : Value), Well P h v d → plW d = true → d.weight ≤ 1048576 → ∃ A : List Addr, OkU A v ∧ ∀ a ∈ A, ArgOb h A a
  | .none, _, x, _, _ => by
    cases x
    exact ⟨[], trivial, fun a m => absurd m (by simp)⟩
  | .bool b, _, x, _, _ => by
    cases x
    exact ⟨[], trivial, fun a m => absurd m (by simp)⟩
  | .int i, _, x, _, _ => by
    cases x
    exact ⟨[], trivial, fun a m => absurd m (by simp)⟩
  | .str s, _, x, _, _ => by
    cases x
    exact ⟨[], trivial, fun a m => absurd m (by simp)⟩
  | .bytes b, _, x, _, _ => by
    cases x
    exact ⟨[], trivial, fun a m => absurd m (by simp)⟩
  | .list ds, _, x, p, z => by
    obtain ⟨a, vs, rfl, ho, hall⟩ := well_list x
    have z2 : WData.weightAll ds ≤ 1048576 := z
    obtain ⟨A, h1, h2⟩ := area_all ds _ hall p fun d hd => Nat.le_trans (weight_mem hd) z2
    have k : ∀ b ∈ A, b ∈ a :: A := fun b hb => List.mem_cons_of_mem _ hb
    refine ⟨a :: A, List.mem_cons_self .., fun b hb => ?_⟩
    rcases List.mem_cons.mp hb with e | m
    · rw [e]
      exact ⟨vs, line_of (by rw [wellAll_len hall]; exact Nat.le_trans (PySem.W.length_le_weightAllW ds) z2), fun u hu => (h1 u hu).mono k, .inl ho⟩
    · exact (h2 b m).mono k
  | .tuple ds, _, x, p, z => by
    obtain ⟨a, vs, rfl, ho, hall⟩ := well_tuple x
    have z2 : WData.weightAll ds ≤ 1048576 := z
    obtain ⟨A, h1, h2⟩ := area_all ds _ hall p fun d hd => Nat.le_trans (weight_mem hd) z2
    have k : ∀ b ∈ A, b ∈ a :: A := fun b hb => List.mem_cons_of_mem _ hb
    refine ⟨a :: A, List.mem_cons_self .., fun b hb => ?_⟩
    rcases List.mem_cons.mp hb with e | m
    · rw [e]
      exact ⟨vs, line_of (by rw [wellAll_len hall]; exact Nat.le_trans (PySem.W.length_le_weightAllW ds) z2), fun u hu => (h1 u hu).mono k, .inr ho⟩
    · exact (h2 b m).mono k
  | .float _, _, _, p, _ => Bool.noConfusion (show false = true from p)
  | .dict _, _, _, p, _ => Bool.noConfusion (show false = true from p)
  | .bytearray _, _, _, p, _ => Bool.noConfusion (show false = true from p)
  | .set _, _, _, p, _ => Bool.noConfusion (show false = true from p)
  | .frozenset _, _, _, p, _ => Bool.noConfusion (show false = true from p)
  | .obj _ _, _, _, p, _ => Bool.noConfusion (show false = true from p)
theorem area_all : ∀ (ds : List WData) (vs : List Value), WellAll P h vs ds → plWs ds = true → (∀ d ∈ ds, d.weight ≤ 1048576) → ∃ A : List Addr, (∀ u ∈ vs, OkU A u) ∧ ∀ a ∈ A, ArgOb h A a
  | [], _, x, _, _ => by
    cases x
    exact ⟨[], fun u m => absurd m (by simp), fun a m => absurd m (by simp)⟩
  | d :: ds, _, x, p, z => by
    obtain ⟨v, vs, rfl, x1, x2⟩ := well_cons x
    have q : plW d = true ∧ plWs ds = true := Bool.and_eq_true_iff.mp p
    obtain ⟨A, a1, a2⟩ := area_one d v x1 q.1 (z d (List.mem_cons_self ..))
    obtain ⟨B, b1, b2⟩ := area_all ds vs x2 q.2 fun e he => z e (List.mem_cons_of_mem _ he)
    have kA : ∀ b ∈ A, b ∈ A ++ B := fun b hb => List.mem_append.mpr (.inl hb)
    have kB : ∀ b ∈ B, b ∈ A ++ B := fun b hb => List.mem_append.mpr (.inr hb)
    refine ⟨A ++ B, fun u hu => ?_, fun b hb => ?_⟩
    · rcases List.mem_cons.mp hu with e | m
      · rw [e]
        exact a1.mono kA
      · exact (b1 u m).mono kB
    · rcases List.mem_append.mp hb with m | m
      · exact (a2 b m).mono kA
      · exact (b2 b m).mono kB
end
end
/-- what is tracked of an argument's object -/
def hoOf (o : Obj) : Option HO := match o.data with
  | .seq vs _ => if (o.cls == Value.type "list") = true then some (.frz o (.lst (vs.toList.map toV))) else some (.frz o (.tup (vs.toList.map toV)))
  | _ => none
def argH (K : PySem.W.Frag) (h : Heap) (A : List Addr) : Hp := fun b => if b ∈ A then (if (K.lookup b).isNone = true then (h.get? b).bind hoOf else none) else none
/-- nothing is tracked but what is known to the object -/
def OnlyF (H : Hp) : Prop := ∀ b, H b = none ∨ ∃ o u, H b = some (.frz o u)
theorem hoOf_lst (vs : List Value) : hoOf { cls := .type "list", data := .seq vs.toArray } = some (.frz { cls := .type "list", data := .seq vs.toArray } (.lst (vs.map toV))) := by
  show (if (Value.type "list" == Value.type "list") = true then some (HO.frz { cls := .type "list", data := .seq vs.toArray } (.lst (vs.toArray.toList.map toV))) else some (HO.frz { cls := .type "list", data := .seq vs.toArray } (.tup (vs.toArray.toList.map toV)))) = _
  rw [if_pos (beq_self_eq_true _)]
theorem hoOf_tup (vs : List Value) : hoOf { cls := .type "tuple", data := .seq vs.toArray } = some (.frz { cls := .type "tuple", data := .seq vs.toArray } (.tup (vs.map toV))) := by
  show (if (Value.type "tuple" == Value.type "list") = true then some (HO.frz { cls := .type "tuple", data := .seq vs.toArray } (.lst (vs.toArray.toList.map toV))) else some (HO.frz { cls := .type "tuple", data := .seq vs.toArray } (.tup (vs.toArray.toList.map toV)))) = _
  rw [if_neg (by decide)]
section
variable {P : Program} {w : World} {K : PySem.W.Frag} {h : Heap} {A : List Addr}
theorem argH_at {b : Addr} {o : Obj} (hb : b ∈ A) (hk : K.lookup b = none) (e : h.get? b = some o) : argH K h A b = hoOf o := by
  unfold argH
  rw [if_pos hb, hk, if_pos (show (none : Option Obj).isNone = true from rfl), e] <;> rfl
theorem of_argH {b : Addr} {u : HO} (q : argH K h A b = some u) : b ∈ A ∧ K.lookup b = none := by
  unfold argH at q
  by_cases hb : b ∈ A
  · rw [if_pos hb] at q
    cases hk : K.lookup b with
    | none => exact ⟨hb, rfl⟩
    | some o =>
      rw [hk, if_neg (by simp)] at q
      cases q
  · rw [if_neg hb] at q
    cases q
/-- what stands tracked -/
theorem argH_is (ar : ∀ a ∈ A, ArgOb h A a) {b : Addr} {u : HO} (q : argH K h A b = some u) : K.lookup b = none ∧ ∃ vs : List Value, vs.length ≤ sizeLine ∧ (∀ u ∈ vs, OkU A u) ∧
    ((h.get? b = some { cls := .type "list", data := .seq vs.toArray } ∧ u = .frz { cls := .type "list", data := .seq vs.toArray } (.lst (vs.map toV))) ∨
     (h.get? b = some { cls := .type "tuple", data := .seq vs.toArray } ∧ u = .frz { cls := .type "tuple", data := .seq vs.toArray } (.tup (vs.map toV)))) := by
  obtain ⟨hb, hk⟩ := of_argH q
  obtain ⟨vs, h1, h2, h3⟩ := ar b hb
  refine ⟨hk, vs, h1, h2, ?_⟩
  rcases h3 with e | e
  · rw [argH_at hb hk e, hoOf_lst] at q
    exact .inl ⟨e, (Option.some.inj q).symm⟩
  · rw [argH_at hb hk e, hoOf_tup] at q
    exact .inr ⟨e, (Option.some.inj q).symm⟩
theorem argH_only (ar : ∀ a ∈ A, ArgOb h A a) : OnlyF (argH K h A) := fun b => by
  cases q : argH K h A b with
  | none => exact .inl rfl
  | some u =>
    obtain ⟨_, vs, _, _, ⟨_, e⟩ | ⟨_, e⟩⟩ := argH_is ar q
    · exact .inr ⟨_, _, by rw [e]⟩
    · exact .inr ⟨_, _, by rw [e]⟩
theorem argH_ok (ar : ∀ a ∈ A, ArgOb h A a) : HOk P w (argH K h A) h := fun b u q => by
  obtain ⟨_, vs, h1, h2, ⟨e, rfl⟩ | ⟨e, rfl⟩⟩ := argH_is ar q
  · exact ⟨e, by rw [List.length_map]; exact h1, vs, _, vals_toV h2, e⟩
  · exact ⟨e, by rw [List.length_map]; exact h1, vs, vals_toV h2, _, e, rfl, _, rfl⟩
theorem seq_inj {c c' : Value} {vs us : List Value} (e : (some { cls := c, data := .seq vs.toArray } : Option Obj) = some { cls := c', data := .seq us.toArray }) : c = c' ∧ vs = us := by
  have e1 := Option.some.inj e
  have e2 : c = c' := congrArg Obj.cls e1
  have e3 : Data.seq vs.toArray = Data.seq us.toArray := congrArg Obj.data e1
  injection e3 with e4
  refine ⟨e2, ?_⟩
  have e5 := congrArg Array.toList e4
  simpa using e5
/-- a list argument -/
theorem argL (KX : K.In h) (ar : ∀ a ∈ A, ArgOb h A a) {a : Addr} {vs : List Value} (ha : a ∈ A) (e : h.get? a = some { cls := .type "list", data := .seq vs.toArray }) : (∀ u ∈ vs, OkU A u) ∧ SqL K (argH K h A) a (vs.map toV) := by
  obtain ⟨us, h1, h2, h3⟩ := ar a ha
  have hu : us = vs := by
    rcases h3 with q | q
    · rw [e] at q
      exact (seq_inj q).2.symm
    · rw [e] at q
      exact absurd (Value.type.inj (seq_inj q).1) (by decide)
  subst hu
  refine ⟨h2, ?_⟩
  cases hk : K.lookup a with
  | none => exact .inl (.inr ⟨_, by rw [argH_at ha hk e, hoOf_lst]⟩)
  | some o =>
    have e2 := KX a o hk
    rw [e] at e2
    obtain rfl := Option.some.inj e2
    exact .inr ⟨_, us.toArray, _, hk, rfl, rfl, rfl, by rw [List.size_toArray]; exact h1, by simpa using vals_toV h2⟩
theorem argT (KX : K.In h) (ar : ∀ a ∈ A, ArgOb h A a) {a : Addr} {vs : List Value} (ha : a ∈ A) (e : h.get? a = some { cls := .type "tuple", data := .seq vs.toArray }) : (∀ u ∈ vs, OkU A u) ∧ SqT K (argH K h A) a (vs.map toV) := by
  obtain ⟨us, h1, h2, h3⟩ := ar a ha
  have hu : us = vs := by
    rcases h3 with q | q
    · rw [e] at q
      exact absurd (Value.type.inj (seq_inj q).1) (by decide)
    · rw [e] at q
      exact (seq_inj q).2.symm
  subst hu
  refine ⟨h2, ?_⟩
  cases hk : K.lookup a with
  | none => exact .inl (.inr ⟨_, by rw [argH_at ha hk e, hoOf_tup]⟩)
  | some o =>
    have e2 := KX a o hk
    rw [e] at e2
    obtain rfl := Option.some.inj e2
    exact .inr ⟨_, us.toArray, _, hk, rfl, rfl, by rw [List.size_toArray]; exact h1, by simpa using vals_toV h2⟩
mutual
theorem dw_one {Pm : Params} (KX : K.In h) (ar : ∀ a ∈ A, ArgOb h A a) : ∀ (d : WData) (v : Value), Well Pm h v d → plW d = true → OkU A v → Dw K (argH K h A) (toV v) d
  | .none, _, x, _, _ => by
    cases x
    exact .non
  | .bool b, _, x, _, _ => by
    cases x
    exact .bl b
  | .int i, _, x, _, _ => by
    cases x
    exact .int i
  | .str s, _, x, _, _ => by
    cases x
    exact .str s
  | .bytes b, _, x, _, _ => by
    cases x
    have z := Dw.byt (K := K) (H := argH K h A) b.toArray
    exact z
  | .list ds, _, x, p, hu => by
    obtain ⟨a, vs, rfl, ho, hall⟩ := well_list x
    obtain ⟨h2, hs⟩ := argL KX ar hu ho
    exact .lst hs (dw_all KX ar ds _ hall p h2)
  | .tuple ds, _, x, p, hu => by
    obtain ⟨a, vs, rfl, ho, hall⟩ := well_tuple x
    obtain ⟨h2, hs⟩ := argT KX ar hu ho
    exact .tup hs (dw_all KX ar ds _ hall p h2)
  | .float _, _, _, p, _ => Bool.noConfusion (show false = true from p)
  | .dict _, _, _, p, _ => Bool.noConfusion (show false = true from p)
  | .bytearray _, _, _, p, _ => Bool.noConfusion (show false = true from p)
  | .set _, _, _, p, _ => Bool.noConfusion (show false = true from p)
  | .frozenset _, _, _, p, _ => Bool.noConfusion (show false = true from p)
  | .obj _ _, _, _, p, _ => Bool.noConfusion (show false = true from p)
theorem dw_all {Pm : Params} (KX : K.In h) (ar : ∀ a ∈ A, ArgOb h A a) : ∀ (ds : List WData) (vs : List Value), WellAll Pm h vs ds → plWs ds = true → (∀ u ∈ vs, OkU A u) → DwAll K (argH K h A) (vs.map toV) ds
  | [], _, x, _, _ => by
    cases x
    exact .nil
  | d :: ds, _, x, p, hu => by
    obtain ⟨v, vs, rfl, x1, x2⟩ := well_cons x
    have q : plW d = true ∧ plWs ds = true := Bool.and_eq_true_iff.mp p
    exact .cons (dw_one KX ar d v x1 q.1 (hu _ (List.mem_cons_self ..))) (dw_all KX ar ds vs x2 q.2 fun u m => hu u (List.mem_cons_of_mem _ m))
end
end
theorem spec_call {P : Program} {w : World} {K : PySem.W.Frag} {mg mb : Str → Option Value} {CX : CXT} {k : Nat} {fa : Addr} {fd : FuncData} {ps : List Str} {sp : Sp} {s₁ : Shared} {vals : List Value} {ds : List WData} {R : PySem.W.WRecords} {cl : Str → Option Addr} {d0 : WData}
    (KX : K.In s₁.heap) (hns : s₁.heap.Ns mainGlobals mg) (hb : s₁.heap.Ns builtinsNs mb) (hbb : ∀ x : Str, x ≠ "__name__" → mb x = bootBuiltins x) (hlim : s₁.heap.NoLimit) (hg : s₁.gens = #[])
    (hwl : WellAll w.params s₁.heap vals ds) (hpl : plWs ds = true) (hwt : ∀ d ∈ ds, d.weight ≤ 1048576) (hr : Room k callerA)
    (F : ∀ base : Heap, K.In base → base.Ns mainGlobals mg → FnOk P w K mg base CX k fa fd ps sp) (hbind : ∀ (s : Shared) (us : List Value), us.length = ps.length → BindsTo s fd ⟨us, []⟩ (ps.zip us)) (hlen : ds.length = ps.length)
    (hsp : ∀ (H : Hp) (xs : List V), OnlyF H → DwAll K H xs ds → sp xs H (fun v H' => Dw K H' v d0) fun _ _ _ => False)
    (hCX : ∀ H e s', CX [] H s₁ (fun _ _ _ => False) e s' → False) :
    codeAny (model P w) callerA (.call (.ref fa) ⟨vals, []⟩) (fun r s' => ∃ u as, r = .ok (.ret u) ∧ ReadsW R cl s'.heap u d0 as ∧ OldK s₁.heap s'.heap ∧ s'.os = s₁.os ∧ AllBare s'.gens) s₁ := by
  obtain ⟨A, ho, ar⟩ := area_all ds vals hwl hpl hwt
  have hO : OnlyF (argH K s₁.heap A) := argH_only ar
  have hok : HOk P w (argH K s₁.heap A) s₁.heap := argH_ok ar
  have hS := dw_all KX ar ds vals hwl hpl ho
  have hV := vals_toV ho
  have hK : ∀ b u, argH K s₁.heap A b = some u → K.lookup b = none := fun b u q => (argH_is ar q).1
  have noA : ∀ {b : Addr} {o : Obj} {es : Array DictEntry} {ep : Nat}, s₁.heap.get? b = some o → o.data = .dict es ep → argH K s₁.heap A b = none := fun {b o es ep} e d => by
    cases q : argH K s₁.heap A b with
    | none => rfl
    | some u =>
      obtain ⟨_, vs, _, _, ⟨e2, _⟩ | ⟨e2, _⟩⟩ := argH_is ar q
      · rw [e2] at e
        cases e
        have d' : Data.seq vs.toArray _ = Data.dict es ep := d
        cases d'
      · rw [e2] at e
        cases e
        have d' : Data.seq vs.toArray _ = Data.dict es ep := d
        cases d'
  generalize argH K s₁.heap A = H at hO hok hS hK noA
  have base_of : ∀ {b : Addr} {o : Obj}, s₁.heap.get? b = some o → H b = none → (hidT s₁.heap H).get? b = some o := fun e n => hidT_get e n
  have nsK : ∀ {b : Addr} {m : Str → Option Value}, s₁.heap.Ns b m → (hidT s₁.heap H).Ns b m := fun {b m} ⟨o, es, ep, e, d, r⟩ => ⟨o, es, ep, base_of e (noA e d), d, r⟩
  have nK : ∀ b o, K.lookup b = some o → H b = none := fun b o e => by
    cases q : H b with
    | none => rfl
    | some u =>
      rw [hK b u q] at e
      cases e
  have hKb : K.In (hidT s₁.heap H) := fun b o e => base_of (KX b o e) (nK b o e)
  have hM : Mod K mg (hidT s₁.heap H) := ⟨hKb, nsK hns, ⟨mb, nsK hb, hbb⟩, let ⟨mc, h1, h2⟩ := hlim; ⟨mc, nsK h1, h2⟩⟩
  have e0 : Env0 P w K mg (hidT s₁.heap H) callerA [] s₁ H := ⟨rfl, hM, fun b o e => of_hidT e, Nat.le_of_eq (hidT_size _ _), trivial, fun b hb => absurd (show b ∈ ([] : List Addr) from hb) (by simp), hok, .of_eq hg⟩
  have hl : vals.length = ps.length := by rw [wellAll_len hwl]; exact hlen
  refine codeAny_mono ((F _ hKb (nsK hns)).run callerA [] s₁ H ⟨vals, []⟩ vals (vals.map toV) _ _ hr e0 (hbind s₁ vals hl) hV (hsp H _ hO hS)) fun r s' x => ?_
  cases r with
  | error e => exact (hCX H e s' x).elim
  | ok fl =>
    cases fl with
    | next => exact False.elim x
    | brk => exact False.elim x
    | cont => exact False.elim x
    | ret u =>
      obtain ⟨v, H', os, bare, un, hok', r', q⟩ := x
      have kept : ∀ b o, s₁.heap.get? b = some o → s'.heap.get? b = some o := fun b o e => by
        cases q2 : H b with
        | none => exact un.keep b o e q2 (by intro z; exact absurd (show b ∈ ([] : List Addr) from z) (by simp)) (by simp)
        | some u2 =>
          rcases hO b with z | ⟨ob, u3, z⟩
          · rw [q2] at z
            cases z
          · have z2 := un.frzs b ob _ z
            obtain ⟨e1, _⟩ := hok b _ z
            obtain ⟨e2, _⟩ := hok' b _ z2
            rw [e] at e1
            cases e1
            exact e2
      have KX' : K.In s'.heap := fun b o e => kept b o (KX b o e)
      obtain ⟨as, hrd⟩ := Dw.reads (R := R) (cl := cl) hok' KX' d0 v u q r'
      exact ⟨u, as, rfl, hrd, OldK.of_keep kept, os, bare⟩
theorem layable_weight {ds : List WData} (h : WData.layableAll ds = true) : ∀ d ∈ ds, d.weight ≤ 1048576 := fun d hd =>
  (PySem.W.layableW_iff.mp (List.all_eq_true.mp h d hd)).2.2
theorem encAll_len : ∀ (cs : List Codec) (a : Codec.denoteAll cs), (Codec.encAll cs a).length = cs.length
  | [], _ => rfl
  | c :: cs, a => by
    show (Codec.encAll cs a.2).length + 1 = cs.length + 1
    rw [encAll_len cs a.2]
/-- the goal that k_headS leaves (case hc), from the promise of the row's def: whatever the arguments that the codecs let and the row asks for, the def gives what stands for enc (f ..) -/
theorem walk_spec {r : OpenSpec} {k : Nat} {q : Program} {loose : List Str} {XP : (Str → Option Value) → Heap → Prop} {YP : World → Heap → Prop} {d : DefRec} {K : Params → PySem.W.Frag} {CX : World → CXT} {ps : List Str} {sp : World → Sp}
    (hwell : r.wellSaid = true) (hdf : d.params.defaults = []) (hlen : r.args.length = ps.length) (hr : Room k callerA)
    (hY : ∀ (w : World) (h : Heap), YP w h → (K w.params).In h)
    (F : ∀ (w : World) (mg : Str → Option Value) (fa : Addr) (h : Heap), YP w h → (K w.params).In h → h.Ns mainGlobals mg → mg d.name = some (.ref fa) →
      ∃ fd : FuncData, (∀ (s : Shared) (us : List Value), us.length = ps.length → BindsTo s fd ⟨us, []⟩ (ps.zip us)) ∧
        ∀ base : Heap, (K w.params).In base → base.Ns mainGlobals mg → FnOk r.prog w (K w.params) mg base (CX w) k fa fd ps (sp w))
    (hsp : ∀ (w : World) (H : Hp) (xs : List V) (a : Codec.denoteAll r.args), OnlyF H → Codec.withinAll r.args a = true → Codec.app r.args r.asked a = true → DwAll (K w.params) H xs (Codec.encAll r.args a) →
      sp w xs H (fun v H' => Dw (K w.params) H' v (r.ret.enc (Codec.app r.args r.f a))) fun _ _ _ => False)
    (hCX : ∀ (w : World) (H : Hp) (s : Shared) (e : Value) (s' : Shared), CX w [] H s (fun _ _ _ => False) e s' → False) :
    PySem.W.WalkOS q loose XP YP r d [] (fun f vs => PySem.call f vs) := by
  intro w s_0 s₁ mg mb G Y fa o pm cd doc dV kV ho hd hcd hD hmg hg args vals as hpre hlay hrd hwl hlo
  obtain ⟨a, e1, e2⟩ := PySem.W.os_pre_some hpre
  obtain ⟨e3, hwi⟩ := Codec.encAll_of_decAll r.args args a e1
  subst e3
  have KX := hY w _ Y
  obtain ⟨fd, hb, hF⟩ := F w mg fa _ Y KX G.T.g hmg
  refine PySem.W.enter_call (codeAny_mono (spec_call (R := []) (cl := classAt s_0.heap) (d0 := r.ret.enc (Codec.app r.args r.f a)) KX G.T.g G.T.b G.T.builtins G.T.nolimit hg hwl (pl_encAll _ _) (layable_weight hlay) hr hF hb (by rw [encAll_len]; exact hlen)
    (fun H xs hO hS => hsp w H xs a hO hwi e2 hS) fun H e s' => hCX w H s₁ e s') fun r' s' hq => ?_)
  obtain ⟨u, as', rfl, h1, h2, h3, h4⟩ := hq
  exact ⟨.inl ⟨u, _, as', rfl, fun _ => rfl, h1, (OpenSpec.post_iff hwell hwi _ _).mpr rfl, fun z => Bool.noConfusion (show false = true from z)⟩, h2, h3, h4⟩
/-- the same where the promise hangs on the written part alone -/
theorem walk_specK {r : OpenSpec} {k : Nat} {q : Program} {loose : List Str} {XP : (Str → Option Value) → Heap → Prop} {YP : World → Heap → Prop} {d : DefRec} {K : Params → PySem.W.Frag} {CX : CXT} {ps : List Str} {sp : PySem.W.Frag → Sp}
    (hwell : r.wellSaid = true) (hdf : d.params.defaults = []) (hlen : r.args.length = ps.length) (hr : Room k callerA)
    (hY : ∀ (w : World) (h : Heap), YP w h → (K w.params).In h)
    (F : ∀ (w : World) (mg : Str → Option Value) (fa : Addr) (h : Heap), YP w h → (K w.params).In h → h.Ns mainGlobals mg → mg d.name = some (.ref fa) →
      ∃ fd : FuncData, (∀ (s : Shared) (us : List Value), us.length = ps.length → BindsTo s fd ⟨us, []⟩ (ps.zip us)) ∧
        ∀ base : Heap, (K w.params).In base → base.Ns mainGlobals mg → FnOk r.prog w (K w.params) mg base CX k fa fd ps (sp (K w.params)))
    (hsp : ∀ (K : PySem.W.Frag) (H : Hp) (xs : List V) (a : Codec.denoteAll r.args), OnlyF H → Codec.withinAll r.args a = true → Codec.app r.args r.asked a = true → DwAll K H xs (Codec.encAll r.args a) →
      sp K xs H (fun v H' => Dw K H' v (r.ret.enc (Codec.app r.args r.f a))) fun _ _ _ => False)
    (hCX : ∀ (H : Hp) (s : Shared) (e : Value) (s' : Shared), CX [] H s (fun _ _ _ => False) e s' → False) :
    PySem.W.WalkOS q loose XP YP r d [] (fun f vs => PySem.call f vs) :=
  walk_spec (K := K) (CX := fun _ => CX) (sp := fun w => sp (K w.params)) hwell hdf hlen hr hY F (fun w H xs a h1 h2 h3 h4 => hsp (K w.params) H xs a h1 h2 h3 h4) fun _ H s e s' => hCX H s e s'
end L2
-- rests on (row put in by the clerk, for the bench that shows a file only what it spells): KE.SpHead KE.OsShapes
end


set_option Elab.async false
namespace KdM
/-! sums over 0 .. n-1 -/
def sumN : Nat → (Nat → Nat) → Nat
  | 0, _ => 0
  | n + 1, f => sumN n f + f n
theorem sumN_congr {f g : Nat → Nat} : ∀ {n : Nat}, (∀ i, i < n → f i = g i) → sumN n f = sumN n g
  | 0, _ => rfl
  | n + 1, h => by
    show sumN n f + f n = sumN n g + g n
    rw [sumN_congr (n := n) fun i hi => h i (Nat.lt_succ_of_lt hi), h n (Nat.lt_succ_self n)]
theorem sumN_add (f g : Nat → Nat) : ∀ n : Nat, sumN n (fun i => f i + g i) = sumN n f + sumN n g
  | 0 => rfl
  | n + 1 => by
    show sumN n (fun i => f i + g i) + (f n + g n) = (sumN n f + f n) + (sumN n g + g n)
    rw [sumN_add f g n]
    omega
theorem sumN_mul (c : Nat) (f : Nat → Nat) : ∀ n : Nat, sumN n (fun i => c * f i) = c * sumN n f
  | 0 => rfl
  | n + 1 => by
    show sumN n (fun i => c * f i) + c * f n = c * (sumN n f + f n)
    rw [sumN_mul c f n, Nat.mul_add]
theorem sumN_zero : ∀ n : Nat, sumN n (fun _ => 0) = 0
  | 0 => rfl
  | n + 1 => by
    show sumN n (fun _ => 0) + 0 = 0
    rw [sumN_zero n]
theorem sumN_none {f : Nat → Nat} {n : Nat} (h : ∀ i, i < n → f i = 0) : sumN n f = 0 := (sumN_congr h).trans (sumN_zero n)
theorem sumN_head (f : Nat → Nat) : ∀ n : Nat, sumN (n + 1) f = f 0 + sumN n (fun i => f (i + 1))
  | 0 => by
    show 0 + f 0 = f 0 + 0
    omega
  | n + 1 => by
    show sumN (n + 1) f + f (n + 1) = f 0 + (sumN n (fun i => f (i + 1)) + f (n + 1))
    rw [sumN_head f n]
    omega
theorem sumN_swap (f : Nat → Nat → Nat) (m : Nat) : ∀ n : Nat, sumN n (fun i => sumN m (fun j => f i j)) = sumN m (fun j => sumN n (fun i => f i j))
  | 0 => (sumN_zero m).symm
  | n + 1 => by
    show sumN n (fun i => sumN m (fun j => f i j)) + sumN m (fun j => f n j) = sumN m (fun j => sumN n (fun i => f i j) + f n j)
    rw [sumN_swap f m n, sumN_add]
theorem sumN_two (f : Nat → Nat) : ∀ n : Nat, sumN (2 * n) f = sumN n (fun q => f (2 * q)) + sumN n (fun q => f (2 * q + 1))
  | 0 => rfl
  | n + 1 => by
    show sumN (2 * n) f + f (2 * n) + f (2 * n + 1) = (sumN n (fun q => f (2 * q)) + f (2 * n)) + (sumN n (fun q => f (2 * q + 1)) + f (2 * n + 1))
    rw [sumN_two f n]
    omega
theorem sumN_pick (f : Nat → Nat) (k : Nat) : ∀ n : Nat, sumN n (fun i => if i = k then f i else 0) = if k < n then f k else 0
  | 0 => by rw [if_neg (Nat.not_lt_zero k)]; rfl
  | n + 1 => by
    show sumN n (fun i => if i = k then f i else 0) + (if n = k then f n else 0) = _
    rw [sumN_pick f k n]
    by_cases h : n = k
    · subst h
      rw [if_neg (Nat.lt_irrefl n), if_pos rfl, if_pos (Nat.lt_succ_self n)]
      omega
    · by_cases h2 : k < n
      · rw [if_pos h2, if_neg h, if_pos (Nat.lt_succ_of_lt h2)]; rfl
      · rw [if_neg h2, if_neg h, if_neg (by omega)]

/-! the specification's sum -/
theorem foldl_sum : ∀ (l : List Nat) (a : Nat), l.foldl (fun (a b : Nat) => a + b) a = a + l.foldl (fun (a b : Nat) => a + b) 0
  | [], a => by simp
  | b :: l, a => by
    rw [List.foldl_cons, List.foldl_cons, foldl_sum l (a + b), foldl_sum l (0 + b)]
    omega
theorem sum_nil : Kp291.sum [] = 0 := rfl
theorem sum_cons (a : Nat) (l : List Nat) : Kp291.sum (a :: l) = a + Kp291.sum l := by
  unfold Kp291.sum
  rw [List.foldl_cons, foldl_sum]
  omega
theorem sum_append : ∀ (l m : List Nat), Kp291.sum (l ++ m) = Kp291.sum l + Kp291.sum m
  | [], m => by rw [sum_nil, List.nil_append]; omega
  | a :: l, m => by rw [List.cons_append, sum_cons, sum_cons, sum_append l m]; omega
theorem sum_range (f : Nat → Nat) : ∀ n : Nat, Kp291.sum ((List.range n).map f) = sumN n f
  | 0 => rfl
  | n + 1 => by
    rw [List.range_succ, List.map_append, sum_append, sum_range f n]
    show sumN n f + (0 + f n) = sumN n f + f n
    rw [Nat.zero_add]

/-! binomials -/
def binom : Nat → Nat → Nat
  | _, 0 => 1
  | 0, _ + 1 => 0
  | n + 1, k + 1 => binom n k + binom n (k + 1)
theorem binom_zero (n : Nat) : binom n 0 = 1 := by cases n <;> rfl
theorem binom_out : ∀ {n k : Nat}, n < k → binom n k = 0
  | 0, k + 1, _ => rfl
  | n + 1, k + 1, h => by
    show binom n k + binom n (k + 1) = 0
    rw [binom_out (n := n) (k := k) (by omega), binom_out (n := n) (k := k + 1) (by omega)]
theorem binom_mul : ∀ n k : Nat, binom n (k + 1) * (k + 1) = binom n k * (n - k)
  | 0, k => by
    show 0 * (k + 1) = _
    rw [Nat.zero_mul, Nat.zero_sub, Nat.mul_zero]
  | n + 1, 0 => by
    show (binom n 0 + binom n 1) * 1 = 1 * (n + 1)
    have h : binom n 1 * 1 = binom n 0 * (n - 0) := binom_mul n 0
    rw [binom_zero] at h ⊢
    omega
  | n + 1, j + 1 => by
    show (binom n (j + 1) + binom n (j + 2)) * (j + 2) = (binom n j + binom n (j + 1)) * (n + 1 - (j + 1))
    have h1 := binom_mul n (j + 1)
    have h2 := binom_mul n j
    have e1 : n + 1 - (j + 1) = n - j := by omega
    rw [e1, Nat.add_mul, Nat.add_mul, ← h2, show j + 2 = j + 1 + 1 from rfl, h1]
    by_cases c : j + 1 ≤ n
    · rw [← Nat.mul_add, ← Nat.mul_add]
      congr 1
      omega
    · rw [binom_out (n := n) (k := j + 1) (by omega)]
      simp
theorem choose_eq (n : Nat) : ∀ k : Nat, Kp291.choose n k = binom n k
  | 0 => (binom_zero n).symm
  | k + 1 => by
    have ih := choose_eq n k
    unfold Kp291.choose at ih ⊢
    rw [List.range_succ, List.foldl_append, ih]
    show binom n k * (n - k) / (k + 1) = binom n (k + 1)
    rw [← binom_mul, Nat.mul_div_cancel _ (Nat.succ_pos k)]

/-! how many of the lowest places of a number are odd -/
def pop : Nat → Nat → Nat
  | 0, _ => 0
  | L + 1, m => m % 2 + pop L (m / 2)
theorem pop_le : ∀ (L m : Nat), pop L m ≤ L
  | 0, _ => Nat.le_refl 0
  | L + 1, m => by
    show m % 2 + pop L (m / 2) ≤ L + 1
    have := pop_le L (m / 2)
    omega
/-- rows of n draws that have just the kinds of a mask -/
def ex : List Nat → Nat → Nat → Nat
  | [], m, n => if m = 0 ∧ n = 0 then 1 else 0
  | w :: l, m, n => if m % 2 = 0 then ex l (m / 2) n else sumN n (fun i => binom n (i + 1) * w ^ (i + 1) * ex l (m / 2) (n - (i + 1)))
theorem ex_even (w : Nat) (l : List Nat) (q n : Nat) : ex (w :: l) (2 * q) n = ex l q n := by
  rw [ex, if_pos (by omega), show 2 * q / 2 = q by omega]
theorem ex_odd (w : Nat) (l : List Nat) (q n : Nat) : ex (w :: l) (2 * q + 1) n = sumN n (fun i => binom n (i + 1) * w ^ (i + 1) * ex l q (n - (i + 1))) := by
  rw [ex, if_neg (by omega), show (2 * q + 1) / 2 = q by omega]
theorem just_zero : ∀ (l : List Nat) (n : Nat), Kp293.just l n 0 = if n = 0 then 1 else 0
  | [], 0 => by rw [Kp293.just]; rfl
  | [], n + 1 => by
    rw [Kp293.just, if_neg (by omega)]
    simp
  | w :: l, n => by rw [Kp293.just]
theorem just_eq : ∀ (l : List Nat) (n k : Nat), Kp293.just l n k = sumN (2 ^ l.length) (fun m => if pop l.length m = k then ex l m n else 0)
  | [], n, k => by
    show _ = 0 + (if 0 = k then (if 0 = 0 ∧ n = 0 then 1 else 0) else 0)
    cases n with
    | zero =>
      cases k with
      | zero => rw [Kp293.just]; rfl
      | succ k => rw [Kp293.just, if_neg (by omega)]; simp
    | succ n => rw [Kp293.just, if_neg (show ¬ ((0 : Nat) = 0 ∧ n + 1 = 0) by omega)]; simp; simp
  | w :: l, n, k => by
    rw [List.length_cons, Nat.pow_succ, Nat.mul_comm, sumN_two]
    have e1 : ∀ q, pop (l.length + 1) (2 * q) = pop l.length q := fun q => by
      show 2 * q % 2 + pop l.length (2 * q / 2) = _
      rw [show 2 * q / 2 = q by omega]
      omega
    have e2 : ∀ q, pop (l.length + 1) (2 * q + 1) = pop l.length q + 1 := fun q => by
      show (2 * q + 1) % 2 + pop l.length ((2 * q + 1) / 2) = _
      rw [show (2 * q + 1) / 2 = q by omega]
      omega
    have s1 : sumN (2 ^ l.length) (fun q => if pop (l.length + 1) (2 * q) = k then ex (w :: l) (2 * q) n else 0) = Kp293.just l n k := by
      rw [just_eq l n k]
      exact sumN_congr fun q _ => by rw [e1, ex_even]
    rw [s1]
    cases k with
    | zero =>
      rw [just_zero, just_zero, sumN_none]
      · omega
      · intro q _
        rw [e2, if_neg (by omega)]
    | succ k =>
      rw [Kp293.just, sum_range]
      congr 1
      have s2 : ∀ q, q < 2 ^ l.length → (if pop (l.length + 1) (2 * q + 1) = k + 1 then ex (w :: l) (2 * q + 1) n else 0) = sumN n (fun i => binom n (i + 1) * w ^ (i + 1) * (if pop l.length q = k then ex l q (n - (i + 1)) else 0)) := fun q _ => by
        rw [e2, ex_odd]
        by_cases c : pop l.length q = k
        · rw [if_pos (by omega)]
          exact sumN_congr fun i _ => by rw [if_pos c]
        · rw [if_neg (by omega), sumN_none]
          intro i _
          rw [if_neg c, Nat.mul_zero]
      rw [sumN_congr s2, sumN_swap]
      refine sumN_congr fun i _ => ?_
      rw [sumN_mul, choose_eq, just_eq l (n - (i + 1)) k]

/-! one draw more, by masks -/
def st : List Nat → Nat → (Nat → Nat) → Nat
  | [], _, _ => 0
  | w :: l, m, f => (if m % 2 = 1 then w * (f m + f (m - 1)) else 0) + st l (m / 2) (fun q => f (2 * q + m % 2))
theorem st_congr : ∀ {l : List Nat} {m : Nat} {f g : Nat → Nat}, (∀ q, f q = g q) → st l m f = st l m g := fun {l m f g} h => by
  have e : f = g := funext h
  rw [e]
theorem st_zero : ∀ (l : List Nat) (m : Nat), st l m (fun _ => 0) = 0
  | [], _ => rfl
  | w :: l, m => by
    show (if m % 2 = 1 then w * (0 + 0) else 0) + st l (m / 2) (fun _ => 0) = 0
    rw [st_zero l]
    split <;> simp
theorem st_add : ∀ (l : List Nat) (m : Nat) (f g : Nat → Nat), st l m (fun q => f q + g q) = st l m f + st l m g
  | [], _, _, _ => rfl
  | w :: l, m, f, g => by
    show (if m % 2 = 1 then w * ((f m + g m) + (f (m - 1) + g (m - 1))) else 0) + st l (m / 2) (fun q => f (2 * q + m % 2) + g (2 * q + m % 2)) = _
    rw [st_add l (m / 2)]
    show _ = ((if m % 2 = 1 then w * (f m + f (m - 1)) else 0) + st l (m / 2) (fun q => f (2 * q + m % 2))) + ((if m % 2 = 1 then w * (g m + g (m - 1)) else 0) + st l (m / 2) (fun q => g (2 * q + m % 2)))
    split
    · rw [show f m + g m + (f (m - 1) + g (m - 1)) = (f m + f (m - 1)) + (g m + g (m - 1)) by omega, Nat.mul_add w (f m + f (m - 1))]
      omega
    · omega
theorem st_mul (c : Nat) : ∀ (l : List Nat) (m : Nat) (f : Nat → Nat), st l m (fun q => c * f q) = c * st l m f
  | [], _, _ => rfl
  | w :: l, m, f => by
    show (if m % 2 = 1 then w * (c * f m + c * f (m - 1)) else 0) + st l (m / 2) (fun q => c * f (2 * q + m % 2)) = c * ((if m % 2 = 1 then w * (f m + f (m - 1)) else 0) + st l (m / 2) (fun q => f (2 * q + m % 2)))
    rw [st_mul c l (m / 2) (fun q => f (2 * q + m % 2)), Nat.mul_add c]
    congr 1
    split
    · rw [← Nat.mul_add, Nat.mul_left_comm]
    · rfl
theorem st_sum (l : List Nat) (m : Nat) (g : Nat → Nat → Nat) : ∀ n : Nat, st l m (fun q => sumN n (fun i => g i q)) = sumN n (fun i => st l m (g i))
  | 0 => st_zero l m
  | n + 1 => by
    show st l m (fun q => sumN n (fun i => g i q) + g n q) = sumN n (fun i => st l m (g i)) + st l m (g n)
    rw [st_add, st_sum l m g n]
theorem ex_zero : ∀ (l : List Nat) (m : Nat), m < 2 ^ l.length → ex l m 0 = if m = 0 then 1 else 0
  | [], m, _ => by
    rw [ex]
    by_cases c : m = 0
    · rw [if_pos ⟨c, rfl⟩, if_pos c]
    · rw [if_neg (fun h => c h.1), if_neg c]
  | w :: l, m, h => by
    rw [List.length_cons, Nat.pow_succ] at h
    rw [ex]
    by_cases c : m % 2 = 0
    · rw [if_pos c, ex_zero l (m / 2) (by omega)]
      by_cases c2 : m = 0
      · rw [if_pos (by omega), if_pos c2]
      · rw [if_neg (by omega), if_neg c2]
    · rw [if_neg c, if_neg (by omega)]
      rfl
theorem ex_succ : ∀ (l : List Nat) (m n : Nat), ex l m (n + 1) = st l m (fun q => ex l q n)
  | [], m, n => by rw [ex, if_neg (by omega)]; rfl
  | w :: l, m, n => by
    by_cases c : m % 2 = 0
    · obtain ⟨q, rfl⟩ : ∃ q, m = 2 * q := ⟨m / 2, by omega⟩
      rw [ex_even, ex_succ l q n]
      show _ = (if 2 * q % 2 = 1 then _ else 0) + st l (2 * q / 2) (fun r => ex (w :: l) (2 * r + 2 * q % 2) n)
      rw [if_neg (by omega), show 2 * q / 2 = q by omega, show 2 * q % 2 = 0 by omega, Nat.zero_add]
      exact st_congr fun r => (ex_even w l r n).symm
    · obtain ⟨q, rfl⟩ : ∃ q, m = 2 * q + 1 := ⟨m / 2, by omega⟩
      show _ = (if (2 * q + 1) % 2 = 1 then w * (ex (w :: l) (2 * q + 1) n + ex (w :: l) (2 * q + 1 - 1) n) else 0) + st l ((2 * q + 1) / 2) (fun r => ex (w :: l) (2 * r + (2 * q + 1) % 2) n)
      rw [if_pos (by omega), show (2 * q + 1) / 2 = q by omega, show (2 * q + 1) % 2 = 1 by omega, show 2 * q + 1 - 1 = 2 * q by omega, ex_even]
      have e : st l q (fun r => ex (w :: l) (2 * r + 1) n) = sumN n (fun i => binom n (i + 1) * w ^ (i + 1) * ex l q (n - i)) := by
        rw [st_congr fun r => ex_odd w l r n, st_sum l q (fun i r => binom n (i + 1) * w ^ (i + 1) * ex l r (n - (i + 1)))]
        refine sumN_congr fun i hi => ?_
        rw [st_mul, ← ex_succ l q (n - (i + 1)), show n - (i + 1) + 1 = n - i by omega]
      rw [e, ex_odd, ex_odd]
      have p : ∀ i, i < n + 1 → binom (n + 1) (i + 1) * w ^ (i + 1) * ex l q (n + 1 - (i + 1)) = binom n i * w ^ (i + 1) * ex l q (n - i) + binom n (i + 1) * w ^ (i + 1) * ex l q (n - i) := fun i _ => by
        show (binom n i + binom n (i + 1)) * w ^ (i + 1) * ex l q (n + 1 - (i + 1)) = _
        rw [Nat.add_mul, Nat.add_mul, show n + 1 - (i + 1) = n - i by omega]
      rw [sumN_congr p, sumN_add]
      congr 1
      · rw [sumN_head, binom_zero, Nat.mul_add, ← sumN_mul]
        rw [show sumN n (fun i => w * (binom n (i + 1) * w ^ (i + 1) * ex l q (n - (i + 1)))) = sumN n (fun i => binom n (i + 1) * w ^ (i + 1 + 1) * ex l q (n - (i + 1))) from sumN_congr fun i _ => by
          rw [Nat.pow_succ w (i + 1), ← Nat.mul_assoc, ← Nat.mul_assoc, ← Nat.mul_assoc, Nat.mul_comm w (binom n (i + 1)), Nat.mul_assoc (binom n (i + 1)) w, Nat.mul_comm w (w ^ (i + 1)), ← Nat.mul_assoc]]
        rw [show (1 : Nat) * w ^ (0 + 1) * ex l q (n - 0) = w * ex l q n by rw [Nat.zero_add, Nat.pow_one, Nat.one_mul, Nat.sub_zero]]
        omega
      · show sumN n (fun i => binom n (i + 1) * w ^ (i + 1) * ex l q (n - i)) + binom n (n + 1) * w ^ (n + 1) * ex l q (n - n) = _
        rw [binom_out (Nat.lt_succ_self n), Nat.zero_mul, Nat.zero_mul]
        rfl
end KdM

set_option Elab.async false
namespace KdM
/-! a mask with one place more -/
theorem or_one (q b : Nat) (hb : b < 2) : (2 * q + b) ||| 2 ^ 0 = 2 * q + 1 := by
  have h1 : ((2 * q + b) ||| 2 ^ 0) / 2 = q := by
    rw [Nat.or_div_two, show (2 ^ 0 : Nat) / 2 = 0 from rfl, Nat.or_zero]
    omega
  have h2 : ((2 * q + b) ||| 2 ^ 0) % 2 = 1 := Nat.or_mod_two_eq_one.mpr (.inr rfl)
  omega
theorem or_more (q b j : Nat) (hb : b < 2) : (2 * q + b) ||| 2 ^ (j + 1) = 2 * (q ||| 2 ^ j) + b := by
  have e : 2 ^ (j + 1) / 2 = 2 ^ j := by rw [Nat.pow_succ]; omega
  have e2 : 2 ^ (j + 1) % 2 = 0 := by rw [Nat.pow_succ]; omega
  have h1 : ((2 * q + b) ||| 2 ^ (j + 1)) / 2 = q ||| 2 ^ j := by
    rw [Nat.or_div_two, e, show (2 * q + b) / 2 = q by omega]
  have h2 : ((2 * q + b) ||| 2 ^ (j + 1)) % 2 = b := by
    by_cases c : b = 1
    · subst c
      exact Nat.or_mod_two_eq_one.mpr (.inl (by omega))
    · have : ¬ ((2 * q + b) ||| 2 ^ (j + 1)) % 2 = 1 := fun h => by
        rcases Nat.or_mod_two_eq_one.mp h with h | h <;> omega
      omega
  omega
theorem or_lt {m j L : Nat} (hm : m < 2 ^ L) (hj : j < L) : m ||| 2 ^ j < 2 ^ L := Nat.or_lt_two_pow hm (Nat.pow_lt_pow_right (by decide) hj)
/-- what one draw more makes of the weights by mask, gathered place by place -/
def gath (l : List Nat) (f : Nat → Nat) (t : Nat) : Nat := sumN (2 ^ l.length) (fun m => sumN l.length (fun j => if m ||| 2 ^ j = t then f m * l.getD j 0 else 0))
theorem gath_eq : ∀ (l : List Nat) (f : Nat → Nat) (t : Nat), t < 2 ^ l.length → gath l f t = st l t f
  | [], f, t, _ => by
    show 0 + sumN 0 _ = 0
    rfl
  | w :: l, f, t, ht => by
    unfold gath
    rw [List.length_cons, Nat.pow_succ] at ht
    rw [List.length_cons, Nat.pow_succ, Nat.mul_comm, sumN_two, ← sumN_add]
    have hd : ∀ (q b : Nat), b < 2 → sumN (l.length + 1) (fun j => if (2 * q + b) ||| 2 ^ j = t then f (2 * q + b) * (w :: l).getD j 0 else 0)
        = (if q = t / 2 then (if t % 2 = 1 then f (2 * q + b) * w else 0) else 0) + (if t % 2 = b then sumN l.length (fun j => if q ||| 2 ^ j = t / 2 then f (2 * q + t % 2) * l.getD j 0 else 0) else 0) := fun q b hb => by
      rw [sumN_head]
      congr 1
      · rw [or_one q b hb]
        by_cases c : q = t / 2
        · rw [if_pos c]
          by_cases c2 : t % 2 = 1
          · rw [if_pos (by omega), if_pos c2]; rfl
          · rw [if_neg (by omega), if_neg c2]
        · rw [if_neg (by omega), if_neg c]
      · by_cases c : t % 2 = b
        · rw [if_pos c]
          refine sumN_congr fun j _ => ?_
          rw [or_more q b j hb, c]
          by_cases c2 : q ||| 2 ^ j = t / 2
          · rw [if_pos (by omega), if_pos c2]; rfl
          · rw [if_neg (by omega), if_neg c2]
        · rw [if_neg c]
          refine sumN_none fun j _ => ?_
          rw [or_more q b j hb, if_neg (by omega)]
    have hs : ∀ q, q < 2 ^ l.length → sumN (l.length + 1) (fun j => if (2 * q) ||| 2 ^ j = t then f (2 * q) * (w :: l).getD j 0 else 0) + sumN (l.length + 1) (fun j => if (2 * q + 1) ||| 2 ^ j = t then f (2 * q + 1) * (w :: l).getD j 0 else 0)
        = (if q = t / 2 then (if t % 2 = 1 then w * (f (2 * q + 1) + f (2 * q)) else 0) else 0) + sumN l.length (fun j => if q ||| 2 ^ j = t / 2 then f (2 * q + t % 2) * l.getD j 0 else 0) := fun q _ => by
      have h0 := hd q 0 (by omega)
      simp only [Nat.add_zero] at h0
      rw [h0, hd q 1 (by omega)]
      by_cases c : t % 2 = 1
      · rw [if_neg (show ¬ t % 2 = 0 by omega), if_pos c, if_pos c, if_pos c, if_pos c]
        by_cases c2 : q = t / 2
        · rw [if_pos c2, if_pos c2, if_pos c2, Nat.mul_add, Nat.mul_comm w, Nat.mul_comm w]
          omega
        · rw [if_neg c2, if_neg c2, if_neg c2]
          omega
      · rw [if_pos (show t % 2 = 0 by omega), if_neg c, if_neg c, if_neg c, if_neg c]
        by_cases c2 : q = t / 2
        · rw [if_pos c2]
          omega
        · rw [if_neg c2]
          omega
    rw [sumN_congr hs, sumN_add]
    show _ = (if t % 2 = 1 then w * (f t + f (t - 1)) else 0) + st l (t / 2) (fun q => f (2 * q + t % 2))
    have ih := gath_eq l (fun q => f (2 * q + t % 2)) (t / 2) (by omega)
    unfold gath at ih
    rw [ih, sumN_pick (fun q => if t % 2 = 1 then w * (f (2 * q + 1) + f (2 * q)) else 0), if_pos (by omega)]
    congr 1
    by_cases c : t % 2 = 1
    · rw [if_pos c, if_pos c, show 2 * (t / 2) + 1 = t by omega, show 2 * (t / 2) = t - 1 by omega]
    · rw [if_neg c, if_neg c]
theorem gath_ex (l : List Nat) (n t : Nat) (ht : t < 2 ^ l.length) : gath l (fun m => ex l m n) t = ex l t (n + 1) := by
  rw [gath_eq l _ t ht, ex_succ]
/-! how many odd places: by halves -/
theorem pop_zero : ∀ L : Nat, pop L 0 = 0
  | 0 => rfl
  | L + 1 => by
    show 0 % 2 + pop L (0 / 2) = 0
    rw [show 0 / 2 = 0 from rfl, pop_zero L]
theorem pop_same : ∀ {L m : Nat}, m < 2 ^ L → pop (L + 1) m = pop L m
  | 0, m, h => by
    show m % 2 + 0 = 0
    have : m = 0 := by rw [Nat.pow_zero] at h; omega
    subst this
    rfl
  | L + 1, m, h => by
    show m % 2 + pop (L + 1) (m / 2) = m % 2 + pop L (m / 2)
    rw [pop_same (by rw [Nat.pow_succ] at h; omega)]
/-- a turn of the loop that counts -/
theorem pop_turn {L m : Nat} (h : m < 2 ^ L) : pop L m = m % 2 + pop L (m / 2) := (pop_same h).symm
/-! lists told by their places -/
def tab (N : Nat) (F : Nat → Nat) : List Nat := (List.range N).map F
theorem tab_length (N : Nat) (F : Nat → Nat) : (tab N F).length = N := by unfold tab; rw [List.length_map, List.length_range]
theorem tab_get {N k : Nat} (F : Nat → Nat) (h : k < N) : (tab N F)[k]? = some (F k) := by
  unfold tab
  rw [List.getElem?_map, List.getElem?_range h]
  rfl
theorem tab_congr {N : Nat} {F G : Nat → Nat} (h : ∀ t, t < N → F t = G t) : tab N F = tab N G := List.map_congr_left fun t ht => h t (List.mem_range.mp ht)
theorem tab_set (N k v : Nat) (F : Nat → Nat) : (tab N F).set k v = tab N (fun t => if t = k then v else F t) := by
  refine List.ext_getElem? fun i => ?_
  by_cases h : i < N
  · rw [tab_get _ h]
    by_cases c : k = i
    · subst c
      rw [List.getElem?_set_self (by rw [tab_length]; exact h), if_pos rfl]
    · rw [List.getElem?_set_ne c, tab_get _ h, if_neg fun e => c e.symm]
  · rw [List.getElem?_eq_none (by rw [List.length_set, tab_length]; omega), List.getElem?_eq_none (by rw [tab_length]; omega)]
theorem tab_const (N c : Nat) : tab N (fun _ => c) = List.replicate N c := by
  unfold tab
  rw [List.map_const', List.length_range]
/-! the likeliest -/
/-- the first place of the greatest number -/
def best (F : Nat → Nat) (N : Nat) : Nat := (List.range N).foldl (fun (b k : Nat) => if F b < F k then k else b) 0
theorem best_spec (F : Nat → Nat) : ∀ N : Nat, 0 < N → best F N < N ∧ (∀ k, k < N → F k ≤ F (best F N)) ∧ ∀ k, k < best F N → F k < F (best F N)
  | 1, _ => by
    show (if F 0 < F 0 then 0 else 0) < 1 ∧ _
    have e : best F 1 = 0 := by
      show (if F 0 < F 0 then 0 else 0) = 0
      split <;> rfl
    rw [e]
    refine ⟨by split <;> omega, fun k hk => ?_, fun k hk => by omega⟩
    have : k = 0 := by omega
    rw [this]
    exact Nat.le_refl _
  | N + 2, _ => by
    obtain ⟨h1, h2, h3⟩ := best_spec F (N + 1) (by omega)
    have e : best F (N + 2) = if F (best F (N + 1)) < F (N + 1) then N + 1 else best F (N + 1) := by
      show (List.range (N + 1 + 1)).foldl _ 0 = _
      rw [List.range_succ, List.foldl_append]
      rfl
    rw [e]
    by_cases c : F (best F (N + 1)) < F (N + 1)
    · rw [if_pos c]
      refine ⟨by omega, fun k hk => ?_, fun k hk => ?_⟩
      · by_cases ck : k < N + 1
        · exact Nat.le_of_lt (Nat.lt_of_le_of_lt (h2 k ck) c)
        · have : k = N + 1 := by omega
          rw [this]
          exact Nat.le_refl _
      · exact Nat.lt_of_le_of_lt (h2 k hk) c
    · rw [if_neg c]
      refine ⟨by omega, fun k hk => ?_, h3⟩
      by_cases ck : k < N + 1
      · exact h2 k ck
      · have : k = N + 1 := by omega
        rw [this]
        omega
theorem best_unique {F : Nat → Nat} {N j : Nat} (hj : j < N) (h2 : ∀ k, k < N → F k ≤ F j) (h3 : ∀ k, k < j → F k ≠ F j) : best F N = j := by
  obtain ⟨b1, b2, b3⟩ := best_spec F N (by omega)
  have e : F (best F N) = F j := Nat.le_antisymm (h2 _ b1) (b2 _ hj)
  rcases Nat.lt_trichotomy (best F N) j with c | c | c
  · exact absurd e (h3 _ c)
  · exact c
  · have := b3 _ c
    omega
end KdM

set_option Elab.async false
namespace KdM
open PyKp293
theorem whole_id (c : List (List Int)) : whole c = c := by
  unfold whole
  split <;> rfl
theorem map_whole (cs : List (List (List Int))) : cs.map whole = cs := by
  rw [List.map_congr_left (g := id) fun c _ => whole_id c, List.map_id]
/-- how many numbers a call has behind its own -/
def argc (p : Nat) : Nat := [0, 1, 2, 1, 2, 1, 1, 1, 1, 2, 1, 3, 2, 2, 3, 1, 0].getD p 0
theorem shape_of {p : Int} {n k : Nat} (h : shape p = some (n, k)) : ∃ q : Nat, p = (q : Int) ∧ q < 17 ∧ n = argc q ∧ k = 0 := by
  unfold shape at h
  by_cases e0 : p = 0
  · rw [if_pos e0] at h
    injection h with h
    injection h with h1 h2
    exact ⟨0, e0, by decide, h1.symm, h2.symm⟩
  rw [if_neg e0] at h
  by_cases e1 : p = 1
  · rw [if_pos e1] at h
    injection h with h
    injection h with h1 h2
    exact ⟨1, e1, by decide, h1.symm, h2.symm⟩
  rw [if_neg e1] at h
  by_cases e2 : p = 2
  · rw [if_pos e2] at h
    injection h with h
    injection h with h1 h2
    exact ⟨2, e2, by decide, h1.symm, h2.symm⟩
  rw [if_neg e2] at h
  by_cases e3 : p = 3
  · rw [if_pos e3] at h
    injection h with h
    injection h with h1 h2
    exact ⟨3, e3, by decide, h1.symm, h2.symm⟩
  rw [if_neg e3] at h
  by_cases e4 : p = 4
  · rw [if_pos e4] at h
    injection h with h
    injection h with h1 h2
    exact ⟨4, e4, by decide, h1.symm, h2.symm⟩
  rw [if_neg e4] at h
  by_cases e5 : p = 5
  · rw [if_pos e5] at h
    injection h with h
    injection h with h1 h2
    exact ⟨5, e5, by decide, h1.symm, h2.symm⟩
  rw [if_neg e5] at h
  by_cases e6 : p = 6
  · rw [if_pos e6] at h
    injection h with h
    injection h with h1 h2
    exact ⟨6, e6, by decide, h1.symm, h2.symm⟩
  rw [if_neg e6] at h
  by_cases e7 : p = 7
  · rw [if_pos e7] at h
    injection h with h
    injection h with h1 h2
    exact ⟨7, e7, by decide, h1.symm, h2.symm⟩
  rw [if_neg e7] at h
  by_cases e8 : p = 8
  · rw [if_pos e8] at h
    injection h with h
    injection h with h1 h2
    exact ⟨8, e8, by decide, h1.symm, h2.symm⟩
  rw [if_neg e8] at h
  by_cases e9 : p = 9
  · rw [if_pos e9] at h
    injection h with h
    injection h with h1 h2
    exact ⟨9, e9, by decide, h1.symm, h2.symm⟩
  rw [if_neg e9] at h
  by_cases e10 : p = 10
  · rw [if_pos e10] at h
    injection h with h
    injection h with h1 h2
    exact ⟨10, e10, by decide, h1.symm, h2.symm⟩
  rw [if_neg e10] at h
  by_cases e11 : p = 11
  · rw [if_pos e11] at h
    injection h with h
    injection h with h1 h2
    exact ⟨11, e11, by decide, h1.symm, h2.symm⟩
  rw [if_neg e11] at h
  by_cases e12 : p = 12
  · rw [if_pos e12] at h
    injection h with h
    injection h with h1 h2
    exact ⟨12, e12, by decide, h1.symm, h2.symm⟩
  rw [if_neg e12] at h
  by_cases e13 : p = 13
  · rw [if_pos e13] at h
    injection h with h
    injection h with h1 h2
    exact ⟨13, e13, by decide, h1.symm, h2.symm⟩
  rw [if_neg e13] at h
  by_cases e14 : p = 14
  · rw [if_pos e14] at h
    injection h with h
    injection h with h1 h2
    exact ⟨14, e14, by decide, h1.symm, h2.symm⟩
  rw [if_neg e14] at h
  by_cases e15 : p = 15
  · rw [if_pos e15] at h
    injection h with h
    injection h with h1 h2
    exact ⟨15, e15, by decide, h1.symm, h2.symm⟩
  rw [if_neg e15] at h
  by_cases e16 : p = 16
  · rw [if_pos e16] at h
    injection h with h
    injection h with h1 h2
    exact ⟨16, e16, by decide, h1.symm, h2.symm⟩
  rw [if_neg e16] at h
  cases h
theorem calls_nil (f : Nat) : PyFlat.calls shape f [] = some [] := by
  cases f <;> rfl
theorem calls_cons {f : Nat} {p : Int} {r : List Int} {cs : List (List (List Int))} (h : PyFlat.calls shape f (p :: r) = some cs) :
    ∃ (q g : Nat) (cs' : List (List (List Int))), f = g + 1 ∧ p = (q : Int) ∧ q < 17 ∧ argc q ≤ r.length ∧ cs = [p :: r.take (argc q)] :: cs' ∧ PyFlat.calls shape g (r.drop (argc q)) = some cs' := by
  cases f with
  | zero => cases h
  | succ g =>
    rw [PyFlat.calls] at h
    split at h
    · cases h
    · rename_i c t hc
      split at h
      · cases h
      · rename_i cs' hcs
        injection h with h
        subst h
        rw [PyFlat.call] at hc
        split at hc
        · cases hc
        · rename_i n k hs
          obtain ⟨q, e1, e2, e3, e4⟩ := shape_of hs
          subst e3 e4
          split at hc
          · cases hc
          · rename_i hlen
            rw [PyFlat.rows] at hc
            injection hc with hc
            injection hc with h1 h2
            subst h1 h2
            exact ⟨q, g, cs', rfl, e1, e2, by omega, rfl, hcs⟩
/-- what is due, call by call, from a state on -/
def due (s : Kp293.State) (cs : List (List (List Int))) : List Int := PyFlat.told (PyFlat.played Kp293Neutral.step s cs)
theorem due_nil (s : Kp293.State) : due s [] = [] := rfl
theorem due_cons (s : Kp293.State) (c : List (List Int)) (cs : List (List (List Int))) :
    due s (c :: cs) = ((((Kp293Neutral.step s c).2.length : Nat) : Int) :: (Kp293Neutral.step s c).2) ++ due (Kp293Neutral.step s c).1 cs := by
  unfold due
  rw [PyFlat.played, PyFlat.told, List.flatMap_cons]
  rfl
theorem answers_of {l : List Int} {cs : List (List (List Int))} (h : PyFlat.calls shape l.length l = some cs) : answers l = due none cs := by
  unfold answers calls
  rw [h]
  show PyFlat.told (PyFlat.played Kp293Neutral.step Kp293Neutral.start (cs.map whole)) = _
  rw [map_whole]
  rfl
/-- what is asked of the list -/
theorem asked_of {l : List Int} (h : answers_asked l = true) : ∃ cs, PyFlat.calls shape l.length l = some cs ∧ cs.length ≤ 80 ∧ cs.all Kp293Neutral.asked1 = true ∧ (answers l).length ≤ 10000000 := by
  unfold answers_asked at h
  split at h
  · cases h
  · rename_i raw hr
    rw [Bool.and_eq_true, Bool.and_eq_true] at h
    obtain ⟨⟨_, h2⟩, h3⟩ := h
    rw [map_whole] at h2
    unfold Kp293Neutral.asked at h2
    rw [Bool.and_eq_true, Bool.and_eq_true] at h2
    exact ⟨raw, hr, of_decide_eq_true h2.2.1, h2.2.2, of_decide_eq_true h3⟩
end KdM

set_option Elab.async false
namespace KdM
/-! the first number that a test takes -/
theorem find_none {p : Nat → Bool} {N : Nat} (h : ∀ m, m < N → p m = false) : (List.range N).find? p = none := by
  rw [List.find?_eq_none]
  intro x hx
  rw [h x (List.mem_range.mp hx)]
  decide
theorem find_some {p : Nat → Bool} : ∀ {N n : Nat}, n < N → p n = true → (∀ m, m < n → p m = false) → (List.range N).find? p = some n
  | 0, n, hn, _, _ => absurd hn (Nat.not_lt_zero n)
  | N + 1, n, hn, hp, h => by
    rw [List.range_succ, List.find?_append]
    by_cases c : n < N
    · rw [find_some c hp h]
      rfl
    · have e : n = N := by omega
      subst e
      rw [find_none h]
      show (List.find? p [n]) = some n
      rw [List.find?_cons, hp]
/-! both: what is left is not below 0 -/
theorem both_le (c x y : Nat) : ∀ n : Nat, (c + y) ^ n + (c + x) ^ n ≤ (c + x + y) ^ n + c ^ n
  | 0 => by simp
  | n + 1 => by
    have ih := both_le c x y n
    have h1 : (c + y) ^ n ≤ (c + x + y) ^ n := Nat.pow_le_pow_left (by omega) n
    have h2 : (c + x) ^ n ≤ (c + x + y) ^ n := Nat.pow_le_pow_left (by omega) n
    rw [Nat.pow_succ, Nat.pow_succ, Nat.pow_succ, Nat.pow_succ]
    generalize (c + y) ^ n = A at *
    generalize (c + x) ^ n = B at *
    generalize (c + x + y) ^ n = S at *
    generalize c ^ n = p at *
    have m1 := Nat.mul_le_mul_right c ih
    have m2 := Nat.mul_le_mul_right y h1
    have m3 := Nat.mul_le_mul_right x h2
    rw [Nat.add_mul, Nat.add_mul] at m1
    rw [Nat.mul_add, Nat.mul_add, Nat.mul_add, Nat.mul_add]
    omega
/-! fractions compared in lowest terms -/
theorem low_le {a b A B : Nat} (hB : 0 < B) : (a * (B / Nat.gcd A B) ≤ b * (A / Nat.gcd A B)) ↔ a * B ≤ b * A := by
  have hg : 0 < Nat.gcd A B := Nat.gcd_pos_of_pos_right A hB
  have e1 : B / Nat.gcd A B * Nat.gcd A B = B := Nat.div_mul_cancel (Nat.gcd_dvd_right A B)
  have e2 : A / Nat.gcd A B * Nat.gcd A B = A := Nat.div_mul_cancel (Nat.gcd_dvd_left A B)
  constructor
  · intro h
    have := Nat.mul_le_mul_right (Nat.gcd A B) h
    rwa [Nat.mul_assoc, Nat.mul_assoc, e1, e2] at this
  · intro h
    refine Nat.le_of_mul_le_mul_right ?_ hg
    rwa [Nat.mul_assoc, Nat.mul_assoc, e1, e2]
/-! alike chances -/
theorem sum_rep (m c : Nat) : Kp291.sum (List.replicate m c) = m * c := by
  induction m with
  | zero => rw [Nat.zero_mul]; rfl
  | succ m ih => rw [List.replicate_succ, sum_cons, ih, Nat.succ_mul, Nat.add_comm]
theorem even_up (m n : Nat) : Kp293.meanUp (List.replicate m 1) n = m * (m ^ n - (m - 1) ^ n) := by
  unfold Kp293.meanUp
  rw [List.map_replicate, sum_rep, sum_rep, Nat.mul_one]
/-! the weights stay as they may be -/
structure Wl (l : List Nat) : Prop where
  len : l.length ≤ 6
  each : ∀ x ∈ l, 1 ≤ x ∧ x ≤ 20
theorem okW_iff {w : Nat} : Kp291.okW w = true ↔ 1 ≤ w ∧ w ≤ 20 := by
  unfold Kp291.okW
  rw [Bool.and_eq_true, decide_eq_true_iff, decide_eq_true_iff]
theorem Wl.nil : Wl [] := ⟨by decide, fun x h => nomatch h⟩
theorem Wl.kind {l : List Nat} {w : Nat} (h : Wl l) (hw : 1 ≤ w ∧ w ≤ 20) (hl : l.length < 6) : Wl (l ++ [w]) := ⟨by rw [List.length_append]; show l.length + 1 ≤ 6; omega, fun x hx => by
  rcases List.mem_append.mp hx with q | q
  · exact h.each x q
  · rw [List.mem_singleton.mp q]
    exact hw⟩
theorem mem_set {l : List Nat} {i w x : Nat} (hx : x ∈ l.set i w) : x ∈ l ∨ x = w := List.mem_or_eq_of_mem_set hx
theorem Wl.set {l : List Nat} {i w : Nat} (h : Wl l) (hw : 1 ≤ w ∧ w ≤ 20) : Wl (l.set i w) := ⟨by rw [List.length_set]; exact h.len, fun x hx => by
  rcases mem_set hx with q | q
  · exact h.each x q
  · rw [q]
    exact hw⟩
theorem Wl.out {l : List Nat} {i : Nat} (h : Wl l) : Wl (l.eraseIdx i) := ⟨Nat.le_trans (List.length_eraseIdx_le l i) h.len, fun x hx => h.each x (List.mem_of_mem_eraseIdx hx)⟩
theorem out_eq (l : List Nat) (i : Nat) : l.take i ++ l.drop (i + 1) = l.eraseIdx i := (List.eraseIdx_eq_take_drop_succ l i).symm
theorem getD_mem {l : List Nat} {i : Nat} (h : i < l.length) : l.getD i 0 ∈ l := by
  rw [List.getD_eq_getElem?_getD, List.getElem?_eq_getElem h]
  exact List.getElem_mem h
theorem Wl.at {l : List Nat} {i : Nat} (h : Wl l) (hi : i < l.length) : 1 ≤ l.getD i 0 ∧ l.getD i 0 ≤ 20 := h.each _ (getD_mem hi)
theorem Wl.level {l : List Nat} {i j : Nat} (h : Wl l) (hi : i < l.length) (hj : j < l.length) : Wl (Kp291.level l i j) := by
  have h1 := h.at hi
  have h2 := h.at hj
  unfold Kp291.level
  exact (h.set (by omega)).set (by omega)
/-- a state as it may be -/
def Ok : Kp293.State → Prop
  | none => True
  | some l => Wl l
theorem Ok.step {s : Kp293.State} (h : Ok s) (c : Kp293.Call) : Ok (Kp293.step s c).1 := by
  cases s with
  | none => cases c <;> first | exact trivial | exact Wl.nil
  | some l =>
    have h : Wl l := h
    have key : ∀ (c : Kp293.Call), (Kp293.step (some l) c).1 = some l → Ok (Kp293.step (some l) c).1 := fun c e => by rw [e]; exact h
    cases c with
    | begin_ => exact Wl.nil
    | kind w =>
      show Ok (if Kp291.okW w = false then (some l, Kp293.say (-22)) else if Kp291.KINDS ≤ l.length then (some l, Kp293.say (-28)) else (some (l ++ [w]), Kp293.say (l.length : Int))).1
      split
      · exact h
      · rename_i hw
        split
        · exact h
        · rename_i hk
          have e : Kp291.KINDS = 6 := rfl
          rw [Bool.not_eq_false, okW_iff] at hw
          exact h.kind hw (by omega)
    | weight i w =>
      show Ok (if Kp293.is l i = false then (some l, Kp293.say (-2)) else if Kp291.okW w = false then (some l, Kp293.say (-22)) else (some (l.set i w), Kp293.say (l.getD i 0 : Int))).1
      split
      · exact h
      · split
        · exact h
        · rename_i hw
          rw [Bool.not_eq_false, okW_iff] at hw
          exact h.set hw
    | out i =>
      show Ok (if Kp293.is l i = false then (some l, Kp293.say (-2)) else (some (l.take i ++ l.drop (i + 1)), Kp293.say (l.length - 1 : Nat))).1
      split
      · exact h
      · rw [out_eq]
        exact h.out
    | level i j =>
      show Ok (if Kp293.is l i = false ∨ Kp293.is l j = false then (some l, Kp293.say (-2)) else if i = j then (some l, Kp293.say (-22)) else if (l.getD i 0 + l.getD j 0) % 2 ≠ 0 then (some l, Kp293.say (-33)) else (some (Kp291.level l i j), Kp293.say (((l.getD i 0 + l.getD j 0) / 2 : Nat) : Int))).1
      split
      · exact h
      · rename_i hij
        split
        · exact h
        · split
          · exact h
          · unfold Kp293.is at hij
            rw [decide_eq_false_iff_not, decide_eq_false_iff_not] at hij
            exact h.level (by omega) (by omega)
    | _ =>
      refine key _ ?_
      unfold Kp293.step
      dsimp only
      split <;> rfl
end KdM

set_option Elab.async false
set_option linter.all false
set_option maxRecDepth 100000
set_option maxHeartbeats 4000000
namespace Kd
open PySem PySem.Spec PyProof.Rows L2
/-! ### the text by places -/
def top (i : Nat) : Stmt := PySem.Challenge.pw_kindsdrawn_s01_answers.main.body.getD i (.Pass ⟨0, 0, 0, 0⟩)
abbrev sPower : Stmt := top 1
abbrev sGcd : Stmt := top 2
abbrev sLow : Stmt := top 3
abbrev sMore : Stmt := top 4
abbrev sSeen : Stmt := top 5
abbrev sCnt : Stmt := top 6
abbrev sRows : Stmt := top 7
/-- a def of the top, as it stands behind the top -/
structure Dn (K : PySem.W.Frag) (mg : Str → Option Value) (x : Str) (st : Stmt) (ps : List Str) (f : Addr) (fd : FuncData) : Prop where
  fn : Fun K x x st f fd
  bd : Binds K fd ps []
  mg : mg x = some (.ref f)
/-- the built-in names that the text uses, none of them bound by it -/
structure Bl (mg : Str → Option Value) : Prop where
  range : mg "range" = none
  len : mg "len" = none
  enum : mg "enumerate" = none
  sum : mg "sum" = none
  max : mg "max" = none
  min : mg "min" = none
  zip : mg "zip" = none
  list : mg "list" = none
/-! ### rules of one's own -/
section
variable {X : Cx}
/-- // by a number that may be great -/
def CDivW (i j : Int) : Prop := 0 < j ∧ j.natAbs.log2 < 9000
theorem op_fdivW : OpR X (binaryOp .FloorDiv) (rI CDivW fun i j => .int (i / j)) := opI fun i j _ _ _ _ _ hc q => by
  refine floordiv_int (by have := hc.1; omega) ?_ (.inl (PyProof.noPylong_of_log2 hc.2))
  rw [Int.fdiv_eq_ediv_of_nonneg _ (by have := hc.1; omega)]
  exact q
end
theorem log_small {n : Nat} (h : n < 2 ^ 9000) : n.log2 < 9000 := by
  by_cases c : n = 0
  · subst c; decide
  · exact (Nat.log2_lt c).mpr h
/-! ### power -/
def spPower : Sp := fun vs H Q _ => ∃ b n : Nat, vs = [.int b, .int n] ∧ b < 2 ^ 64 ∧ n ≤ 1000 ∧ Q (.int ((b ^ n : Nat) : Int)) H
section
variable {P : Program} {w : World} {K : PySem.W.Frag} {mg : Str → Option Value} {base : Heap}
theorem scPower : FnScope ["base", "exponent", "result", "step"] ["base", "exponent"] (defScope sPower) := ⟨rfl, rfl, rfl, by decide +kernel, rfl, by decide +kernel, by decide +kernel⟩
theorem ok_power {f : Addr} {fd : FuncData} (F : Fun K "power" "power" sPower f fd) (B : Bl mg) : FnOk P w K mg base CX0 1 f fd ["base", "exponent"] spPower := by
  refine F.ok scPower (fun vs H Q E h => ?_) (fun cdv A outer s H vs Q E hr h => ?_)
  · obtain ⟨b, n, rfl, _⟩ := h
    rfl
  · obtain ⟨b, n, rfl, hb, hn, k⟩ := h
    refine ⟨_, pss_cons (ps_set (i := 2) scPower.nd rfl (Or.inl rfl) pe_int)
      (pss_cons (ps_for PassesOwn.never rfl (pi_range1 rfl B.range (pa_cons (pv 1) pa_nil)) (pg_name (i := 3) scPower.nd rfl (Or.inl rfl))
        (pss_one (ps_set (i := 2) scPower.nd rfl (Or.inl rfl) (pe_op op_mul (pv 2) (pv 0)))))
      (pss_one (ps_ret (pv 2)))), ?_⟩
    refine ⟨_, rfl, (n : Int), rfl, by omega, by omega, for_range (lo := 0) (n := n) (fun i σ H' => ∃ v : Option V, σ = [some (.int b), some (.int n), some (.int ((b ^ i : Nat) : Int)), v] ∧ H' = H) ⟨none, rfl, rfl⟩ ?_ ?_⟩
    · rintro i σ H' hi ⟨v, rfl, rfl⟩
      refine ⟨_, rfl, _, rfl, _, _, rfl, rfl, .inr ⟨by omega, by omega⟩, ?_⟩
      refine ⟨some (V.int (0 + i)), ?_, rfl⟩
      show [some (V.int b), some (V.int n), some (V.int (((b ^ i : Nat) : Int) * (b : Int))), some (V.int (0 + i))] = _
      rw [Nat.pow_succ, Int.natCast_mul]
    · rintro σ H' ⟨v, rfl, rfl⟩
      exact ⟨_, rfl, k⟩
/-! ### common_divisor -/
def spGcd : Sp := fun vs H Q _ => ∃ a b : Nat, vs = [.int a, .int b] ∧ Q (.int ((Nat.gcd a b : Nat) : Int)) H
theorem scGcd : FnScope ["first", "second", "rest"] ["first", "second"] (defScope sGcd) := ⟨rfl, rfl, rfl, by decide +kernel, rfl, by decide +kernel, by decide +kernel⟩
theorem ok_gcd {f : Addr} {fd : FuncData} (F : Fun K "common_divisor" "common_divisor" sGcd f fd) : FnOk P w K mg base CX0 1 f fd ["first", "second"] spGcd := by
  refine F.ok scGcd (fun vs H Q E h => ?_) (fun cdv A outer s H vs Q E hr h => ?_)
  · obtain ⟨a, b, rfl, _⟩ := h
    rfl
  · obtain ⟨a, b, rfl, k⟩ := h
    refine ⟨_, pss_cons (ps_while PassesOwn.never (pt_cmpR op_gt (pv 1) pe_int (nomark _))
        (pss_cons (ps_set (i := 2) scGcd.nd rfl (Or.inl rfl) (pe_op op_mod (pv 0) (pv 1)))
        (pss_cons (ps_set (i := 0) scGcd.nd rfl (Or.inl rfl) (pv 1))
        (pss_one (ps_set (i := 1) scGcd.nd rfl (Or.inl rfl) (pv 2))))))
      (pss_one (ps_ret (pv 0))), ?_⟩
    refine while_by (fun σ H' => ∃ (c d : Nat) (v : Option V), σ = [some (.int c), some (.int d), v] ∧ H' = H ∧ Nat.gcd c d = Nat.gcd a b) (fun σ _ => match σ with | [_, some (.int d), _] => d.toNat | _ => 0) ⟨a, b, none, rfl, rfl, rfl⟩ ?_ ?_
    · rintro σ H' ⟨c, d, v, rfl, rfl, hg⟩
      refine ⟨_, rfl, _, _, rfl, rfl, _, rfl, ?_⟩
      refine ite2 (fun hd => ?_) (fun hd => ?_)
      · replace hd : 0 < d := by have := of_decide_eq_true hd; omega
        refine ⟨_, rfl, _, rfl, _, _, rfl, rfl, (by omega), _, rfl, _, rfl, ⟨d, c % d, _, rfl, rfl, ?_⟩, ?_⟩
        · rw [← hg, Nat.gcd_comm c d, Nat.gcd_rec d c, Nat.gcd_comm]
        · show ((c : Int) % (d : Int)).toNat < (d : Int).toNat
          have := Nat.mod_lt c hd
          omega
      · have e : d = 0 := by rw [decide_eq_true_iff] at hd; omega
        subst e
        rw [Nat.gcd_zero_right] at hg
        subst hg
        exact ⟨_, rfl, k⟩
    · rintro σ H' Q1 Q2 hQ ⟨x, hx, i, j, e1, e2, b, e3, q⟩
      exact ⟨x, hx, i, j, e1, e2, b, e3, hQ _ _ q⟩
end
end Kd

set_option Elab.async false
set_option linter.all false
set_option maxRecDepth 100000
set_option maxHeartbeats 4000000
namespace Kd
open PySem PySem.Spec PyProof.Rows L2
theorem bitOr_nat (x y : Nat) : Builtin.bitOr (x : Int) (y : Int) = ((x ||| y : Nat) : Int) := by
  unfold Builtin.bitOr Builtin.bitAnd Builtin.bitNot
  have h1 : decide (0 ≤ (-(x : Int) - 1)) = false := decide_eq_false (by omega)
  have h2 : decide (0 ≤ (-(y : Int) - 1)) = false := decide_eq_false (by omega)
  simp only [h1, h2]
  rw [show (-(-(x : Int) - 1) - 1).toNat = x by omega, show (-(-(y : Int) - 1) - 1).toNat = y by omega]
  omega
/-- a for over enumerate(list), by what holds between two turns -/
theorem for_enum {K : PySem.W.Frag} {a : Addr} {xs : List V} {g : TG} {tb : TS} {D : Ends} {σ : L2.St} {H : Hp} (Pv : Nat → L2.St → Hp → Prop) (h0 : Pv 0 σ H) (hl : ∀ i σ H, i ≤ xs.length → Pv i σ H → SqL K H a xs)
    (hs : ∀ i x σ H T, xs[i]? = some x → Pv i σ H → H T = none → g (.ref T) σ (upd H T (.tup [.int (i : Nat), x])) fun σ2 H2 => tb { D with nx := Pv (i + 1), ct := Pv (i + 1), bk := D.nx } σ2 H2) (hd : ∀ σ H, Pv xs.length σ H → D.nx σ H) :
    ∃ W : Nat → Nat → L2.St → Hp → Prop, (∃ m, W 0 m σ H) ∧ ∀ i m σ H, W i m σ H →
      ((Ite K a).stop i H ∧ D.nx σ H) ∨ ((Ite K a).go i H ∧ ∃ N : L2.St → Hp → Prop, (∀ σ' H', N σ' H' → ∃ m', m' < m ∧ W (i + 1) m' σ' H') ∧ ∀ x H', (Ite K a).yld i H x H' → g x σ H' fun σ2 H2 => tb { D with nx := N, ct := N, bk := D.nx } σ2 H2) := by
  refine ⟨fun i m σ H => m = xs.length - i ∧ i ≤ xs.length ∧ Pv i σ H, ⟨xs.length, by simp, Nat.zero_le _, h0⟩, ?_⟩
  rintro i m σ H ⟨rfl, hi, p⟩
  have q := hl i σ H hi p
  by_cases hlt : i < xs.length
  · refine .inr ⟨⟨xs, xs[i], q, by simp [hlt]⟩, Pv (i + 1), fun σ' H' p' => ⟨xs.length - (i + 1), by omega, rfl, hlt, p'⟩, fun x H' y => ?_⟩
    obtain ⟨T, z, e, hT, e2, y⟩ := y
    subst e e2
    exact hs i z σ _ T (y xs q) p hT
  · have e : i = xs.length := by omega
    subst e
    exact .inl ⟨⟨xs, q, Nat.le_refl _⟩, hd σ H p⟩
/-- numbers as the program has them -/
def iv (x : Nat) : V := .int (x : Int)
def ivs (l : List Nat) : List V := l.map iv
theorem ivs_len (l : List Nat) : (ivs l).length = l.length := List.length_map _
theorem ivs_get {l : List Nat} {i : Nat} {x : V} (h : (ivs l)[i]? = some x) : ∃ k, l[i]? = some k ∧ x = iv k := by
  unfold ivs at h
  rw [List.getElem?_map] at h
  cases e : l[i]? with
  | none => rw [e] at h; cases h
  | some k =>
    rw [e] at h
    exact ⟨k, rfl, (Option.some.inj h).symm⟩
theorem ivs_at {l : List Nat} {i k : Nat} (h : l[i]? = some k) : (ivs l)[i]? = some (iv k) := by
  unfold ivs
  rw [List.getElem?_map, h]
  rfl
theorem ivs_set (l : List Nat) (i k : Nat) : (ivs l).set i (iv k) = ivs (l.set i k) := by
  unfold ivs
  rw [List.map_set]
theorem ixN_nat {n j : Nat} (h : j < n) : ixN n (j : Int) = some j := by
  unfold ixN
  rw [if_pos (by omega), if_pos (by omega)]
  simp
theorem upd_keep {H H' : Hp} {a : Addr} {o : HO} (s : Same H H') (h : H a = none) : Same H (upd H' a o) := fun b u e => by
  rw [upd_ne (ne_of_none e h)]
  exact s b u e
theorem upd_new {H H' : Hp} {a : Addr} {o : HO} (s : Same H H') (h : H' a = none) : Same H (upd H' a o) := upd_keep s (s.free h)
section
variable {P : Program} {w : World} {K : PySem.W.Frag} {mg : Str → Option Value} {base : Heap}
/-! ### lowest_terms -/
def spLow : Sp := fun vs H Q _ => ∃ a b : Nat, vs = [.int a, .int b] ∧ 0 < b ∧ b < 2 ^ 9000 ∧ ∀ p, H p = none → Q (.ref p) (upd H p (.lst (ivs [a / Nat.gcd a b, b / Nat.gcd a b])))
theorem scLow : FnScope ["above", "below", "shared"] ["above", "below"] (defScope sLow) := ⟨rfl, rfl, rfl, by decide +kernel, rfl, by decide +kernel, by decide +kernel⟩
theorem ok_low {f g : Addr} {fd fg : FuncData} (F : Fun K "lowest_terms" "lowest_terms" sLow f fd) (G : Dn K mg "common_divisor" sGcd ["first", "second"] g fg) : FnOk P w K mg base CX0 2 f fd ["above", "below"] spLow := by
  refine F.ok scLow (fun vs H Q E h => ?_) (fun cdv A outer s H vs Q E hr h => ?_)
  · obtain ⟨a, b, rfl, _⟩ := h
    rfl
  · obtain ⟨a, b, rfl, hb, hl, k⟩ := h
    refine ⟨_, pss_cons (ps_set (i := 2) scLow.nd rfl (Or.inl rfl) (pe_call (ok_gcd G.fn) hr rfl G.mg G.fn.kp G.bd .nil pass0 (pa_cons (pv 0) (pa_cons (pv 1) pa_nil))))
      (pss_one (ps_ret (pe_lst (pa_cons (pe_op op_fdivW (pv 0) (pv 2)) (pa_cons (pe_op op_fdivW (pv 1) (pv 2)) pa_nil))))), ?_⟩
    have g0 : 0 < Nat.gcd a b := Nat.gcd_pos_of_pos_right a hb
    have gl : CDivW (a : Int) ((Nat.gcd a b : Nat) : Int) := ⟨by omega, log_small (Nat.lt_of_le_of_lt (Nat.gcd_le_right a hb) hl)⟩
    refine ⟨_, rfl, _, rfl, a, b, rfl, _, rfl, _, rfl, _, _, rfl, rfl, gl, _, rfl, _, rfl, _, _, rfl, rfl, gl, (by show 2 ≤ sizeLine; decide), fun p hp => ?_⟩
    have := k p hp
    unfold ivs iv at this
    simp only [List.map_cons, List.map_nil, Int.natCast_ediv] at this
    exact this
/-! ### with_one_draw_more -/
def spMore (K : PySem.W.Frag) : Sp := fun vs H Q _ => ∃ (W S : Addr) (l : List Nat) (f : Nat → Nat), vs = [.ref W, .ref S] ∧ SqL K H W (ivs l) ∧ SqL K H S (ivs (KdM.tab (2 ^ l.length) f)) ∧ l.length ≤ 6 ∧ (∀ x ∈ l, x ≤ 20) ∧
  ∀ (H' : Hp) (p : Addr), Same H H' → H p = none → H' p = some (.lst (ivs (KdM.tab (2 ^ l.length) (KdM.gath l f)))) → Q (.ref p) H'
theorem scMore : FnScope ["weights", "by_seen", "longer", "seen", "heavy", "i", "w", "seen_then"] ["weights", "by_seen"] (defScope sMore) := ⟨rfl, rfl, rfl, by decide +kernel, rfl, by decide +kernel, by decide +kernel⟩
theorem pow_le64 {L : Nat} (h : L ≤ 6) : 2 ^ L ≤ 64 := Nat.pow_le_pow_right (by decide) h
/-- what stands at a place behind i masks and j kinds of the next -/
def part (l : List Nat) (f : Nat → Nat) (i j t : Nat) : Nat :=
  KdM.sumN i (fun m => KdM.sumN l.length (fun j => if m ||| 2 ^ j = t then f m * l.getD j 0 else 0)) + KdM.sumN j (fun j => if i ||| 2 ^ j = t then f i * l.getD j 0 else 0)
theorem ok_more {f : Addr} {fd : FuncData} (F : Fun K "with_one_draw_more" "with_one_draw_more" sMore f fd) (B : Bl mg) : FnOk P w K mg base CX0 1 f fd ["weights", "by_seen"] (spMore K) := by
  refine F.ok scMore (fun vs H Q E h => ?_) (fun cdv A outer s H vs Q E hr h => ?_)
  · obtain ⟨W, S, l, f, rfl, _⟩ := h
    rfl
  · obtain ⟨W, S, l, f, rfl, hW, hS, hL, hw, k⟩ := h
    have hN := pow_le64 hL
    refine ⟨_, pss_cons (ps_set (i := 2) scMore.nd rfl (Or.inl rfl) (pe_op op_rep (pe_lst (pa_cons pe_int pa_nil)) (pe_callB call_len_seq (by rfl) B.len PySem.boot_len (pa_cons (pv 1) pa_nil))))
      (pss_cons (ps_for PassesOwn.never rfl (pi_enum rfl B.enum (pa_cons (pv 1) pa_nil)) (pg_tup rfl (pgs_cons (pg_name (i := 3) scMore.nd rfl (Or.inl rfl)) (pgs_cons (pg_name (i := 4) scMore.nd rfl (Or.inl rfl)) pgs_nil)))
        (pss_one (ps_for PassesOwn.never rfl (pi_enum rfl B.enum (pa_cons (pv 0) pa_nil)) (pg_tup rfl (pgs_cons (pg_name (i := 5) scMore.nd rfl (Or.inl rfl)) (pgs_cons (pg_name (i := 6) scMore.nd rfl (Or.inl rfl)) pgs_nil)))
          (pss_cons (ps_set (i := 7) scMore.nd rfl (Or.inl rfl) (pe_op op_or (pv 3) (pe_op op_shl pe_int (pv 5))))
          (pss_one (ps_asg (pe_op op_add (pe_ix ix_list (pv 2) (pv 7) (fun _ _ => rfl)) (pe_op op_mul (pv 4) (pv 6))) (pg_sub (pv 2) (pv 7) set_list)))))))
      (pss_one (ps_ret (pv 2)))), ?_⟩
    refine ⟨(by show 1 ≤ sizeLine; decide), fun z hz => ?_⟩
    have s1 : Same H (upd H z (.lst [.int 0])) := upd_new (Same.refl H) hz
    refine ⟨_, rfl, S, _, rfl, .inl (s1.seq hS), z, _, _, rfl, rfl, upd_same, Int.le_trans (by decide) (Int.natCast_nonneg _), by rw [ivs_len, KdM.tab_length]; omega, ?_, fun q hq => ?_⟩
    · rw [ivs_len, KdM.tab_length]
      show 1 * _ ≤ sizeLine
      rw [sizeLine_eq]
      omega
    have hqH : H q = none := s1.free hq
    have e0 : (List.replicate (((ivs (KdM.tab (2 ^ l.length) f)).length : Nat) : Int).toNat [V.int 0]).flatten = ivs (KdM.tab (2 ^ l.length) (part l f 0 0)) := by
      rw [ivs_len, KdM.tab_length, show (part l f 0 0) = fun _ => 0 from rfl, KdM.tab_const, Int.toNat_natCast]
      unfold ivs
      rw [List.map_replicate, List.flatten_replicate_singleton]
      rfl
    rw [e0]
    have s2 : Same H (upd (upd H z (.lst [.int 0])) q (.lst (ivs (KdM.tab (2 ^ l.length) (part l f 0 0))))) := upd_new s1 hq
    refine ⟨_, rfl, S, _, rfl, s2.seq hS, for_enum (K := K) (a := S) (xs := ivs (KdM.tab (2 ^ l.length) f))
      (fun i σ H' => ∃ v3 v4 v5 v6 v7 : Option V, σ = [some (.ref W), some (.ref S), some (.ref q), v3, v4, v5, v6, v7] ∧ Same H H' ∧ H' q = some (.lst (ivs (KdM.tab (2 ^ l.length) (part l f i 0)))))
      ⟨none, none, none, none, none, rfl, s2, upd_same⟩ (fun i σ H' _ ⟨_, _, _, _, _, _, s3, _⟩ => s3.seq hS) ?_ ?_⟩
    · rintro i x σ H' T hi ⟨v3, v4, v5, v6, v7, rfl, s3, hq3⟩ hT
      obtain ⟨c, hc, rfl⟩ := ivs_get hi
      have hil : i < 2 ^ l.length := by
        have := (List.getElem?_eq_some_iff.mp hc).1
        rwa [KdM.tab_length] at this
      have ec : f i = c := Option.some.inj ((KdM.tab_get f hil).symm.trans hc)
      subst ec
      have hTq : q ≠ T := ne_of_none hq3 hT
      have s4 : Same H (upd H' T (.tup [.int (i : Nat), iv (f i)])) := upd_new s3 hT
      refine ⟨T, _, rfl, SqT.of upd_same, rfl, _, _, rfl, _, _, rfl, rfl, ?_⟩
      refine ⟨_, rfl, W, _, rfl, s4.seq hW, for_enum (K := K) (a := W) (xs := ivs l)
        (fun j σ H' => ∃ v5 v6 v7 : Option V, σ = [some (.ref W), some (.ref S), some (.ref q), some (.int (i : Nat)), some (iv (f i)), v5, v6, v7] ∧ Same H H' ∧ H' q = some (.lst (ivs (KdM.tab (2 ^ l.length) (part l f i j)))))
        ⟨v5, v6, v7, rfl, s4, by rw [upd_ne hTq]; exact hq3⟩ (fun j σ H' _ ⟨_, _, _, _, s5, _⟩ => s5.seq hW) ?_ ?_⟩
      · rintro j y σ H5 T2 hj ⟨v5, v6, v7, rfl, s5, hq5⟩ hT2
        obtain ⟨u, hu, rfl⟩ := ivs_get hj
        have hjl : j < l.length := (List.getElem?_eq_some_iff.mp hu).1
        have hu20 : u ≤ 20 := hw u (List.mem_of_getElem? hu)
        have hTq2 : q ≠ T2 := ne_of_none hq5 hT2
        have hot : i ||| 2 ^ j < 2 ^ l.length := KdM.or_lt hil hjl
        have hq6 : (upd H5 T2 (.tup [.int (j : Nat), iv u])) q = some (.lst (ivs (KdM.tab (2 ^ l.length) (part l f i j)))) := by rw [upd_ne hTq2]; exact hq5
        have eor : Builtin.bitOr ((i : Nat) : Int) ((1 : Int) * 2 ^ ((j : Nat) : Int).toNat) = (((i ||| 2 ^ j : Nat)) : Int) := by
          rw [Int.toNat_natCast, Int.one_mul, ← bitOr_nat, Int.natCast_pow]
          rfl
        refine ⟨T2, _, rfl, SqT.of upd_same, rfl, _, _, rfl, _, _, rfl, rfl, ?_⟩
        refine ⟨_, rfl, _, rfl, _, _, rfl, rfl, ⟨by omega, by omega, by decide⟩, _, _, rfl, rfl, ?_⟩
        refine ⟨_, rfl, _, rfl, q, _, _, iv (part l f i j (i ||| 2 ^ j)), rfl, rfl, SqL.of hq6, ?_, ?_⟩
        · show atI _ (Builtin.bitOr _ _) = _
          rw [eor]
          exact atI_nat (ivs_at (KdM.tab_get _ hot))
        refine ⟨_, rfl, _, rfl, _, _, rfl, rfl, .inr ⟨by omega, by omega⟩, _, _, rfl, rfl, _, rfl, _, rfl, q, _, _, i ||| 2 ^ j, rfl, rfl, hq6, ?_, ?_⟩
        · show ixN _ (Builtin.bitOr _ _) = _
          rw [eor]
          exact ixN_nat (by rw [ivs_len, KdM.tab_length]; exact hot)
        refine ⟨_, _, _, rfl, upd_keep (upd_new s5 hT2) hqH, ?_⟩
        rw [upd_same]
        refine congrArg (fun t => some (HO.lst t)) ?_
        have ev : (V.int (((part l f i j (i ||| 2 ^ j) : Nat) : Int) + ((f i : Nat) : Int) * ((u : Nat) : Int))) = iv (part l f i j (i ||| 2 ^ j) + f i * u) := by
          unfold iv
          rw [Int.natCast_add, Int.natCast_mul]
        show (ivs _).set (i ||| 2 ^ j) (V.int (((part l f i j (i ||| 2 ^ j) : Nat) : Int) + ((f i : Nat) : Int) * ((u : Nat) : Int))) = _
        rw [ev, ivs_set, KdM.tab_set]
        refine congrArg ivs (KdM.tab_congr fun t _ => ?_)
        have eu : l.getD j 0 = u := by rw [List.getD_eq_getElem?_getD, hu]; rfl
        unfold part
        show _ = _ + (KdM.sumN j _ + if i ||| 2 ^ j = t then f i * l.getD j 0 else 0)
        by_cases ct : t = i ||| 2 ^ j
        · rw [if_pos ct, if_pos ct.symm, eu, ct, Nat.add_assoc]
        · rw [if_neg ct, if_neg fun e => ct e.symm, Nat.add_zero]
      · rintro σ H5 ⟨v5, v6, v7, rfl, s5, hq5⟩
        refine ⟨_, _, _, _, _, rfl, s5, ?_⟩
        rw [hq5, ivs_len]
        rfl
    · rintro σ H' ⟨v3, v4, v5, v6, v7, rfl, s3, hq3⟩
      refine ⟨_, rfl, k H' q s3 hqH ?_⟩
      rw [hq3, ivs_len, KdM.tab_length]
      rfl
end
end Kd

set_option Elab.async false
set_option linter.all false
set_option maxRecDepth 100000
set_option maxHeartbeats 4000000
namespace Kd
open PySem PySem.Spec PyProof.Rows L2
abbrev sChance : Stmt := top 8
abbrev sLik : Stmt := top 9
abbrev sMean : Stmt := top 10
abbrev sAdds : Stmt := top 11
abbrev sEven : Stmt := top 12
abbrev sNeed : Stmt := top 13
abbrev sCSeen : Stmt := top 14
abbrev sCBoth : Stmt := top 15
abbrev Wl := KdM.Wl
theorem _root_.KdM.Wl.top {l : List Nat} (h : KdM.Wl l) : ∀ x ∈ l, x ≤ 20 := fun x hx => (h.each x hx).2
theorem flat_rep (n c : Nat) : (List.replicate n [V.int (c : Int)]).flatten = ivs (KdM.tab n (fun _ => c)) := by
  rw [KdM.tab_const]
  unfold ivs
  rw [List.map_replicate, List.flatten_replicate_singleton]
  rfl
section
variable {P : Program} {w : World} {K : PySem.W.Frag} {mg : Str → Option Value} {base : Heap}
/-! ### rows_by_seen -/
def spSeen (K : PySem.W.Frag) : Sp := fun vs H Q _ => ∃ (W : Addr) (l : List Nat) (n : Nat), vs = [.ref W, .int n] ∧ SqL K H W (ivs l) ∧ Wl l ∧ n ≤ 1000 ∧
  ∀ (H' : Hp) (p : Addr), Same H H' → H p = none → H' p = some (.lst (ivs (KdM.tab (2 ^ l.length) (fun m => KdM.ex l m n)))) → Q (.ref p) H'
theorem scSeen : FnScope ["weights", "n", "by_seen", "draw"] ["weights", "n"] (defScope sSeen) := ⟨rfl, rfl, rfl, by decide +kernel, rfl, by decide +kernel, by decide +kernel⟩
theorem ok_seen {f g : Addr} {fd fg : FuncData} (F : Fun K "rows_by_seen" "rows_by_seen" sSeen f fd) (B : Bl mg) (G : Dn K mg "with_one_draw_more" sMore ["weights", "by_seen"] g fg) : FnOk P w K mg base CX0 2 f fd ["weights", "n"] (spSeen K) := by
  refine F.ok scSeen (fun vs H Q E h => ?_) (fun cdv A outer s H vs Q E hr h => ?_)
  · obtain ⟨W, l, n, rfl, _⟩ := h
    rfl
  · obtain ⟨W, l, n, rfl, hW, hl, hn, k⟩ := h
    have hN := pow_le64 hl.len
    have hp0 : 0 < 2 ^ l.length := Nat.pow_pos (by decide)
    refine ⟨_, pss_cons (ps_set (i := 2) scSeen.nd rfl (Or.inl rfl) (pe_op op_rep (pe_lst (pa_cons pe_int pa_nil)) (pe_op op_shl pe_int (pe_callB call_len_seq (by rfl) B.len PySem.boot_len (pa_cons (pv 0) pa_nil)))))
      (pss_cons (ps_asg pe_int (pg_sub (pv 2) pe_int set_list))
      (pss_cons (ps_for PassesOwn.never rfl (pi_range1 rfl B.range (pa_cons (pv 1) pa_nil)) (pg_name (i := 3) scSeen.nd rfl (Or.inl rfl))
        (pss_one (ps_set (i := 2) scSeen.nd rfl (Or.inl rfl) (pe_call (ok_more G.fn B) hr rfl G.mg G.fn.kp G.bd .nil pass0 (pa_cons (pv 0) (pa_cons (pv 2) pa_nil))))))
      (pss_one (ps_ret (pv 2))))), ?_⟩
    refine ⟨(by show 1 ≤ sizeLine; decide), fun z hz => ?_⟩
    have s1 : Same H (upd H z (.lst [.int 0])) := upd_new (Same.refl H) hz
    have eN : ((1 : Int) * 2 ^ (((ivs l).length : Nat) : Int).toNat) = ((2 ^ l.length : Nat) : Int) := by
      rw [ivs_len, Int.toNat_natCast, Int.one_mul, Int.natCast_pow]
      rfl
    refine ⟨_, rfl, W, _, rfl, .inl (s1.seq hW), _, _, rfl, rfl, ⟨by omega, by rw [ivs_len]; have := hl.len; omega, by decide⟩, z, _, _, rfl, rfl, upd_same, ?_, ?_, ?_, fun q hq => ?_⟩
    · rw [eN]; exact Int.le_trans (by decide) (Int.natCast_nonneg _)
    · rw [eN]; omega
    · rw [eN, Int.toNat_natCast]
      show 1 * _ ≤ sizeLine
      rw [sizeLine_eq]
      omega
    have hqH : H q = none := s1.free hq
    have e0 : (List.replicate ((1 : Int) * 2 ^ (((ivs l).length : Nat) : Int).toNat).toNat [V.int 0]).flatten = ivs (KdM.tab (2 ^ l.length) (fun _ => 0)) := by
      rw [eN, Int.toNat_natCast]
      exact flat_rep _ 0
    show tSeq _ _ _ _ (upd (upd H z (.lst [.int 0])) q (.lst (List.replicate ((1 : Int) * 2 ^ (((ivs l).length : Nat) : Int).toNat).toNat [V.int 0]).flatten))
    rw [e0]
    have s2 : Same H (upd (upd H z (.lst [.int 0])) q (.lst (ivs (KdM.tab (2 ^ l.length) (fun _ => 0))))) := upd_new s1 hq
    refine ⟨_, rfl, q, _, _, 0, rfl, rfl, upd_same, ixN_nat (by rw [ivs_len, KdM.tab_length]; exact hp0), ?_⟩
    have e1 : (ivs (KdM.tab (2 ^ l.length) (fun _ => 0))).set 0 (V.int 1) = ivs (KdM.tab (2 ^ l.length) (fun m => KdM.ex l m 0)) := by
      show (ivs _).set 0 (iv 1) = _
      rw [ivs_set, KdM.tab_set]
      refine congrArg ivs (KdM.tab_congr fun t ht => ?_)
      rw [KdM.ex_zero l t ht]
    rw [e1]
    refine ⟨_, rfl, (n : Int), rfl, by omega, by omega, for_range (lo := 0) (n := n) (fun i σ H' => ∃ (p : Addr) (v : Option V), σ = [some (.ref W), some (.int n), some (.ref p), v] ∧ Same H H' ∧ H p = none ∧ H' p = some (.lst (ivs (KdM.tab (2 ^ l.length) (fun m => KdM.ex l m i)))))
      ⟨q, none, rfl, upd_keep s2 hqH, hqH, upd_same⟩ ?_ ?_⟩
    · rintro i σ H' hi ⟨p, v, rfl, s3, hpH, hp3⟩
      refine ⟨_, rfl, _, rfl, W, p, l, (fun m => KdM.ex l m i), rfl, s3.seq hW, SqL.of hp3, hl.len, hl.top, fun H4 r s4 hr4 hr5 => ?_⟩
      refine ⟨r, some (.int (0 + i)), rfl, s3.trans s4, s3.free hr4, ?_⟩
      rw [hr5]
      refine congrArg (fun t => some (HO.lst (ivs t))) (KdM.tab_congr fun t ht => ?_)
      exact KdM.gath_ex l i t ht
    · rintro σ H' ⟨p, v, rfl, s3, hpH, hp3⟩
      exact ⟨_, rfl, k H' p s3 hpH hp3⟩
/-! ### count_seen -/
def spCnt : Sp := fun vs H Q _ => ∃ L m : Nat, vs = [.int m] ∧ m < 2 ^ L ∧ Q (.int ((KdM.pop L m : Nat) : Int)) H
theorem scCnt : FnScope ["seen", "count"] ["seen"] (defScope sCnt) := ⟨rfl, rfl, rfl, by decide +kernel, rfl, by decide +kernel, by decide +kernel⟩
theorem ok_cnt {f : Addr} {fd : FuncData} (F : Fun K "count_seen" "count_seen" sCnt f fd) : FnOk P w K mg base CX0 1 f fd ["seen"] spCnt := by
  refine F.ok scCnt (fun vs H Q E h => ?_) (fun cdv A outer s H vs Q E hr h => ?_)
  · obtain ⟨L, m, rfl, _⟩ := h
    rfl
  · obtain ⟨L, m, rfl, hm, k⟩ := h
    refine ⟨_, pss_cons (ps_set (i := 1) scCnt.nd rfl (Or.inl rfl) pe_int)
      (pss_cons (ps_while PassesOwn.never (pt_cmpR op_gt (pv 0) pe_int (nomark _))
        (pss_cons (ps_set (i := 1) scCnt.nd rfl (Or.inl rfl) (pe_op op_add (pv 1) (pe_op op_mod (pv 0) pe_int)))
        (pss_one (ps_set (i := 0) scCnt.nd rfl (Or.inl rfl) (pe_op op_fdiv (pv 0) pe_int)))))
      (pss_one (ps_ret (pv 1)))), ?_⟩
    refine while_by (fun σ H' => ∃ c d : Nat, σ = [some (.int d), some (.int c)] ∧ H' = H ∧ d < 2 ^ L ∧ c + KdM.pop L d = KdM.pop L m) (fun σ _ => match σ with | [some (.int d), _] => d.toNat | _ => 0) ⟨0, m, rfl, rfl, hm, by omega⟩ ?_ ?_
    · rintro σ H' ⟨c, d, rfl, rfl, hd, hc⟩
      refine ⟨_, rfl, _, _, rfl, rfl, _, rfl, ?_⟩
      refine ite2 (fun h0 => ?_) (fun h0 => ?_)
      · replace h0 : 0 < d := by have := of_decide_eq_true h0; omega
        refine ⟨_, rfl, _, rfl, _, _, rfl, rfl, (show (0 : Int) < 2 by decide), _, _, rfl, rfl, _, rfl, _, _, rfl, rfl, ⟨by decide, by decide⟩, ⟨c + d % 2, d / 2, ?_, rfl, by omega, ?_⟩, ?_⟩
        · show [some (V.int ((d : Int) / 2)), some (V.int ((c : Int) + (d : Int) % 2))] = _
          rw [Int.natCast_add, Int.natCast_emod, Int.natCast_ediv]
          rfl
        · rw [KdM.pop_turn hd] at hc
          omega
        · show ((d : Int) / 2).toNat < (d : Int).toNat
          omega
      · have e : d = 0 := by rw [decide_eq_true_iff] at h0; omega
        subst e
        rw [KdM.pop_zero, Nat.add_zero] at hc
        subst hc
        exact ⟨_, rfl, k⟩
    · rintro σ H' Q1 Q2 hQ ⟨x, hx, i, j, e1, e2, b, e3, q⟩
      exact ⟨x, hx, i, j, e1, e2, b, e3, hQ _ _ q⟩
/-! ### rows_by_count -/
def spRows (K : PySem.W.Frag) : Sp := fun vs H Q _ => ∃ (W : Addr) (l : List Nat) (n : Nat), vs = [.ref W, .int n] ∧ SqL K H W (ivs l) ∧ Wl l ∧ n ≤ 1000 ∧
  ∀ (H' : Hp) (p : Addr), Same H H' → H p = none → H' p = some (.lst (ivs (KdM.tab (l.length + 1) (Kp293.just l n)))) → Q (.ref p) H'
theorem scRows : FnScope ["weights", "n", "by_count", "seen", "heavy", "count"] ["weights", "n"] (defScope sRows) := ⟨rfl, rfl, rfl, by decide +kernel, rfl, by decide +kernel, by decide +kernel⟩
theorem ok_rows {f g c m : Addr} {fd fg fc fm : FuncData} (F : Fun K "rows_by_count" "rows_by_count" sRows f fd) (B : Bl mg) (G : Dn K mg "rows_by_seen" sSeen ["weights", "n"] g fg) (M : Dn K mg "with_one_draw_more" sMore ["weights", "by_seen"] m fm) (C : Dn K mg "count_seen" sCnt ["seen"] c fc) :
    FnOk P w K mg base CX0 3 f fd ["weights", "n"] (spRows K) := by
  refine F.ok scRows (fun vs H Q E h => ?_) (fun cdv A outer s H vs Q E hr h => ?_)
  · obtain ⟨W, l, n, rfl, _⟩ := h
    rfl
  · obtain ⟨W, l, n, rfl, hW, hl, hn, k⟩ := h
    have hL := hl.len
    have hr1 : Room 1 _ := hr.mono (by decide)
    refine ⟨_, pss_cons (ps_set (i := 2) scRows.nd rfl (Or.inl rfl) (pe_op op_rep (pe_lst (pa_cons pe_int pa_nil)) (pe_op op_add (pe_callB call_len_seq (by rfl) B.len PySem.boot_len (pa_cons (pv 0) pa_nil)) pe_int)))
      (pss_cons (ps_for PassesOwn.never rfl (pi_enum rfl B.enum (pa_cons (pe_call (ok_seen G.fn B M) hr rfl G.mg G.fn.kp G.bd .nil pass0 (pa_cons (pv 0) (pa_cons (pv 1) pa_nil))) pa_nil)) (pg_tup rfl (pgs_cons (pg_name (i := 3) scRows.nd rfl (Or.inl rfl)) (pgs_cons (pg_name (i := 4) scRows.nd rfl (Or.inl rfl)) pgs_nil)))
        (pss_cons (ps_set (i := 5) scRows.nd rfl (Or.inl rfl) (pe_call (ok_cnt C.fn) hr1 rfl C.mg C.fn.kp C.bd .nil pass0 (pa_cons (pv 3) pa_nil)))
        (pss_one (ps_asg (pe_op op_add (pe_ix ix_list (pv 2) (pv 5) (fun _ _ => rfl)) (pv 4)) (pg_sub (pv 2) (pv 5) set_list)))))
      (pss_one (ps_ret (pv 2)))), ?_⟩
    refine ⟨(by show 1 ≤ sizeLine; decide), fun z hz => ?_⟩
    have s1 : Same H (upd H z (.lst [.int 0])) := upd_new (Same.refl H) hz
    refine ⟨_, rfl, W, _, rfl, .inl (s1.seq hW), _, _, rfl, rfl, z, _, _, rfl, rfl, upd_same, by rw [ivs_len]; omega, by rw [ivs_len]; omega, ?_, fun q hq => ?_⟩
    · rw [ivs_len]
      show 1 * _ ≤ sizeLine
      rw [sizeLine_eq]
      omega
    have hqH : H q = none := s1.free hq
    have e0 : (List.replicate ((((ivs l).length : Nat) : Int) + 1).toNat [V.int 0]).flatten = ivs (KdM.tab (l.length + 1) (fun _ => 0)) := by
      rw [ivs_len, show ((l.length : Int) + 1).toNat = l.length + 1 by omega]
      exact flat_rep _ 0
    show tSeq _ _ _ _ (upd (upd H z (.lst [.int 0])) q (.lst (List.replicate ((((ivs l).length : Nat) : Int) + 1).toNat [V.int 0]).flatten))
    rw [e0]
    have s2 : Same H (upd (upd H z (.lst [.int 0])) q (.lst (ivs (KdM.tab (l.length + 1) (fun _ => 0))))) := upd_new s1 hq
    refine ⟨_, rfl, _, rfl, W, l, n, rfl, s2.seq hW, hl, hn, fun H3 S s3 hSn hS => ?_⟩
    have hqS : q ≠ S := ne_of_none upd_same hSn
    have s23 := s2.trans s3
    refine ⟨S, _, rfl, SqL.of hS, for_enum (K := K) (a := S) (xs := ivs (KdM.tab (2 ^ l.length) (fun m => KdM.ex l m n)))
      (fun i σ H' => ∃ v3 v4 v5 : Option V, σ = [some (.ref W), some (.int n), some (.ref q), v3, v4, v5] ∧ Same H H' ∧ H' S = some (.lst (ivs (KdM.tab (2 ^ l.length) (fun m => KdM.ex l m n)))) ∧
        H' q = some (.lst (ivs (KdM.tab (l.length + 1) (fun k => KdM.sumN i (fun m => if KdM.pop l.length m = k then KdM.ex l m n else 0))))))
      ⟨none, none, none, rfl, s23, hS, s3 _ _ upd_same⟩ (fun i σ H' _ ⟨_, _, _, _, _, h, _⟩ => SqL.of h) ?_ ?_⟩
    · rintro i x σ H' T hi ⟨v3, v4, v5, rfl, s4, hS4, hq4⟩ hT
      obtain ⟨c, hc, rfl⟩ := ivs_get hi
      have hil : i < 2 ^ l.length := by
        have := (List.getElem?_eq_some_iff.mp hc).1
        rwa [KdM.tab_length] at this
      have ec : KdM.ex l i n = c := Option.some.inj ((KdM.tab_get (fun m => KdM.ex l m n) hil).symm.trans hc)
      subst ec
      have hTq : q ≠ T := ne_of_none hq4 hT
      have hTS : S ≠ T := ne_of_none hS4 hT
      have hpl : KdM.pop l.length i < l.length + 1 := Nat.lt_succ_of_le (KdM.pop_le _ _)
      refine ⟨T, _, rfl, SqT.of upd_same, rfl, _, _, rfl, _, _, rfl, rfl, ?_⟩
      refine ⟨_, rfl, l.length, i, rfl, hil, ?_⟩
      have hq5 : (upd H' T (.tup [.int (i : Nat), iv (KdM.ex l i n)])) q = some (.lst (ivs (KdM.tab (l.length + 1) (fun k => KdM.sumN i (fun m => if KdM.pop l.length m = k then KdM.ex l m n else 0))))) := by rw [upd_ne hTq]; exact hq4
      refine ⟨_, rfl, _, rfl, q, _, _, iv _, rfl, rfl, SqL.of hq5, atI_nat (ivs_at (KdM.tab_get _ hpl)), _, rfl, _, _, rfl, rfl, _, rfl, _, rfl, q, _, _, KdM.pop l.length i, rfl, rfl, hq5, ixN_nat (by rw [ivs_len, KdM.tab_length]; exact hpl), ?_⟩
      refine ⟨_, _, _, rfl, upd_keep (upd_new s4 hT) hqH, ?_, ?_⟩
      · have hSq : S ≠ q := fun e => hqS e.symm
        rw [upd_ne hSq, upd_ne hTS]
        exact hS4
      · rw [upd_same]
        refine congrArg (fun t => some (HO.lst t)) ?_
        show (ivs _).set (KdM.pop l.length i) (V.int (((KdM.sumN i (fun m => if KdM.pop l.length m = KdM.pop l.length i then KdM.ex l m n else 0) : Nat) : Int) + ((KdM.ex l i n : Nat) : Int))) = _
        rw [← Int.natCast_add]
        show (ivs _).set (KdM.pop l.length i) (iv _) = _
        rw [ivs_set, KdM.tab_set]
        refine congrArg ivs (KdM.tab_congr fun t _ => ?_)
        show _ = KdM.sumN i _ + (if KdM.pop l.length i = t then KdM.ex l i n else 0)
        by_cases ct : t = KdM.pop l.length i
        · rw [if_pos ct, if_pos ct.symm, ct]
        · rw [if_neg ct, if_neg fun e => ct e.symm, Nat.add_zero]
    · rintro σ H' ⟨v3, v4, v5, rfl, s4, hS4, hq4⟩
      refine ⟨_, rfl, k H' q s4 hqH ?_⟩
      rw [hq4, ivs_len, KdM.tab_length]
      exact congrArg (fun t => some (HO.lst (ivs t))) (KdM.tab_congr fun t _ => (KdM.just_eq l n t).symm)
end
end Kd

set_option Elab.async false
set_option linter.all false
set_option maxRecDepth 100000
set_option maxHeartbeats 4000000
namespace Kd
open PySem PySem.Spec PyProof.Rows L2
/-! ### sums and sizes -/
theorem ivs_ints (l : List Nat) : ivs l = (l.map fun (x : Nat) => (x : Int)).map V.int := by
  unfold ivs iv
  rw [List.map_map]
  rfl
theorem sum_ints : ∀ l : List Nat, (l.map fun (x : Nat) => (x : Int)).sum = ((Kp291.sum l : Nat) : Int)
  | [] => rfl
  | a :: l => by
    rw [List.map_cons, List.sum_cons, sum_ints l, KdM.sum_cons, Int.natCast_add]
theorem sum_le : ∀ {l : List Nat} {c : Nat}, (∀ x ∈ l, x ≤ c) → Kp291.sum l ≤ c * l.length
  | [], c, _ => by rw [KdM.sum_nil]; exact Nat.zero_le _
  | a :: l, c, h => by
    have h1 := sum_le (l := l) (c := c) fun x hx => h x (List.mem_cons_of_mem _ hx)
    have h2 := h a List.mem_cons_self
    rw [KdM.sum_cons, List.length_cons, Nat.mul_succ]
    omega
theorem le_sum : ∀ {l : List Nat} {x : Nat}, x ∈ l → x ≤ Kp291.sum l
  | a :: l, x, h => by
    rw [KdM.sum_cons]
    rcases List.mem_cons.mp h with e | e
    · omega
    · have := le_sum e
      omega
theorem _root_.KdM.Wl.sum {l : List Nat} (h : KdM.Wl l) : Kp291.sum l ≤ 120 := by
  have h1 := sum_le h.top
  have h2 := h.len
  omega
theorem _root_.KdM.Wl.pos {l : List Nat} (h : KdM.Wl l) (hn : l ≠ []) : 0 < Kp291.sum l := by
  cases l with
  | nil => exact absurd rfl hn
  | cons a l =>
    have := h.each a List.mem_cons_self
    rw [KdM.sum_cons]
    omega
theorem pow_big {b n : Nat} (hb : b ≤ 128) (hn : n ≤ 1000) : b ^ n < 2 ^ 9000 := by
  have h1 : b ^ n ≤ (2 ^ 7) ^ n := Nat.pow_le_pow_left hb n
  rw [← Nat.pow_mul] at h1
  exact Nat.lt_of_le_of_lt h1 (Nat.pow_lt_pow_right (show 1 < 2 by decide) (by omega))
theorem just_out {l : List Nat} {n k : Nat} (h : l.length < k) : Kp293.just l n k = 0 := by
  rw [KdM.just_eq]
  refine KdM.sumN_none fun m _ => ?_
  have := KdM.pop_le l.length m
  rw [if_neg (by omega)]
/-- a fraction as the program tells it -/
def fr (a b : Nat) : List Nat := [a / Nat.gcd a b, b / Nat.gcd a b]
theorem fr_eq {a b : Nat} (hb : 0 < b) : fr a b = [(Kp291.frac a b).1, (Kp291.frac a b).2] := by
  unfold Kp291.frac fr
  rw [if_neg (by omega)]
section
variable {P : Program} {w : World} {K : PySem.W.Frag} {mg : Str → Option Value} {base : Heap}
/-- the defs of chances that stand behind the top -/
structure Ch (K : PySem.W.Frag) (mg : Str → Option Value) : Prop where
  bl : Bl mg
  power : ∃ f fd, Dn K mg "power" sPower ["base", "exponent"] f fd
  gcd : ∃ f fd, Dn K mg "common_divisor" sGcd ["first", "second"] f fd
  low : ∃ f fd, Dn K mg "lowest_terms" sLow ["above", "below"] f fd
  more : ∃ f fd, Dn K mg "with_one_draw_more" sMore ["weights", "by_seen"] f fd
  seen : ∃ f fd, Dn K mg "rows_by_seen" sSeen ["weights", "n"] f fd
  cnt : ∃ f fd, Dn K mg "count_seen" sCnt ["seen"] f fd
  rows : ∃ f fd, Dn K mg "rows_by_count" sRows ["weights", "n"] f fd
/-! ### chance_of_count -/
def spFr (K : PySem.W.Frag) (args : List V) (C : List Nat → Prop) (up dn : List Nat → Nat) : Sp := fun vs H Q _ => ∃ (W : Addr) (l : List Nat), vs = .ref W :: args ∧ SqL K H W (ivs l) ∧ Wl l ∧ l ≠ [] ∧ C l ∧
  ∀ (H' : Hp) (p : Addr), Same H H' → H p = none → H' p = some (.lst (ivs (fr (up l) (dn l)))) → Q (.ref p) H'
def spChance (K : PySem.W.Frag) : Sp := fun vs H Q E => ∃ n k : Nat, n ≤ 12 ∧ spFr K [.int n, .int k] (fun _ => True) (fun l => Kp293.just l n k) (fun l => Kp291.sum l ^ n) vs H Q E
theorem scChance : FnScope ["weights", "n", "k", "below"] ["weights", "n", "k"] (defScope sChance) := ⟨rfl, rfl, rfl, by decide +kernel, rfl, by decide +kernel, by decide +kernel⟩
theorem ok_chance {f : Addr} {fd : FuncData} (F : Fun K "chance_of_count" "chance_of_count" sChance f fd) (T : Ch K mg) : FnOk P w K mg base CX0 4 f fd ["weights", "n", "k"] (spChance K) := by
  obtain ⟨_, _, Gp⟩ := T.power
  obtain ⟨_, _, Gg⟩ := T.gcd
  obtain ⟨_, _, Gl⟩ := T.low
  obtain ⟨_, _, Gm⟩ := T.more
  obtain ⟨_, _, Gs⟩ := T.seen
  obtain ⟨_, _, Gc⟩ := T.cnt
  obtain ⟨_, _, Gr⟩ := T.rows
  have B := T.bl
  refine F.ok scChance (fun vs H Q E h => ?_) (fun cdv A outer s H vs Q E hr h => ?_)
  · obtain ⟨n, k, _, W, l, rfl, _⟩ := h
    rfl
  · obtain ⟨n, kk, hn, W, l, rfl, hW, hl, hne, _, k⟩ := h
    have hr1 : Room 1 _ := hr.mono (by decide)
    have hr2 : Room 2 _ := hr.mono (by decide)
    have hS := hl.sum
    have hS0 := hl.pos hne
    refine ⟨_, pss_cons (ps_set (i := 3) scChance.nd rfl (Or.inl rfl) (pe_call (ok_power Gp.fn B) hr1 rfl Gp.mg Gp.fn.kp Gp.bd .nil pass0 (pa_cons (pe_callB (cr_sum rfl) (by rfl) B.sum boot_sum (pa_cons (pv 0) pa_nil)) (pa_cons (pv 1) pa_nil))))
      (pss_cons (ps_if (pt_cmpR op_gt (pv 2) (pe_callB call_len_seq (by rfl) B.len PySem.boot_len (pa_cons (pv 0) pa_nil)) (nomark _))
        (pss_one (ps_ret (pe_call (ok_low Gl.fn Gg) hr2 rfl Gl.mg Gl.fn.kp Gl.bd .nil pass0 (pa_cons pe_int (pa_cons (pv 3) pa_nil))))) pss_nil)
      (pss_one (ps_ret (pe_call (ok_low Gl.fn Gg) hr2 rfl Gl.mg Gl.fn.kp Gl.bd .nil pass0 (pa_cons (pe_ix ix_list (pe_call (ok_rows Gr.fn B Gs Gm Gc) hr rfl Gr.mg Gr.fn.kp Gr.bd .nil pass0 (pa_cons (pv 0) (pa_cons (pv 1) pa_nil))) (pv 2) (fun _ _ => rfl)) (pa_cons (pv 3) pa_nil)))))), ?_⟩
    have hW' := hW
    rw [ivs_ints] at hW'
    refine ⟨_, rfl, W, _, rfl, hW', _, rfl, Kp291.sum l, n, by rw [sum_ints]; rfl, by omega, by omega, ?_⟩
    have hp0 : 0 < Kp291.sum l ^ n := Nat.pow_pos hS0
    have hpb : Kp291.sum l ^ n < 2 ^ 9000 := pow_big (by omega) (by omega)
    refine ⟨_, rfl, _, rfl, W, _, rfl, .inl hW, _, _, rfl, rfl, _, rfl, ?_⟩
    refine ite2 (fun hc => ?_) (fun hc => ?_)
    · have hc' := of_decide_eq_true hc
      rw [ivs_len] at hc'
      refine ⟨_, rfl, 0, _, rfl, hp0, hpb, fun p hp => ?_⟩
      refine k _ p (upd_new (Same.refl H) hp) hp ?_
      rw [upd_same]
      show some (HO.lst (ivs (fr 0 (Kp291.sum l ^ n)))) = some (HO.lst (ivs (fr (Kp293.just l n kk) (Kp291.sum l ^ n))))
      rw [just_out (show l.length < kk by omega)]
    · rw [decide_eq_true_iff, ivs_len] at hc
      refine ⟨_, rfl, _, rfl, W, l, n, rfl, hW, hl, by omega, fun H1 p s1 hp1 hp2 => ?_⟩
      refine ⟨_, rfl, p, _, _, iv (Kp293.just l n kk), rfl, rfl, SqL.of hp2, atI_nat (ivs_at (KdM.tab_get _ (by omega))), _, rfl, Kp293.just l n kk, _, rfl, hp0, hpb, fun r hr3 => ?_⟩
      exact k _ r (upd_new s1 hr3) (s1.free hr3) upd_same
/-! ### likeliest_count -/
def spLik (K : PySem.W.Frag) : Sp := fun vs H Q _ => ∃ (W : Addr) (l : List Nat) (n : Nat), vs = [.ref W, .int n] ∧ SqL K H W (ivs l) ∧ Wl l ∧ n ≤ 12 ∧
  ∀ H' : Hp, Same H H' → Q (.int ((Kp293.likeliest l n : Nat) : Int)) H'
theorem scLik : FnScope ["weights", "n", "by_count"] ["weights", "n"] (defScope sLik) := ⟨rfl, rfl, rfl, by decide +kernel, rfl, by decide +kernel, by decide +kernel⟩
theorem flat_ivs (l : List Nat) : (ivs l).all flatV = true := by
  unfold ivs
  rw [List.all_map, List.all_eq_true]
  intro x _
  rfl
theorem eqV_iv (a b : Nat) : eqV (iv a) (iv b) = decide (a = b) := by
  show (((a : Int) == (b : Int)) : Bool) = _
  by_cases c : a = b
  · subst c; simp
  · rw [decide_eq_false c]
    exact beq_eq_false_iff_ne.mpr (by omega)
theorem ok_lik {f : Addr} {fd : FuncData} (F : Fun K "likeliest_count" "likeliest_count" sLik f fd) (T : Ch K mg) : FnOk P w K mg base CX0 4 f fd ["weights", "n"] (spLik K) := by
  obtain ⟨_, _, Gm⟩ := T.more
  obtain ⟨_, _, Gs⟩ := T.seen
  obtain ⟨_, _, Gc⟩ := T.cnt
  obtain ⟨_, _, Gr⟩ := T.rows
  have B := T.bl
  refine F.ok scLik (fun vs H Q E h => ?_) (fun cdv A outer s H vs Q E hr h => ?_)
  · obtain ⟨W, l, n, rfl, _⟩ := h
    rfl
  · obtain ⟨W, l, n, rfl, hW, hl, hn, k⟩ := h
    refine ⟨_, pss_cons (ps_set (i := 2) scLik.nd rfl (Or.inl rfl) (pe_call (ok_rows Gr.fn B Gs Gm Gc) hr rfl Gr.mg Gr.fn.kp Gr.bd .nil pass0 (pa_cons (pv 0) (pa_cons (pv 1) pa_nil))))
      (pss_one (ps_ret (pe_bm PySem.F.plainAttrs_list PySem.F.slot_list_index PySem.F.type_list_index mt_index (pv 2) (pa_cons (pe_callB (cr_max rfl) (by rfl) B.max boot_max (pa_cons (pv 2) pa_nil)) pa_nil)))), ?_⟩
    refine ⟨_, rfl, _, rfl, W, l, n, rfl, hW, hl, by omega, fun H1 p s1 hp1 hp2 => ?_⟩
    have hp3 : SqL K H1 p (ivs (KdM.tab (l.length + 1) (Kp293.just l n))) := SqL.of hp2
    have hp4 := hp3
    rw [ivs_ints] at hp4
    refine ⟨_, rfl, .inl ⟨rfl, _, hp3⟩, _, rfl, p, _, rfl, hp4, by rw [List.length_map, KdM.tab_length]; omega, fun m hm hmx => ?_⟩
    obtain ⟨b1, b2, b3⟩ := KdM.best_spec (Kp293.just l n) (l.length + 1) (by omega)
    have eb : Kp293.likeliest l n = KdM.best (Kp293.just l n) (l.length + 1) := rfl
    rw [← eb] at b1 b2 b3
    have em : m = ((Kp293.just l n (Kp293.likeliest l n) : Nat) : Int) := by
      obtain ⟨y, hy, rfl⟩ := List.mem_map.mp hm
      unfold KdM.tab at hy
      obtain ⟨t, ht, rfl⟩ := List.mem_map.mp hy
      have h1 := b2 t (List.mem_range.mp ht)
      have h2 := hmx ((Kp293.just l n (Kp293.likeliest l n) : Nat) : Int) (List.mem_map.mpr ⟨_, List.mem_map.mpr ⟨_, List.mem_range.mpr b1, rfl⟩, rfl⟩)
      omega
    subst em
    refine ⟨p, _, iv _, Kp293.likeliest l n, iv _, rfl, rfl, hp3, rfl, flat_ivs _, ivs_at (KdM.tab_get _ b1), by rw [eqV_iv]; exact decide_eq_true rfl, fun t z' ht hz => ?_, k H1 s1⟩
    obtain ⟨c, hc, rfl⟩ := ivs_get hz
    have e : Kp293.just l n t = c := Option.some.inj ((KdM.tab_get _ (by omega)).symm.trans hc)
    have := b3 t ht
    rw [eqV_iv]
    exact decide_eq_false (by omega)
end
end Kd

set_option Elab.async false
set_option linter.all false
set_option maxRecDepth 100000
set_option maxHeartbeats 4000000
namespace Kd
open PySem PySem.Spec PyProof.Rows L2
theorem take_map {l : List Nat} {i u : Nat} (g : Nat → Nat) (hu : l[i]? = some u) : (l.take (i + 1)).map g = (l.take i).map g ++ [g u] := by
  rw [List.take_add_one, hu, List.map_append]
  rfl
/-- a comprehension over the weights whose element is reckoned from the weight alone -/
theorem lc_ivs {K : PySem.W.Frag} {a D : Addr} {l : List Nat} {j : Nat} {te : TE} {σ : L2.St} {H : Hp} {Qd : Hp → Prop} (g : Nat → Nat) (ha : SqL K H a (ivs l)) (hD : H D = none) (hl : l.length ≤ 6) (hj : j < σ.length)
    (hs : ∀ u ∈ l, ∀ (H' : Hp) (Q : VK), Same H H' → Q (iv (g u)) H' → te ((σ.set j none).set j (some (iv u))) H' Q)
    (hd : Qd (upd H D (.lst (ivs (l.map g))))) :
    ∃ W : Nat → Nat → Hp → Prop, (∃ m, W 0 m (upd H D (.lst []))) ∧ ∀ i m H, W i m H →
      ((Itl K a).stop i H ∧ Qd H) ∨ ((Itl K a).go i H ∧ ∃ Nx : Hp → Prop, (∀ H', Nx H' → ∃ m', m' < m ∧ W (i + 1) m' H') ∧ ∀ x H', (Itl K a).yld i H x H' → gName j x (wipe σ [j]) H' fun σ2 H2 => wipe σ2 [j] = wipe σ [j] ∧ tYes σ2 H2 fun b H3 =>
        if b = true then te σ2 H3 fun y H4 => ∃ acc, H4 D = some (.lst acc) ∧ acc.length < sizeLine ∧ Nx (upd H4 D (.lst (acc ++ [y]))) else Nx H3) := by
  refine lc_list (K := K) (a := a) (xs := ivs l) (fun i H' => H' = upd H D (.lst (ivs ((l.take i).map g)))) rfl (fun i H' _ e => by subst e; exact (upd_new (Same.refl H) hD).seq ha) ?_ ?_
  · rintro i x H' hi rfl
    obtain ⟨u, hu, rfl⟩ := ivs_get hi
    refine ⟨?_, ?_⟩
    · show ((σ.set j none).set j (some (iv u))).set j none = σ.set j none
      rw [List.set_set, List.set_set]
    · show te ((σ.set j none).set j (some (iv u))) _ _
      refine hs u (List.mem_of_getElem? hu) _ _ (upd_new (Same.refl H) hD) ?_
      refine ⟨_, upd_same, ?_, ?_⟩
      · rw [ivs_len, List.length_map, List.length_take, sizeLine_eq]
        omega
      · show upd (upd H D _) D _ = _
        rw [upd_upd, take_map g hu]
        unfold ivs
        rw [List.map_append]
        rfl
  · rintro H' rfl
    rw [ivs_len, List.take_length]
    exact hd
theorem sq_ints {K : PySem.W.Frag} {H : Hp} {a : Addr} {l : List Nat} (h : SqL K H a (ivs l)) : SqL K H a ((l.map fun (x : Nat) => (x : Int)).map V.int) := by
  rw [← ivs_ints]
  exact h
theorem blkMean : blkC ["weights", "n", "total", "below", "above", "w"] (defScope sMean) { kind := .function, names := [(".0", .local), ("w", .local), ("power", .globalImplicit), ("below", .free), ("n", .free), ("total", .free)], isGenerator := false, isCoroutine := false } [("w", 5)] = true := by decide +kernel
theorem blkAdds : blkC ["weights", "n", "total", "above", "w"] (defScope sAdds) { kind := .function, names := [(".0", .local), ("w", .local), ("power", .globalImplicit), ("n", .free), ("total", .free)], isGenerator := false, isCoroutine := false } [("w", 4)] = true := by decide +kernel
section
variable {P : Program} {w : World} {K : PySem.W.Frag} {mg : Str → Option Value} {base : Heap}
/-! ### mean_count -/
def spMean (K : PySem.W.Frag) : Sp := fun vs H Q E => ∃ n : Nat, n ≤ 12 ∧ spFr K [.int n] (fun _ => True) (fun l => Kp293.meanUp l n) (fun l => Kp291.sum l ^ n) vs H Q E
theorem scMean : FnScope ["weights", "n", "total", "below", "above", "w"] ["weights", "n"] (defScope sMean) := ⟨rfl, rfl, rfl, by decide +kernel, rfl, by decide +kernel, by decide +kernel⟩
theorem ok_mean {f : Addr} {fd : FuncData} (F : Fun K "mean_count" "mean_count" sMean f fd) (T : Ch K mg) : FnOk P w K mg base CX0 3 f fd ["weights", "n"] (spMean K) := by
  obtain ⟨_, _, Gp⟩ := T.power
  obtain ⟨_, _, Gg⟩ := T.gcd
  obtain ⟨_, _, Gl⟩ := T.low
  have B := T.bl
  refine F.ok scMean (fun vs H Q E h => ?_) (fun cdv A outer s H vs Q E hr h => ?_)
  · obtain ⟨n, _, W, l, rfl, _⟩ := h
    rfl
  · obtain ⟨n, hn, W, l, rfl, hW, hl, hne, _, k⟩ := h
    have hr1 : Room 1 _ := hr.mono (by decide)
    have hS := hl.sum
    have hS0 := hl.pos hne
    refine ⟨_, pss_cons (ps_set (i := 2) scMean.nd rfl (Or.inr rfl) (pe_callB (cr_sum rfl) (by rfl) B.sum boot_sum (pa_cons (pv 0) pa_nil)))
      (pss_cons (ps_set (i := 3) scMean.nd rfl (Or.inr rfl) (pe_call (ok_power Gp.fn B) hr1 rfl Gp.mg Gp.fn.kp Gp.bd .nil pass0 (pa_cons (pv 2) (pa_cons (pv 1) pa_nil))))
      (pss_cons (ps_set (i := 4) scMean.nd rfl (Or.inl rfl) (pe_callB (cr_sum rfl) (by rfl) B.sum boot_sum (pa_cons
        (pe_lc (own := [("w", 5)]) rfl scMean.nd (pi_list (pv 0)) (blkOk_by blkMean) (fun s H C cl fp => pg_name (i := 5) scMean.nd rfl (Or.inl rfl)) (fun s H C cl fp => pts_nil)
          (fun s H C cl fp => pe_op op_sub (pv 3) (pe_call (ok_power Gp.fn B) hr1 rfl Gp.mg Gp.fn.kp Gp.bd .nil pass0 (pa_cons (pe_op op_sub (pv 2) (pv 5)) (pa_cons (pv 1) pa_nil))))) pa_nil)))
      (pss_one (ps_ret (pe_call (ok_low Gl.fn Gg) hr rfl Gl.mg Gl.fn.kp Gl.bd .nil pass0 (pa_cons (pv 4) (pa_cons (pv 3) pa_nil))))))), ?_⟩
    have hW' := hW
    rw [ivs_ints] at hW'
    refine ⟨_, rfl, W, _, rfl, hW', ?_⟩
    rw [sum_ints]
    refine ⟨_, rfl, _, rfl, Kp291.sum l, n, rfl, by omega, by omega, ?_⟩
    have hp0 : 0 < Kp291.sum l ^ n := Nat.pow_pos hS0
    have hpb : Kp291.sum l ^ n < 2 ^ 9000 := pow_big (by omega) (by omega)
    refine ⟨_, rfl, W, rfl, ⟨_, hW⟩, fun D hD => lc_ivs (fun u => Kp291.sum l ^ n - (Kp291.sum l - u) ^ n) hW hD hl.len (by show 5 < 6; decide) (fun u hu H' Q' _ q => ?_) ?_⟩
    · have hu1 := le_sum hu
      have hp1 : (Kp291.sum l - u) ^ n ≤ Kp291.sum l ^ n := Nat.pow_le_pow_left (Nat.sub_le _ _) n
      refine ⟨_, rfl, _, rfl, _, rfl, _, _, rfl, rfl, _, rfl, Kp291.sum l - u, n, ?_, by omega, by omega, _, _, rfl, rfl, ?_⟩
      · show [V.int (((Kp291.sum l : Nat) : Int) - ((u : Nat) : Int)), V.int (n : Int)] = _
        rw [Int.natCast_sub hu1]
      · show Q' (V.int (((Kp291.sum l ^ n : Nat) : Int) - (((Kp291.sum l - u) ^ n : Nat) : Int))) H'
        rw [← Int.natCast_sub hp1]
        exact q
    · refine ⟨D, _, rfl, sq_ints (SqL.of upd_same), ?_⟩
      rw [sum_ints]
      refine ⟨_, rfl, _, rfl, _, _, rfl, hp0, hpb, fun p hp => ?_⟩
      have s1 : Same H (upd H D (.lst (ivs (l.map fun u => Kp291.sum l ^ n - (Kp291.sum l - u) ^ n)))) := upd_new (Same.refl H) hD
      exact k _ p (upd_new s1 hp) (s1.free hp) upd_same
/-! ### mean_added -/
def spAdds (K : PySem.W.Frag) : Sp := fun vs H Q E => ∃ n : Nat, n ≤ 12 ∧ spFr K [.int n] (fun _ => True) (fun l => Kp293.addsUp l n) (fun l => Kp291.sum l ^ (n + 1)) vs H Q E
theorem scAdds : FnScope ["weights", "n", "total", "above", "w"] ["weights", "n"] (defScope sAdds) := ⟨rfl, rfl, rfl, by decide +kernel, rfl, by decide +kernel, by decide +kernel⟩
theorem ok_adds {f : Addr} {fd : FuncData} (F : Fun K "mean_added" "mean_added" sAdds f fd) (T : Ch K mg) : FnOk P w K mg base CX0 3 f fd ["weights", "n"] (spAdds K) := by
  obtain ⟨_, _, Gp⟩ := T.power
  obtain ⟨_, _, Gg⟩ := T.gcd
  obtain ⟨_, _, Gl⟩ := T.low
  have B := T.bl
  refine F.ok scAdds (fun vs H Q E h => ?_) (fun cdv A outer s H vs Q E hr h => ?_)
  · obtain ⟨n, _, W, l, rfl, _⟩ := h
    rfl
  · obtain ⟨n, hn, W, l, rfl, hW, hl, hne, _, k⟩ := h
    have hr1 : Room 1 _ := hr.mono (by decide)
    have hS := hl.sum
    have hS0 := hl.pos hne
    refine ⟨_, pss_cons (ps_set (i := 2) scAdds.nd rfl (Or.inr rfl) (pe_callB (cr_sum rfl) (by rfl) B.sum boot_sum (pa_cons (pv 0) pa_nil)))
      (pss_cons (ps_set (i := 3) scAdds.nd rfl (Or.inl rfl) (pe_callB (cr_sum rfl) (by rfl) B.sum boot_sum (pa_cons
        (pe_lc (own := [("w", 4)]) rfl scAdds.nd (pi_list (pv 0)) (blkOk_by blkAdds) (fun s H C cl fp => pg_name (i := 4) scAdds.nd rfl (Or.inl rfl)) (fun s H C cl fp => pts_nil)
          (fun s H C cl fp => pe_op op_mul (pv 4) (pe_call (ok_power Gp.fn B) hr1 rfl Gp.mg Gp.fn.kp Gp.bd .nil pass0 (pa_cons (pe_op op_sub (pv 2) (pv 4)) (pa_cons (pv 1) pa_nil))))) pa_nil)))
      (pss_one (ps_ret (pe_call (ok_low Gl.fn Gg) hr rfl Gl.mg Gl.fn.kp Gl.bd .nil pass0 (pa_cons (pv 3) (pa_cons (pe_call (ok_power Gp.fn B) hr1 rfl Gp.mg Gp.fn.kp Gp.bd .nil pass0 (pa_cons (pv 2) (pa_cons (pe_op op_add (pv 1) pe_int) pa_nil))) pa_nil)))))), ?_⟩
    have hW' := hW
    rw [ivs_ints] at hW'
    refine ⟨_, rfl, W, _, rfl, hW', ?_⟩
    rw [sum_ints]
    have hp0 : 0 < Kp291.sum l ^ (n + 1) := Nat.pow_pos hS0
    have hpb : Kp291.sum l ^ (n + 1) < 2 ^ 9000 := pow_big (by omega) (by omega)
    refine ⟨_, rfl, W, rfl, ⟨_, hW⟩, fun D hD => lc_ivs (fun u => u * (Kp291.sum l - u) ^ n) hW hD hl.len (by show 4 < 5; decide) (fun u hu H' Q' _ q => ?_) ?_⟩
    · have hu1 := le_sum hu
      have hu2 := hl.top u hu
      refine ⟨_, rfl, _, rfl, _, rfl, _, _, rfl, rfl, _, rfl, Kp291.sum l - u, n, ?_, by omega, by omega, _, _, rfl, rfl, .inl ⟨by omega, by omega⟩, ?_⟩
      · show [V.int (((Kp291.sum l : Nat) : Int) - ((u : Nat) : Int)), V.int (n : Int)] = _
        rw [Int.natCast_sub hu1]
      · show Q' (V.int (((u : Nat) : Int) * (((Kp291.sum l - u) ^ n : Nat) : Int))) H'
        rw [← Int.natCast_mul]
        exact q
    · refine ⟨D, _, rfl, sq_ints (SqL.of upd_same), ?_⟩
      rw [sum_ints]
      refine ⟨_, rfl, _, rfl, _, rfl, _, _, rfl, rfl, Kp291.sum l, n + 1, rfl, by omega, by omega, _, _, rfl, hp0, hpb, fun p hp => ?_⟩
      have s1 : Same H (upd H D (.lst (ivs (l.map fun u => u * (Kp291.sum l - u) ^ n)))) := upd_new (Same.refl H) hD
      exact k _ p (upd_new s1 hp) (s1.free hp) upd_same
end
end Kd

set_option Elab.async false
set_option linter.all false
set_option maxRecDepth 100000
set_option maxHeartbeats 4000000
namespace Kd
open PySem PySem.Spec PyProof.Rows L2
abbrev sIsW : Stmt := top 46
abbrev sPair : Stmt := top 47
abbrev sCan : Stmt := top 48
abbrev sLev : Stmt := top 49
abbrev sKinds : Stmt := top 50
abbrev sInit : Stmt := inClass sKinds 0
abbrev sBegin : Stmt := inClass sKinds 1
abbrev sKind : Stmt := inClass sKinds 2
abbrev sWeight : Stmt := inClass sKinds 3
abbrev sOut : Stmt := inClass sKinds 4
abbrev sLevel : Stmt := inClass sKinds 5
/-- a name of the top that holds a number -/
def Co (mg : Str → Option Value) (x : Str) (v : Int) : Prop := ∃ t, mg x = some (.int v t)
theorem pco {X : Cx} {x : Str} {v : Int} {pos : Pos} (h : Co X.mg x v) (hg : Gl X x := by rfl) (hd : (x == ("__debug__" : Str)) = false := by decide) : PE X (.Name x pos) (tC (.int v)) := by
  obtain ⟨t, h⟩ := h
  exact pe_glob hg h ⟨t, rfl⟩ hd
/-- the names of the top that hold numbers -/
structure Cs (mg : Str → Option Value) : Prop where
  not_begun : Co mg "NOT_BEGUN" (-11)
  no_kinds : Co mg "NO_KINDS" (-6)
  no_such : Co mg "NO_SUCH_KIND" (-2)
  not_allowed : Co mg "NOT_ALLOWED" (-22)
  no_room : Co mg "NO_ROOM" (-28)
  most_kinds : Co mg "MOST_KINDS" 6
  most_weight : Co mg "MOST_WEIGHT" 20
  most_draws : Co mg "MOST_DRAWS" 12
  not_had : Co mg "NOT_TO_BE_HAD" (-33)
  most_need : Co mg "MOST_DRAWS_NEEDED" 399
  most_above : Co mg "MOST_ABOVE" 100
  most_below : Co mg "MOST_BELOW" 100
  begin_ : Co mg "BEGIN" 0
  kind : Co mg "KIND" 1
  weight : Co mg "WEIGHT" 2
  out : Co mg "OUT" 3
  chance : Co mg "CHANCE" 4
  all : Co mg "ALL" 5
  mean : Co mg "MEAN" 6
  adds : Co mg "ADDS" 7
  seen : Co mg "SEEN" 9
  even : Co mg "EVEN" 10
  both : Co mg "BOTH" 11
  needed : Co mg "NEEDED" 12
  level : Co mg "LEVEL" 13
  would : Co mg "WOULD" 14
  most : Co mg "MOST" 15
  told : Co mg "TOLD" 16
/-- the class -/
structure Kc (K : PySem.W.Frag) (mg : Str → Option Value) (C : Addr) : Prop where
  cl : Cls K C
  nB : NoAttr K C "begun"
  nW : NoAttr K C "weights"
  nm : mg "Kinds" = some (.ref C)
  bl : Bl mg
  cs : Cs mg
  isw : ∃ f fd, Dn K mg "is_weight" sIsW ["w"] f fd
  pair : ∃ f fd, Dn K mg "pair_refusal" sPair ["weights", "i", "j"] f fd
  can : ∃ f fd, Dn K mg "can_level" sCan ["weights", "i", "j"] f fd
  lev : ∃ f fd, Dn K mg "leveled" sLev ["weights", "i", "j"] f fd
/-- the object's attributes -/
def kf (b : Bool) (a : Addr) : List (Str × V) := [("begun", .bl b), ("weights", .ref a)]
theorem bw_ne : (("weights" : Str) == ("begun" : Str)) = false := by decide +kernel
theorem kf_b (b : Bool) (a : Addr) : (kf b a).lookup ("begun" : Str) = some (V.bl b) := by
  unfold kf
  rw [List.lookup_cons, beq_self_eq_true]
theorem kf_w (b : Bool) (a : Addr) : (kf b a).lookup ("weights" : Str) = some (V.ref a) := by
  unfold kf
  rw [List.lookup_cons, bw_ne]
  show List.lookup ("weights" : Str) [(("weights" : Str), V.ref a)] = _
  rw [List.lookup_cons, beq_self_eq_true]
theorem kf_no {m : Str} (b : Bool) (a : Addr) (h1 : (m == ("begun" : Str)) = false) (h2 : (m == ("weights" : Str)) = false) : (kf b a).lookup m = none := by
  unfold kf
  rw [List.lookup_cons, h1]
  show List.lookup m [(("weights" : Str), V.ref a)] = none
  rw [List.lookup_cons, h2]
  rfl
theorem put_b (b c : Bool) (a : Addr) : putF "begun" (.bl c) (kf b a) = kf c a := by
  unfold kf
  rw [putF, if_pos rfl]
theorem ne_bw : ¬ ("begun" : Str) = "weights" := by decide +kernel
theorem put_w (b : Bool) (a a' : Addr) : putF "weights" (.ref a') (kf b a) = kf b a' := by
  unfold kf
  rw [putF, if_neg ne_bw, putF, if_pos rfl]
theorem put_new (a : Addr) : putF "weights" (.ref a) (putF "begun" (.bl false) []) = kf false a := by
  show putF "weights" (.ref a) [("begun", V.bl false)] = _
  rw [putF, if_neg ne_bw]
  rfl
/-- the object at o, its weights at a -/
structure KAt (C : Addr) (H : Hp) (o a : Addr) (st : Option (List Nat)) : Prop where
  obj : ∃ dx, H o = some (.ins C dx (kf st.isSome a))
  lst : H a = some (.lst (ivs (st.getD [])))
theorem KAt.ne {C : Addr} {H : Hp} {o a : Addr} {st : Option (List Nat)} (h : KAt C H o a st) : o ≠ a := by
  obtain ⟨dx, e⟩ := h.obj
  exact ne_of e h.lst (by intro q; cases q)
/-- all but the object and its weights stays -/
def Kept (o a : Addr) (H H' : Hp) : Prop := ∀ b u, H b = some u → b ≠ o → b ≠ a → H' b = some u
/-- a call's end: a new list with the answer, the object as it is then -/
def Res (C o a : Addr) (H : Hp) (Q : VK) (ans : List Int) (st : Option (List Nat)) : Prop :=
  ∀ (H' : Hp) (p a' : Addr), KAt C H' o a' st → (a' = a ∨ H a' = none) → Kept o a H H' → H p = none → p ≠ a' → H' p = some (.lst (ans.map V.int)) → Q (.ref p) H'
theorem Same.kept {o a : Addr} {H H' : Hp} (h : Same H H') : Kept o a H H' := fun b u e _ _ => h b u e
theorem KAt.same {C : Addr} {H H' : Hp} {o a : Addr} {st : Option (List Nat)} (h : KAt C H o a st) (s : Same H H') : KAt C H' o a st := by
  obtain ⟨dx, e⟩ := h.obj
  exact ⟨⟨dx, s _ _ e⟩, s _ _ h.lst⟩
/-- an answer that changes nothing -/
theorem Res.stay {C o a : Addr} {H H' : Hp} {Q : VK} {ans : List Int} {st : Option (List Nat)} {p : Addr} (k : Res C o a H Q ans st) (h : KAt C H o a st) (s : Same H H') (hp : H p = none) (e : H' p = some (.lst (ans.map V.int))) : Q (.ref p) H' :=
  k H' p a (h.same s) (.inl rfl) (Same.kept s) hp (fun q => by rw [q, h.lst] at hp; cases hp) e
section
variable {P : Program} {w : World} {K : PySem.W.Frag} {mg : Str → Option Value} {base : Heap}
/-! ### is_weight -/
def spIsW : Sp := fun vs H Q _ => ∃ x : Nat, vs = [.int x] ∧ Q (.bl (Kp291.okW x)) H
theorem scIsW : FnScope ["w"] ["w"] (defScope sIsW) := ⟨rfl, rfl, rfl, by decide +kernel, rfl, by decide +kernel, by decide +kernel⟩
theorem ok_isw {f : Addr} {fd : FuncData} (F : Fun K "is_weight" "is_weight" sIsW f fd) (T : Cs mg) : FnOk P w K mg base CX0 1 f fd ["w"] spIsW := by
  refine F.ok scIsW (fun vs H Q E h => ?_) (fun cdv A outer s H vs Q E hr h => ?_)
  · obtain ⟨x, rfl, _⟩ := h
    rfl
  · obtain ⟨x, rfl, k⟩ := h
    refine ⟨_, pss_one (ps_ret (pe_chain op_le op_le pe_int (pv 0) (pco T.most_weight))), ?_⟩
    refine ⟨_, rfl, _, _, rfl, rfl, _, rfl, ?_⟩
    refine ite2 (fun hc => ?_) (fun hc => ?_)
    · refine ⟨_, _, rfl, rfl, ?_⟩
      have e : decide ((x : Int) ≤ 20) = Kp291.okW x := by
        have := of_decide_eq_true hc
        unfold Kp291.okW
        rw [decide_eq_true (show 1 ≤ x by omega), Bool.true_and, decide_eq_decide]
        omega
      show Q (.bl (decide ((x : Int) ≤ 20))) H
      rw [e]
      exact k
    · have e : Kp291.okW x = false := by
        rw [decide_eq_true_iff] at hc
        unfold Kp291.okW
        rw [decide_eq_false (show ¬ 1 ≤ x by omega), Bool.false_and]
      rw [e] at k
      exact k
/-! ### the object's methods -/
def spInit (C : Addr) : Sp := fun vs H Q _ => ∃ o dx : Addr, vs = [.ref o] ∧ H o = some (.ins C dx []) ∧ ∀ (H' : Hp) (a : Addr), KAt C H' o a none → H a = none → (∀ b u, H b = some u → b ≠ o → H' b = some u) → Q .non H'
theorem scInit : FnScope ["self"] ["self"] (defScope sInit) := ⟨rfl, rfl, rfl, by decide +kernel, rfl, by decide +kernel, by decide +kernel⟩
theorem ok_init {f C : Addr} {fd : FuncData} (F : Fun K "__init__" "Kinds.__init__" sInit f fd) (T : Kc K mg C) : FnOk P w K mg base CX0 1 f fd ["self"] (spInit C) := by
  refine F.ok scInit (fun vs H Q E h => ?_) (fun cdv A outer s H vs Q E hr h => ?_)
  · obtain ⟨o, dx, rfl, _⟩ := h
    rfl
  · obtain ⟨o, dx, rfl, ho, k⟩ := h
    refine ⟨_, pss_cons (ps_fld (pv 0) pe_bl rfl) (pss_one (ps_fld (pv 0) (pe_lst pa_nil) rfl)), ?_⟩
    refine ⟨_, rfl, o, C, dx, [], rfl, ho, T.cl, T.nB, (by show 0 < 1000; decide), ?_⟩
    refine ⟨Nat.zero_le _, fun a ha => ?_⟩
    have hoa : o ≠ a := ne_of_none upd_same ha
    have haH : H a = none := by rw [upd_ne (Ne.symm hoa)] at ha; exact ha
    refine ⟨_, rfl, o, C, dx, _, rfl, by rw [upd_ne hoa]; exact upd_same, T.cl, T.nW, (by show 1 < 1000; decide), ?_⟩
    refine k _ a ⟨⟨dx, ?_⟩, ?_⟩ haH fun b u e hb => ?_
    · rw [upd_same, put_new]
      rfl
    · rw [upd_ne (Ne.symm hoa), upd_same]
      rfl
    · rw [upd_ne hb, upd_ne (ne_of_none e haH), upd_ne hb]
      exact e
def spBegin (C : Addr) : Sp := fun vs H Q _ => ∃ (o a : Addr) (st : Option (List Nat)), vs = [.ref o] ∧ KAt C H o a st ∧ Res C o a H Q [0] (some [])
theorem scBegin : FnScope ["self"] ["self"] (defScope sBegin) := ⟨rfl, rfl, rfl, by decide +kernel, rfl, by decide +kernel, by decide +kernel⟩
theorem ok_begin {f C : Addr} {fd : FuncData} (F : Fun K "begin" "Kinds.begin" sBegin f fd) (T : Kc K mg C) : FnOk P w K mg base CX0 1 f fd ["self"] (spBegin C) := by
  refine F.ok scBegin (fun vs H Q E h => ?_) (fun cdv A outer s H vs Q E hr h => ?_)
  · obtain ⟨o, a, st, rfl, _⟩ := h
    rfl
  · obtain ⟨o, a, st, rfl, ⟨⟨dx, ho⟩, ha⟩, k⟩ := h
    refine ⟨_, pss_cons (ps_fld (pv 0) pe_bl rfl) (pss_cons (ps_fld (pv 0) (pe_lst pa_nil) rfl) (pss_one (ps_ret (pe_lst (pa_cons pe_int pa_nil))))), ?_⟩
    refine ⟨_, rfl, o, C, dx, _, rfl, ho, T.cl, T.nB, (by show 2 < 1000; decide), ?_⟩
    rw [put_b]
    refine ⟨Nat.zero_le _, fun a' ha' => ?_⟩
    have hoa : o ≠ a' := ne_of_none upd_same ha'
    have haH : H a' = none := by rw [upd_ne (Ne.symm hoa)] at ha'; exact ha'
    refine ⟨_, rfl, o, C, dx, _, rfl, by rw [upd_ne hoa]; exact upd_same, T.cl, T.nW, (by show 2 < 1000; decide), ?_⟩
    rw [put_w]
    refine ⟨(by show 1 ≤ sizeLine; decide), fun p hp => ?_⟩
    have hop : o ≠ p := ne_of_none upd_same hp
    have hpa : a' ≠ p := ne_of_none (show (upd (upd (upd H o _) a' _) o _) a' = some (.lst []) by rw [upd_ne (Ne.symm hoa), upd_same]) hp
    have hpH : H p = none := by rw [upd_ne (Ne.symm hop), upd_ne (Ne.symm hpa), upd_ne (Ne.symm hop)] at hp; exact hp
    refine k _ p a' ⟨⟨dx, ?_⟩, ?_⟩ (.inr haH) (fun b u e h1 h2 => ?_) hpH (Ne.symm hpa) upd_same
    · rw [upd_ne hop, upd_same]
      rfl
    · rw [upd_ne hpa, upd_ne (Ne.symm hoa), upd_same]
      rfl
    · rw [upd_ne (ne_of_none e hpH), upd_ne h1, upd_ne (ne_of_none e haH), upd_ne h1]
      exact e
end
end Kd

set_option Elab.async false
set_option linter.all false
set_option maxRecDepth 100000
set_option maxHeartbeats 4000000
namespace Kd
open PySem PySem.Spec PyProof.Rows L2
/-- what the specification answers, as one list -/
def ansOf (y : Kp293.State × Kp293.Ans) : List Int := y.2.num :: y.2.nums
def due1 (C o a : Addr) (H : Hp) (Q : VK) (y : Kp293.State × Kp293.Ans) : Prop := Res C o a H Q (ansOf y) y.1
theorem KAt.upd {C : Addr} {H : Hp} {o a : Addr} {l l' : List Nat} (h : KAt C H o a (some l)) : KAt C (upd H a (.lst (ivs l'))) o a (some l') := by
  obtain ⟨dx, e⟩ := h.obj
  exact ⟨⟨dx, by rw [upd_ne h.ne]; exact e⟩, upd_same⟩
section
variable {P : Program} {w : World} {K : PySem.W.Frag} {mg : Str → Option Value} {base : Heap}
/-- an answer of one number that changes nothing -/
theorem say_stay {C o a : Addr} {H : Hp} {Q : VK} {v : Int} {l : List Nat} (k : due1 C o a H Q (some l, Kp293.say v)) (h : KAt C H o a (some l)) : ∀ p, H p = none → Q (.ref p) (L2.upd H p (.lst [.int v])) := fun p hp =>
  Res.stay k h (upd_new (Same.refl H) hp) hp upd_same
def spKind (C : Addr) : Sp := fun vs H Q _ => ∃ (o a : Addr) (l : List Nat) (x : Nat), vs = [.ref o, .int x] ∧ KAt C H o a (some l) ∧ Wl l ∧ due1 C o a H Q (Kp293.step (some l) (.kind x))
theorem scKind : FnScope ["self", "w"] ["self", "w"] (defScope sKind) := ⟨rfl, rfl, rfl, by decide +kernel, rfl, by decide +kernel, by decide +kernel⟩
theorem ok_kind {f C : Addr} {fd : FuncData} (F : Fun K "kind" "Kinds.kind" sKind f fd) (T : Kc K mg C) : FnOk P w K mg base CX0 2 f fd ["self", "w"] (spKind C) := by
  obtain ⟨_, _, Gi⟩ := T.isw
  refine F.ok scKind (fun vs H Q E h => ?_) (fun cdv A outer s H vs Q E hr h => ?_)
  · obtain ⟨o, a, l, x, rfl, _⟩ := h
    rfl
  · obtain ⟨o, a, l, x, rfl, h, hl, k⟩ := h
    refine ⟨_, pss_cons (ps_if (pt_not (pt_val (pe_call (ok_isw Gi.fn T.cs) hr rfl Gi.mg Gi.fn.kp Gi.bd .nil pass0 (pa_cons (pv 1) pa_nil)))) (pss_one (ps_ret (pe_lst (pa_cons (pco T.cs.not_allowed) pa_nil)))) pss_nil)
      (pss_cons (ps_if (pt_cmpR op_eq (pe_callB call_len_seq (by rfl) T.bl.len PySem.boot_len (pa_cons (pe_fld (pv 0) rfl) pa_nil)) (pco T.cs.most_kinds) (nomark _)) (pss_one (ps_ret (pe_lst (pa_cons (pco T.cs.no_room) pa_nil)))) pss_nil)
      (pss_cons (ps_expr (pe_bm PySem.F.plainAttrs_list PySem.F.slot_list_append PySem.F.type_list_append mt_append (pe_fld (pv 0) rfl) (pa_cons (pv 1) pa_nil)))
      (pss_one (ps_ret (pe_lst (pa_cons (pe_op op_sub (pe_callB call_len_seq (by rfl) T.bl.len PySem.boot_len (pa_cons (pe_fld (pv 0) rfl) pa_nil)) pe_int) pa_nil)))))), ?_⟩
    change due1 C o a H Q (if Kp291.okW x = false then (some l, Kp293.say (-22)) else if Kp291.KINDS ≤ l.length then (some l, Kp293.say (-28)) else (some (l ++ [x]), Kp293.say (l.length : Int))) at k
    refine ⟨_, rfl, x, rfl, _, rfl, ?_⟩
    refine ite2 (fun hc => ?_) (fun hc => ?_)
    · rw [if_pos (by revert hc; cases Kp291.okW x <;> simp)] at k
      exact ⟨(by show 1 ≤ sizeLine; decide), say_stay k h⟩
    have hw : Kp291.okW x = true := by revert hc; cases Kp291.okW x <;> simp
    rw [if_neg (by rw [hw]; decide)] at k
    obtain ⟨dx, ho⟩ := h.obj
    refine ⟨_, rfl, o, C, dx, _, _, rfl, ho, T.cl, T.nW, kf_w _ _, a, _, rfl, .inl (SqL.of h.lst), rfl, _, rfl, ?_⟩
    have hlen : (((ivs ((some l).getD [])).length : Nat) : Int) = (l.length : Int) := by rw [ivs_len]; rfl
    refine ite2 (fun hc => ?_) (fun hc => ?_)
    · have e : l.length = 6 := by
        have := of_decide_eq_true hc
        rw [hlen] at this
        injection this with this
        omega
      rw [if_pos (by rw [e]; decide)] at k
      exact ⟨(by show 1 ≤ sizeLine; decide), say_stay k h⟩
    have hl6 : ¬ Kp291.KINDS ≤ l.length := fun q => hc (decide_eq_true (by
      rw [hlen]
      have e : l.length = 6 := Nat.le_antisymm hl.len q
      rw [e]
      rfl))
    rw [if_neg hl6] at k
    have hl5 : l.length < 6 := Nat.lt_of_not_le hl6
    refine ⟨_, rfl, o, C, dx, _, _, rfl, ho, T.cl, T.nW, kf_w _ _, .inl ⟨rfl, _, SqL.of h.lst⟩, _, rfl, a, _, _, rfl, rfl, h.lst, ?_, ?_⟩
    · show (ivs l).length < sizeLine
      rw [ivs_len, sizeLine_eq]
      omega
    have eA : ivs ((some l).getD []) ++ [V.int (x : Int)] = ivs (l ++ [x]) := by
      unfold ivs
      rw [List.map_append]
      rfl
    rw [eA]
    have h2 : KAt C (upd H a (.lst (ivs (l ++ [x])))) o a (some (l ++ [x])) := KAt.upd h
    obtain ⟨dx2, ho2⟩ := h2.obj
    refine ⟨_, rfl, o, C, dx2, _, _, rfl, ho2, T.cl, T.nW, kf_w _ _, a, _, rfl, .inl (SqL.of h2.lst), _, _, rfl, rfl, (by show 1 ≤ sizeLine; decide), fun p hp => ?_⟩
    have hpa : a ≠ p := ne_of_none h2.lst hp
    have hpH : H p = none := by rw [upd_ne (Ne.symm hpa)] at hp; exact hp
    refine k _ p a (h2.same (upd_new (Same.refl _) hp)) (.inl rfl) (fun b u e h1 h3 => ?_) hpH (Ne.symm hpa) ?_
    · rw [upd_ne (ne_of_none e hpH), upd_ne h3]
      exact e
    · rw [upd_same]
      show some (HO.lst [V.int ((((ivs (l ++ [x])).length : Nat) : Int) - 1)]) = some (HO.lst [V.int (l.length : Int)])
      rw [ivs_len, List.length_append, show (((l.length + [x].length : Nat)) : Int) - 1 = (l.length : Int) by simp]
end
end Kd

set_option Elab.async false
set_option linter.all false
set_option maxRecDepth 100000
set_option maxHeartbeats 4000000
namespace Kd
open PySem PySem.Spec PyProof.Rows L2
abbrev sASeen : Stmt := top 51
abbrev sABoth : Stmt := top 52
abbrev sAWould : Stmt := top 53
abbrev sANeed : Stmt := top 54
abbrev sDraws : Stmt := top 55
abbrev sSome : Stmt := top 56
abbrev sAnswer : Stmt := top 57
abbrev sAnswers : Stmt := top 58
theorem is_iff {l : List Nat} {i : Nat} : Kp293.is l i = false ↔ l.length ≤ i := by
  unfold Kp293.is
  rw [decide_eq_false_iff_not]
  omega
section
variable {P : Program} {w : World} {K : PySem.W.Frag} {mg : Str → Option Value} {base : Heap}
def spWeight (C : Addr) : Sp := fun vs H Q _ => ∃ (o a : Addr) (l : List Nat) (i x : Nat), vs = [.ref o, .int i, .int x] ∧ KAt C H o a (some l) ∧ Wl l ∧ due1 C o a H Q (Kp293.step (some l) (.weight i x))
theorem scWeight : FnScope ["self", "i", "w", "before"] ["self", "i", "w"] (defScope sWeight) := ⟨rfl, rfl, rfl, by decide +kernel, rfl, by decide +kernel, by decide +kernel⟩
theorem ok_weight {f C : Addr} {fd : FuncData} (F : Fun K "weight" "Kinds.weight" sWeight f fd) (T : Kc K mg C) : FnOk P w K mg base CX0 2 f fd ["self", "i", "w"] (spWeight C) := by
  obtain ⟨_, _, Gi⟩ := T.isw
  refine F.ok scWeight (fun vs H Q E h => ?_) (fun cdv A outer s H vs Q E hr h => ?_)
  · obtain ⟨o, a, l, i, x, rfl, _⟩ := h
    rfl
  · obtain ⟨o, a, l, i, x, rfl, h, hl, k⟩ := h
    refine ⟨_, pss_cons (ps_if (pt_cmpR op_ge (pv 1) (pe_callB call_len_seq (by rfl) T.bl.len PySem.boot_len (pa_cons (pe_fld (pv 0) rfl) pa_nil)) (nomark _)) (pss_one (ps_ret (pe_lst (pa_cons (pco T.cs.no_such) pa_nil)))) pss_nil)
      (pss_cons (ps_if (pt_not (pt_val (pe_call (ok_isw Gi.fn T.cs) hr rfl Gi.mg Gi.fn.kp Gi.bd .nil pass0 (pa_cons (pv 2) pa_nil)))) (pss_one (ps_ret (pe_lst (pa_cons (pco T.cs.not_allowed) pa_nil)))) pss_nil)
      (pss_cons (ps_set (i := 3) scWeight.nd rfl (Or.inl rfl) (pe_ix ix_list (pe_fld (pv 0) rfl) (pv 1) (fun _ _ => rfl)))
      (pss_cons (ps_asg (pv 2) (pg_sub (pe_fld (pv 0) rfl) (pv 1) set_list))
      (pss_one (ps_ret (pe_lst (pa_cons (pv 3) pa_nil))))))), ?_⟩
    change due1 C o a H Q (if Kp293.is l i = false then (some l, Kp293.say (-2)) else if Kp291.okW x = false then (some l, Kp293.say (-22)) else (some (l.set i x), Kp293.say (l.getD i 0 : Int))) at k
    obtain ⟨dx, ho⟩ := h.obj
    have hlen : (((ivs ((some l).getD [])).length : Nat) : Int) = (l.length : Int) := by rw [ivs_len]; rfl
    refine ⟨_, rfl, _, rfl, o, C, dx, _, _, rfl, ho, T.cl, T.nW, kf_w _ _, a, _, rfl, .inl (SqL.of h.lst), _, _, rfl, rfl, _, rfl, ?_⟩
    refine ite2 (fun hc => ?_) (fun hc => ?_)
    · have hc' := of_decide_eq_true hc
      rw [hlen] at hc'
      rw [if_pos (is_iff.mpr (by omega))] at k
      exact ⟨(by show 1 ≤ sizeLine; decide), say_stay k h⟩
    rw [decide_eq_true_iff, hlen] at hc
    have hi : i < l.length := by omega
    rw [if_neg (by rw [is_iff]; omega)] at k
    refine ⟨_, rfl, x, rfl, _, rfl, ?_⟩
    refine ite2 (fun hc => ?_) (fun hc => ?_)
    · rw [if_pos (by revert hc; cases Kp291.okW x <;> simp)] at k
      exact ⟨(by show 1 ≤ sizeLine; decide), say_stay k h⟩
    have hw : Kp291.okW x = true := by revert hc; cases Kp291.okW x <;> simp
    rw [if_neg (by rw [hw]; decide)] at k
    have hg : l[i]? = some (l.getD i 0) := by rw [List.getD_eq_getElem?_getD, List.getElem?_eq_getElem hi]; rfl
    refine ⟨_, rfl, o, C, dx, _, _, rfl, ho, T.cl, T.nW, kf_w _ _, _, rfl, a, _, _, iv (l.getD i 0), rfl, rfl, SqL.of h.lst, atI_nat (ivs_at hg), ?_⟩
    refine ⟨_, rfl, _, rfl, o, C, dx, _, _, rfl, ho, T.cl, T.nW, kf_w _ _, _, rfl, a, _, _, i, rfl, rfl, h.lst, ixN_nat (by rw [ivs_len]; exact hi), ?_⟩
    have eA : (ivs ((some l).getD [])).set i (V.int (x : Int)) = ivs (l.set i x) := ivs_set l i x
    rw [eA]
    have h2 : KAt C (upd H a (.lst (ivs (l.set i x)))) o a (some (l.set i x)) := KAt.upd h
    refine ⟨_, rfl, (by show 1 ≤ sizeLine; decide), fun p hp => ?_⟩
    have hpa : a ≠ p := ne_of_none h2.lst hp
    have hpH : H p = none := by rw [upd_ne (Ne.symm hpa)] at hp; exact hp
    refine k _ p a (h2.same (upd_new (Same.refl _) hp)) (.inl rfl) (fun b u e h1 h3 => ?_) hpH (Ne.symm hpa) upd_same
    rw [upd_ne (ne_of_none e hpH), upd_ne h3]
    exact e
def spOut (C : Addr) : Sp := fun vs H Q _ => ∃ (o a : Addr) (l : List Nat) (i : Nat), vs = [.ref o, .int i] ∧ KAt C H o a (some l) ∧ Wl l ∧ due1 C o a H Q (Kp293.step (some l) (.out i))
theorem scOut : FnScope ["self", "i"] ["self", "i"] (defScope sOut) := ⟨rfl, rfl, rfl, by decide +kernel, rfl, by decide +kernel, by decide +kernel⟩
theorem ok_out {f C : Addr} {fd : FuncData} (F : Fun K "out" "Kinds.out" sOut f fd) (T : Kc K mg C) : FnOk P w K mg base CX0 1 f fd ["self", "i"] (spOut C) := by
  refine F.ok scOut (fun vs H Q E h => ?_) (fun cdv A outer s H vs Q E hr h => ?_)
  · obtain ⟨o, a, l, i, rfl, _⟩ := h
    rfl
  · obtain ⟨o, a, l, i, rfl, h, hl, k⟩ := h
    refine ⟨_, pss_cons (ps_if (pt_cmpR op_ge (pv 1) (pe_callB call_len_seq (by rfl) T.bl.len PySem.boot_len (pa_cons (pe_fld (pv 0) rfl) pa_nil)) (nomark _)) (pss_one (ps_ret (pe_lst (pa_cons (pco T.cs.no_such) pa_nil)))) pss_nil)
      (pss_cons (ps_expr (pe_bm PySem.F.plainAttrs_list PySem.F.slot_list_pop PySem.F.type_list_pop mt_popAt (pe_fld (pv 0) rfl) (pa_cons (pv 1) pa_nil)))
      (pss_one (ps_ret (pe_lst (pa_cons (pe_callB call_len_seq (by rfl) T.bl.len PySem.boot_len (pa_cons (pe_fld (pv 0) rfl) pa_nil)) pa_nil))))), ?_⟩
    change due1 C o a H Q (if Kp293.is l i = false then (some l, Kp293.say (-2)) else (some (l.take i ++ l.drop (i + 1)), Kp293.say (l.length - 1 : Nat))) at k
    obtain ⟨dx, ho⟩ := h.obj
    have hlen : (((ivs ((some l).getD [])).length : Nat) : Int) = (l.length : Int) := by rw [ivs_len]; rfl
    refine ⟨_, rfl, _, rfl, o, C, dx, _, _, rfl, ho, T.cl, T.nW, kf_w _ _, a, _, rfl, .inl (SqL.of h.lst), _, _, rfl, rfl, _, rfl, ?_⟩
    refine ite2 (fun hc => ?_) (fun hc => ?_)
    · have hc' := of_decide_eq_true hc
      rw [hlen] at hc'
      rw [if_pos (is_iff.mpr (by omega))] at k
      exact ⟨(by show 1 ≤ sizeLine; decide), say_stay k h⟩
    rw [decide_eq_true_iff, hlen] at hc
    have hi : i < l.length := by omega
    rw [if_neg (by rw [is_iff]; omega), KdM.out_eq] at k
    have hg : l[i]? = some (l.getD i 0) := by rw [List.getD_eq_getElem?_getD, List.getElem?_eq_getElem hi]; rfl
    have h6 := hl.len
    have hsq : seqIndex? (i : Int) (ivs ((some l).getD [])).length = some i := (ixN_seq (ixN_nat (by rw [ivs_len]; exact hi))).1
    refine ⟨_, rfl, o, C, dx, _, _, rfl, ho, T.cl, T.nW, kf_w _ _, .inl ⟨rfl, _, SqL.of h.lst⟩, _, rfl, a, _, _, i, _, rfl, rfl, h.lst, by omega, by omega, hsq, ivs_at hg, ?_⟩
    have eA : (ivs ((some l).getD [])).eraseIdx i = ivs (l.eraseIdx i) := by
      show (ivs l).eraseIdx i = _
      unfold ivs
      rw [List.eraseIdx_eq_take_drop_succ, List.eraseIdx_eq_take_drop_succ, List.map_append, List.map_take, List.map_drop]
    rw [eA]
    have h2 : KAt C (upd H a (.lst (ivs (l.eraseIdx i)))) o a (some (l.eraseIdx i)) := KAt.upd h
    obtain ⟨dx2, ho2⟩ := h2.obj
    refine ⟨_, rfl, o, C, dx2, _, _, rfl, ho2, T.cl, T.nW, kf_w _ _, a, _, rfl, .inl (SqL.of h2.lst), (by show 1 ≤ sizeLine; decide), fun p hp => ?_⟩
    have hpa : a ≠ p := ne_of_none h2.lst hp
    have hpH : H p = none := by rw [upd_ne (Ne.symm hpa)] at hp; exact hp
    refine k _ p a (h2.same (upd_new (Same.refl _) hp)) (.inl rfl) (fun b u e h1 h3 => ?_) hpH (Ne.symm hpa) ?_
    · rw [upd_ne (ne_of_none e hpH), upd_ne h3]
      exact e
    · rw [upd_same]
      show some (HO.lst [V.int (((ivs (l.eraseIdx i)).length : Nat) : Int)]) = some (HO.lst [V.int ((l.length - 1 : Nat) : Int)])
      rw [ivs_len, List.length_eraseIdx_of_lt hi]
end
end Kd

set_option Elab.async false
set_option linter.all false
set_option maxRecDepth 100000
set_option maxHeartbeats 4000000
namespace Kd
open PySem PySem.Spec PyProof.Rows L2
def cs (l : List Nat) : List Int := l.map fun (x : Nat) => (x : Int)
/-- what is due of one call: its number, its numbers -/
def stp (st : Kp293.State) (q : Nat) (as : List Nat) : Kp293.State × List Int := Kp293Neutral.step st [(q : Int) :: cs as]
theorem stp_ok {st : Kp293.State} (h : KdM.Ok st) (q : Nat) (as : List Nat) : KdM.Ok (stp st q as).1 := by
  unfold stp Kp293Neutral.step
  split
  · exact h
  · exact h.step _
/-- answer's promise -/
def spAnswer (K : PySem.W.Frag) (C : Addr) : Sp := fun vs H Q _ => ∃ (o a g : Addr) (st : Kp293.State) (q : Nat) (as : List Nat), vs = [.ref o, .int q, .ref g] ∧ KAt C H o a st ∧ KdM.Ok st ∧ H g = some (.lst (ivs as)) ∧ g ≠ a ∧ q < 17 ∧ as.length = KdM.argc q ∧
  Res C o a H Q (stp st q as).2 (stp st q as).1
/-- the table of how many numbers a call has -/
def Tab (K : PySem.W.Frag) (mg : Str → Option Value) : Prop := ∃ t : Addr, mg "ARGUMENT_COUNTS" = some (.ref t) ∧ ∀ H : Hp, SqT K H t (ivs [0, 1, 2, 1, 2, 1, 1, 1, 1, 2, 1, 3, 2, 2, 3, 1, 0])
theorem argc_at {q : Nat} (h : q < 17) : ([0, 1, 2, 1, 2, 1, 1, 1, 1, 2, 1, 3, 2, 2, 3, 1, 0] : List Nat)[q]? = some (KdM.argc q) := by
  unfold KdM.argc
  rw [List.getD_eq_getElem?_getD, List.getElem?_eq_getElem (by exact h)]
  rfl
theorem cut_ivs (ns : List Nat) {i n : Nat} (h : i + n ≤ ns.length) : cutV (ivs ns) (some (i : Int)) (some ((i + n : Nat) : Int)) = ivs ((ns.drop i).take n) := by
  unfold cutV
  rw [HT.sIx_nat, HT.sIx_nat, ivs_len, Nat.min_eq_left (by omega), Nat.min_eq_left (by omega), show i + n - i = n by omega]
  unfold ivs
  rw [List.map_take, List.map_drop]
theorem ivs_cs (l : List Nat) : ivs l = (cs l).map V.int := ivs_ints l
section
variable {P : Program} {w : World} {K : PySem.W.Frag} {mg : Str → Option Value} {base : Heap}
def spAnswers (K : PySem.W.Frag) : Sp := fun vs H Q _ => ∃ (c : Addr) (ns : List Nat), vs = [.ref c] ∧ SqL K H c (ivs ns) ∧ PyKp293.answers_asked (cs ns) = true ∧
  ∀ (H' : Hp) (p : Addr), H' p = some (.lst ((PyKp293.answers (cs ns)).map V.int)) → Q (.ref p) H'
theorem scAnswers : FnScope ["calls", "kinds", "told", "start", "number", "behind", "answered"] ["calls"] (defScope sAnswers) := ⟨rfl, rfl, rfl, by decide +kernel, rfl, by decide +kernel, by decide +kernel⟩
theorem ok_answers {f C fI g : Addr} {fd fdI fg : FuncData} {j : Nat} (F : Fun K "answers" "answers" sAnswers f fd) (T : Kc K mg C) (M : Mk K C fI) (FI : Fun K "__init__" "Kinds.__init__" sInit fI fdI) (bI : Binds K fdI ["self"] [])
    (D : Dn K mg "answer" sAnswer ["kinds", "number", "given"] g fg) (GA : FnOk P w K mg base CX0 (j + 2) g fg ["kinds", "number", "given"] (spAnswer K C)) (TA : Tab K mg) : FnOk P w K mg base CX0 (j + 3) f fd ["calls"] (spAnswers K) := by
  have GI : FnOk P w K mg base CX0 1 fI fdI ["self"] (spInit C) := ok_init FI T
  obtain ⟨ta, tm, hta⟩ := TA
  refine F.ok scAnswers (fun vs H Q E h => ?_) (fun cdv A outer s H vs Q E hr h => ?_)
  · obtain ⟨c, ns, rfl, _⟩ := h
    rfl
  · obtain ⟨c, ns, rfl, hc, hask, k⟩ := h
    have hr2 : Room 2 _ := hr.mono (by omega)
    refine ⟨_, pss_cons (ps_set (i := 1) scAnswers.nd rfl (Or.inl rfl) (pe_make0 M GI hr2 rfl T.nm bI .nil pass0))
      (pss_cons (ps_set (i := 2) scAnswers.nd rfl (Or.inl rfl) (pe_lst pa_nil))
      (pss_cons (ps_set (i := 3) scAnswers.nd rfl (Or.inl rfl) pe_int)
      (pss_cons (ps_while PassesOwn.never (pt_cmpR op_lt (pv 3) (pe_callB call_len_seq (by rfl) T.bl.len PySem.boot_len (pa_cons (pv 0) pa_nil)) (nomark _))
        (pss_cons (ps_set (i := 4) scAnswers.nd rfl (Or.inl rfl) (pe_ix ix_list (pv 0) (pv 3) (fun _ _ => rfl)))
        (pss_cons (ps_set (i := 5) scAnswers.nd rfl (Or.inl rfl) (pe_op op_add (pe_op op_add (pv 3) pe_int) (pe_ix ix_tup (pe_glob (v := .ref ta) rfl tm rfl) (pv 4) (fun _ _ => rfl))))
        (pss_cons (ps_set (i := 6) scAnswers.nd rfl (Or.inl rfl) (pe_call GA hr rfl D.mg D.fn.kp D.bd .nil pass0 (pa_cons (pv 1) (pa_cons (pv 4) (pa_cons (pe_slice sl_list (pv 0) (po_some (pe_op op_add (pv 3) pe_int)) (po_some (pv 5))) pa_nil)))))
        (pss_cons (ps_expr (pe_bm PySem.F.plainAttrs_list PySem.F.slot_list_append PySem.F.type_list_append mt_append (pv 2) (pa_cons (pe_callB call_len_seq (by rfl) T.bl.len PySem.boot_len (pa_cons (pv 6) pa_nil)) pa_nil)))
        (pss_cons (ps_expr (pe_bm PySem.F.plainAttrs_list PySem.F.slot_list_extend PySem.F.type_list_extend mt_extend (pv 2) (pa_cons (pv 6) pa_nil)))
        (pss_one (ps_set (i := 3) scAnswers.nd rfl (Or.inl rfl) (pv 5)))))))))
      (pss_one (ps_ret (pv 2)))))), ?_⟩
    obtain ⟨cl, hcl, _, _, hshort⟩ := KdM.asked_of hask
    have hans := KdM.answers_of hcl
    -- kinds = Kinds()
    intro o dx ho hdx hne
    refine ⟨o, dx, rfl, upd_same, fun H1 a0 kat ha0 kp => ⟨rfl, ?_⟩⟩
    have s1 : Same H H1 := Same.made ho hdx kp
    have ha0H : H a0 = none := by
      cases e : H a0 with
      | none => rfl
      | some u =>
        rw [upd_ne (ne_of_none e ho), upd_ne (ne_of_none e hdx), e] at ha0
        cases ha0
    -- told = []
    refine ⟨Nat.zero_le _, fun t ht => ?_⟩
    have htH : H t = none := s1.free ht
    have kat2 : KAt C (upd H1 t (.lst [])) o a0 none := kat.same (upd_new (Same.refl H1) ht)
    have hta0 : t ≠ a0 := fun e => by rw [e, kat.lst] at ht; cases ht
    refine while_by (fun σ H' => ∃ (i : Nat) (a : Addr) (st : Kp293.State) (out : List Int) (fu : Nat) (rest : List (List (List Int))) (v4 v5 v6 : Option V), σ = [some (.ref c), some (.ref o), some (.ref t), some (.int (i : Nat)), v4, v5, v6] ∧ i ≤ ns.length ∧
        Same H H' ∧ H a = none ∧ t ≠ a ∧ KAt C H' o a st ∧ KdM.Ok st ∧ H' t = some (.lst (out.map V.int)) ∧ PyFlat.calls PyKp293.shape fu (cs (ns.drop i)) = some rest ∧ out ++ KdM.due st rest = PyKp293.answers (cs ns))
      (fun σ _ => match σ with | [_, _, _, some (.int i), _, _, _] => ns.length - i.toNat | _ => 0)
      ⟨0, a0, none, [], _, cl, none, none, none, rfl, Nat.zero_le _, upd_new s1 ht, ha0H, hta0, kat2, trivial, upd_same, by rw [List.drop_zero]; exact hcl, hans.symm⟩ ?_ ?_
    · rintro σ H' ⟨i, a, st, out, fu, rest, v4, v5, v6, rfl, hi, s2, haH, hta', kat', hok, ht', hcs, hdue⟩
      have hc' := s2.seq hc
      refine ⟨_, rfl, _, rfl, c, _, rfl, .inl hc', _, _, rfl, rfl, _, rfl, ?_⟩
      refine ite2 (fun hlt => ?_) (fun hlt => ?_)
      · have hil : i < ns.length := by
          have := of_decide_eq_true hlt
          rw [ivs_len] at this
          omega
        obtain ⟨p, hp⟩ : ∃ p, ns[i]? = some p := ⟨_, List.getElem?_eq_getElem hil⟩
        have edrop : ns.drop i = p :: ns.drop (i + 1) := by
          rw [List.drop_eq_getElem_cons hil]
          rw [List.getElem?_eq_getElem hil] at hp
          rw [Option.some.inj hp]
        rw [edrop] at hcs
        obtain ⟨q, fu', rest', _, epq, hq, hargs, erest, hcs'⟩ := KdM.calls_cons (show PyFlat.calls PyKp293.shape fu ((p : Int) :: cs (ns.drop (i + 1))) = some rest from hcs)
        have eq' : p = q := by omega
        subst eq'
        unfold cs at hargs
        rw [List.length_map, List.length_drop] at hargs
        have ecut := cut_ivs ns (i := i + 1) (n := KdM.argc p) (by omega)
        have etake : (cs (ns.drop (i + 1))).take (KdM.argc p) = cs ((ns.drop (i + 1)).take (KdM.argc p)) := by
          unfold cs
          rw [List.map_take]
        have edr : (cs (ns.drop (i + 1))).drop (KdM.argc p) = cs (ns.drop (i + 1 + KdM.argc p)) := by
          unfold cs
          rw [← List.map_drop, List.drop_drop]
        rw [edr] at hcs'
        rw [etake] at erest
        subst erest
        rw [KdM.due_cons] at hdue
        have hdue' : (out ++ [(((stp st p ((ns.drop (i + 1)).take (KdM.argc p))).2.length : Nat) : Int)] ++ (stp st p ((ns.drop (i + 1)).take (KdM.argc p))).2) ++ KdM.due (stp st p ((ns.drop (i + 1)).take (KdM.argc p))).1 rest' = PyKp293.answers (cs ns) := by
          rw [← hdue]
          show _ = out ++ (([(((stp st p ((ns.drop (i + 1)).take (KdM.argc p))).2.length : Nat) : Int)] ++ (stp st p ((ns.drop (i + 1)).take (KdM.argc p))).2) ++ KdM.due (stp st p ((ns.drop (i + 1)).take (KdM.argc p))).1 rest')
          simp only [List.append_assoc]
        have hlen := congrArg List.length hdue'
        simp only [List.length_append, List.length_cons, List.length_nil] at hlen
        -- number, behind
        refine ⟨_, rfl, _, rfl, c, _, _, iv p, rfl, rfl, hc', atI_nat (ivs_at hp), ?_⟩
        refine ⟨_, rfl, _, _, rfl, rfl, _, rfl, ta, _, _, iv (KdM.argc p), rfl, rfl, hta _, atI_nat (ivs_at (argc_at hq)), _, _, rfl, rfl, ?_⟩
        -- answer
        refine ⟨_, rfl, _, rfl, _, rfl, _, rfl, _, _, rfl, rfl, _, rfl, _, rfl, _, rfl, c, _, rfl, hc', fun gv hgv => ?_⟩
        have eb : ((i : Int) + 1 + ((KdM.argc p : Nat) : Int)) = ((i + 1 + KdM.argc p : Nat) : Int) := by omega
        have ei : ((i : Int) + 1) = ((i + 1 : Nat) : Int) := by omega
        show spAnswer K C _ (upd H' gv (.lst (cutV (ivs ns) (some ((i : Int) + 1)) (some ((i : Int) + 1 + ((KdM.argc p : Nat) : Int)))))) _ E0
        rw [eb, ei, ecut]
        have s3 : Same H' (upd H' gv (.lst (ivs ((ns.drop (i + 1)).take (KdM.argc p))))) := upd_new (Same.refl H') hgv
        have hga : gv ≠ a := fun e => by rw [e, kat'.lst] at hgv; cases hgv
        refine ⟨o, a, gv, st, p, (ns.drop (i + 1)).take (KdM.argc p), rfl, kat'.same s3, hok, upd_same, hga, hq, by rw [List.length_take, List.length_drop]; omega, ?_⟩
        intro H4 r a' kat4 ha' kp4 hr4 hra hr5
        have hoH : H o = none := ho
        have s4 : Same H H4 := fun b u e => kp4 b u (upd_new (Same.refl H') hgv b u (s2 b u e)) (ne_of_none e hoH) (ne_of_none e haH)
        have ht3 : (upd H' gv (.lst (ivs ((ns.drop (i + 1)).take (KdM.argc p))))) t = some (.lst (out.map V.int)) := s3 _ _ ht'
        have hot : t ≠ o := by
          obtain ⟨dd, hoo⟩ := kat'.obj
          exact ne_of ht' hoo (by intro q; cases q)
        have ht4 : H4 t = some (.lst (out.map V.int)) := kp4 _ _ ht3 hot hta'
        have hrt : r ≠ t := fun e => by rw [e, ht3] at hr4; cases hr4
        have hta4 : t ≠ a' := by
          rcases ha' with e | e
          · rw [e]; exact hta'
          · exact ne_of_none ht3 e
        have ha'H : H a' = none := by
          rcases ha' with e | e
          · rw [e]; exact haH
          · cases e2 : H a' with
            | none => rfl
            | some u =>
              rw [s3 _ _ (s2 _ _ e2)] at e
              cases e
        -- told.append(len(answered))
        refine ⟨_, rfl, .inl ⟨rfl, _, SqL.of ht4⟩, _, rfl, r, _, rfl, .inl (SqL.of hr5), t, _, _, rfl, rfl, ht4, ?_, ?_⟩
        · rw [List.length_map, sizeLine_eq]
          omega
        -- told.extend(answered)
        have hr6 : ∀ y, (upd H4 t y) r = some (.lst ((stp st p ((ns.drop (i + 1)).take (KdM.argc p))).2.map V.int)) := fun y => by rw [upd_ne hrt]; exact hr5
        refine ⟨_, rfl, .inl ⟨rfl, _, SqL.of upd_same⟩, _, rfl, t, r, _, _, rfl, rfl, upd_same, hr6 _, ?_, ?_⟩
        · rw [List.length_append, List.length_map, List.length_map, sizeLine_eq]
          show out.length + 1 + _ ≤ _
          omega
        rw [upd_upd]
        refine ⟨_, rfl, ?_⟩
        have hoa' : o ≠ t := fun e => hot e.symm
        refine ⟨⟨i + 1 + KdM.argc p, a', (stp st p ((ns.drop (i + 1)).take (KdM.argc p))).1, _, fu', rest', some (iv p), some (.int (((i + 1 : Nat) : Int) + ((KdM.argc p : Nat) : Int))), some (.ref r), ?_, by omega, upd_keep s4 htH, ha'H, hta4, ?_, stp_ok hok _ _, ?_, hcs', hdue'⟩, ?_⟩
        · show [some (V.ref c), some (V.ref o), some (V.ref t), some (V.int (((i + 1 : Nat) : Int) + ((KdM.argc p : Nat) : Int))), some (iv p), some (V.int (((i + 1 : Nat) : Int) + ((KdM.argc p : Nat) : Int))), some (V.ref r)] = _
          rw [Int.natCast_add (i + 1)]
        · obtain ⟨dd, hoo⟩ := kat4.obj
          exact ⟨⟨dd, by rw [upd_ne hoa']; exact hoo⟩, by rw [upd_ne (Ne.symm hta4)]; exact kat4.lst⟩
        · rw [upd_same]
          refine congrArg (fun z => some (HO.lst z)) ?_
          rw [List.map_append, List.map_append, List.length_map]
          rfl
        · show ns.length - (((i + 1 : Nat) : Int) + ((KdM.argc p : Nat) : Int)).toNat < ns.length - ((i : Nat) : Int).toNat
          omega
      · rw [decide_eq_true_iff, ivs_len] at hlt
        have ei : i = ns.length := by omega
        subst ei
        rw [List.drop_length] at hcs
        have er : rest = [] := Option.some.inj (hcs.symm.trans (KdM.calls_nil fu))
        subst er
        rw [KdM.due_nil, List.append_nil] at hdue
        subst hdue
        exact ⟨_, rfl, k H' t ht'⟩
    · rintro σ H' Q1 Q2 hQ ⟨x, hx, y, hy, p, ys, e1, hs, i, j, e2, e3, b, e4, q⟩
      exact ⟨x, hx, y, hy, p, ys, e1, hs, i, j, e2, e3, b, e4, hQ _ _ q⟩
end
end Kd

set_option Elab.async false
set_option linter.all false
set_option maxRecDepth 100000
set_option maxHeartbeats 4000000
namespace Kd
open PySem PySem.Spec PyProof.Rows L2
/-! ### what the new calls reckon -/
theorem wl_rep {m : Nat} (h : m ≤ 6) : KdM.Wl (List.replicate m 1) := ⟨by rw [List.length_replicate]; exact h, fun x hx => by
  rw [(List.mem_replicate.mp hx).2]
  decide⟩
theorem sum_sub (c : Nat) (g : Nat → Nat) : ∀ {l : List Nat}, (∀ u ∈ l, g u ≤ c) → Kp291.sum (l.map fun u => c - g u) + Kp291.sum (l.map g) = l.length * c
  | [], _ => by
    show 0 + 0 = 0 * c
    rw [Nat.zero_mul]
  | a :: l, h => by
    have h1 := sum_sub c g (l := l) fun u hu => h u (List.mem_cons_of_mem _ hu)
    have h2 := h a List.mem_cons_self
    rw [List.map_cons, List.map_cons, KdM.sum_cons, KdM.sum_cons, List.length_cons, Nat.succ_mul]
    omega
/-- the mean's number above, as it is kept along -/
theorem mean_along (l : List Nat) (n : Nat) : Kp293.meanUp l n + Kp291.sum (l.map fun u => (Kp291.sum l - u) ^ n) = l.length * Kp291.sum l ^ n :=
  sum_sub (Kp291.sum l ^ n) (fun u => (Kp291.sum l - u) ^ n) fun u _ => Nat.pow_le_pow_left (Nat.sub_le _ _) n
theorem two_le : ∀ {l : List Nat} {i j : Nat}, i ≠ j → l.getD i 0 + l.getD j 0 ≤ Kp291.sum l
  | [], i, j, _ => by simp
  | a :: l, 0, 0, h => absurd rfl h
  | a :: l, 0, j + 1, _ => by
    rw [KdM.sum_cons, List.getD_cons_zero, List.getD_cons_succ]
    by_cases c : j < l.length
    · have := le_sum (KdM.getD_mem c)
      omega
    · rw [List.getD_eq_getElem?_getD, List.getElem?_eq_none (by omega)]
      show a + 0 ≤ _
      omega
  | a :: l, i + 1, 0, _ => by
    rw [KdM.sum_cons, List.getD_cons_zero, List.getD_cons_succ]
    by_cases c : i < l.length
    · have := le_sum (KdM.getD_mem c)
      omega
    · rw [List.getD_eq_getElem?_getD, List.getElem?_eq_none (by omega)]
      show 0 + a ≤ _
      omega
  | a :: l, i + 1, j + 1, h => by
    have := two_le (l := l) (i := i) (j := j) (by omega)
    rw [KdM.sum_cons, List.getD_cons_succ, List.getD_cons_succ]
    omega
theorem at_getD {l : List Nat} {i : Nat} (hi : i < l.length) : l[i]? = some (l.getD i 0) := by
  rw [List.getD_eq_getElem?_getD, List.getElem?_eq_getElem hi]
  rfl
theorem blkNeed : blkC ["weights", "a", "b", "most", "total", "below", "missed", "n", "above", "heavy", "w"] (defScope sNeed) { kind := .function, names := [(".0", .local), ("heavy", .local), ("w", .local), ("total", .free)], isGenerator := false, isCoroutine := false } [("heavy", 9), ("w", 10)] = true := by decide +kernel
section
variable {P : Program} {w : World} {K : PySem.W.Frag} {mg : Str → Option Value} {base : Heap}
/-! ### even_mean -/
def spEven (K : PySem.W.Frag) : Sp := fun vs H Q E => ∃ n : Nat, n ≤ 12 ∧ spFr K [.int n] (fun _ => True) (fun l => Kp293.meanUp (List.replicate l.length 1) n) (fun l => Kp291.sum (List.replicate l.length 1) ^ n) vs H Q E
theorem scEven : FnScope ["weights", "n"] ["weights", "n"] (defScope sEven) := ⟨rfl, rfl, rfl, by decide +kernel, rfl, by decide +kernel, by decide +kernel⟩
theorem ok_even {f g : Addr} {fd fg : FuncData} (F : Fun K "even_mean" "even_mean" sEven f fd) (T : Ch K mg) (G : Dn K mg "mean_count" sMean ["weights", "n"] g fg) : FnOk P w K mg base CX0 4 f fd ["weights", "n"] (spEven K) := by
  have B := T.bl
  refine F.ok scEven (fun vs H Q E h => ?_) (fun cdv A outer s H vs Q E hr h => ?_)
  · obtain ⟨n, _, W, l, rfl, _⟩ := h
    rfl
  · obtain ⟨n, hn, W, l, rfl, hW, hl, hne, _, k⟩ := h
    have h6 := hl.len
    refine ⟨_, pss_one (ps_ret (pe_call (ok_mean G.fn T) hr rfl G.mg G.fn.kp G.bd .nil pass0 (pa_cons (pe_op op_rep (pe_lst (pa_cons pe_int pa_nil)) (pe_callB call_len_seq (by rfl) B.len PySem.boot_len (pa_cons (pv 0) pa_nil))) (pa_cons (pv 1) pa_nil)))), ?_⟩
    refine ⟨(by show 1 ≤ sizeLine; decide), fun z hz => ?_⟩
    have s1 : Same H (upd H z (.lst [.int 1])) := upd_new (Same.refl H) hz
    refine ⟨_, rfl, W, _, rfl, .inl (s1.seq hW), z, _, _, rfl, rfl, upd_same, Int.le_trans (by decide) (Int.natCast_nonneg _), by rw [ivs_len]; omega, ?_, fun q hq => ?_⟩
    · rw [ivs_len]
      show 1 * _ ≤ sizeLine
      rw [sizeLine_eq]
      omega
    have e0 : (List.replicate (((ivs l).length : Nat) : Int).toNat [V.int 1]).flatten = ivs (List.replicate l.length 1) := by
      rw [ivs_len, Int.toNat_natCast]
      unfold ivs
      rw [List.map_replicate, List.flatten_replicate_singleton]
      rfl
    rw [e0]
    have s2 : Same H (upd (upd H z (.lst [.int 1])) q (.lst (ivs (List.replicate l.length 1)))) := upd_new s1 hq
    refine ⟨_, rfl, n, hn, q, List.replicate l.length 1, rfl, SqL.of upd_same, wl_rep h6, ?_, trivial, fun H' p s3 hp e => ?_⟩
    · intro e
      have := congrArg List.length e
      rw [List.length_replicate] at this
      exact hne (List.length_eq_zero_iff.mp this)
    · exact k H' p (fun b u e => s3 b u (s2 b u e)) (s2.free hp) e
/-! ### chance_seen -/
def spCSeen (K : PySem.W.Frag) : Sp := fun vs H Q E => ∃ i n : Nat, n ≤ 12 ∧ spFr K [.int i, .int n] (fun l => i < l.length) (fun l => Kp291.sum l ^ n - (Kp291.sum l - l.getD i 0) ^ n) (fun l => Kp291.sum l ^ n) vs H Q E
theorem scCSeen : FnScope ["weights", "i", "n", "total", "below"] ["weights", "i", "n"] (defScope sCSeen) := ⟨rfl, rfl, rfl, by decide +kernel, rfl, by decide +kernel, by decide +kernel⟩
theorem ok_cseen {f : Addr} {fd : FuncData} (F : Fun K "chance_seen" "chance_seen" sCSeen f fd) (T : Ch K mg) : FnOk P w K mg base CX0 3 f fd ["weights", "i", "n"] (spCSeen K) := by
  obtain ⟨_, _, Gp⟩ := T.power
  obtain ⟨_, _, Gg⟩ := T.gcd
  obtain ⟨_, _, Gl⟩ := T.low
  have B := T.bl
  refine F.ok scCSeen (fun vs H Q E h => ?_) (fun cdv A outer s H vs Q E hr h => ?_)
  · obtain ⟨i, n, _, W, l, rfl, _⟩ := h
    rfl
  · obtain ⟨i, n, hn, W, l, rfl, hW, hl, hne, hi, k⟩ := h
    have hr1 : Room 1 _ := hr.mono (by decide)
    have hS := hl.sum
    have hS0 := hl.pos hne
    refine ⟨_, pss_cons (ps_set (i := 3) scCSeen.nd rfl (Or.inl rfl) (pe_callB (cr_sum rfl) (by rfl) B.sum boot_sum (pa_cons (pv 0) pa_nil)))
      (pss_cons (ps_set (i := 4) scCSeen.nd rfl (Or.inl rfl) (pe_call (ok_power Gp.fn B) hr1 rfl Gp.mg Gp.fn.kp Gp.bd .nil pass0 (pa_cons (pv 3) (pa_cons (pv 2) pa_nil))))
      (pss_one (ps_ret (pe_call (ok_low Gl.fn Gg) hr rfl Gl.mg Gl.fn.kp Gl.bd .nil pass0 (pa_cons (pe_op op_sub (pv 4) (pe_call (ok_power Gp.fn B) hr1 rfl Gp.mg Gp.fn.kp Gp.bd .nil pass0 (pa_cons (pe_op op_sub (pv 3) (pe_ix ix_list (pv 0) (pv 1) (fun _ _ => rfl))) (pa_cons (pv 2) pa_nil)))) (pa_cons (pv 4) pa_nil)))))), ?_⟩
    have hW' := hW
    rw [ivs_ints] at hW'
    refine ⟨_, rfl, W, _, rfl, hW', ?_⟩
    rw [sum_ints]
    refine ⟨_, rfl, _, rfl, Kp291.sum l, n, rfl, by omega, by omega, ?_⟩
    have hp0 : 0 < Kp291.sum l ^ n := Nat.pow_pos hS0
    have hpb : Kp291.sum l ^ n < 2 ^ 9000 := pow_big (by omega) (by omega)
    have hu1 : l.getD i 0 ≤ Kp291.sum l := le_sum (KdM.getD_mem hi)
    have hp1 : (Kp291.sum l - l.getD i 0) ^ n ≤ Kp291.sum l ^ n := Nat.pow_le_pow_left (Nat.sub_le _ _) n
    refine ⟨_, rfl, _, rfl, _, rfl, _, rfl, W, _, _, iv (l.getD i 0), rfl, rfl, hW, atI_nat (ivs_at (at_getD hi)), _, _, rfl, rfl, _, rfl, Kp291.sum l - l.getD i 0, n, ?_, by omega, by omega, _, _, rfl, rfl, _, rfl, Kp291.sum l ^ n - (Kp291.sum l - l.getD i 0) ^ n, Kp291.sum l ^ n, ?_, hp0, hpb, fun p hp => ?_⟩
    · show [V.int (((Kp291.sum l : Nat) : Int) - ((l.getD i 0 : Nat) : Int)), V.int (n : Int)] = _
      rw [Int.natCast_sub hu1]
    · show [V.int (((Kp291.sum l ^ n : Nat) : Int) - (((Kp291.sum l - l.getD i 0) ^ n : Nat) : Int)), V.int ((Kp291.sum l ^ n : Nat) : Int)] = _
      rw [Int.natCast_sub hp1]
    · exact k _ p (upd_new (Same.refl H) hp) hp upd_same
/-! ### chance_both -/
def spCBoth (K : PySem.W.Frag) : Sp := fun vs H Q E => ∃ i j n : Nat, n ≤ 12 ∧ spFr K [.int i, .int j, .int n] (fun l => i < l.length ∧ j < l.length ∧ i ≠ j) (fun l => Kp293.bothUp l i j n) (fun l => Kp291.sum l ^ n) vs H Q E
theorem scCBoth : FnScope ["weights", "i", "j", "n", "total", "below", "lacking_one", "lacking_both"] ["weights", "i", "j", "n"] (defScope sCBoth) := ⟨rfl, rfl, rfl, by decide +kernel, rfl, by decide +kernel, by decide +kernel⟩
theorem ok_cboth {f : Addr} {fd : FuncData} (F : Fun K "chance_both" "chance_both" sCBoth f fd) (T : Ch K mg) : FnOk P w K mg base CX0 3 f fd ["weights", "i", "j", "n"] (spCBoth K) := by
  obtain ⟨_, _, Gp⟩ := T.power
  obtain ⟨_, _, Gg⟩ := T.gcd
  obtain ⟨_, _, Gl⟩ := T.low
  have B := T.bl
  refine F.ok scCBoth (fun vs H Q E h => ?_) (fun cdv A outer s H vs Q E hr h => ?_)
  · obtain ⟨i, j, n, _, W, l, rfl, _⟩ := h
    rfl
  · obtain ⟨i, j, n, hn, W, l, rfl, hW, hl, hne, ⟨hi, hj, hij⟩, k⟩ := h
    have hr1 : Room 1 _ := hr.mono (by decide)
    have hS := hl.sum
    have hS0 := hl.pos hne
    refine ⟨_, pss_cons (ps_set (i := 4) scCBoth.nd rfl (Or.inl rfl) (pe_callB (cr_sum rfl) (by rfl) B.sum boot_sum (pa_cons (pv 0) pa_nil)))
      (pss_cons (ps_set (i := 5) scCBoth.nd rfl (Or.inl rfl) (pe_call (ok_power Gp.fn B) hr1 rfl Gp.mg Gp.fn.kp Gp.bd .nil pass0 (pa_cons (pv 4) (pa_cons (pv 3) pa_nil))))
      (pss_cons (ps_set (i := 6) scCBoth.nd rfl (Or.inl rfl) (pe_op op_add (pe_call (ok_power Gp.fn B) hr1 rfl Gp.mg Gp.fn.kp Gp.bd .nil pass0 (pa_cons (pe_op op_sub (pv 4) (pe_ix ix_list (pv 0) (pv 1) (fun _ _ => rfl))) (pa_cons (pv 3) pa_nil)))
        (pe_call (ok_power Gp.fn B) hr1 rfl Gp.mg Gp.fn.kp Gp.bd .nil pass0 (pa_cons (pe_op op_sub (pv 4) (pe_ix ix_list (pv 0) (pv 2) (fun _ _ => rfl))) (pa_cons (pv 3) pa_nil)))))
      (pss_cons (ps_set (i := 7) scCBoth.nd rfl (Or.inl rfl) (pe_call (ok_power Gp.fn B) hr1 rfl Gp.mg Gp.fn.kp Gp.bd .nil pass0 (pa_cons (pe_op op_sub (pe_op op_sub (pv 4) (pe_ix ix_list (pv 0) (pv 1) (fun _ _ => rfl))) (pe_ix ix_list (pv 0) (pv 2) (fun _ _ => rfl))) (pa_cons (pv 3) pa_nil))))
      (pss_one (ps_ret (pe_call (ok_low Gl.fn Gg) hr rfl Gl.mg Gl.fn.kp Gl.bd .nil pass0 (pa_cons (pe_op op_add (pe_op op_sub (pv 5) (pv 6)) (pv 7)) (pa_cons (pv 5) pa_nil)))))))), ?_⟩
    have hW' := hW
    rw [ivs_ints] at hW'
    refine ⟨_, rfl, W, _, rfl, hW', ?_⟩
    rw [sum_ints]
    refine ⟨_, rfl, _, rfl, Kp291.sum l, n, rfl, by omega, by omega, ?_⟩
    have hp0 : 0 < Kp291.sum l ^ n := Nat.pow_pos hS0
    have hpb : Kp291.sum l ^ n < 2 ^ 9000 := pow_big (by omega) (by omega)
    have hxy := two_le (l := l) hij
    have hx : (iv (l.getD i 0)) = V.int ((l.getD i 0 : Nat) : Int) := rfl
    have gi := atI_nat (ivs_at (at_getD hi))
    have gj := atI_nat (ivs_at (at_getD hj))
    have hb := KdM.both_le (Kp291.sum l - l.getD i 0 - l.getD j 0) (l.getD i 0) (l.getD j 0) n
    have hup : Kp293.bothUp l i j n = Kp291.sum l ^ n + (Kp291.sum l - l.getD i 0 - l.getD j 0) ^ n - ((Kp291.sum l - l.getD i 0) ^ n + (Kp291.sum l - l.getD j 0) ^ n) := rfl
    rw [show Kp291.sum l - l.getD i 0 - l.getD j 0 + l.getD j 0 = Kp291.sum l - l.getD i 0 by omega, show Kp291.sum l - l.getD i 0 - l.getD j 0 + l.getD i 0 = Kp291.sum l - l.getD j 0 by omega, show Kp291.sum l - l.getD j 0 + l.getD j 0 = Kp291.sum l by omega] at hb
    refine ⟨_, rfl, _, rfl, _, rfl, W, _, _, iv (l.getD i 0), rfl, rfl, hW, gi, _, _, rfl, rfl, _, rfl, Kp291.sum l - l.getD i 0, n, ?_, by omega, by omega, ?_⟩
    · show [V.int (((Kp291.sum l : Nat) : Int) - ((l.getD i 0 : Nat) : Int)), V.int (n : Int)] = _
      rw [Int.natCast_sub (by omega)]
    refine ⟨_, rfl, _, rfl, _, rfl, W, _, _, iv (l.getD j 0), rfl, rfl, hW, gj, _, _, rfl, rfl, _, rfl, Kp291.sum l - l.getD j 0, n, ?_, by omega, by omega, _, _, rfl, rfl, ?_⟩
    · show [V.int (((Kp291.sum l : Nat) : Int) - ((l.getD j 0 : Nat) : Int)), V.int (n : Int)] = _
      rw [Int.natCast_sub (by omega)]
    refine ⟨_, rfl, _, rfl, _, rfl, W, _, _, iv (l.getD i 0), rfl, rfl, hW, gi, _, _, rfl, rfl, _, rfl, _, rfl, W, _, _, iv (l.getD j 0), rfl, rfl, hW, gj, _, _, rfl, rfl, _, rfl, Kp291.sum l - l.getD i 0 - l.getD j 0, n, ?_, by omega, by omega, ?_⟩
    · show [V.int (((Kp291.sum l : Nat) : Int) - ((l.getD i 0 : Nat) : Int) - ((l.getD j 0 : Nat) : Int)), V.int (n : Int)] = _
      rw [Int.natCast_sub (by omega), Int.natCast_sub (by omega)]
    refine ⟨_, rfl, _, rfl, _, _, rfl, rfl, _, rfl, _, _, rfl, rfl, _, rfl, Kp293.bothUp l i j n, Kp291.sum l ^ n, ?_, hp0, hpb, fun p hp => ?_⟩
    · show [V.int (((Kp291.sum l ^ n : Nat) : Int) - ((((Kp291.sum l - l.getD i 0) ^ n : Nat) : Int) + (((Kp291.sum l - l.getD j 0) ^ n : Nat) : Int)) + (((Kp291.sum l - l.getD i 0 - l.getD j 0) ^ n : Nat) : Int)), V.int ((Kp291.sum l ^ n : Nat) : Int)] = _
      rw [hup]
      generalize Kp291.sum l ^ n = A at *
      generalize (Kp291.sum l - l.getD i 0 - l.getD j 0) ^ n = B at *
      generalize (Kp291.sum l - l.getD i 0) ^ n = C at *
      generalize (Kp291.sum l - l.getD j 0) ^ n = D at *
      rw [show ((A : Int) - ((C : Int) + (D : Int)) + (B : Int)) = ((A + B - (C + D) : Nat) : Int) by omega]
    · exact k _ p (upd_new (Same.refl H) hp) hp upd_same
end
end Kd

set_option Elab.async false
set_option linter.all false
set_option maxRecDepth 100000
set_option maxHeartbeats 4000000
namespace Kd
open PySem PySem.Spec PyProof.Rows L2
section
variable {P : Program} {w : World} {K : PySem.W.Frag} {mg : Str → Option Value} {base : Heap}
/-! ### draws_needed -/
/-- a number of draws, or None -/
def nv : Option Nat → V
  | some n => iv n
  | none => .non
def spNeed (K : PySem.W.Frag) : Sp := fun vs H Q _ => ∃ (W : Addr) (l : List Nat) (a b : Nat), vs = [.ref W, .int a, .int b, .int 399] ∧ SqL K H W (ivs l) ∧ Wl l ∧ l ≠ [] ∧ a ≤ 100 ∧ b ≤ 100 ∧
  ∀ H' : Hp, Same H H' → Q (nv (Kp293.needed l a b)) H'
theorem scNeed : FnScope ["weights", "a", "b", "most", "total", "below", "missed", "n", "above", "heavy", "w"] ["weights", "a", "b", "most"] (defScope sNeed) := ⟨rfl, rfl, rfl, by decide +kernel, rfl, by decide +kernel, by decide +kernel⟩
theorem ok_need {f : Addr} {fd : FuncData} (F : Fun K "draws_needed" "draws_needed" sNeed f fd) (B : Bl mg) : FnOk P w K mg base CX0 1 f fd ["weights", "a", "b", "most"] (spNeed K) := by
  refine F.ok scNeed (fun vs H Q E h => ?_) (fun cdv A outer s H vs Q E hr h => ?_)
  · obtain ⟨W, l, a, b, rfl, _⟩ := h
    rfl
  · obtain ⟨W, l, a, b, rfl, hW, hl, hne, ha, hb, k⟩ := h
    have hS := hl.sum
    have hS0 := hl.pos hne
    have h6 := hl.len
    refine ⟨_, pss_cons (ps_set (i := 4) scNeed.nd rfl (Or.inr rfl) (pe_callB (cr_sum rfl) (by rfl) B.sum boot_sum (pa_cons (pv 0) pa_nil)))
      (pss_cons (ps_set (i := 5) scNeed.nd rfl (Or.inl rfl) pe_int)
      (pss_cons (ps_set (i := 6) scNeed.nd rfl (Or.inl rfl) (pe_op op_rep (pe_lst (pa_cons pe_int pa_nil)) (pe_callB call_len_seq (by rfl) B.len PySem.boot_len (pa_cons (pv 0) pa_nil))))
      (pss_cons (ps_for PassesOwn.never rfl (pi_range1 rfl B.range (pa_cons (pe_op op_add (pv 3) pe_int) pa_nil)) (pg_name (i := 7) scNeed.nd rfl (Or.inl rfl))
        (pss_cons (ps_set (i := 8) scNeed.nd rfl (Or.inl rfl) (pe_op op_sub (pe_op op_mul (pe_callB call_len_seq (by rfl) B.len PySem.boot_len (pa_cons (pv 0) pa_nil)) (pv 5)) (pe_callB (cr_sum rfl) (by rfl) B.sum boot_sum (pa_cons (pv 6) pa_nil))))
        (pss_cons (ps_if (pt_cmpR op_ge (pe_op op_mul (pv 8) (pv 2)) (pe_op op_mul (pv 1) (pv 5)) (nomark _)) (pss_one (ps_ret (pv 7))) pss_nil)
        (pss_cons (ps_set (i := 5) scNeed.nd rfl (Or.inl rfl) (pe_op op_mul (pv 5) (pv 4)))
        (pss_one (ps_setLc (i := 6) (own := [("heavy", 9), ("w", 10)]) (g := gTup K 2 (gCons (gName 9) (gCons (gName 10) gNil))) rfl scNeed.nd rfl rfl (sw_true rfl rfl rfl rfl) (pi_zip rfl B.zip (pa_cons (pv 6) (pa_cons (pv 0) pa_nil))) (blkOk_by blkNeed)
          (fun s H C cl fp => pg_tup rfl (pgs_cons (pg_name (i := 9) scNeed.nd rfl (Or.inl rfl)) (pgs_cons (pg_name (i := 10) scNeed.nd rfl (Or.inl rfl)) pgs_nil))) (fun s H C cl fp => pts_nil)
          (fun s H C cl fp => pe_op op_mul (pv 9) (pe_op op_sub (pv 4) (pv 10)))))))))
      (pss_one (ps_ret pe_non))))), ?_⟩
    have hW' := hW
    rw [ivs_ints] at hW'
    refine ⟨_, rfl, W, _, rfl, hW', ?_⟩
    rw [sum_ints]
    refine ⟨(by show 1 ≤ sizeLine; decide), fun z hz => ?_⟩
    have s1 : Same H (upd H z (.lst [.int 1])) := upd_new (Same.refl H) hz
    refine ⟨_, rfl, W, _, rfl, .inl (s1.seq hW), z, _, _, rfl, rfl, upd_same, Int.le_trans (by decide) (Int.natCast_nonneg _), by rw [ivs_len]; omega, ?_, fun q hq => ?_⟩
    · rw [ivs_len]
      show 1 * _ ≤ sizeLine
      rw [sizeLine_eq]
      omega
    have e0 : (List.replicate (((ivs l).length : Nat) : Int).toNat [V.int 1]).flatten = ivs (l.map fun u => (Kp291.sum l - u) ^ 0) := by
      rw [ivs_len, Int.toNat_natCast]
      unfold ivs
      rw [List.flatten_replicate_singleton, List.map_map]
      show _ = List.map (fun _ => iv 1) l
      rw [List.map_const']
      rfl
    rw [e0]
    have s2 : Same H (upd (upd H z (.lst [.int 1])) q (.lst (ivs (l.map fun u => (Kp291.sum l - u) ^ 0)))) := upd_new s1 hq
    refine ⟨_, rfl, _, _, rfl, rfl, (400 : Int), rfl, by omega, by omega, for_range (lo := 0) (n := 400) (fun i σ H' => ∃ (M : Addr) (v7 v8 v9 v10 : Option V), σ = [some (.ref W), some (.int a), some (.int b), some (.int 399), some (.int ((Kp291.sum l : Nat) : Int)), some (.int ((Kp291.sum l ^ i : Nat) : Int)), some (.ref M), v7, v8, v9, v10] ∧
      Same H H' ∧ SqL K H' M (ivs (l.map fun u => (Kp291.sum l - u) ^ i)) ∧ ∀ m, m < i → decide (a * Kp291.sum l ^ m ≤ b * Kp293.meanUp l m) = false) ⟨q, none, none, none, none, ?_, s2, SqL.of upd_same, fun m hm => absurd hm (Nat.not_lt_zero m)⟩ ?_ ?_⟩
    · rfl
    · rintro i σ H' hi ⟨M, v7, v8, v9, v10, rfl, s3, hM, hno⟩
      have hal := mean_along l i
      have hW3 := s3.seq hW
      refine ⟨_, rfl, W, _, rfl, .inl hW3, ?_⟩
      rw [ivs_len]
      refine ⟨_, rfl, _, _, rfl, rfl, .inl ⟨by omega, by omega⟩, _, rfl, M, _, rfl, sq_ints hM, ?_⟩
      rw [sum_ints]
      refine ⟨_, _, rfl, rfl, ?_⟩
      have eU : ((l.length : Nat) : Int) * ((Kp291.sum l ^ i : Nat) : Int) - ((Kp291.sum (l.map fun u => (Kp291.sum l - u) ^ i) : Nat) : Int) = ((Kp293.meanUp l i : Nat) : Int) := by
        rw [← Int.natCast_mul, ← hal]
        omega
      dsimp only
      rw [eU]
      refine ⟨_, rfl, _, rfl, _, _, rfl, rfl, .inr ⟨by omega, by omega⟩, _, rfl, _, rfl, _, _, rfl, rfl, .inl ⟨by omega, by omega⟩, _, _, rfl, rfl, _, rfl, ?_⟩
      have eC : (decide (((Kp293.meanUp l i : Nat) : Int) * ((b : Nat) : Int) ≥ ((a : Nat) : Int) * ((Kp291.sum l ^ i : Nat) : Int)) = true) ↔ decide (a * Kp291.sum l ^ i ≤ b * Kp293.meanUp l i) = true := by
        rw [decide_eq_true_iff, decide_eq_true_iff, ← Int.natCast_mul, ← Int.natCast_mul, Nat.mul_comm b]
        omega
      refine ite2 (fun hc => ?_) (fun hc => ?_)
      · refine ⟨_, rfl, ?_⟩
        have e : Kp293.needed l a b = some i := KdM.find_some hi (eC.mp hc) hno
        have := k H' s3
        rw [e] at this
        show Q (.int (0 + (i : Int))) H'
        rw [Int.zero_add]
        exact this
      · have hno2 : decide (a * Kp291.sum l ^ i ≤ b * Kp293.meanUp l i) = false := by
          cases h : decide (a * Kp291.sum l ^ i ≤ b * Kp293.meanUp l i) with
          | false => rfl
          | true => exact absurd (eC.mpr h) hc
        refine ⟨_, rfl, _, rfl, _, _, rfl, rfl, .inr ⟨by omega, by omega⟩, ?_⟩
        refine ⟨_, rfl, _, rfl, M, W, _, _, rfl, hM, hW3, fun D hD => ?_⟩
        refine ⟨fun t m H2 => m = l.length - t ∧ t ≤ l.length ∧ Same H' H2 ∧ H2 D = some (.lst (ivs ((l.take t).map fun u => (Kp291.sum l - u) ^ (i + 1)))), ⟨_, rfl, Nat.zero_le _, upd_new (Same.refl H') hD, upd_same⟩, ?_⟩
        rintro t m H2 ⟨rfl, ht, s4, hD2⟩
        have hM2 := s4.seq hM
        have hW2 := s4.seq hW3
        by_cases hlt : t < l.length
        · have hu := at_getD hlt
          have hmu : (l.map fun u => (Kp291.sum l - u) ^ i)[t]? = some ((Kp291.sum l - l.getD t 0) ^ i) := by
            rw [List.getElem?_map, hu]
            rfl
          refine .inr ⟨⟨_, _, _, _, hM2, hW2, ivs_at hmu, ivs_at hu⟩, fun H3 => ∃ m', m' < l.length - t ∧ m' = l.length - (t + 1) ∧ t + 1 ≤ l.length ∧ Same H' H3 ∧ H3 D = some (.lst (ivs ((l.take (t + 1)).map fun u => (Kp291.sum l - u) ^ (i + 1)))), fun H3 ⟨m', h1, h2⟩ => ⟨m', h1, h2⟩, ?_⟩
          rintro v H3 ⟨T, x, y, rfl, hT, rfl, hx, hy⟩
          have ex := Option.some.inj ((hx _ hM2).symm.trans (ivs_at hmu))
          have ey := Option.some.inj ((hy _ hW2).symm.trans (ivs_at hu))
          subst ex ey
          have hx1 := le_sum (KdM.getD_mem hlt)
          have hx2 := (hl.at hlt).2
          have hDT : D ≠ T := ne_of_none hD2 hT
          refine ⟨T, _, rfl, SqT.of upd_same, rfl, _, _, rfl, _, _, rfl, rfl, ?_⟩
          refine ⟨rfl, ?_⟩
          refine ⟨_, rfl, _, rfl, _, rfl, _, _, rfl, rfl, _, _, rfl, rfl, .inr ⟨by omega, by omega⟩, _, by rw [upd_ne hDT]; exact hD2, ?_, ?_⟩
          · rw [ivs_len, List.length_map, List.length_take, sizeLine_eq]
            omega
          · refine ⟨_, by omega, rfl, hlt, upd_keep (upd_new s4 hT) hD, ?_⟩
            rw [upd_same]
            refine congrArg (fun z => some (HO.lst z)) ?_
            rw [take_map _ hu]
            unfold ivs
            rw [List.map_append]
            show _ = _ ++ [V.int (((Kp291.sum l - l.getD t 0) ^ (i + 1) : Nat) : Int)]
            rw [Nat.pow_succ, Int.natCast_mul, Int.natCast_sub hx1]
        · have et : t = l.length := by omega
          subst et
          rw [List.take_length] at hD2
          refine .inl ⟨⟨_, _, hM2, hW2, .inr (by rw [ivs_len]; exact Nat.le_refl _)⟩, ?_⟩
          refine ⟨D, some (.int (0 + (i : Int))), some (.int ((Kp293.meanUp l i : Nat) : Int)), v9, v10, ?_, fun b u e => s4 b u (s3 b u e), SqL.of hD2, fun m hm => ?_⟩
          · show [some (V.ref W), some (V.int a), some (V.int b), some (V.int 399), some (V.int ((Kp291.sum l : Nat) : Int)), some (V.int (((Kp291.sum l ^ i : Nat) : Int) * ((Kp291.sum l : Nat) : Int))), some (V.ref D), some (V.int (0 + (i : Int))), some (V.int ((Kp293.meanUp l i : Nat) : Int)), v9, v10] = _
            rw [Nat.pow_succ, Int.natCast_mul]
          · by_cases c : m < i
            · exact hno m c
            · have e : m = i := by omega
              rw [e]
              exact hno2
    · rintro σ H' ⟨M, v7, v8, v9, v10, rfl, s3, hM, hno⟩
      have e : Kp293.needed l a b = none := KdM.find_none hno
      have := k H' s3
      rw [e] at this
      exact this
end
end Kd

set_option Elab.async false
set_option linter.all false
set_option maxRecDepth 100000
set_option maxHeartbeats 4000000
namespace Kd
open PySem PySem.Spec PyProof.Rows L2
/-- what refuses two numbers as two kinds -/
def pairR (l : List Nat) (i j : Nat) : Int := if l.length ≤ i ∨ l.length ≤ j then -2 else if i = j then -22 else 0
section
variable {P : Program} {w : World} {K : PySem.W.Frag} {mg : Str → Option Value} {base : Heap}
/-! ### pair_refusal -/
def spPair (K : PySem.W.Frag) : Sp := fun vs H Q _ => ∃ (W : Addr) (l : List Nat) (i j : Nat), vs = [.ref W, .int i, .int j] ∧ SqL K H W (ivs l) ∧ Q (.int (pairR l i j)) H
theorem scPair : FnScope ["weights", "i", "j"] ["weights", "i", "j"] (defScope sPair) := ⟨rfl, rfl, rfl, by decide +kernel, rfl, by decide +kernel, by decide +kernel⟩
theorem ok_pair {f : Addr} {fd : FuncData} (F : Fun K "pair_refusal" "pair_refusal" sPair f fd) (B : Bl mg) (S : Cs mg) : FnOk P w K mg base CX0 1 f fd ["weights", "i", "j"] (spPair K) := by
  refine F.ok scPair (fun vs H Q E h => ?_) (fun cdv A outer s H vs Q E hr h => ?_)
  · obtain ⟨W, l, i, j, rfl, _⟩ := h
    rfl
  · obtain ⟨W, l, i, j, rfl, hW, k⟩ := h
    refine ⟨_, pss_cons (ps_if (pt_cmpR op_ge (pe_callB (call_max2 rfl) (by rfl) B.max boot_max (pa_cons (pv 1) (pa_cons (pv 2) pa_nil))) (pe_callB call_len_seq (by rfl) B.len PySem.boot_len (pa_cons (pv 0) pa_nil)) (nomark _)) (pss_one (ps_ret (pco S.no_such))) pss_nil)
      (pss_cons (ps_if (pt_cmpR op_eq (pv 1) (pv 2) (nomark _)) (pss_one (ps_ret (pco S.not_allowed))) pss_nil)
      (pss_one (ps_ret pe_int))), ?_⟩
    refine ⟨_, rfl, _, rfl, _, _, rfl, _, rfl, W, _, rfl, .inl hW, _, _, rfl, rfl, _, rfl, ?_⟩
    unfold pairR at k
    refine ite2 (fun hc => ?_) (fun hc => ?_)
    · have hc' := of_decide_eq_true hc
      rw [ivs_len] at hc'
      rw [if_pos (by split at hc' <;> omega)] at k
      exact k
    · rw [decide_eq_true_iff, ivs_len] at hc
      rw [if_neg (by split at hc <;> omega)] at k
      refine ⟨_, rfl, _, rfl, rfl, _, rfl, ?_⟩
      refine ite2 (fun hc => ?_) (fun hc => ?_)
      · have e := of_decide_eq_true hc
        injection e with e
        rw [if_pos (by omega)] at k
        exact k
      · rw [decide_eq_true_iff] at hc
        rw [if_neg (fun e => hc (by rw [e]))] at k
        exact k
/-! ### can_level -/
def spCan (K : PySem.W.Frag) : Sp := fun vs H Q _ => ∃ (W : Addr) (l : List Nat) (i j : Nat), vs = [.ref W, .int i, .int j] ∧ SqL K H W (ivs l) ∧ i < l.length ∧ j < l.length ∧ Q (.bl (decide ((l.getD i 0 + l.getD j 0) % 2 = 0))) H
theorem scCan : FnScope ["weights", "i", "j"] ["weights", "i", "j"] (defScope sCan) := ⟨rfl, rfl, rfl, by decide +kernel, rfl, by decide +kernel, by decide +kernel⟩
theorem ok_can {f : Addr} {fd : FuncData} (F : Fun K "can_level" "can_level" sCan f fd) : FnOk P w K mg base CX0 1 f fd ["weights", "i", "j"] (spCan K) := by
  refine F.ok scCan (fun vs H Q E h => ?_) (fun cdv A outer s H vs Q E hr h => ?_)
  · obtain ⟨W, l, i, j, rfl, _⟩ := h
    rfl
  · obtain ⟨W, l, i, j, rfl, hW, hi, hj, k⟩ := h
    refine ⟨_, pss_one (ps_ret (pe_cmpR op_eq (pe_op op_mod (pe_op op_add (pe_ix ix_list (pv 0) (pv 1) (fun _ _ => rfl)) (pe_ix ix_list (pv 0) (pv 2) (fun _ _ => rfl))) pe_int) pe_int (nomark _))), ?_⟩
    refine ⟨_, rfl, _, rfl, W, _, _, iv (l.getD i 0), rfl, rfl, hW, atI_nat (ivs_at (at_getD hi)), _, rfl, _, rfl, W, _, _, iv (l.getD j 0), rfl, rfl, hW, atI_nat (ivs_at (at_getD hj)), _, _, rfl, rfl, _, _, rfl, rfl, (by show (0 : Int) < 2; decide), rfl, ?_⟩
    have e : decide (V.int ((((l.getD i 0 : Nat) : Int) + ((l.getD j 0 : Nat) : Int)) % 2) = V.int 0) = decide ((l.getD i 0 + l.getD j 0) % 2 = 0) := by
      rw [decide_eq_decide]
      constructor
      · intro h
        injection h with h
        omega
      · intro h
        rw [show (((l.getD i 0 : Nat) : Int) + ((l.getD j 0 : Nat) : Int)) % 2 = 0 by omega]
    show Q (.bl (decide (V.int ((((l.getD i 0 : Nat) : Int) + ((l.getD j 0 : Nat) : Int)) % 2) = V.int 0))) H
    rw [e]
    exact k
theorem bootL : bootBuiltins "list" = some (.type "list") := by decide +kernel
/-! ### leveled -/
def spLev (K : PySem.W.Frag) : Sp := fun vs H Q _ => ∃ (W : Addr) (l : List Nat) (i j : Nat), vs = [.ref W, .int i, .int j] ∧ SqL K H W (ivs l) ∧ i < l.length ∧ j < l.length ∧ ∀ p, H p = none → Q (.ref p) (upd H p (.lst (ivs (Kp291.level l i j))))
theorem scLev : FnScope ["weights", "i", "j", "half", "behind"] ["weights", "i", "j"] (defScope sLev) := ⟨rfl, rfl, rfl, by decide +kernel, rfl, by decide +kernel, by decide +kernel⟩
theorem ok_lev {f : Addr} {fd : FuncData} (F : Fun K "leveled" "leveled" sLev f fd) (B : Bl mg) : FnOk P w K mg base CX0 1 f fd ["weights", "i", "j"] (spLev K) := by
  refine F.ok scLev (fun vs H Q E h => ?_) (fun cdv A outer s H vs Q E hr h => ?_)
  · obtain ⟨W, l, i, j, rfl, _⟩ := h
    rfl
  · obtain ⟨W, l, i, j, rfl, hW, hi, hj, k⟩ := h
    refine ⟨_, pss_cons (ps_set (i := 3) scLev.nd rfl (Or.inl rfl) (pe_op op_fdiv (pe_op op_add (pe_ix ix_list (pv 0) (pv 1) (fun _ _ => rfl)) (pe_ix ix_list (pv 0) (pv 2) (fun _ _ => rfl))) pe_int))
      (pss_cons (ps_set (i := 4) scLev.nd rfl (Or.inl rfl) (pe_callTy call_list_of (by rfl) B.list bootL (pa_cons (pv 0) pa_nil)))
      (pss_cons (ps_asg (pv 3) (pg_sub (pv 4) (pv 1) set_list))
      (pss_cons (ps_asg (pv 3) (pg_sub (pv 4) (pv 2) set_list))
      (pss_one (ps_ret (pv 4)))))), ?_⟩
    refine ⟨_, rfl, _, rfl, W, _, _, iv (l.getD i 0), rfl, rfl, hW, atI_nat (ivs_at (at_getD hi)), _, rfl, _, rfl, W, _, _, iv (l.getD j 0), rfl, rfl, hW, atI_nat (ivs_at (at_getD hj)), _, _, rfl, rfl, _, _, rfl, rfl, ⟨by decide, by decide⟩, ?_⟩
    refine ⟨_, rfl, W, _, rfl, .inl hW, fun p hp => ?_⟩
    have eh : V.int ((((l.getD i 0 : Nat) : Int) + ((l.getD j 0 : Nat) : Int)) / 2) = iv ((l.getD i 0 + l.getD j 0) / 2) := by
      unfold iv
      rw [show (((l.getD i 0 : Nat) : Int) + ((l.getD j 0 : Nat) : Int)) / 2 = (((l.getD i 0 + l.getD j 0) / 2 : Nat) : Int) by omega]
    refine ⟨_, rfl, _, rfl, _, rfl, p, _, _, i, rfl, rfl, upd_same, ixN_nat (by rw [ivs_len]; exact hi), ?_⟩
    have e1 : (ivs l).set i (V.int ((((l.getD i 0 : Nat) : Int) + ((l.getD j 0 : Nat) : Int)) / 2)) = ivs (l.set i ((l.getD i 0 + l.getD j 0) / 2)) := by
      rw [eh, ivs_set]
    refine ⟨_, rfl, _, rfl, _, rfl, p, _, _, j, rfl, rfl, upd_same, ixN_nat (by rw [List.length_set, ivs_len]; exact hj), ?_⟩
    refine ⟨_, rfl, ?_⟩
    show Q (.ref p) (upd (upd (upd H p (.lst (ivs l))) p (.lst ((ivs l).set i (V.int ((((l.getD i 0 : Nat) : Int) + ((l.getD j 0 : Nat) : Int)) / 2))))) p (.lst (((ivs l).set i (V.int ((((l.getD i 0 : Nat) : Int) + ((l.getD j 0 : Nat) : Int)) / 2))).set j (V.int ((((l.getD i 0 : Nat) : Int) + ((l.getD j 0 : Nat) : Int)) / 2)))))
    rw [upd_upd, upd_upd, e1, eh, ivs_set]
    exact k p hp
/-! ### level -/
def spLevel (C : Addr) : Sp := fun vs H Q _ => ∃ (o a : Addr) (l : List Nat) (i j : Nat), vs = [.ref o, .int i, .int j] ∧ KAt C H o a (some l) ∧ Wl l ∧ due1 C o a H Q (Kp293.step (some l) (.level i j))
theorem scLevel : FnScope ["self", "i", "j", "refusal"] ["self", "i", "j"] (defScope sLevel) := ⟨rfl, rfl, rfl, by decide +kernel, rfl, by decide +kernel, by decide +kernel⟩
theorem is_or {l : List Nat} {i j : Nat} : (Kp293.is l i = false ∨ Kp293.is l j = false) ↔ (l.length ≤ i ∨ l.length ≤ j) := by rw [is_iff, is_iff]
theorem level_at {l : List Nat} {i j : Nat} (hi : i < l.length) (hj : j < l.length) : (Kp291.level l i j)[i]? = some ((l.getD i 0 + l.getD j 0) / 2) := by
  unfold Kp291.level
  dsimp only
  by_cases c : j = i
  · subst c
    rw [List.getElem?_set_self (by rw [List.length_set]; exact hj)]
  · rw [List.getElem?_set_ne c, List.getElem?_set_self hi]
theorem ok_level {f C : Addr} {fd : FuncData} (F : Fun K "level" "Kinds.level" sLevel f fd) (T : Kc K mg C) : FnOk P w K mg base CX0 2 f fd ["self", "i", "j"] (spLevel C) := by
  obtain ⟨_, _, Gp⟩ := T.pair
  obtain ⟨_, _, Gc⟩ := T.can
  obtain ⟨_, _, Gl⟩ := T.lev
  refine F.ok scLevel (fun vs H Q E h => ?_) (fun cdv A outer s H vs Q E hr h => ?_)
  · obtain ⟨o, a, l, i, j, rfl, _⟩ := h
    rfl
  · obtain ⟨o, a, l, i, j, rfl, h, hl, k⟩ := h
    refine ⟨_, pss_cons (ps_set (i := 3) scLevel.nd rfl (Or.inl rfl) (pe_call (ok_pair Gp.fn T.bl T.cs) hr rfl Gp.mg Gp.fn.kp Gp.bd .nil pass0 (pa_cons (pe_fld (pv 0) rfl) (pa_cons (pv 1) (pa_cons (pv 2) pa_nil)))))
      (pss_cons (ps_if (pt_cmpR op_lt (pv 3) pe_int (nomark _)) (pss_one (ps_ret (pe_lst (pa_cons (pv 3) pa_nil)))) pss_nil)
      (pss_cons (ps_if (pt_not (pt_val (pe_call (ok_can Gc.fn) hr rfl Gc.mg Gc.fn.kp Gc.bd .nil pass0 (pa_cons (pe_fld (pv 0) rfl) (pa_cons (pv 1) (pa_cons (pv 2) pa_nil)))))) (pss_one (ps_ret (pe_lst (pa_cons (pco T.cs.not_had) pa_nil)))) pss_nil)
      (pss_cons (ps_fld (pv 0) (pe_call (ok_lev Gl.fn T.bl) hr rfl Gl.mg Gl.fn.kp Gl.bd .nil pass0 (pa_cons (pe_fld (pv 0) rfl) (pa_cons (pv 1) (pa_cons (pv 2) pa_nil)))) rfl)
      (pss_one (ps_ret (pe_lst (pa_cons (pe_ix ix_list (pe_fld (pv 0) rfl) (pv 1) (fun _ _ => rfl)) pa_nil))))))), ?_⟩
    change due1 C o a H Q (if Kp293.is l i = false ∨ Kp293.is l j = false then (some l, Kp293.say (-2)) else if i = j then (some l, Kp293.say (-22)) else if (l.getD i 0 + l.getD j 0) % 2 ≠ 0 then (some l, Kp293.say (-33)) else (some (Kp291.level l i j), Kp293.say (((l.getD i 0 + l.getD j 0) / 2 : Nat) : Int))) at k
    obtain ⟨dx, ho⟩ := h.obj
    have hq : SqL K H a (ivs l) := SqL.of h.lst
    refine ⟨_, rfl, o, C, dx, _, _, rfl, ho, T.cl, T.nW, kf_w _ _, _, rfl, _, rfl, a, l, i, j, rfl, hq, ?_⟩
    refine ⟨_, rfl, _, _, rfl, rfl, _, rfl, ?_⟩
    refine ite2 (fun hc => ?_) (fun hc => ?_)
    · have hc' : pairR l i j < 0 := of_decide_eq_true hc
      refine ⟨_, rfl, (by show 1 ≤ sizeLine; decide), ?_⟩
      show ∀ p, H p = none → Q (.ref p) (upd H p (.lst [.int (pairR l i j)]))
      unfold pairR at hc' ⊢
      by_cases c1 : l.length ≤ i ∨ l.length ≤ j
      · rw [if_pos (is_or.mpr c1)] at k
        rw [if_pos c1]
        exact say_stay k h
      · rw [if_neg (fun e => c1 (is_or.mp e))] at k
        rw [if_neg c1] at hc' ⊢
        by_cases c2 : i = j
        · rw [if_pos c2] at k ⊢
          exact say_stay k h
        · rw [if_neg c2] at hc'
          exact absurd hc' (by decide)
    · have hc' : ¬ pairR l i j < 0 := fun e => hc (decide_eq_true e)
      have c1 : ¬ (l.length ≤ i ∨ l.length ≤ j) := fun e => hc' (by unfold pairR; rw [if_pos e]; decide)
      have c2 : ¬ i = j := fun e => hc' (by unfold pairR; rw [if_neg c1, if_pos e]; decide)
      have hi : i < l.length := by omega
      have hj : j < l.length := by omega
      rw [if_neg (fun e => c1 (is_or.mp e)), if_neg c2] at k
      refine ⟨_, rfl, o, C, dx, _, _, rfl, ho, T.cl, T.nW, kf_w _ _, _, rfl, _, rfl, a, l, i, j, rfl, hq, hi, hj, _, rfl, ?_⟩
      refine ite2 (fun hc => ?_) (fun hc => ?_)
      · rw [if_pos (by
          intro e
          rw [decide_eq_true e] at hc
          exact absurd hc (by decide))] at k
        exact ⟨(by show 1 ≤ sizeLine; decide), say_stay k h⟩
      · have ev : (l.getD i 0 + l.getD j 0) % 2 = 0 := by
          by_cases c : (l.getD i 0 + l.getD j 0) % 2 = 0
          · exact c
          · rw [decide_eq_false c] at hc
            exact absurd rfl hc
        rw [if_neg (fun e => e ev)] at k
        refine ⟨_, rfl, o, C, dx, _, _, rfl, ho, T.cl, T.nW, kf_w _ _, _, rfl, _, rfl, a, l, i, j, rfl, hq, hi, hj, fun b hb => ?_⟩
        have hob : o ≠ b := ne_of_none ho hb
        refine ⟨_, rfl, o, C, dx, _, rfl, by rw [upd_ne hob]; exact ho, T.cl, T.nW, (by show 2 < 1000; decide), ?_⟩
        rw [put_w]
        have h2 : KAt C (upd (upd H b (.lst (ivs (Kp291.level l i j)))) o (.ins C dx (kf true b))) o b (some (Kp291.level l i j)) := ⟨⟨dx, upd_same⟩, by rw [upd_ne (Ne.symm hob)]; exact upd_same⟩
        obtain ⟨dx2, ho2⟩ := h2.obj
        refine ⟨_, rfl, o, C, dx2, _, _, rfl, ho2, T.cl, T.nW, kf_w _ _, _, rfl, b, _, _, iv ((l.getD i 0 + l.getD j 0) / 2), rfl, rfl, SqL.of h2.lst, atI_nat (ivs_at (level_at hi hj)), (by show 1 ≤ sizeLine; decide), fun p hp => ?_⟩
        have hpo : o ≠ p := ne_of_none upd_same hp
        have hpb : b ≠ p := ne_of_none h2.lst hp
        have hpH : H p = none := by rw [upd_ne (Ne.symm hpo), upd_ne (Ne.symm hpb)] at hp; exact hp
        refine k _ p b (h2.same (upd_new (Same.refl _) hp)) (.inr hb) (fun x u e h1 h3 => ?_) hpH (Ne.symm hpb) upd_same
        rw [upd_ne (ne_of_none e hpH), upd_ne h1, upd_ne (ne_of_none e hb)]
        exact e
end
end Kd

set_option Elab.async false
set_option linter.all false
set_option maxRecDepth 100000
set_option maxHeartbeats 4000000
namespace Kd
open PySem PySem.Spec PyProof.Rows L2
theorem dr_pos {n : Nat} (h : 12 < n) : Kp293.DRAWS < n := h
theorem dr_neg {n : Nat} (h : ¬ 12 < n) : ¬ Kp293.DRAWS < n := h
theorem itT {A B : Prop} (h : A) : if true = true then A else B := by
  rw [if_pos rfl]
  exact h
theorem itF {A B : Prop} (h : B) : if false = true then A else B := by
  rw [if_neg (by decide)]
  exact h
/-- an answer as one list -/
def lst1 (a : Kp293.Ans) : List Int := a.num :: a.nums
/-- a call's end that changes nothing -/
def Tl (H : Hp) (Q : VK) (a : Kp293.Ans) : Prop := ∀ (H' : Hp) (p : Addr), Same H H' → H p = none → H' p = some (.lst ((lst1 a).map V.int)) → Q (.ref p) H'
theorem Tl.say {H : Hp} {Q : VK} {v : Int} (k : Tl H Q (Kp293.say v)) : ∀ p, H p = none → Q (.ref p) (upd H p (.lst [.int v])) := fun p hp => k _ p (upd_new (Same.refl H) hp) hp upd_same
theorem Tl.sayS {H H1 : Hp} {Q : VK} {v : Int} (k : Tl H Q (Kp293.say v)) (s : Same H H1) : ∀ p, H1 p = none → Q (.ref p) (upd H1 p (.lst [.int v])) := fun p hp => k _ p (upd_new s hp) (s.free hp) upd_same
theorem Tl.frac {H H1 : Hp} {Q : VK} {a b : Nat} (k : Tl H Q (Kp293.tellFrac (Kp291.frac a b))) (hb : 0 < b) (s : Same H H1) : ∀ r, H1 r = none → Q (.ref r) (upd H1 r (.lst ([V.int 0] ++ ivs (fr a b)))) := fun r hr => by
  refine k _ r (upd_new s hr) (s.free hr) ?_
  rw [upd_same, fr_eq hb]
  rfl
theorem Same.tr {H H1 H2 : Hp} (s : Same H H1) (t : Same H1 H2) : Same H H2 := fun b u e => t b u (s b u e)
section
variable {P : Program} {w : World} {K : PySem.W.Frag} {mg : Str → Option Value} {base : Heap}
/-- the defs of chances that a call asks -/
structure Dx (K : PySem.W.Frag) (mg : Str → Option Value) : Prop where
  ch : Ch K mg
  cs : Cs mg
  chance : ∃ f fd, Dn K mg "chance_of_count" sChance ["weights", "n", "k"] f fd
  lik : ∃ f fd, Dn K mg "likeliest_count" sLik ["weights", "n"] f fd
  mean : ∃ f fd, Dn K mg "mean_count" sMean ["weights", "n"] f fd
  adds : ∃ f fd, Dn K mg "mean_added" sAdds ["weights", "n"] f fd
  even : ∃ f fd, Dn K mg "even_mean" sEven ["weights", "n"] f fd
  need : ∃ f fd, Dn K mg "draws_needed" sNeed ["weights", "a", "b", "most"] f fd
  cseen : ∃ f fd, Dn K mg "chance_seen" sCSeen ["weights", "i", "n"] f fd
  cboth : ∃ f fd, Dn K mg "chance_both" sCBoth ["weights", "i", "j", "n"] f fd
  pair : ∃ f fd, Dn K mg "pair_refusal" sPair ["weights", "i", "j"] f fd
  can : ∃ f fd, Dn K mg "can_level" sCan ["weights", "i", "j"] f fd
  lev : ∃ f fd, Dn K mg "leveled" sLev ["weights", "i", "j"] f fd
/-- a call that tells of the kinds: its numbers, what is due -/
def spTell (args : List V) (c : Kp293.Call) : Sp := fun vs H Q _ => ∃ (W : Addr) (l : List Nat), vs = .ref W :: args ∧ H W = some (.lst (ivs l)) ∧ Wl l ∧ l ≠ [] ∧ Tl H Q (Kp293.step (some l) c).2
/-! ### answer_seen -/
def spASeen : Sp := fun vs H Q E => ∃ i n : Nat, spTell [.int i, .int n] (.seen i n) vs H Q E
theorem scASeen : FnScope ["weights", "i", "n"] ["weights", "i", "n"] (defScope sASeen) := ⟨rfl, rfl, rfl, by decide +kernel, rfl, by decide +kernel, by decide +kernel⟩
theorem ok_aseen {f : Addr} {fd : FuncData} (F : Fun K "answer_seen" "answer_seen" sASeen f fd) (T : Dx K mg) : FnOk P w K mg base CX0 4 f fd ["weights", "i", "n"] spASeen := by
  obtain ⟨_, _, G⟩ := T.cseen
  have B := T.ch.bl
  have S := T.cs
  refine F.ok scASeen (fun vs H Q E h => ?_) (fun cdv A outer s H vs Q E hr h => ?_)
  · obtain ⟨i, n, W, l, rfl, _⟩ := h
    rfl
  · obtain ⟨i, n, W, l, rfl, hW, hl, hne, k⟩ := h
    have hq : SqL K H W (ivs l) := SqL.of hW
    refine ⟨_, pss_cons (ps_if (pt_cmpR op_ge (pv 1) (pe_callB call_len_seq (by rfl) B.len PySem.boot_len (pa_cons (pv 0) pa_nil)) (nomark _)) (pss_one (ps_ret (pe_lst (pa_cons (pco S.no_such) pa_nil)))) pss_nil)
      (pss_cons (ps_if (pt_cmpR op_gt (pv 2) (pco S.most_draws) (nomark _)) (pss_one (ps_ret (pe_lst (pa_cons (pco S.not_allowed) pa_nil)))) pss_nil)
      (pss_one (ps_ret (pe_op op_cat (pe_lst (pa_cons pe_int pa_nil)) (pe_call (ok_cseen G.fn T.ch) hr rfl G.mg G.fn.kp G.bd .nil pass0 (pa_cons (pv 0) (pa_cons (pv 1) (pa_cons (pv 2) pa_nil)))))))), ?_⟩
    have h0 : ¬ l.length = 0 := fun e => hne (List.length_eq_zero_iff.mp e)
    change Tl H Q (if l.length = 0 then (some l, Kp293.say (-6)) else (some l, if Kp293.is l i = false then Kp293.say (-2) else if Kp293.DRAWS < n then Kp293.say (-22) else Kp293.tellFrac (Kp293.seen l i n))).2 at k
    rw [if_neg h0] at k
    replace k : Tl H Q (if Kp293.is l i = false then Kp293.say (-2) else if Kp293.DRAWS < n then Kp293.say (-22) else Kp293.tellFrac (Kp293.seen l i n)) := k
    refine ⟨_, rfl, _, rfl, W, _, rfl, .inl hq, _, _, rfl, rfl, _, rfl, ?_⟩
    refine ite2 (fun hc => ?_) (fun hc => ?_)
    · have hc' := of_decide_eq_true hc
      rw [ivs_len] at hc'
      rw [if_pos (is_iff.mpr (by omega))] at k
      exact ⟨(by show 1 ≤ sizeLine; decide), k.say⟩
    rw [decide_eq_true_iff, ivs_len] at hc
    rw [if_neg (by rw [is_iff]; omega)] at k
    have hi : i < l.length := by omega
    refine ⟨_, rfl, _, _, rfl, rfl, _, rfl, ?_⟩
    refine ite2 (fun hc => ?_) (fun hc => ?_)
    · have hc' := of_decide_eq_true hc
      rw [if_pos (dr_pos (by omega))] at k
      exact ⟨(by show 1 ≤ sizeLine; decide), k.say⟩
    rw [decide_eq_true_iff] at hc
    rw [if_neg (dr_neg (by omega))] at k
    refine ⟨(by show 1 ≤ sizeLine; decide), fun z hz => ?_⟩
    have s1 : Same H (upd H z (.lst [.int 0])) := upd_new (Same.refl H) hz
    refine ⟨_, rfl, _, rfl, _, rfl, i, n, by omega, W, l, rfl, s1.seq hq, hl, hne, hi, fun H1 p s2 hp e1 => ?_⟩
    refine ⟨z, p, _, _, rfl, rfl, s2 _ _ upd_same, e1, (by show 3 ≤ sizeLine; decide), ?_⟩
    exact Tl.frac k (Nat.pow_pos (hl.pos hne)) (Same.tr s1 s2)
/-! ### answer_both -/
def spABoth : Sp := fun vs H Q E => ∃ i j n : Nat, spTell [.int i, .int j, .int n] (.both i j n) vs H Q E
theorem scABoth : FnScope ["weights", "i", "j", "n", "refusal"] ["weights", "i", "j", "n"] (defScope sABoth) := ⟨rfl, rfl, rfl, by decide +kernel, rfl, by decide +kernel, by decide +kernel⟩
theorem pairR_lt {l : List Nat} {i j : Nat} : pairR l i j < 0 ↔ (l.length ≤ i ∨ l.length ≤ j) ∨ i = j := by
  unfold pairR
  split
  · rename_i c
    exact ⟨fun _ => .inl c, fun _ => by decide⟩
  · rename_i c
    split
    · rename_i c2
      exact ⟨fun _ => .inr c2, fun _ => by decide⟩
    · rename_i c2
      exact ⟨fun h => absurd h (by decide), fun h => by rcases h with h | h <;> contradiction⟩
/-- the refusal told -/
theorem Tl.pair {H : Hp} {Q : VK} {l : List Nat} {i j : Nat} {d : Bool} {a : Kp293.Ans} (k : Tl H Q (if Kp293.is l i = false ∨ Kp293.is l j = false then Kp293.say (-2) else if i = j ∨ d = true then Kp293.say (-22) else a)) (h : pairR l i j < 0) : Tl H Q (Kp293.say (pairR l i j)) := by
  unfold pairR at h ⊢
  by_cases c1 : l.length ≤ i ∨ l.length ≤ j
  · rw [if_pos (is_or.mpr c1)] at k
    rw [if_pos c1]
    exact k
  · rw [if_neg (fun e => c1 (is_or.mp e))] at k
    rw [if_neg c1] at h ⊢
    by_cases c2 : i = j
    · rw [if_pos (.inl c2)] at k
      rw [if_pos c2]
      exact k
    · rw [if_neg c2] at h
      exact absurd h (by decide)
theorem Tl.two {H : Hp} {Q : VK} {l : List Nat} {i j : Nat} {d : Bool} {a : Kp293.Ans} (k : Tl H Q (if Kp293.is l i = false ∨ Kp293.is l j = false then Kp293.say (-2) else if i = j ∨ d = true then Kp293.say (-22) else a)) (h : ¬ pairR l i j < 0) : i < l.length ∧ j < l.length ∧ i ≠ j ∧ Tl H Q (if d = true then Kp293.say (-22) else a) := by
  rw [pairR_lt] at h
  have c1 : ¬ (l.length ≤ i ∨ l.length ≤ j) := fun e => h (.inl e)
  have c2 : i ≠ j := fun e => h (.inr e)
  rw [if_neg (fun e => c1 (is_or.mp e))] at k
  refine ⟨by omega, by omega, c2, ?_⟩
  by_cases c : d = true
  · rw [if_pos (.inr c)] at k
    rw [if_pos c]
    exact k
  · rw [if_neg (fun e => e.elim c2 c)] at k
    rw [if_neg c]
    exact k
theorem ok_aboth {f : Addr} {fd : FuncData} (F : Fun K "answer_both" "answer_both" sABoth f fd) (T : Dx K mg) : FnOk P w K mg base CX0 4 f fd ["weights", "i", "j", "n"] spABoth := by
  obtain ⟨_, _, G⟩ := T.cboth
  obtain ⟨_, _, Gp⟩ := T.pair
  have B := T.ch.bl
  have S := T.cs
  refine F.ok scABoth (fun vs H Q E h => ?_) (fun cdv A outer s H vs Q E hr h => ?_)
  · obtain ⟨i, j, n, W, l, rfl, _⟩ := h
    rfl
  · obtain ⟨i, j, n, W, l, rfl, hW, hl, hne, k⟩ := h
    have hr1 : Room 1 _ := hr.mono (by decide)
    have hq : SqL K H W (ivs l) := SqL.of hW
    refine ⟨_, pss_cons (ps_set (i := 4) scABoth.nd rfl (Or.inl rfl) (pe_call (ok_pair Gp.fn B S) hr1 rfl Gp.mg Gp.fn.kp Gp.bd .nil pass0 (pa_cons (pv 0) (pa_cons (pv 1) (pa_cons (pv 2) pa_nil)))))
      (pss_cons (ps_if (pt_cmpR op_lt (pv 4) pe_int (nomark _)) (pss_one (ps_ret (pe_lst (pa_cons (pv 4) pa_nil)))) pss_nil)
      (pss_cons (ps_if (pt_cmpR op_gt (pv 3) (pco S.most_draws) (nomark _)) (pss_one (ps_ret (pe_lst (pa_cons (pco S.not_allowed) pa_nil)))) pss_nil)
      (pss_one (ps_ret (pe_op op_cat (pe_lst (pa_cons pe_int pa_nil)) (pe_call (ok_cboth G.fn T.ch) hr rfl G.mg G.fn.kp G.bd .nil pass0 (pa_cons (pv 0) (pa_cons (pv 1) (pa_cons (pv 2) (pa_cons (pv 3) pa_nil)))))))))), ?_⟩
    have h0 : ¬ l.length = 0 := fun e => hne (List.length_eq_zero_iff.mp e)
    change Tl H Q (if l.length = 0 then (some l, Kp293.say (-6)) else (some l, if Kp293.is l i = false ∨ Kp293.is l j = false then Kp293.say (-2) else if i = j ∨ Kp293.DRAWS < n then Kp293.say (-22) else Kp293.tellFrac (Kp293.both l i j n))).2 at k
    rw [if_neg h0] at k
    replace k : Tl H Q (if Kp293.is l i = false ∨ Kp293.is l j = false then Kp293.say (-2) else if i = j ∨ Kp293.DRAWS < n then Kp293.say (-22) else Kp293.tellFrac (Kp293.both l i j n)) := k
    have k' : Tl H Q (if Kp293.is l i = false ∨ Kp293.is l j = false then Kp293.say (-2) else if i = j ∨ decide (Kp293.DRAWS < n) = true then Kp293.say (-22) else Kp293.tellFrac (Kp293.both l i j n)) := by
      simp only [decide_eq_true_iff]
      exact k
    refine ⟨_, rfl, _, rfl, _, rfl, W, l, i, j, rfl, hq, ?_⟩
    refine ⟨_, rfl, _, _, rfl, rfl, _, rfl, ?_⟩
    refine ite2 (fun hc => ?_) (fun hc => ?_)
    · exact ⟨_, rfl, (by show 1 ≤ sizeLine; decide), (Tl.pair k' (of_decide_eq_true hc)).say⟩
    obtain ⟨hi, hj, hij, k2⟩ := Tl.two k' (fun e => hc (decide_eq_true e))
    refine ⟨_, rfl, _, _, rfl, rfl, _, rfl, ?_⟩
    refine ite2 (fun hc => ?_) (fun hc => ?_)
    · have hc' := of_decide_eq_true hc
      rw [if_pos (decide_eq_true (dr_pos (by omega)))] at k2
      exact ⟨(by show 1 ≤ sizeLine; decide), k2.say⟩
    rw [decide_eq_true_iff] at hc
    rw [if_neg (fun e => absurd (of_decide_eq_true e) (dr_neg (by omega)))] at k2
    refine ⟨(by show 1 ≤ sizeLine; decide), fun z hz => ?_⟩
    have s1 : Same H (upd H z (.lst [.int 0])) := upd_new (Same.refl H) hz
    refine ⟨_, rfl, _, rfl, _, rfl, _, rfl, i, j, n, by omega, W, l, rfl, s1.seq hq, hl, hne, ⟨hi, hj, hij⟩, fun H1 p s2 hp e1 => ?_⟩
    refine ⟨z, p, _, _, rfl, rfl, s2 _ _ upd_same, e1, (by show 3 ≤ sizeLine; decide), ?_⟩
    exact Tl.frac k2 (Nat.pow_pos (hl.pos hne)) (Same.tr s1 s2)
/-! ### answer_would -/
def spAWould : Sp := fun vs H Q E => ∃ i j n : Nat, spTell [.int i, .int j, .int n] (.would i j n) vs H Q E
theorem scAWould : FnScope ["weights", "i", "j", "n", "refusal"] ["weights", "i", "j", "n"] (defScope sAWould) := ⟨rfl, rfl, rfl, by decide +kernel, rfl, by decide +kernel, by decide +kernel⟩
theorem level_ne {l : List Nat} {i j : Nat} (h : l ≠ []) : Kp291.level l i j ≠ [] := by
  intro e
  have := congrArg List.length e
  unfold Kp291.level at this
  dsimp only at this
  rw [List.length_set, List.length_set] at this
  exact h (List.length_eq_zero_iff.mp this)
theorem ok_awould {f : Addr} {fd : FuncData} (F : Fun K "answer_would" "answer_would" sAWould f fd) (T : Dx K mg) : FnOk P w K mg base CX0 4 f fd ["weights", "i", "j", "n"] spAWould := by
  obtain ⟨_, _, G⟩ := T.mean
  obtain ⟨_, _, Gp⟩ := T.pair
  obtain ⟨_, _, Gc⟩ := T.can
  obtain ⟨_, _, Gl⟩ := T.lev
  have B := T.ch.bl
  have S := T.cs
  refine F.ok scAWould (fun vs H Q E h => ?_) (fun cdv A outer s H vs Q E hr h => ?_)
  · obtain ⟨i, j, n, W, l, rfl, _⟩ := h
    rfl
  · obtain ⟨i, j, n, W, l, rfl, hW, hl, hne, k⟩ := h
    have hr1 : Room 1 _ := hr.mono (by decide)
    have hq : SqL K H W (ivs l) := SqL.of hW
    refine ⟨_, pss_cons (ps_set (i := 4) scAWould.nd rfl (Or.inl rfl) (pe_call (ok_pair Gp.fn B S) hr1 rfl Gp.mg Gp.fn.kp Gp.bd .nil pass0 (pa_cons (pv 0) (pa_cons (pv 1) (pa_cons (pv 2) pa_nil)))))
      (pss_cons (ps_if (pt_cmpR op_lt (pv 4) pe_int (nomark _)) (pss_one (ps_ret (pe_lst (pa_cons (pv 4) pa_nil)))) pss_nil)
      (pss_cons (ps_if (pt_cmpR op_gt (pv 3) (pco S.most_draws) (nomark _)) (pss_one (ps_ret (pe_lst (pa_cons (pco S.not_allowed) pa_nil)))) pss_nil)
      (pss_cons (ps_if (pt_not (pt_val (pe_call (ok_can Gc.fn) hr1 rfl Gc.mg Gc.fn.kp Gc.bd .nil pass0 (pa_cons (pv 0) (pa_cons (pv 1) (pa_cons (pv 2) pa_nil)))))) (pss_one (ps_ret (pe_lst (pa_cons (pco S.not_had) pa_nil)))) pss_nil)
      (pss_one (ps_ret (pe_op op_cat (pe_lst (pa_cons pe_int pa_nil)) (pe_call (ok_mean G.fn T.ch) hr rfl G.mg G.fn.kp G.bd .nil pass0 (pa_cons (pe_call (ok_lev Gl.fn B) hr1 rfl Gl.mg Gl.fn.kp Gl.bd .nil pass0 (pa_cons (pv 0) (pa_cons (pv 1) (pa_cons (pv 2) pa_nil)))) (pa_cons (pv 3) pa_nil))))))))), ?_⟩
    have h0 : ¬ l.length = 0 := fun e => hne (List.length_eq_zero_iff.mp e)
    change Tl H Q (if l.length = 0 then (some l, Kp293.say (-6)) else (some l, if Kp293.is l i = false ∨ Kp293.is l j = false then Kp293.say (-2) else if i = j ∨ Kp293.DRAWS < n then Kp293.say (-22) else if (l.getD i 0 + l.getD j 0) % 2 ≠ 0 then Kp293.say (-33) else Kp293.tellFrac (Kp293.mean (Kp291.level l i j) n))).2 at k
    rw [if_neg h0] at k
    replace k : Tl H Q (if Kp293.is l i = false ∨ Kp293.is l j = false then Kp293.say (-2) else if i = j ∨ Kp293.DRAWS < n then Kp293.say (-22) else if (l.getD i 0 + l.getD j 0) % 2 ≠ 0 then Kp293.say (-33) else Kp293.tellFrac (Kp293.mean (Kp291.level l i j) n)) := k
    have k' : Tl H Q (if Kp293.is l i = false ∨ Kp293.is l j = false then Kp293.say (-2) else if i = j ∨ decide (Kp293.DRAWS < n) = true then Kp293.say (-22) else if (l.getD i 0 + l.getD j 0) % 2 ≠ 0 then Kp293.say (-33) else Kp293.tellFrac (Kp293.mean (Kp291.level l i j) n)) := by
      simp only [decide_eq_true_iff]
      exact k
    refine ⟨_, rfl, _, rfl, _, rfl, W, l, i, j, rfl, hq, ?_⟩
    refine ⟨_, rfl, _, _, rfl, rfl, _, rfl, ?_⟩
    refine ite2 (fun hc => ?_) (fun hc => ?_)
    · exact ⟨_, rfl, (by show 1 ≤ sizeLine; decide), (Tl.pair k' (of_decide_eq_true hc)).say⟩
    obtain ⟨hi, hj, hij, k2⟩ := Tl.two k' (fun e => hc (decide_eq_true e))
    refine ⟨_, rfl, _, _, rfl, rfl, _, rfl, ?_⟩
    refine ite2 (fun hc => ?_) (fun hc => ?_)
    · have hc' := of_decide_eq_true hc
      rw [if_pos (decide_eq_true (dr_pos (by omega)))] at k2
      exact ⟨(by show 1 ≤ sizeLine; decide), k2.say⟩
    rw [decide_eq_true_iff] at hc
    rw [if_neg (fun e => absurd (of_decide_eq_true e) (dr_neg (by omega)))] at k2
    refine ⟨_, rfl, _, rfl, _, rfl, W, l, i, j, rfl, hq, hi, hj, _, rfl, ?_⟩
    refine ite2 (fun hc => ?_) (fun hc => ?_)
    · rw [if_pos (by
        intro e
        rw [decide_eq_true e] at hc
        exact absurd hc (by decide))] at k2
      exact ⟨(by show 1 ≤ sizeLine; decide), k2.say⟩
    have ev : (l.getD i 0 + l.getD j 0) % 2 = 0 := by
      by_cases c : (l.getD i 0 + l.getD j 0) % 2 = 0
      · exact c
      · rw [decide_eq_false c] at hc
        exact absurd rfl hc
    rw [if_neg (fun e => e ev)] at k2
    refine ⟨(by show 1 ≤ sizeLine; decide), fun z hz => ?_⟩
    have s1 : Same H (upd H z (.lst [.int 0])) := upd_new (Same.refl H) hz
    refine ⟨_, rfl, _, rfl, _, rfl, W, l, i, j, rfl, s1.seq hq, hi, hj, fun b hb => ?_⟩
    have s2 : Same H (upd (upd H z (.lst [.int 0])) b (.lst (ivs (Kp291.level l i j)))) := upd_new s1 hb
    have hzb : z ≠ b := ne_of_none upd_same hb
    have hlw := hl.level hi hj
    refine ⟨_, rfl, n, by omega, b, Kp291.level l i j, rfl, SqL.of upd_same, hlw, level_ne hne, trivial, fun H1 p s3 hp e1 => ?_⟩
    refine ⟨z, p, _, _, rfl, rfl, s3 _ _ (by rw [upd_ne hzb]; exact upd_same), e1, (by show 3 ≤ sizeLine; decide), ?_⟩
    exact Tl.frac k2 (Nat.pow_pos (hlw.pos (level_ne hne))) (Same.tr s2 s3)
/-! ### answer_needed -/
def spANeed : Sp := fun vs H Q E => ∃ a b : Nat, spTell [.int a, .int b] (.needed a b) vs H Q E
theorem scANeed : FnScope ["weights", "a", "b", "n"] ["weights", "a", "b"] (defScope sANeed) := ⟨rfl, rfl, rfl, by decide +kernel, rfl, by decide +kernel, by decide +kernel⟩
theorem ok_aneed {f : Addr} {fd : FuncData} (F : Fun K "answer_needed" "answer_needed" sANeed f fd) (T : Dx K mg) : FnOk P w K mg base CX0 2 f fd ["weights", "a", "b"] spANeed := by
  obtain ⟨_, _, G⟩ := T.need
  have B := T.ch.bl
  have S := T.cs
  refine F.ok scANeed (fun vs H Q E h => ?_) (fun cdv A outer s H vs Q E hr h => ?_)
  · obtain ⟨a, b, W, l, rfl, _⟩ := h
    rfl
  · obtain ⟨a, b, W, l, rfl, hW, hl, hne, k⟩ := h
    have hq : SqL K H W (ivs l) := SqL.of hW
    refine ⟨_, pss_cons (ps_if (PW.pt (pw_or (pt_cmpR op_lt (pv 2) pe_int (nomark _)) (pw_or (pt_cmpR op_gt (pv 2) (pco S.most_below) (nomark _)) (pw_or1 (pt_cmpR op_gt (pv 1) (pco S.most_above) (nomark _)))))) (pss_one (ps_ret (pe_lst (pa_cons (pco S.not_allowed) pa_nil)))) pss_nil)
      (pss_cons (ps_set (i := 3) scANeed.nd rfl (Or.inl rfl) (pe_call (ok_need G.fn B) hr rfl G.mg G.fn.kp G.bd .nil pass0 (pa_cons (pv 0) (pa_cons (pv 1) (pa_cons (pv 2) (pa_cons (pco S.most_need) pa_nil))))))
      (pss_cons (ps_if (pt_cmpR op_isN (pv 3) pe_non (nomark _)) (pss_one (ps_ret (pe_lst (pa_cons (pco S.not_had) pa_nil)))) pss_nil)
      (pss_one (ps_ret (pe_lst (pa_cons (pv 3) pa_nil)))))), ?_⟩
    have h0 : ¬ l.length = 0 := fun e => hne (List.length_eq_zero_iff.mp e)
    change Tl H Q (if l.length = 0 then (some l, Kp293.say (-6)) else (some l, if b = 0 ∨ 100 < b ∨ 100 < a then Kp293.say (-22) else match Kp293.needed l a b with
      | some n => Kp293.say (n : Int)
      | none => Kp293.say (-33))).2 at k
    rw [if_neg h0] at k
    replace k : Tl H Q (if b = 0 ∨ 100 < b ∨ 100 < a then Kp293.say (-22) else match Kp293.needed l a b with
      | some n => Kp293.say (n : Int)
      | none => Kp293.say (-33)) := k
    have no : (b = 0 ∨ 100 < b ∨ 100 < a) → ∀ p, H p = none → Q (.ref p) (upd H p (.lst [.int (-22)])) := fun c => by
      rw [if_pos c] at k
      exact k.say
    refine ⟨_, rfl, _, _, rfl, rfl, _, rfl, ?_⟩
    refine ite2 (fun hc => ?_) (fun hc => ?_)
    · have hc' := of_decide_eq_true hc
      exact itT ⟨(by show 1 ≤ sizeLine; decide), no (by omega)⟩
    rw [decide_eq_true_iff] at hc
    refine ⟨_, rfl, _, _, rfl, rfl, _, rfl, ?_⟩
    refine ite2 (fun hc => ?_) (fun hc => ?_)
    · have hc' := of_decide_eq_true hc
      exact itT ⟨(by show 1 ≤ sizeLine; decide), no (by omega)⟩
    rw [decide_eq_true_iff] at hc
    refine ⟨_, rfl, _, _, rfl, rfl, _, rfl, ?_⟩
    refine ite2 (fun hc => ?_) (fun hc => ?_)
    · have hc' := of_decide_eq_true hc
      exact ⟨(by show 1 ≤ sizeLine; decide), no (by omega)⟩
    rw [decide_eq_true_iff] at hc
    rw [if_neg (by omega)] at k
    refine ⟨_, rfl, _, rfl, _, rfl, W, l, a, b, rfl, hq, hl, hne, by omega, by omega, fun H1 s1 => ?_⟩
    cases e : Kp293.needed l a b with
    | none =>
      rw [e] at k
      refine ⟨_, rfl, rfl, _, rfl, ?_⟩
      refine ite2 (fun hc => ?_) (fun hc => ?_)
      · exact ⟨(by show 1 ≤ sizeLine; decide), Tl.sayS k s1⟩
      · exact absurd (decide_eq_true (show nv none = V.non from rfl)) hc
    | some n =>
      rw [e] at k
      refine ⟨_, rfl, rfl, _, rfl, ?_⟩
      refine ite2 (fun hc => ?_) (fun hc => ?_)
      · have := of_decide_eq_true hc
        cases this
      · exact ⟨_, rfl, (by show 1 ≤ sizeLine; decide), Tl.sayS k s1⟩
end
end Kd

set_option Elab.async false
set_option linter.all false
set_option maxRecDepth 100000
set_option maxHeartbeats 4000000
namespace Kd
open PySem PySem.Spec PyProof.Rows L2
/-! ### the call that a number and its numbers are -/
theorem stp_eq {st : Kp293.State} {q : Nat} {as : List Nat} {c : Kp293.Call} (h : Kp293Neutral.callOf [(q : Int) :: cs as] = some c) : stp st q as = ((Kp293.step st c).1, lst1 (Kp293.step st c).2) := by
  unfold stp Kp293Neutral.step
  rw [h]
  rfl
theorem call_ex {q : Nat} {as : List Nat} (hq : q < 17) (h : as.length = KdM.argc q) : ∃ c, Kp293Neutral.callOf [(q : Int) :: cs as] = some c ∧ (q ≠ 0 → Kp293.step none c = (none, Kp293.say (-11))) ∧
    (q ≠ 0 → q ≠ 1 → q ≠ 2 → q ≠ 3 → q ≠ 13 → ∀ l, (Kp293.step (some l) c).1 = some l ∧ (l.length = 0 → (Kp293.step (some l) c).2 = Kp293.say (-6))) := by
  have hc : q = 0 ∨ q = 1 ∨ q = 2 ∨ q = 3 ∨ q = 4 ∨ q = 5 ∨ q = 6 ∨ q = 7 ∨ q = 8 ∨ q = 9 ∨ q = 10 ∨ q = 11 ∨ q = 12 ∨ q = 13 ∨ q = 14 ∨ q = 15 ∨ q = 16 := by omega
  rcases hc with rfl | rfl | rfl | rfl | rfl | rfl | rfl | rfl | rfl | rfl | rfl | rfl | rfl | rfl | rfl | rfl | rfl
  all_goals
    rcases as with _ | ⟨x, _ | ⟨y, _ | ⟨z, _ | ⟨u, r⟩⟩⟩⟩ <;> first
      | exact ⟨_, rfl, fun h => absurd rfl h, fun h => absurd rfl h⟩
      | exact ⟨_, rfl, fun _ => rfl, fun _ h => absurd rfl h⟩
      | exact ⟨_, rfl, fun _ => rfl, fun _ _ h => absurd rfl h⟩
      | exact ⟨_, rfl, fun _ => rfl, fun _ _ _ h => absurd rfl h⟩
      | exact ⟨_, rfl, fun _ => rfl, fun _ _ _ _ h => absurd rfl h⟩
      | exact ⟨_, rfl, fun _ => rfl, fun _ _ _ _ _ l => ⟨by unfold Kp293.step; dsimp only; split <;> rfl, fun h0 => by unfold Kp293.step; dsimp only; rw [if_pos h0]⟩⟩
      | (exfalso; revert h; simp [KdM.argc])
theorem len1 {as : List Nat} (h : as.length = 1) : ∃ x, as = [x] := by
  rcases as with _ | ⟨x, _ | ⟨y, r⟩⟩
  · cases h
  · exact ⟨x, rfl⟩
  · cases h
theorem len2 {as : List Nat} (h : as.length = 2) : ∃ x y, as = [x, y] := by
  rcases as with _ | ⟨x, _ | ⟨y, _ | ⟨z, r⟩⟩⟩
  · cases h
  · cases h
  · exact ⟨x, y, rfl⟩
  · cases h
theorem len3 {as : List Nat} (h : as.length = 3) : ∃ x y z, as = [x, y, z] := by
  rcases as with _ | ⟨x, _ | ⟨y, _ | ⟨z, _ | ⟨u, r⟩⟩⟩⟩
  · cases h
  · cases h
  · cases h
  · exact ⟨x, y, z, rfl⟩
  · cases h
theorem num_eq {q : Nat} {v : Int} (h : decide (V.int (q : Int) = V.int v) = true) : (q : Int) = v := by
  have e := of_decide_eq_true h
  injection e
theorem num_ne {q : Nat} {v : Int} (h : ¬ decide (V.int (q : Int) = V.int v) = true) : (q : Int) ≠ v := fun e => h (decide_eq_true (by rw [e]))
theorem at0 {x : Nat} {r : List Nat} : atI (ivs (x :: r)) 0 = some (iv x) := atI_nat (j := 0) rfl
theorem at1 {x y : Nat} {r : List Nat} : atI (ivs (x :: y :: r)) 1 = some (iv y) := atI_nat (j := 1) rfl
theorem at2 {x y z : Nat} {r : List Nat} : atI (ivs (x :: y :: z :: r)) 2 = some (iv z) := atI_nat (j := 2) rfl
theorem even_eq (m n : Nat) : Kp293.evenMean m n = Kp291.frac (Kp293.meanUp (List.replicate m 1) n) (Kp291.sum (List.replicate m 1) ^ n) := by
  unfold Kp293.evenMean
  rw [KdM.even_up, KdM.sum_rep, Nat.mul_one]
theorem rep_pos {l : List Nat} (h : l ≠ []) : 0 < Kp291.sum (List.replicate l.length 1) := by
  rw [KdM.sum_rep, Nat.mul_one]
  exact List.length_pos_iff.mpr h
section
variable {P : Program} {w : World} {K : PySem.W.Frag} {mg : Str → Option Value} {base : Heap}
/-! ### answer_of_draws -/
/-- a call that tells, by its number -/
def spBy (K : PySem.W.Frag) (ok : Nat → Prop) : Sp := fun vs H Q _ => ∃ (W g : Addr) (l : List Nat) (q : Nat) (as : List Nat) (c : Kp293.Call), vs = [.ref W, .int q, .ref g] ∧ H W = some (.lst (ivs l)) ∧ SqL K H g (ivs as) ∧ Wl l ∧ l ≠ [] ∧ ok q ∧ as.length = KdM.argc q ∧
  Kp293Neutral.callOf [(q : Int) :: cs as] = some c ∧ Tl H Q (Kp293.step (some l) c).2
def okD (q : Nat) : Prop := q = 4 ∨ q = 5 ∨ q = 6 ∨ q = 7 ∨ q = 8 ∨ q = 10
theorem draws_first {q : Nat} {as l : List Nat} {c : Kp293.Call} (hq : okD q) (h : as.length = KdM.argc q) (hc : Kp293Neutral.callOf [(q : Int) :: cs as] = some c) (hne : ¬ l.length = 0) : ∃ n r, as = n :: r ∧ (12 < n → (Kp293.step (some l) c).2 = Kp293.say (-22)) := by
  unfold okD at hq
  rcases hq with rfl | rfl | rfl | rfl | rfl | rfl
  · obtain ⟨x, y, rfl⟩ := len2 h
    cases hc
    refine ⟨x, _, rfl, fun hx => ?_⟩
    unfold Kp293.step
    dsimp only
    rw [if_neg hne]
    show (if Kp293.DRAWS < x then _ else _) = _
    rw [if_pos (dr_pos hx)]
  all_goals
    obtain ⟨x, rfl⟩ := len1 h
    cases hc
    refine ⟨x, _, rfl, fun hx => ?_⟩
    unfold Kp293.step
    dsimp only
    rw [if_neg hne]
    show (if Kp293.DRAWS < x then _ else _) = _
    rw [if_pos (dr_pos hx)]
theorem scDraws : FnScope ["weights", "number", "given", "n", "by_count"] ["weights", "number", "given"] (defScope sDraws) := ⟨rfl, rfl, rfl, by decide +kernel, rfl, by decide +kernel, by decide +kernel⟩
theorem ok_draws {f : Addr} {fd : FuncData} (F : Fun K "answer_of_draws" "answer_of_draws" sDraws f fd) (T : Dx K mg) : FnOk P w K mg base CX0 5 f fd ["weights", "number", "given"] (spBy K okD) := by
  obtain ⟨_, _, Gm⟩ := T.ch.more
  obtain ⟨_, _, Gs⟩ := T.ch.seen
  obtain ⟨_, _, Gc⟩ := T.ch.cnt
  obtain ⟨_, _, Gr⟩ := T.ch.rows
  obtain ⟨_, _, G4⟩ := T.chance
  obtain ⟨_, _, G6⟩ := T.mean
  obtain ⟨_, _, G7⟩ := T.adds
  obtain ⟨_, _, G8⟩ := T.lik
  obtain ⟨_, _, G10⟩ := T.even
  have B := T.ch.bl
  have S := T.cs
  refine F.ok scDraws (fun vs H Q E h => ?_) (fun cdv A outer s H vs Q E hr h => ?_)
  · obtain ⟨W, g, l, q, as, c, rfl, _⟩ := h
    rfl
  · obtain ⟨W, g, l, q, as, c, rfl, hW, hg, hl, hne, hq, hlen, hcall, k⟩ := h
    have hr3 : Room 3 _ := hr.mono (by decide)
    have hs : SqL K H W (ivs l) := SqL.of hW
    have h0 : ¬ l.length = 0 := fun e => hne (List.length_eq_zero_iff.mp e)
    have hS0 := hl.pos hne
    refine ⟨_, pss_cons (ps_set (i := 3) scDraws.nd rfl (Or.inl rfl) (pe_ix ix_list (pv 2) pe_int (fun _ _ => rfl)))
      (pss_cons (ps_if (pt_cmpR op_gt (pv 3) (pco S.most_draws) (nomark _)) (pss_one (ps_ret (pe_lst (pa_cons (pco S.not_allowed) pa_nil)))) pss_nil)
      (pss_cons (ps_if (pt_cmpR op_eq (pv 1) (pco S.chance) (nomark _)) (pss_one (ps_ret (pe_op op_cat (pe_lst (pa_cons pe_int pa_nil)) (pe_call (ok_chance G4.fn T.ch) hr rfl G4.mg G4.fn.kp G4.bd .nil pass0 (pa_cons (pv 0) (pa_cons (pv 3) (pa_cons (pe_ix ix_list (pv 2) pe_int (fun _ _ => rfl)) pa_nil))))))) pss_nil)
      (pss_cons (ps_if (pt_cmpR op_eq (pv 1) (pco S.all) (nomark _)) (pss_cons (ps_set (i := 4) scDraws.nd rfl (Or.inl rfl) (pe_call (ok_rows Gr.fn B Gs Gm Gc) hr3 rfl Gr.mg Gr.fn.kp Gr.bd .nil pass0 (pa_cons (pv 0) (pa_cons (pv 3) pa_nil))))
        (pss_one (ps_ret (pe_op op_cat (pe_lst (pa_cons (pe_callB call_len_seq (by rfl) B.len PySem.boot_len (pa_cons (pv 4) pa_nil)) pa_nil)) (pv 4))))) pss_nil)
      (pss_cons (ps_if (pt_cmpR op_eq (pv 1) (pco S.mean) (nomark _)) (pss_one (ps_ret (pe_op op_cat (pe_lst (pa_cons pe_int pa_nil)) (pe_call (ok_mean G6.fn T.ch) hr3 rfl G6.mg G6.fn.kp G6.bd .nil pass0 (pa_cons (pv 0) (pa_cons (pv 3) pa_nil)))))) pss_nil)
      (pss_cons (ps_if (pt_cmpR op_eq (pv 1) (pco S.adds) (nomark _)) (pss_one (ps_ret (pe_op op_cat (pe_lst (pa_cons pe_int pa_nil)) (pe_call (ok_adds G7.fn T.ch) hr3 rfl G7.mg G7.fn.kp G7.bd .nil pass0 (pa_cons (pv 0) (pa_cons (pv 3) pa_nil)))))) pss_nil)
      (pss_cons (ps_if (pt_cmpR op_eq (pv 1) (pco S.even) (nomark _)) (pss_one (ps_ret (pe_op op_cat (pe_lst (pa_cons pe_int pa_nil)) (pe_call (ok_even G10.fn T.ch G6) hr rfl G10.mg G10.fn.kp G10.bd .nil pass0 (pa_cons (pv 0) (pa_cons (pv 3) pa_nil)))))) pss_nil)
      (pss_one (ps_ret (pe_lst (pa_cons (pe_call (ok_lik G8.fn T.ch) hr rfl G8.mg G8.fn.kp G8.bd .nil pass0 (pa_cons (pv 0) (pa_cons (pv 3) pa_nil))) pa_nil)))))))))), ?_⟩
    obtain ⟨n, r, rfl, h22⟩ := draws_first hq hlen hcall h0
    refine ⟨_, rfl, g, _, _, iv n, rfl, rfl, hg, at0, ?_⟩
    refine ⟨_, rfl, _, _, rfl, rfl, _, rfl, ?_⟩
    refine ite2 (fun hc => ?_) (fun hc => ?_)
    · have hc' := of_decide_eq_true hc
      rw [h22 (by omega)] at k
      exact ⟨(by show 1 ≤ sizeLine; decide), k.say⟩
    rw [decide_eq_true_iff] at hc
    have hn : ¬ 12 < n := by omega
    have hn12 : n ≤ 12 := by omega
    have hS : Kp291.sum l ≤ 120 := hl.sum
    have h6 := hl.len
    -- chance
    refine ⟨_, rfl, rfl, _, rfl, ?_⟩
    refine ite2 (fun hc => ?_) (fun hc => ?_)
    · have e : q = 4 := by have := num_eq hc; omega
      subst e
      obtain ⟨n', kk, e⟩ := len2 hlen
      cases e
      cases hcall
      change Tl H Q (if l.length = 0 then (some l, Kp293.say (-6)) else (some l, if Kp293.DRAWS < n then Kp293.say (-22) else Kp293.tellFrac (Kp293.chance l n kk))).2 at k
      rw [if_neg h0] at k
      replace k : Tl H Q (if Kp293.DRAWS < n then Kp293.say (-22) else Kp293.tellFrac (Kp293.chance l n kk)) := k
      rw [if_neg (dr_neg hn)] at k
      refine ⟨(by show 1 ≤ sizeLine; decide), fun z hz => ?_⟩
      have s1 : Same H (upd H z (.lst [.int 0])) := upd_new (Same.refl H) hz
      refine ⟨_, rfl, _, rfl, _, rfl, g, _, _, iv kk, rfl, rfl, s1.seq hg, at1, n, kk, hn12, W, l, rfl, s1.seq hs, hl, hne, trivial, fun H1 p s2 hp e1 => ?_⟩
      refine ⟨z, p, _, _, rfl, rfl, s2 _ _ upd_same, e1, (by show 3 ≤ sizeLine; decide), ?_⟩
      exact Tl.frac k (Nat.pow_pos hS0) (Same.tr s1 s2)
    have q4 : q ≠ 4 := by have := num_ne hc; omega
    have r0 : r = [] := by
      have e : KdM.argc q = 1 := by
        unfold okD at hq
        rcases hq with rfl | rfl | rfl | rfl | rfl | rfl
        · exact absurd rfl q4
        all_goals rfl
      rw [e, List.length_cons] at hlen
      exact List.length_eq_zero_iff.mp (by omega)
    subst r0
    -- all
    refine ⟨_, rfl, rfl, _, rfl, ?_⟩
    refine ite2 (fun hc => ?_) (fun hc => ?_)
    · have e : q = 5 := by have := num_eq hc; omega
      subst e
      cases hcall
      change Tl H Q (if l.length = 0 then (some l, Kp293.say (-6)) else (some l, if Kp293.DRAWS < n then Kp293.say (-22) else ⟨(l.length + 1 : Nat), Kp293.ints ((List.range (l.length + 1)).map (Kp293.just l n))⟩)).2 at k
      rw [if_neg h0] at k
      replace k : Tl H Q (if Kp293.DRAWS < n then Kp293.say (-22) else ⟨(l.length + 1 : Nat), Kp293.ints ((List.range (l.length + 1)).map (Kp293.just l n))⟩) := k
      rw [if_neg (dr_neg hn)] at k
      refine ⟨_, rfl, _, rfl, W, l, n, rfl, hs, hl, by omega, fun H1 p s1 hp e1 => ?_⟩
      refine ⟨_, rfl, p, _, rfl, .inl (SqL.of e1), (by show 1 ≤ sizeLine; decide), fun z hz => ?_⟩
      have hzp : p ≠ z := ne_of_none e1 hz
      refine ⟨_, rfl, z, p, _, _, rfl, rfl, upd_same, by rw [upd_ne hzp]; exact e1, ?_, fun t ht => ?_⟩
      · rw [ivs_len, KdM.tab_length, sizeLine_eq]
        show 1 + _ ≤ _
        omega
      · have s2 : Same H (upd H1 z (.lst [.int (((ivs (KdM.tab (l.length + 1) (Kp293.just l n))).length : Nat) : Int)])) := upd_new s1 hz
        refine k _ t (upd_new s2 ht) (s2.free ht) ?_
        rw [upd_same, ivs_len, KdM.tab_length, ivs_ints]
        rfl
    have q5 : q ≠ 5 := by have := num_ne hc; omega
    -- mean
    refine ⟨_, rfl, rfl, _, rfl, ?_⟩
    refine ite2 (fun hc => ?_) (fun hc => ?_)
    · have e : q = 6 := by have := num_eq hc; omega
      subst e
      cases hcall
      change Tl H Q (if l.length = 0 then (some l, Kp293.say (-6)) else (some l, if Kp293.DRAWS < n then Kp293.say (-22) else Kp293.tellFrac (Kp293.mean l n))).2 at k
      rw [if_neg h0] at k
      replace k : Tl H Q (if Kp293.DRAWS < n then Kp293.say (-22) else Kp293.tellFrac (Kp293.mean l n)) := k
      rw [if_neg (dr_neg hn)] at k
      refine ⟨(by show 1 ≤ sizeLine; decide), fun z hz => ?_⟩
      have s1 : Same H (upd H z (.lst [.int 0])) := upd_new (Same.refl H) hz
      refine ⟨_, rfl, _, rfl, n, hn12, W, l, rfl, s1.seq hs, hl, hne, trivial, fun H1 p s2 hp e1 => ?_⟩
      refine ⟨z, p, _, _, rfl, rfl, s2 _ _ upd_same, e1, (by show 3 ≤ sizeLine; decide), ?_⟩
      exact Tl.frac k (Nat.pow_pos hS0) (Same.tr s1 s2)
    have q6 : q ≠ 6 := by have := num_ne hc; omega
    -- adds
    refine ⟨_, rfl, rfl, _, rfl, ?_⟩
    refine ite2 (fun hc => ?_) (fun hc => ?_)
    · have e : q = 7 := by have := num_eq hc; omega
      subst e
      cases hcall
      change Tl H Q (if l.length = 0 then (some l, Kp293.say (-6)) else (some l, if Kp293.DRAWS < n then Kp293.say (-22) else Kp293.tellFrac (Kp293.adds l n))).2 at k
      rw [if_neg h0] at k
      replace k : Tl H Q (if Kp293.DRAWS < n then Kp293.say (-22) else Kp293.tellFrac (Kp293.adds l n)) := k
      rw [if_neg (dr_neg hn)] at k
      refine ⟨(by show 1 ≤ sizeLine; decide), fun z hz => ?_⟩
      have s1 : Same H (upd H z (.lst [.int 0])) := upd_new (Same.refl H) hz
      refine ⟨_, rfl, _, rfl, n, hn12, W, l, rfl, s1.seq hs, hl, hne, trivial, fun H1 p s2 hp e1 => ?_⟩
      refine ⟨z, p, _, _, rfl, rfl, s2 _ _ upd_same, e1, (by show 3 ≤ sizeLine; decide), ?_⟩
      exact Tl.frac k (Nat.pow_pos hS0) (Same.tr s1 s2)
    have q7 : q ≠ 7 := by have := num_ne hc; omega
    -- even
    refine ⟨_, rfl, rfl, _, rfl, ?_⟩
    refine ite2 (fun hc => ?_) (fun hc => ?_)
    · have e : q = 10 := by have := num_eq hc; omega
      subst e
      cases hcall
      change Tl H Q (if l.length = 0 then (some l, Kp293.say (-6)) else (some l, if Kp293.DRAWS < n then Kp293.say (-22) else Kp293.tellFrac (Kp293.evenMean l.length n))).2 at k
      rw [if_neg h0] at k
      replace k : Tl H Q (if Kp293.DRAWS < n then Kp293.say (-22) else Kp293.tellFrac (Kp293.evenMean l.length n)) := k
      rw [if_neg (dr_neg hn), even_eq] at k
      refine ⟨(by show 1 ≤ sizeLine; decide), fun z hz => ?_⟩
      have s1 : Same H (upd H z (.lst [.int 0])) := upd_new (Same.refl H) hz
      refine ⟨_, rfl, _, rfl, n, hn12, W, l, rfl, s1.seq hs, hl, hne, trivial, fun H1 p s2 hp e1 => ?_⟩
      refine ⟨z, p, _, _, rfl, rfl, s2 _ _ upd_same, e1, (by show 3 ≤ sizeLine; decide), ?_⟩
      exact Tl.frac k (Nat.pow_pos (rep_pos hne)) (Same.tr s1 s2)
    have q10 : q ≠ 10 := by have := num_ne hc; omega
    -- likeliest
    have e : q = 8 := by
      unfold okD at hq
      omega
    subst e
    cases hcall
    change Tl H Q (if l.length = 0 then (some l, Kp293.say (-6)) else (some l, if Kp293.DRAWS < n then Kp293.say (-22) else Kp293.say (Kp293.likeliest l n : Int))).2 at k
    rw [if_neg h0] at k
    replace k : Tl H Q (if Kp293.DRAWS < n then Kp293.say (-22) else Kp293.say (Kp293.likeliest l n : Int)) := k
    rw [if_neg (dr_neg hn)] at k
    exact ⟨_, rfl, _, rfl, W, l, n, rfl, hs, hl, hn12, fun H1 s1 => ⟨(by show 1 ≤ sizeLine; decide), Tl.sayS k s1⟩⟩
end
end Kd

set_option Elab.async false
set_option linter.all false
set_option maxRecDepth 100000
set_option maxHeartbeats 4000000
namespace Kd
open PySem PySem.Spec PyProof.Rows L2
section
variable {P : Program} {w : World} {K : PySem.W.Frag} {mg : Str → Option Value} {base : Heap}
/-- the defs that answer -/
structure Ax (K : PySem.W.Frag) (mg : Str → Option Value) : Prop where
  dx : Dx K mg
  seen : ∃ f fd, Dn K mg "answer_seen" sASeen ["weights", "i", "n"] f fd
  both : ∃ f fd, Dn K mg "answer_both" sABoth ["weights", "i", "j", "n"] f fd
  would : ∃ f fd, Dn K mg "answer_would" sAWould ["weights", "i", "j", "n"] f fd
  need : ∃ f fd, Dn K mg "answer_needed" sANeed ["weights", "a", "b"] f fd
  draws : ∃ f fd, Dn K mg "answer_of_draws" sDraws ["weights", "number", "given"] f fd
/-! ### answer_of_some_kinds -/
def okS (q : Nat) : Prop := q < 17 ∧ q ≠ 0 ∧ q ≠ 1 ∧ q ≠ 2 ∧ q ≠ 3 ∧ q ≠ 13
theorem scSome : FnScope ["weights", "number", "given"] ["weights", "number", "given"] (defScope sSome) := ⟨rfl, rfl, rfl, by decide +kernel, rfl, by decide +kernel, by decide +kernel⟩
theorem ok_some {f : Addr} {fd : FuncData} (F : Fun K "answer_of_some_kinds" "answer_of_some_kinds" sSome f fd) (T : Ax K mg) : FnOk P w K mg base CX0 6 f fd ["weights", "number", "given"] (spBy K okS) := by
  obtain ⟨_, _, G9⟩ := T.seen
  obtain ⟨_, _, G11⟩ := T.both
  obtain ⟨_, _, G12⟩ := T.need
  obtain ⟨_, _, G14⟩ := T.would
  obtain ⟨_, _, Gd⟩ := T.draws
  have B := T.dx.ch.bl
  have S := T.dx.cs
  refine F.ok scSome (fun vs H Q E h => ?_) (fun cdv A outer s H vs Q E hr h => ?_)
  · obtain ⟨W, g, l, q, as, c, rfl, _⟩ := h
    rfl
  · obtain ⟨W, g, l, q, as, c, rfl, hW, hg, hl, hne, hq, hlen, hcall, k⟩ := h
    have hr4 : Room 4 _ := hr.mono (by decide)
    have hr2 : Room 2 _ := hr.mono (by decide)
    have hs : SqL K H W (ivs l) := SqL.of hW
    have h0 : ¬ l.length = 0 := fun e => hne (List.length_eq_zero_iff.mp e)
    have h6 := hl.len
    refine ⟨_, pss_cons (ps_if (pt_cmpR op_eq (pv 1) (pco S.seen) (nomark _)) (pss_one (ps_ret (pe_call (ok_aseen G9.fn T.dx) hr4 rfl G9.mg G9.fn.kp G9.bd .nil pass0 (pa_cons (pv 0) (pa_cons (pe_ix ix_list (pv 2) pe_int (fun _ _ => rfl)) (pa_cons (pe_ix ix_list (pv 2) pe_int (fun _ _ => rfl)) pa_nil)))))) pss_nil)
      (pss_cons (ps_if (pt_cmpR op_eq (pv 1) (pco S.both) (nomark _)) (pss_one (ps_ret (pe_call (ok_aboth G11.fn T.dx) hr4 rfl G11.mg G11.fn.kp G11.bd .nil pass0 (pa_cons (pv 0) (pa_cons (pe_ix ix_list (pv 2) pe_int (fun _ _ => rfl)) (pa_cons (pe_ix ix_list (pv 2) pe_int (fun _ _ => rfl)) (pa_cons (pe_ix ix_list (pv 2) pe_int (fun _ _ => rfl)) pa_nil))))))) pss_nil)
      (pss_cons (ps_if (pt_cmpR op_eq (pv 1) (pco S.needed) (nomark _)) (pss_one (ps_ret (pe_call (ok_aneed G12.fn T.dx) hr2 rfl G12.mg G12.fn.kp G12.bd .nil pass0 (pa_cons (pv 0) (pa_cons (pe_ix ix_list (pv 2) pe_int (fun _ _ => rfl)) (pa_cons (pe_ix ix_list (pv 2) pe_int (fun _ _ => rfl)) pa_nil)))))) pss_nil)
      (pss_cons (ps_if (pt_cmpR op_eq (pv 1) (pco S.would) (nomark _)) (pss_one (ps_ret (pe_call (ok_awould G14.fn T.dx) hr4 rfl G14.mg G14.fn.kp G14.bd .nil pass0 (pa_cons (pv 0) (pa_cons (pe_ix ix_list (pv 2) pe_int (fun _ _ => rfl)) (pa_cons (pe_ix ix_list (pv 2) pe_int (fun _ _ => rfl)) (pa_cons (pe_ix ix_list (pv 2) pe_int (fun _ _ => rfl)) pa_nil))))))) pss_nil)
      (pss_cons (ps_if (pt_cmpR op_eq (pv 1) (pco S.most) (nomark _)) (pss_one (ps_ret (pe_lst (pa_cons (pe_callB (call_min2 rfl) (by rfl) B.min boot_min (pa_cons (pe_ix ix_list (pv 2) pe_int (fun _ _ => rfl)) (pa_cons (pe_callB call_len_seq (by rfl) B.len PySem.boot_len (pa_cons (pv 0) pa_nil)) pa_nil))) pa_nil)))) pss_nil)
      (pss_cons (ps_if (pt_cmpR op_eq (pv 1) (pco S.told) (nomark _)) (pss_one (ps_ret (pe_op op_cat (pe_lst (pa_cons (pe_callB call_len_seq (by rfl) B.len PySem.boot_len (pa_cons (pv 0) pa_nil)) pa_nil)) (pv 0)))) pss_nil)
      (pss_one (ps_ret (pe_call (ok_draws Gd.fn T.dx) hr rfl Gd.mg Gd.fn.kp Gd.bd .nil pass0 (pa_cons (pv 0) (pa_cons (pv 1) (pa_cons (pv 2) pa_nil))))))))))), ?_⟩
    -- seen
    refine ⟨_, rfl, rfl, _, rfl, ?_⟩
    refine ite2 (fun hc => ?_) (fun hc => ?_)
    · have e : q = 9 := by have := num_eq hc; omega
      subst e
      obtain ⟨i, n, rfl⟩ := len2 hlen
      cases hcall
      exact ⟨_, rfl, _, rfl, g, _, _, iv i, rfl, rfl, hg, at0, _, rfl, g, _, _, iv n, rfl, rfl, hg, at1, i, n, W, l, rfl, hW, hl, hne, k⟩
    have q9 : q ≠ 9 := by have := num_ne hc; omega
    -- both
    refine ⟨_, rfl, rfl, _, rfl, ?_⟩
    refine ite2 (fun hc => ?_) (fun hc => ?_)
    · have e : q = 11 := by have := num_eq hc; omega
      subst e
      obtain ⟨i, j, n, rfl⟩ := len3 hlen
      cases hcall
      exact ⟨_, rfl, _, rfl, g, _, _, iv i, rfl, rfl, hg, at0, _, rfl, g, _, _, iv j, rfl, rfl, hg, at1, _, rfl, g, _, _, iv n, rfl, rfl, hg, at2, i, j, n, W, l, rfl, hW, hl, hne, k⟩
    have q11 : q ≠ 11 := by have := num_ne hc; omega
    -- needed
    refine ⟨_, rfl, rfl, _, rfl, ?_⟩
    refine ite2 (fun hc => ?_) (fun hc => ?_)
    · have e : q = 12 := by have := num_eq hc; omega
      subst e
      obtain ⟨a, b, rfl⟩ := len2 hlen
      cases hcall
      exact ⟨_, rfl, _, rfl, g, _, _, iv a, rfl, rfl, hg, at0, _, rfl, g, _, _, iv b, rfl, rfl, hg, at1, a, b, W, l, rfl, hW, hl, hne, k⟩
    have q12 : q ≠ 12 := by have := num_ne hc; omega
    -- would
    refine ⟨_, rfl, rfl, _, rfl, ?_⟩
    refine ite2 (fun hc => ?_) (fun hc => ?_)
    · have e : q = 14 := by have := num_eq hc; omega
      subst e
      obtain ⟨i, j, n, rfl⟩ := len3 hlen
      cases hcall
      exact ⟨_, rfl, _, rfl, g, _, _, iv i, rfl, rfl, hg, at0, _, rfl, g, _, _, iv j, rfl, rfl, hg, at1, _, rfl, g, _, _, iv n, rfl, rfl, hg, at2, i, j, n, W, l, rfl, hW, hl, hne, k⟩
    have q14 : q ≠ 14 := by have := num_ne hc; omega
    -- most
    refine ⟨_, rfl, rfl, _, rfl, ?_⟩
    refine ite2 (fun hc => ?_) (fun hc => ?_)
    · have e : q = 15 := by have := num_eq hc; omega
      subst e
      obtain ⟨n, rfl⟩ := len1 hlen
      cases hcall
      change Tl H Q (if l.length = 0 then (some l, Kp293.say (-6)) else (some l, Kp293.say ((min n l.length : Nat) : Int))).2 at k
      rw [if_neg h0] at k
      replace k : Tl H Q (Kp293.say ((min n l.length : Nat) : Int)) := k
      have e : (if (((ivs l).length : Nat) : Int) < ((n : Nat) : Int) then (((ivs l).length : Nat) : Int) else ((n : Nat) : Int)) = ((min n l.length : Nat) : Int) := by
        rw [ivs_len]
        split <;> omega
      refine ⟨_, rfl, g, _, _, iv n, rfl, rfl, hg, at0, _, rfl, W, _, rfl, .inl hs, ((n : Nat) : Int), (((ivs l).length : Nat) : Int), rfl, (by show 1 ≤ sizeLine; decide), ?_⟩
      show ∀ p, H p = none → Q (.ref p) (upd H p (.lst [.int (if (((ivs l).length : Nat) : Int) < ((n : Nat) : Int) then (((ivs l).length : Nat) : Int) else ((n : Nat) : Int))]))
      rw [e]
      exact k.say
    have q15 : q ≠ 15 := by have := num_ne hc; omega
    -- told
    refine ⟨_, rfl, rfl, _, rfl, ?_⟩
    refine ite2 (fun hc => ?_) (fun hc => ?_)
    · have e : q = 16 := by have := num_eq hc; omega
      subst e
      have e : as = [] := List.length_eq_zero_iff.mp hlen
      subst e
      cases hcall
      change Tl H Q (if l.length = 0 then (some l, Kp293.say (-6)) else (some l, ⟨(l.length : Int), Kp293.ints l⟩)).2 at k
      rw [if_neg h0] at k
      replace k : Tl H Q ⟨(l.length : Int), Kp293.ints l⟩ := k
      refine ⟨_, rfl, W, _, rfl, .inl hs, (by show 1 ≤ sizeLine; decide), fun z hz => ?_⟩
      have hWz : W ≠ z := ne_of_none hW hz
      refine ⟨_, rfl, z, W, _, _, rfl, rfl, upd_same, by rw [upd_ne hWz]; exact hW, ?_, fun t ht => ?_⟩
      · rw [ivs_len, sizeLine_eq]
        show 1 + _ ≤ _
        omega
      · have s2 : Same H (upd H z (.lst [.int (((ivs l).length : Nat) : Int)])) := upd_new (Same.refl H) hz
        refine k _ t (upd_new s2 ht) (s2.free ht) ?_
        rw [upd_same, ivs_len, ivs_ints]
        rfl
    have q16 : q ≠ 16 := by have := num_ne hc; omega
    -- the rest
    refine ⟨_, rfl, _, rfl, _, rfl, W, g, l, q, as, c, rfl, hW, hg, hl, hne, ?_, hlen, hcall, k⟩
    unfold okS at hq
    unfold okD
    omega
/-! ### answer -/
/-- a method of the class -/
structure Mt (K : PySem.W.Frag) (C : Addr) (m q : Str) (st : Stmt) (ps : List Str) (f : Addr) (fd : FuncData) : Prop where
  fn : Fun K m q st f fd
  bd : Binds K fd ps []
  at_ : Meth K C m f
/-- the class's methods, and what tells -/
structure Mx (K : PySem.W.Frag) (mg : Str → Option Value) (C : Addr) : Prop where
  kc : Kc K mg C
  ax : Ax K mg
  some : ∃ f fd, Dn K mg "answer_of_some_kinds" sSome ["weights", "number", "given"] f fd
  begin_ : ∃ f fd, Mt K C "begin" "Kinds.begin" sBegin ["self"] f fd
  kind : ∃ f fd, Mt K C "kind" "Kinds.kind" sKind ["self", "w"] f fd
  weight : ∃ f fd, Mt K C "weight" "Kinds.weight" sWeight ["self", "i", "w"] f fd
  out : ∃ f fd, Mt K C "out" "Kinds.out" sOut ["self", "i"] f fd
  level : ∃ f fd, Mt K C "level" "Kinds.level" sLevel ["self", "i", "j"] f fd
theorem scAnswer : FnScope ["kinds", "number", "given"] ["kinds", "number", "given"] (defScope sAnswer) := ⟨rfl, rfl, rfl, by decide +kernel, rfl, by decide +kernel, by decide +kernel⟩
theorem ok_answer {f C : Addr} {fd : FuncData} (F : Fun K "answer" "answer" sAnswer f fd) (X : Mx K mg C) : FnOk P w K mg base CX0 7 f fd ["kinds", "number", "given"] (spAnswer K C) := by
  have T := X.kc
  have B := T.bl
  have S := T.cs
  obtain ⟨_, _, Gs⟩ := X.some
  obtain ⟨_, _, M0⟩ := X.begin_
  obtain ⟨_, _, M1⟩ := X.kind
  obtain ⟨_, _, M2⟩ := X.weight
  obtain ⟨_, _, M3⟩ := X.out
  obtain ⟨_, _, M4⟩ := X.level
  refine F.ok scAnswer (fun vs H Q E h => ?_) (fun cdv A outer s H vs Q E hr h => ?_)
  · obtain ⟨o, a, g, st, q, as, rfl, _⟩ := h
    rfl
  · obtain ⟨o, a, g, st, q, as, rfl, h, hok, hg', hga, hq, hlen, k⟩ := h
    have hr1 : Room 1 _ := hr.mono (by decide)
    have hr2 : Room 2 _ := hr.mono (by decide)
    have hg : SqL K H g (ivs as) := SqL.of hg'
    obtain ⟨c, hcall, hno, htell⟩ := call_ex hq hlen
    rw [stp_eq hcall] at k
    replace k : due1 C o a H Q (Kp293.step st c) := k
    obtain ⟨dx, ho⟩ := h.obj
    refine ⟨_, pss_cons (ps_if (pt_cmpR op_eq (pv 1) (pco S.begin_) (nomark _)) (pss_one (ps_ret (pe_meth0 (pv 0) T.cl M0.at_ (ok_begin M0.fn T) hr1 M0.bd .nil pass0))) pss_nil)
      (pss_cons (ps_if (pt_not (pt_val (pe_fld (pv 0) rfl))) (pss_one (ps_ret (pe_lst (pa_cons (pco S.not_begun) pa_nil)))) pss_nil)
      (pss_cons (ps_if (pt_cmpR op_eq (pv 1) (pco S.kind) (nomark _)) (pss_one (ps_ret (pe_meth (pv 0) T.cl M1.at_ (ok_kind M1.fn T) hr2 M1.bd .nil pass0 (pa_cons (pe_ix ix_list (pv 2) pe_int (fun _ _ => rfl)) pa_nil)))) pss_nil)
      (pss_cons (ps_if (pt_cmpR op_eq (pv 1) (pco S.weight) (nomark _)) (pss_one (ps_ret (pe_meth (pv 0) T.cl M2.at_ (ok_weight M2.fn T) hr2 M2.bd .nil pass0 (pa_cons (pe_ix ix_list (pv 2) pe_int (fun _ _ => rfl)) (pa_cons (pe_ix ix_list (pv 2) pe_int (fun _ _ => rfl)) pa_nil))))) pss_nil)
      (pss_cons (ps_if (pt_cmpR op_eq (pv 1) (pco S.out) (nomark _)) (pss_one (ps_ret (pe_meth (pv 0) T.cl M3.at_ (ok_out M3.fn T) hr1 M3.bd .nil pass0 (pa_cons (pe_ix ix_list (pv 2) pe_int (fun _ _ => rfl)) pa_nil)))) pss_nil)
      (pss_cons (ps_if (pt_cmpR op_eq (pv 1) (pco S.level) (nomark _)) (pss_one (ps_ret (pe_meth (pv 0) T.cl M4.at_ (ok_level M4.fn T) hr2 M4.bd .nil pass0 (pa_cons (pe_ix ix_list (pv 2) pe_int (fun _ _ => rfl)) (pa_cons (pe_ix ix_list (pv 2) pe_int (fun _ _ => rfl)) pa_nil))))) pss_nil)
      (pss_cons (ps_if (pt_cmpR op_eq (pe_callB call_len_seq (by rfl) B.len PySem.boot_len (pa_cons (pe_fld (pv 0) rfl) pa_nil)) pe_int (nomark _)) (pss_one (ps_ret (pe_lst (pa_cons (pco S.no_kinds) pa_nil)))) pss_nil)
      (pss_one (ps_ret (pe_call (ok_some Gs.fn X.ax) hr rfl Gs.mg Gs.fn.kp Gs.bd .nil pass0 (pa_cons (pe_fld (pv 0) rfl) (pa_cons (pv 1) (pa_cons (pv 2) pa_nil)))))))))))), ?_⟩
    -- begin
    refine ⟨_, rfl, rfl, _, rfl, ?_⟩
    refine ite2 (fun hc => ?_) (fun hc => ?_)
    · have e : q = 0 := by have := num_eq hc; omega
      subst e
      have e : as = [] := List.length_eq_zero_iff.mp hlen
      subst e
      cases hcall
      exact ⟨_, rfl, o, dx, _, rfl, ho, kf_no _ _ (by decide +kernel) (by decide +kernel), o, a, st, rfl, h, k⟩
    have q0 : q ≠ 0 := by have := num_ne hc; omega
    -- not begun
    refine ⟨_, rfl, o, C, dx, _, _, rfl, ho, T.cl, T.nB, kf_b _ _, _, rfl, ?_⟩
    cases st with
    | none =>
      rw [hno q0] at k
      refine ite2 (fun hc => ?_) (fun hc => absurd rfl hc)
      exact ⟨(by show 1 ≤ sizeLine; decide), fun p hp => Res.stay k h (upd_new (Same.refl H) hp) hp upd_same⟩
    | some l =>
      refine ite2 (fun hc => absurd hc (show ¬ (false = true) by decide)) (fun hc => ?_)
      have hl : Wl l := hok
      -- kind
      refine ⟨_, rfl, rfl, _, rfl, ?_⟩
      refine ite2 (fun hc => ?_) (fun hc => ?_)
      · have e : q = 1 := by have := num_eq hc; omega
        subst e
        obtain ⟨x, rfl⟩ := len1 hlen
        cases hcall
        exact ⟨_, rfl, o, dx, _, rfl, ho, kf_no _ _ (by decide +kernel) (by decide +kernel), _, rfl, g, _, _, iv x, rfl, rfl, hg, at0, o, a, l, x, rfl, h, hl, k⟩
      have q1 : q ≠ 1 := by have := num_ne hc; omega
      -- weight
      refine ⟨_, rfl, rfl, _, rfl, ?_⟩
      refine ite2 (fun hc => ?_) (fun hc => ?_)
      · have e : q = 2 := by have := num_eq hc; omega
        subst e
        obtain ⟨i, x, rfl⟩ := len2 hlen
        cases hcall
        exact ⟨_, rfl, o, dx, _, rfl, ho, kf_no _ _ (by decide +kernel) (by decide +kernel), _, rfl, g, _, _, iv i, rfl, rfl, hg, at0, _, rfl, g, _, _, iv x, rfl, rfl, hg, at1, o, a, l, i, x, rfl, h, hl, k⟩
      have q2 : q ≠ 2 := by have := num_ne hc; omega
      -- out
      refine ⟨_, rfl, rfl, _, rfl, ?_⟩
      refine ite2 (fun hc => ?_) (fun hc => ?_)
      · have e : q = 3 := by have := num_eq hc; omega
        subst e
        obtain ⟨i, rfl⟩ := len1 hlen
        cases hcall
        exact ⟨_, rfl, o, dx, _, rfl, ho, kf_no _ _ (by decide +kernel) (by decide +kernel), _, rfl, g, _, _, iv i, rfl, rfl, hg, at0, o, a, l, i, rfl, h, hl, k⟩
      have q3 : q ≠ 3 := by have := num_ne hc; omega
      -- level
      refine ⟨_, rfl, rfl, _, rfl, ?_⟩
      refine ite2 (fun hc => ?_) (fun hc => ?_)
      · have e : q = 13 := by have := num_eq hc; omega
        subst e
        obtain ⟨i, j, rfl⟩ := len2 hlen
        cases hcall
        exact ⟨_, rfl, o, dx, _, rfl, ho, kf_no _ _ (by decide +kernel) (by decide +kernel), _, rfl, g, _, _, iv i, rfl, rfl, hg, at0, _, rfl, g, _, _, iv j, rfl, rfl, hg, at1, o, a, l, i, j, rfl, h, hl, k⟩
      have q13 : q ≠ 13 := by have := num_ne hc; omega
      obtain ⟨t1, t2⟩ := htell q0 q1 q2 q3 q13 l
      have hst : Res C o a H Q (lst1 (Kp293.step (some l) c).2) (some l) := by
        have : Res C o a H Q (lst1 (Kp293.step (some l) c).2) (Kp293.step (some l) c).1 := k
        rw [t1] at this
        exact this
      have hW : H a = some (.lst (ivs l)) := h.lst
      -- no kinds
      refine ⟨_, rfl, o, C, dx, _, _, rfl, ho, T.cl, T.nW, kf_w _ _, a, _, rfl, .inl (SqL.of hW), rfl, _, rfl, ?_⟩
      refine ite2 (fun hc => ?_) (fun hc => ?_)
      · have e := num_eq hc
        rw [ivs_len] at e
        rw [t2 (by omega)] at hst
        exact ⟨(by show 1 ≤ sizeLine; decide), fun p hp => Res.stay hst h (upd_new (Same.refl H) hp) hp upd_same⟩
      · have e := num_ne hc
        rw [ivs_len] at e
        have hne : l ≠ [] := fun z => e (by rw [z]; rfl)
        exact ⟨_, rfl, o, C, dx, _, _, rfl, ho, T.cl, T.nW, kf_w _ _, _, rfl, _, rfl, a, g, l, q, as, c, rfl, hW, hg, hl, hne, ⟨hq, q0, q1, q2, q3, q13⟩, hlen, hcall, fun H' p s hp e => Res.stay hst h s hp e⟩
end
end Kd

set_option Elab.async false
set_option linter.all false
set_option maxRecDepth 100000
set_option maxHeartbeats 4000000
namespace Kd
open PySem PySem.Spec PyProof.Rows L2
section
variable {K : PySem.W.Frag} {h : Heap} {mg : Str → Option Value}
theorem dn_mk {x : Str} {st : Stmt} {ps : List Str} {f : Addr} {od an : Option Addr} {sl : Array (Option Value)} {oc kV dc pm cd ct : Value} (X : K.In h) (G : h.Ns mainGlobals mg)
    (a : PySem.W.nsIn K mainGlobals x = some (some (.ref f))) (l : K.lookup f = some ⟨oc, od, .func (PySem.W.fnOf x x (defArgs st) (defBody st) (defScope st) .none kV dc pm an cd ct), sl⟩) (c : PySem.W.codeIn K cd x = true) (k : PySem.W.keepIn K (.ref f) = true)
    (hb : ∀ (kV doc pm : Value) (an : Option Addr) (cdv ct : Value) (us : List Value), us.length = ps.length → bindArgs (PySem.W.fnOf x x (defArgs st) (defBody st) (defScope st) .none kV doc pm an cdv ct) ⟨us, []⟩ = pure (ps.zip us)) :
    ∃ f fd, Dn K mg x st ps f fd := by
  have F := fun_mk (st := st) l c k
  exact ⟨f, _, F, F.binds hb, PySem.W.mg_of X G a⟩
theorem mt_mk {C : Addr} {m q : Str} {st : Stmt} {ps : List Str} {f : Addr} {od an : Option Addr} {sl : Array (Option Value)} {oc kV dc pm cd ct : Value}
    (a : PySem.W.findIn K (.ref C) m = some (some (.ref f))) (i : PySem.W.isFn K (.ref f) = true) (l : K.lookup f = some ⟨oc, od, .func (PySem.W.fnOf m q (defArgs st) (defBody st) (defScope st) .none kV dc pm an cd ct), sl⟩) (c : PySem.W.codeIn K cd q = true) (k : PySem.W.keepIn K (.ref f) = true)
    (hb : ∀ (kV doc pm : Value) (an : Option Addr) (cdv ct : Value) (us : List Value), us.length = ps.length → bindArgs (PySem.W.fnOf m q (defArgs st) (defBody st) (defScope st) .none kV doc pm an cdv ct) ⟨us, []⟩ = pure (ps.zip us)) :
    ∃ f fd, Mt K C m q st ps f fd := by
  have F := fun_mk (st := st) l c k
  exact ⟨f, _, F, F.binds hb, ⟨a, i, k⟩⟩
theorem co_mk {x : Str} {v : Int} {t : Tok} (X : K.In h) (G : h.Ns mainGlobals mg) (a : PySem.W.nsIn K mainGlobals x = some (some (.int v t))) : Co mg x v := ⟨t, PySem.W.mg_of X G a⟩
theorem kc_mk {C : Addr} {f0 : Addr} {od0 an0 : Option Addr} {sl0 : Array (Option Value)} {oc0 kV0 dc0 pm0 cd0 ct0 : Value} {f1 : Addr} {od1 an1 : Option Addr} {sl1 : Array (Option Value)} {oc1 kV1 dc1 pm1 cd1 ct1 : Value} {f2 : Addr} {od2 an2 : Option Addr} {sl2 : Array (Option Value)} {oc2 kV2 dc2 pm2 cd2 ct2 : Value} {f3 : Addr} {od3 an3 : Option Addr} {sl3 : Array (Option Value)} {oc3 kV3 dc3 pm3 cd3 ct3 : Value} {f4 : Addr} {od4 an4 : Option Addr} {sl4 : Array (Option Value)} {oc4 kV4 dc4 pm4 cd4 ct4 : Value} {f5 : Addr} {od5 an5 : Option Addr} {sl5 : Array (Option Value)} {oc5 kV5 dc5 pm5 cd5 ct5 : Value} (X : K.In h) (G : h.Ns mainGlobals mg) (a : PySem.W.nsIn K mainGlobals "Kinds" = some (some (.ref C)))
    (pg : PySem.W.plainGet K C Str.empty = true) (hd : PySem.W.hasDictIn K C = true) (po : PySem.W.plainOver K C = true) (sa : PySem.W.findIn K (.ref C) "__setattr__" = some (some (.builtin "object.__setattr__"))) (mk : PySem.W.makesIn K C = true) (kc : PySem.W.keepIn K (.ref C) = true)
    (n1 : PySem.W.findIn K (.ref C) "begun" = some none) (n2 : PySem.W.findIn K (.ref C) "weights" = some none)
    (a0 : PySem.W.findIn K (.ref C) "__init__" = some (some (.ref f0))) (i0 : PySem.W.isFn K (.ref f0) = true) (l0 : K.lookup f0 = some ⟨oc0, od0, .func (PySem.W.fnOf "__init__" "Kinds.__init__" (defArgs sInit) (defBody sInit) (defScope sInit) .none kV0 dc0 pm0 an0 cd0 ct0), sl0⟩) (c0 : PySem.W.codeIn K cd0 "Kinds.__init__" = true) (k0 : PySem.W.keepIn K (.ref f0) = true)
    (a1 : PySem.W.findIn K (.ref C) "begin" = some (some (.ref f1))) (i1 : PySem.W.isFn K (.ref f1) = true) (l1 : K.lookup f1 = some ⟨oc1, od1, .func (PySem.W.fnOf "begin" "Kinds.begin" (defArgs sBegin) (defBody sBegin) (defScope sBegin) .none kV1 dc1 pm1 an1 cd1 ct1), sl1⟩) (c1 : PySem.W.codeIn K cd1 "Kinds.begin" = true) (k1 : PySem.W.keepIn K (.ref f1) = true)
    (a2 : PySem.W.findIn K (.ref C) "kind" = some (some (.ref f2))) (i2 : PySem.W.isFn K (.ref f2) = true) (l2 : K.lookup f2 = some ⟨oc2, od2, .func (PySem.W.fnOf "kind" "Kinds.kind" (defArgs sKind) (defBody sKind) (defScope sKind) .none kV2 dc2 pm2 an2 cd2 ct2), sl2⟩) (c2 : PySem.W.codeIn K cd2 "Kinds.kind" = true) (k2 : PySem.W.keepIn K (.ref f2) = true)
    (a3 : PySem.W.findIn K (.ref C) "weight" = some (some (.ref f3))) (i3 : PySem.W.isFn K (.ref f3) = true) (l3 : K.lookup f3 = some ⟨oc3, od3, .func (PySem.W.fnOf "weight" "Kinds.weight" (defArgs sWeight) (defBody sWeight) (defScope sWeight) .none kV3 dc3 pm3 an3 cd3 ct3), sl3⟩) (c3 : PySem.W.codeIn K cd3 "Kinds.weight" = true) (k3 : PySem.W.keepIn K (.ref f3) = true)
    (a4 : PySem.W.findIn K (.ref C) "out" = some (some (.ref f4))) (i4 : PySem.W.isFn K (.ref f4) = true) (l4 : K.lookup f4 = some ⟨oc4, od4, .func (PySem.W.fnOf "out" "Kinds.out" (defArgs sOut) (defBody sOut) (defScope sOut) .none kV4 dc4 pm4 an4 cd4 ct4), sl4⟩) (c4 : PySem.W.codeIn K cd4 "Kinds.out" = true) (k4 : PySem.W.keepIn K (.ref f4) = true)
    (a5 : PySem.W.findIn K (.ref C) "level" = some (some (.ref f5))) (i5 : PySem.W.isFn K (.ref f5) = true) (l5 : K.lookup f5 = some ⟨oc5, od5, .func (PySem.W.fnOf "level" "Kinds.level" (defArgs sLevel) (defBody sLevel) (defScope sLevel) .none kV5 dc5 pm5 an5 cd5 ct5), sl5⟩) (c5 : PySem.W.codeIn K cd5 "Kinds.level" = true) (k5 : PySem.W.keepIn K (.ref f5) = true)
    (B : Bl mg) (S : Cs mg) (I : ∃ f fd, Dn K mg "is_weight" sIsW ["w"] f fd) (I2 : ∃ f fd, Dn K mg "pair_refusal" sPair ["weights", "i", "j"] f fd) (I3 : ∃ f fd, Dn K mg "can_level" sCan ["weights", "i", "j"] f fd) (I4 : ∃ f fd, Dn K mg "leveled" sLev ["weights", "i", "j"] f fd) :
    ∃ C, Kc K mg C ∧ PySem.W.makesIn K C = true ∧ PySem.W.keepIn K (.ref C) = true ∧ (∃ f fd, Mt K C "__init__" "Kinds.__init__" sInit ["self"] f fd) ∧ (∃ f fd, Mt K C "begin" "Kinds.begin" sBegin ["self"] f fd) ∧ (∃ f fd, Mt K C "kind" "Kinds.kind" sKind ["self", "w"] f fd) ∧ (∃ f fd, Mt K C "weight" "Kinds.weight" sWeight ["self", "i", "w"] f fd) ∧ (∃ f fd, Mt K C "out" "Kinds.out" sOut ["self", "i"] f fd) ∧ (∃ f fd, Mt K C "level" "Kinds.level" sLevel ["self", "i", "j"] f fd) :=
  ⟨C, ⟨⟨pg, hd, po, sa⟩, n1, n2, PySem.W.mg_of X G a, B, S, I, I2, I3, I4⟩, mk, kc, mt_mk a0 i0 l0 c0 k0 (fun _ _ _ _ _ _ us hl => match us, hl with | [_], _ => rfl), mt_mk a1 i1 l1 c1 k1 (fun _ _ _ _ _ _ us hl => match us, hl with | [_], _ => rfl), mt_mk a2 i2 l2 c2 k2 (fun _ _ _ _ _ _ us hl => match us, hl with | [_, _], _ => rfl), mt_mk a3 i3 l3 c3 k3 (fun _ _ _ _ _ _ us hl => match us, hl with | [_, _, _], _ => rfl), mt_mk a4 i4 l4 c4 k4 (fun _ _ _ _ _ _ us hl => match us, hl with | [_, _], _ => rfl), mt_mk a5 i5 l5 c5 k5 (fun _ _ _ _ _ _ us hl => match us, hl with | [_, _, _], _ => rfl)⟩
theorem vals_tab {t0 t1 t2 t3 t4 t5 t6 t7 t8 t9 t10 t11 t12 t13 t14 t15 t16 : Tok} : Vals (ivs [0, 1, 2, 1, 2, 1, 1, 1, 1, 2, 1, 3, 2, 2, 3, 1, 0]) (#[.int 0 t0, .int 1 t1, .int 2 t2, .int 1 t3, .int 2 t4, .int 1 t5, .int 1 t6, .int 1 t7, .int 1 t8, .int 2 t9, .int 1 t10, .int 3 t11, .int 2 t12, .int 2 t13, .int 3 t14, .int 1 t15, .int 0 t16] : Array Value).toList :=
  .cons ⟨_, rfl⟩ (.cons ⟨_, rfl⟩ (.cons ⟨_, rfl⟩ (.cons ⟨_, rfl⟩ (.cons ⟨_, rfl⟩ (.cons ⟨_, rfl⟩ (.cons ⟨_, rfl⟩ (.cons ⟨_, rfl⟩ (.cons ⟨_, rfl⟩ (.cons ⟨_, rfl⟩ (.cons ⟨_, rfl⟩ (.cons ⟨_, rfl⟩ (.cons ⟨_, rfl⟩ (.cons ⟨_, rfl⟩ (.cons ⟨_, rfl⟩ (.cons ⟨_, rfl⟩ (.cons ⟨_, rfl⟩ .nil))))))))))))))))
theorem tab_mk {t : Addr} {od : Option Addr} {its : Array Value} {n : Nat} {sl : Array (Option Value)} (X : K.In h) (G : h.Ns mainGlobals mg) (a : PySem.W.nsIn K mainGlobals "ARGUMENT_COUNTS" = some (some (.ref t)))
    (l : K.lookup t = some ⟨.type "tuple", od, .seq its n, sl⟩) (v : Vals (ivs [0, 1, 2, 1, 2, 1, 1, 1, 1, 2, 1, 3, 2, 2, 3, 1, 0]) its.toList) : Tab K mg :=
  ⟨t, PySem.W.mg_of X G a, fun _ => .inr ⟨_, its, n, l, rfl, rfl, by
    have := v.length
    rw [ivs_len] at this
    have e : its.size = 17 := by simpa using this.symm
    rw [e, sizeLine_eq]
    decide, v⟩⟩
theorem nats_of : ∀ {l : List Int}, l.all (PySem.W.Codec.inInt 0 4294967295) = true → ∃ ns : List Nat, l = cs ns
  | [], _ => ⟨[], rfl⟩
  | x :: l, h => by
    rw [List.all_cons, Bool.and_eq_true] at h
    obtain ⟨ns, e⟩ := nats_of h.2
    have h1 : (decide ((0 : Int) ≤ x) && decide (x ≤ 4294967295)) = true := h.1
    rw [Bool.and_eq_true, decide_eq_true_iff] at h1
    refine ⟨x.toNat :: ns, ?_⟩
    show x :: l = ((x.toNat : Nat) : Int) :: cs ns
    rw [e, Int.toNat_of_nonneg h1.1]
theorem fin {P : Program} {w : World} {fa : Addr} (X : K.In h) (G : h.Ns mainGlobals mg) (hfa : mg "answers" = some (.ref fa)) (CC : ∃ C, Kc K mg C ∧ PySem.W.makesIn K C = true ∧ PySem.W.keepIn K (.ref C) = true ∧ (∃ f fd, Mt K C "__init__" "Kinds.__init__" sInit ["self"] f fd) ∧ (∃ f fd, Mt K C "begin" "Kinds.begin" sBegin ["self"] f fd) ∧ (∃ f fd, Mt K C "kind" "Kinds.kind" sKind ["self", "w"] f fd) ∧ (∃ f fd, Mt K C "weight" "Kinds.weight" sWeight ["self", "i", "w"] f fd) ∧ (∃ f fd, Mt K C "out" "Kinds.out" sOut ["self", "i"] f fd) ∧ (∃ f fd, Mt K C "level" "Kinds.level" sLevel ["self", "i", "j"] f fd))
    (TA : Tab K mg) (AX : Ax K mg) (DO : ∃ f fd, Dn K mg "answer_of_some_kinds" sSome ["weights", "number", "given"] f fd) (DA : ∃ f fd, Dn K mg "answer" sAnswer ["kinds", "number", "given"] f fd) (DS : ∃ f fd, Dn K mg "answers" sAnswers ["calls"] f fd) :
    ∃ fd : FuncData, (∀ (s : Shared) (us : List Value), us.length = (["calls"] : List Str).length → BindsTo s fd ⟨us, []⟩ ((["calls"] : List Str).zip us)) ∧ ∀ base : Heap, K.In base → base.Ns mainGlobals mg → FnOk P w K mg base CX0 8 fa fd ["calls"] (spAnswers K) := by
  obtain ⟨C, T, mk, kc, ⟨f0, d0, M0⟩, M1, M2, M3, M4, M5⟩ := CC
  obtain ⟨g, fg, DA⟩ := DA
  obtain ⟨f, fd, DS⟩ := DS
  have e := hfa.symm.trans DS.mg
  cases e
  obtain ⟨oc, od, kV, doc, pm, an, cdv, ct, osl, rfl, lk, hcd⟩ := DS.fn.ex
  refine ⟨PySem.W.fnOf "answers" "answers" (defArgs sAnswers) (defBody sAnswers) (defScope sAnswers) .none kV doc pm an cdv ct, fun s us hu => match us, hu with | [_], _ => .of_eq rfl, fun base _ _ => ?_⟩
  exact ok_answers (j := 5) DS.fn T ⟨mk, M0.at_.1, M0.at_.2, kc⟩ M0.fn M0.bd DA (ok_answer DA.fn ⟨T, AX, DO, M1, M2, M3, M4, M5⟩) TA
end
end Kd
open PySem PySem.W PyProof.Rows
set_option maxRecDepth 100000 in
set_option maxHeartbeats 0 in
theorem PySem.Challenge.cw_kindsdrawn_s01_answers_holds : PySem.Challenge.rw_kindsdrawn_s01_answers.Holds := by
  w_on; k_headS; (case hw => exact ⟨[.list [.int 0]], by decide +kernel, by decide +kernel⟩)
  k_fillS
  refine L2.walk_specK (r := PySem.Challenge.rw_kindsdrawn_s01_answers) (k := 8) (CX := L2.CX0) (ps := ["calls"]) (sp := Kd.spAnswers) (by decide +kernel) rfl rfl ⟨rfl, by decide, by decide⟩ (fun w h Y => PySem.W.kIn_of Y) ?F ?S (fun _ _ _ _ z => z)
  case F =>
    intro w mg fa h Y KX G hmg
    have D_power : ∃ f fd, Kd.Dn (L2.KOf KX) mg "power" Kd.sPower ["base", "exponent"] f fd := by
      dsimp only [L2.KOf]
      refine' Kd.dn_mk KX G ?a ?l ?c ?k (fun _ _ _ _ _ _ us hl => match us, hl with | [_, _], _ => rfl)
      (case a => k_is); (case l => k_is); (case c => k_is); (case k => k_is)
    have D_common_divisor : ∃ f fd, Kd.Dn (L2.KOf KX) mg "common_divisor" Kd.sGcd ["first", "second"] f fd := by
      dsimp only [L2.KOf]
      refine' Kd.dn_mk KX G ?a ?l ?c ?k (fun _ _ _ _ _ _ us hl => match us, hl with | [_, _], _ => rfl)
      (case a => k_is); (case l => k_is); (case c => k_is); (case k => k_is)
    have D_lowest_terms : ∃ f fd, Kd.Dn (L2.KOf KX) mg "lowest_terms" Kd.sLow ["above", "below"] f fd := by
      dsimp only [L2.KOf]
      refine' Kd.dn_mk KX G ?a ?l ?c ?k (fun _ _ _ _ _ _ us hl => match us, hl with | [_, _], _ => rfl)
      (case a => k_is); (case l => k_is); (case c => k_is); (case k => k_is)
    have D_with_one_draw_more : ∃ f fd, Kd.Dn (L2.KOf KX) mg "with_one_draw_more" Kd.sMore ["weights", "by_seen"] f fd := by
      dsimp only [L2.KOf]
      refine' Kd.dn_mk KX G ?a ?l ?c ?k (fun _ _ _ _ _ _ us hl => match us, hl with | [_, _], _ => rfl)
      (case a => k_is); (case l => k_is); (case c => k_is); (case k => k_is)
    have D_rows_by_seen : ∃ f fd, Kd.Dn (L2.KOf KX) mg "rows_by_seen" Kd.sSeen ["weights", "n"] f fd := by
      dsimp only [L2.KOf]
      refine' Kd.dn_mk KX G ?a ?l ?c ?k (fun _ _ _ _ _ _ us hl => match us, hl with | [_, _], _ => rfl)
      (case a => k_is); (case l => k_is); (case c => k_is); (case k => k_is)
    have D_count_seen : ∃ f fd, Kd.Dn (L2.KOf KX) mg "count_seen" Kd.sCnt ["seen"] f fd := by
      dsimp only [L2.KOf]
      refine' Kd.dn_mk KX G ?a ?l ?c ?k (fun _ _ _ _ _ _ us hl => match us, hl with | [_], _ => rfl)
      (case a => k_is); (case l => k_is); (case c => k_is); (case k => k_is)
    have D_rows_by_count : ∃ f fd, Kd.Dn (L2.KOf KX) mg "rows_by_count" Kd.sRows ["weights", "n"] f fd := by
      dsimp only [L2.KOf]
      refine' Kd.dn_mk KX G ?a ?l ?c ?k (fun _ _ _ _ _ _ us hl => match us, hl with | [_, _], _ => rfl)
      (case a => k_is); (case l => k_is); (case c => k_is); (case k => k_is)
    have D_chance_of_count : ∃ f fd, Kd.Dn (L2.KOf KX) mg "chance_of_count" Kd.sChance ["weights", "n", "k"] f fd := by
      dsimp only [L2.KOf]
      refine' Kd.dn_mk KX G ?a ?l ?c ?k (fun _ _ _ _ _ _ us hl => match us, hl with | [_, _, _], _ => rfl)
      (case a => k_is); (case l => k_is); (case c => k_is); (case k => k_is)
    have D_likeliest_count : ∃ f fd, Kd.Dn (L2.KOf KX) mg "likeliest_count" Kd.sLik ["weights", "n"] f fd := by
      dsimp only [L2.KOf]
      refine' Kd.dn_mk KX G ?a ?l ?c ?k (fun _ _ _ _ _ _ us hl => match us, hl with | [_, _], _ => rfl)
      (case a => k_is); (case l => k_is); (case c => k_is); (case k => k_is)
    have D_mean_count : ∃ f fd, Kd.Dn (L2.KOf KX) mg "mean_count" Kd.sMean ["weights", "n"] f fd := by
      dsimp only [L2.KOf]
      refine' Kd.dn_mk KX G ?a ?l ?c ?k (fun _ _ _ _ _ _ us hl => match us, hl with | [_, _], _ => rfl)
      (case a => k_is); (case l => k_is); (case c => k_is); (case k => k_is)
    have D_mean_added : ∃ f fd, Kd.Dn (L2.KOf KX) mg "mean_added" Kd.sAdds ["weights", "n"] f fd := by
      dsimp only [L2.KOf]
      refine' Kd.dn_mk KX G ?a ?l ?c ?k (fun _ _ _ _ _ _ us hl => match us, hl with | [_, _], _ => rfl)
      (case a => k_is); (case l => k_is); (case c => k_is); (case k => k_is)
    have D_even_mean : ∃ f fd, Kd.Dn (L2.KOf KX) mg "even_mean" Kd.sEven ["weights", "n"] f fd := by
      dsimp only [L2.KOf]
      refine' Kd.dn_mk KX G ?a ?l ?c ?k (fun _ _ _ _ _ _ us hl => match us, hl with | [_, _], _ => rfl)
      (case a => k_is); (case l => k_is); (case c => k_is); (case k => k_is)
    have D_draws_needed : ∃ f fd, Kd.Dn (L2.KOf KX) mg "draws_needed" Kd.sNeed ["weights", "a", "b", "most"] f fd := by
      dsimp only [L2.KOf]
      refine' Kd.dn_mk KX G ?a ?l ?c ?k (fun _ _ _ _ _ _ us hl => match us, hl with | [_, _, _, _], _ => rfl)
      (case a => k_is); (case l => k_is); (case c => k_is); (case k => k_is)
    have D_chance_seen : ∃ f fd, Kd.Dn (L2.KOf KX) mg "chance_seen" Kd.sCSeen ["weights", "i", "n"] f fd := by
      dsimp only [L2.KOf]
      refine' Kd.dn_mk KX G ?a ?l ?c ?k (fun _ _ _ _ _ _ us hl => match us, hl with | [_, _, _], _ => rfl)
      (case a => k_is); (case l => k_is); (case c => k_is); (case k => k_is)
    have D_chance_both : ∃ f fd, Kd.Dn (L2.KOf KX) mg "chance_both" Kd.sCBoth ["weights", "i", "j", "n"] f fd := by
      dsimp only [L2.KOf]
      refine' Kd.dn_mk KX G ?a ?l ?c ?k (fun _ _ _ _ _ _ us hl => match us, hl with | [_, _, _, _], _ => rfl)
      (case a => k_is); (case l => k_is); (case c => k_is); (case k => k_is)
    have D_is_weight : ∃ f fd, Kd.Dn (L2.KOf KX) mg "is_weight" Kd.sIsW ["w"] f fd := by
      dsimp only [L2.KOf]
      refine' Kd.dn_mk KX G ?a ?l ?c ?k (fun _ _ _ _ _ _ us hl => match us, hl with | [_], _ => rfl)
      (case a => k_is); (case l => k_is); (case c => k_is); (case k => k_is)
    have D_pair_refusal : ∃ f fd, Kd.Dn (L2.KOf KX) mg "pair_refusal" Kd.sPair ["weights", "i", "j"] f fd := by
      dsimp only [L2.KOf]
      refine' Kd.dn_mk KX G ?a ?l ?c ?k (fun _ _ _ _ _ _ us hl => match us, hl with | [_, _, _], _ => rfl)
      (case a => k_is); (case l => k_is); (case c => k_is); (case k => k_is)
    have D_can_level : ∃ f fd, Kd.Dn (L2.KOf KX) mg "can_level" Kd.sCan ["weights", "i", "j"] f fd := by
      dsimp only [L2.KOf]
      refine' Kd.dn_mk KX G ?a ?l ?c ?k (fun _ _ _ _ _ _ us hl => match us, hl with | [_, _, _], _ => rfl)
      (case a => k_is); (case l => k_is); (case c => k_is); (case k => k_is)
    have D_leveled : ∃ f fd, Kd.Dn (L2.KOf KX) mg "leveled" Kd.sLev ["weights", "i", "j"] f fd := by
      dsimp only [L2.KOf]
      refine' Kd.dn_mk KX G ?a ?l ?c ?k (fun _ _ _ _ _ _ us hl => match us, hl with | [_, _, _], _ => rfl)
      (case a => k_is); (case l => k_is); (case c => k_is); (case k => k_is)
    have D_answer_seen : ∃ f fd, Kd.Dn (L2.KOf KX) mg "answer_seen" Kd.sASeen ["weights", "i", "n"] f fd := by
      dsimp only [L2.KOf]
      refine' Kd.dn_mk KX G ?a ?l ?c ?k (fun _ _ _ _ _ _ us hl => match us, hl with | [_, _, _], _ => rfl)
      (case a => k_is); (case l => k_is); (case c => k_is); (case k => k_is)
    have D_answer_both : ∃ f fd, Kd.Dn (L2.KOf KX) mg "answer_both" Kd.sABoth ["weights", "i", "j", "n"] f fd := by
      dsimp only [L2.KOf]
      refine' Kd.dn_mk KX G ?a ?l ?c ?k (fun _ _ _ _ _ _ us hl => match us, hl with | [_, _, _, _], _ => rfl)
      (case a => k_is); (case l => k_is); (case c => k_is); (case k => k_is)
    have D_answer_would : ∃ f fd, Kd.Dn (L2.KOf KX) mg "answer_would" Kd.sAWould ["weights", "i", "j", "n"] f fd := by
      dsimp only [L2.KOf]
      refine' Kd.dn_mk KX G ?a ?l ?c ?k (fun _ _ _ _ _ _ us hl => match us, hl with | [_, _, _, _], _ => rfl)
      (case a => k_is); (case l => k_is); (case c => k_is); (case k => k_is)
    have D_answer_needed : ∃ f fd, Kd.Dn (L2.KOf KX) mg "answer_needed" Kd.sANeed ["weights", "a", "b"] f fd := by
      dsimp only [L2.KOf]
      refine' Kd.dn_mk KX G ?a ?l ?c ?k (fun _ _ _ _ _ _ us hl => match us, hl with | [_, _, _], _ => rfl)
      (case a => k_is); (case l => k_is); (case c => k_is); (case k => k_is)
    have D_answer_of_draws : ∃ f fd, Kd.Dn (L2.KOf KX) mg "answer_of_draws" Kd.sDraws ["weights", "number", "given"] f fd := by
      dsimp only [L2.KOf]
      refine' Kd.dn_mk KX G ?a ?l ?c ?k (fun _ _ _ _ _ _ us hl => match us, hl with | [_, _, _], _ => rfl)
      (case a => k_is); (case l => k_is); (case c => k_is); (case k => k_is)
    have D_answer_of_some_kinds : ∃ f fd, Kd.Dn (L2.KOf KX) mg "answer_of_some_kinds" Kd.sSome ["weights", "number", "given"] f fd := by
      dsimp only [L2.KOf]
      refine' Kd.dn_mk KX G ?a ?l ?c ?k (fun _ _ _ _ _ _ us hl => match us, hl with | [_, _, _], _ => rfl)
      (case a => k_is); (case l => k_is); (case c => k_is); (case k => k_is)
    have D_answer : ∃ f fd, Kd.Dn (L2.KOf KX) mg "answer" Kd.sAnswer ["kinds", "number", "given"] f fd := by
      dsimp only [L2.KOf]
      refine' Kd.dn_mk KX G ?a ?l ?c ?k (fun _ _ _ _ _ _ us hl => match us, hl with | [_, _, _], _ => rfl)
      (case a => k_is); (case l => k_is); (case c => k_is); (case k => k_is)
    have D_answers : ∃ f fd, Kd.Dn (L2.KOf KX) mg "answers" Kd.sAnswers ["calls"] f fd := by
      dsimp only [L2.KOf]
      refine' Kd.dn_mk KX G ?a ?l ?c ?k (fun _ _ _ _ _ _ us hl => match us, hl with | [_], _ => rfl)
      (case a => k_is); (case l => k_is); (case c => k_is); (case k => k_is)
    have C_NOT_BEGUN : Kd.Co mg "NOT_BEGUN" (-11) := by
      refine' Kd.co_mk KX G ?a
      (case a => k_is)
    have C_NO_KINDS : Kd.Co mg "NO_KINDS" (-6) := by
      refine' Kd.co_mk KX G ?a
      (case a => k_is)
    have C_NO_SUCH_KIND : Kd.Co mg "NO_SUCH_KIND" (-2) := by
      refine' Kd.co_mk KX G ?a
      (case a => k_is)
    have C_NOT_ALLOWED : Kd.Co mg "NOT_ALLOWED" (-22) := by
      refine' Kd.co_mk KX G ?a
      (case a => k_is)
    have C_NO_ROOM : Kd.Co mg "NO_ROOM" (-28) := by
      refine' Kd.co_mk KX G ?a
      (case a => k_is)
    have C_MOST_KINDS : Kd.Co mg "MOST_KINDS" 6 := by
      refine' Kd.co_mk KX G ?a
      (case a => k_is)
    have C_MOST_WEIGHT : Kd.Co mg "MOST_WEIGHT" 20 := by
      refine' Kd.co_mk KX G ?a
      (case a => k_is)
    have C_MOST_DRAWS : Kd.Co mg "MOST_DRAWS" 12 := by
      refine' Kd.co_mk KX G ?a
      (case a => k_is)
    have C_NOT_TO_BE_HAD : Kd.Co mg "NOT_TO_BE_HAD" (-33) := by
      refine' Kd.co_mk KX G ?a
      (case a => k_is)
    have C_MOST_DRAWS_NEEDED : Kd.Co mg "MOST_DRAWS_NEEDED" 399 := by
      refine' Kd.co_mk KX G ?a
      (case a => k_is)
    have C_MOST_ABOVE : Kd.Co mg "MOST_ABOVE" 100 := by
      refine' Kd.co_mk KX G ?a
      (case a => k_is)
    have C_MOST_BELOW : Kd.Co mg "MOST_BELOW" 100 := by
      refine' Kd.co_mk KX G ?a
      (case a => k_is)
    have C_BEGIN : Kd.Co mg "BEGIN" 0 := by
      refine' Kd.co_mk KX G ?a
      (case a => k_is)
    have C_KIND : Kd.Co mg "KIND" 1 := by
      refine' Kd.co_mk KX G ?a
      (case a => k_is)
    have C_WEIGHT : Kd.Co mg "WEIGHT" 2 := by
      refine' Kd.co_mk KX G ?a
      (case a => k_is)
    have C_OUT : Kd.Co mg "OUT" 3 := by
      refine' Kd.co_mk KX G ?a
      (case a => k_is)
    have C_CHANCE : Kd.Co mg "CHANCE" 4 := by
      refine' Kd.co_mk KX G ?a
      (case a => k_is)
    have C_ALL : Kd.Co mg "ALL" 5 := by
      refine' Kd.co_mk KX G ?a
      (case a => k_is)
    have C_MEAN : Kd.Co mg "MEAN" 6 := by
      refine' Kd.co_mk KX G ?a
      (case a => k_is)
    have C_ADDS : Kd.Co mg "ADDS" 7 := by
      refine' Kd.co_mk KX G ?a
      (case a => k_is)
    have C_SEEN : Kd.Co mg "SEEN" 9 := by
      refine' Kd.co_mk KX G ?a
      (case a => k_is)
    have C_EVEN : Kd.Co mg "EVEN" 10 := by
      refine' Kd.co_mk KX G ?a
      (case a => k_is)
    have C_BOTH : Kd.Co mg "BOTH" 11 := by
      refine' Kd.co_mk KX G ?a
      (case a => k_is)
    have C_NEEDED : Kd.Co mg "NEEDED" 12 := by
      refine' Kd.co_mk KX G ?a
      (case a => k_is)
    have C_LEVEL : Kd.Co mg "LEVEL" 13 := by
      refine' Kd.co_mk KX G ?a
      (case a => k_is)
    have C_WOULD : Kd.Co mg "WOULD" 14 := by
      refine' Kd.co_mk KX G ?a
      (case a => k_is)
    have C_MOST : Kd.Co mg "MOST" 15 := by
      refine' Kd.co_mk KX G ?a
      (case a => k_is)
    have C_TOLD : Kd.Co mg "TOLD" 16 := by
      refine' Kd.co_mk KX G ?a
      (case a => k_is)
    have B_range : mg "range" = none := by
      refine' PySem.W.mg_none_of KX G ?a
      (case a => k_is)
    have B_len : mg "len" = none := by
      refine' PySem.W.mg_none_of KX G ?a
      (case a => k_is)
    have B_enumerate : mg "enumerate" = none := by
      refine' PySem.W.mg_none_of KX G ?a
      (case a => k_is)
    have B_sum : mg "sum" = none := by
      refine' PySem.W.mg_none_of KX G ?a
      (case a => k_is)
    have B_max : mg "max" = none := by
      refine' PySem.W.mg_none_of KX G ?a
      (case a => k_is)
    have B_min : mg "min" = none := by
      refine' PySem.W.mg_none_of KX G ?a
      (case a => k_is)
    have B_zip : mg "zip" = none := by
      refine' PySem.W.mg_none_of KX G ?a
      (case a => k_is)
    have B_list : mg "list" = none := by
      refine' PySem.W.mg_none_of KX G ?a
      (case a => k_is)
    have TA : Kd.Tab (L2.KOf KX) mg := by
      dsimp only [L2.KOf]
      refine' Kd.tab_mk KX G ?a ?l ?v
      (case a => k_is); (case l => k_is)
      (case v => exact Kd.vals_tab)
    have HB : Kd.Bl mg := ⟨B_range, B_len, B_enumerate, B_sum, B_max, B_min, B_zip, B_list⟩
    have HS : Kd.Cs mg := ⟨C_NOT_BEGUN, C_NO_KINDS, C_NO_SUCH_KIND, C_NOT_ALLOWED, C_NO_ROOM, C_MOST_KINDS, C_MOST_WEIGHT, C_MOST_DRAWS, C_NOT_TO_BE_HAD, C_MOST_DRAWS_NEEDED, C_MOST_ABOVE, C_MOST_BELOW, C_BEGIN, C_KIND, C_WEIGHT, C_OUT, C_CHANCE, C_ALL, C_MEAN, C_ADDS, C_SEEN, C_EVEN, C_BOTH, C_NEEDED, C_LEVEL, C_WOULD, C_MOST, C_TOLD⟩
    have CC : ∃ C, Kd.Kc (L2.KOf KX) mg C ∧ PySem.W.makesIn (L2.KOf KX) C = true ∧ PySem.W.keepIn (L2.KOf KX) (.ref C) = true ∧ (∃ f fd, Kd.Mt (L2.KOf KX) C "__init__" "Kinds.__init__" Kd.sInit ["self"] f fd) ∧ (∃ f fd, Kd.Mt (L2.KOf KX) C "begin" "Kinds.begin" Kd.sBegin ["self"] f fd) ∧ (∃ f fd, Kd.Mt (L2.KOf KX) C "kind" "Kinds.kind" Kd.sKind ["self", "w"] f fd) ∧ (∃ f fd, Kd.Mt (L2.KOf KX) C "weight" "Kinds.weight" Kd.sWeight ["self", "i", "w"] f fd) ∧ (∃ f fd, Kd.Mt (L2.KOf KX) C "out" "Kinds.out" Kd.sOut ["self", "i"] f fd) ∧ (∃ f fd, Kd.Mt (L2.KOf KX) C "level" "Kinds.level" Kd.sLevel ["self", "i", "j"] f fd) := by
      dsimp only [L2.KOf]
      refine' Kd.kc_mk KX G ?a ?pg ?hd ?po ?sa ?mk ?kc ?n1 ?n2 ?a0 ?i0 ?l0 ?c0 ?k0 ?a1 ?i1 ?l1 ?c1 ?k1 ?a2 ?i2 ?l2 ?c2 ?k2 ?a3 ?i3 ?l3 ?c3 ?k3 ?a4 ?i4 ?l4 ?c4 ?k4 ?a5 ?i5 ?l5 ?c5 ?k5 HB HS D_is_weight D_pair_refusal D_can_level D_leveled
      (case a => k_is); (case pg => k_is); (case hd => k_is); (case po => k_is); (case sa => k_is); (case mk => k_is); (case kc => k_is); (case n1 => k_is); (case n2 => k_is)
      (case a0 => k_is); (case i0 => k_is); (case l0 => k_is); (case c0 => k_is); (case k0 => k_is)
      (case a1 => k_is); (case i1 => k_is); (case l1 => k_is); (case c1 => k_is); (case k1 => k_is)
      (case a2 => k_is); (case i2 => k_is); (case l2 => k_is); (case c2 => k_is); (case k2 => k_is)
      (case a3 => k_is); (case i3 => k_is); (case l3 => k_is); (case c3 => k_is); (case k3 => k_is)
      (case a4 => k_is); (case i4 => k_is); (case l4 => k_is); (case c4 => k_is); (case k4 => k_is)
      (case a5 => k_is); (case i5 => k_is); (case l5 => k_is); (case c5 => k_is); (case k5 => k_is)
    have HD : Kd.Dx (L2.KOf KX) mg := ⟨⟨HB, D_power, D_common_divisor, D_lowest_terms, D_with_one_draw_more, D_rows_by_seen, D_count_seen, D_rows_by_count⟩, HS, D_chance_of_count, D_likeliest_count, D_mean_count, D_mean_added, D_even_mean, D_draws_needed, D_chance_seen, D_chance_both, D_pair_refusal, D_can_level, D_leveled⟩
    exact Kd.fin KX G hmg CC TA ⟨HD, D_answer_seen, D_answer_both, D_answer_would, D_answer_needed, D_answer_of_draws⟩ D_answer_of_some_kinds D_answer D_answers
  case S =>
    intro K H xs a hO hwi hask hx
    cases hx with
    | cons h1 h2 =>
      cases h2
      cases h1 with
      | lst hs ha =>
        have e := L2.ints_dw a.1 _ ha
        subst e
        have q : ((PySem.W.Codec.inLen 0 320 a.1 && a.1.all (PySem.W.Codec.inInt 0 4294967295)) && true) = true := hwi
        rw [Bool.and_eq_true, Bool.and_eq_true] at q
        obtain ⟨ns, en⟩ := Kd.nats_of q.1.2
        refine ⟨_, ns, rfl, ?_, ?_, fun H' p hp => ?_⟩
        · rw [Kd.ivs_cs, ← en]
          exact hs
        · rw [← en]
          exact hask
        · rw [← en] at hp
          exact .lst (L2.SqL.of hp) (L2.dw_ints _)
