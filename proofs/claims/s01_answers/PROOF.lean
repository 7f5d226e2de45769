import PyProof.Rows.All
import Wide.All
import OpenK.AllK
import Wide.FinOn
import PyProof.EqAt
import PyProof.EqKinds
import PyProof.TupleCall
import KE.BitLaws
import Open.SpecLaws
import KE.OsHead
import KE.OsGo
import PyFlatLaws
import PySem.Challenge.RW_halfwhole_s01_answers
set_option Elab.async false
set_option linter.all false
set_option maxRecDepth 100000
namespace L2
open PySem PySem.Spec PyProof.Rows
/-- a key: an int or a str -/
abbrev Key := Sum Int Str
def keyIs : Key → Value → Bool
  | .inl k, v => Value.isInt k v
  | .inr x, v => Value.isStrOf x v
def keyH (w : World) : Key → Int
  | .inl k => hashInt k
  | .inr x => hashStr w x
theorem keyIs_shape : ∀ {k : Key} {v : Value}, keyIs k v = true → (∃ i t, k = Sum.inl i ∧ v = Value.int i t) ∨ (∃ x t, k = Sum.inr x ∧ v = Value.str x t)
  | .inl i, v, h => by
    obtain ⟨t, e⟩ := Value.isInt_shape (k := i) (v := v) h
    exact .inl ⟨i, t, rfl, e⟩
  | .inr x, v, h => by
    obtain ⟨t, e⟩ := Value.isStrOf_shape (x := x) (v := v) h
    exact .inr ⟨x, t, rfl, e⟩
theorem key_ll (a b : Int) : decide ((Sum.inl a : Key) = Sum.inl b) = (a == b) := by
  by_cases e : a = b
  · subst e; simp
  · have h : ¬ (Sum.inl a : Key) = Sum.inl b := fun q => e (Sum.inl.inj q)
    rw [decide_eq_false h]
    exact (beq_eq_false_iff_ne.mpr e).symm
theorem key_rr (a b : Str) : decide ((Sum.inr a : Key) = Sum.inr b) = decide (a = b) := by
  by_cases e : a = b
  · subst e; simp
  · have h : ¬ (Sum.inr a : Key) = Sum.inr b := fun q => e (Sum.inr.inj q)
    rw [decide_eq_false h, decide_eq_false e]
theorem key_lr (a : Int) (b : Str) : decide ((Sum.inl a : Key) = Sum.inr b) = false := decide_eq_false (fun q => nomatch q)
theorem key_rl (a : Str) (b : Int) : decide ((Sum.inr a : Key) = Sum.inl b) = false := decide_eq_false (fun q => nomatch q)
def mixKind (prog : Program) (w : World) : PySem.KeyKind prog w Key where
  is := keyIs
  hash := keyH w
  inj := fun v a b ha hb => by
    rcases keyIs_shape ha with ⟨i, t, rfl, rfl⟩ | ⟨x, t, rfl, rfl⟩
    · rcases keyIs_shape hb with ⟨j, u, rfl, e⟩ | ⟨y, u, rfl, e⟩
      · injection e with e1 _; rw [e1]
      · exact nomatch e
    · rcases keyIs_shape hb with ⟨j, u, rfl, e⟩ | ⟨y, u, rfl, e⟩
      · exact nomatch e
      · injection e with e1 _; rw [e1]
  byValue := fun k v h => by
    rcases keyIs_shape h with ⟨i, t, rfl, rfl⟩ | ⟨x, t, rfl, rfl⟩ <;> rfl
  pyHash := fun hv h => by
    rcases keyIs_shape hv with ⟨i, t, rfl, rfl⟩ | ⟨x, t, rfl, rfl⟩
    · exact wpAny_pyHash_int h
    · exact wpAny_pyHash_str h
  eqBool := fun hu hv h => by
    rcases keyIs_shape hu with ⟨i, t, rfl, rfl⟩ | ⟨x, t, rfl, rfl⟩
    · rcases keyIs_shape hv with ⟨j, u, rfl, rfl⟩ | ⟨y, u, rfl, rfl⟩
      · rw [key_ll] at h; exact wpAny_eqBool_int h
      · rw [key_lr] at h; exact SeqAt.EqAt.int_str i t y u _ _ _ _ h
    · rcases keyIs_shape hv with ⟨j, u, rfl, rfl⟩ | ⟨y, u, rfl, rfl⟩
      · rw [key_rl] at h; exact SeqAt.EqAt.str_int x t j u _ _ _ _ h
      · rw [key_rr] at h; exact wpAny_eqBool_str h
  «strs» := fun k x t v h => by
    rcases keyIs_shape h with ⟨i, u, rfl, e⟩ | ⟨y, u, rfl, e⟩
    · exact nomatch e
    · injection e with e1 _
      subst e1
      cases v <;> rfl
end L2
namespace L2
open PySem PySem.Spec PyProof.Rows
/-- a value, without the heap -/
inductive V where
  | non | bl (b : Bool) | int (i : Int) | str (x : Str) | byt (b : Array UInt8) | flt (b : UInt64) | ref (a : Addr) | ty (n : String)
  deriving DecidableEq
def RelV : V → Value → Prop
  | .non, u => u = Value.none
  | .bl b, u => u = Value.bool b
  | .int i, u => ∃ t, u = Value.int i t
  | .str x, u => ∃ t, u = Value.str x t
  | .byt b, u => ∃ t, u = Value.bytes b t
  | .flt b, u => ∃ t, u = Value.float b t
  | .ref a, u => u = Value.ref a
  | .ty n, u => u = Value.type n
abbrev Vals : List V → List Value → Prop := Paired RelV
theorem Vals.length {xs : List V} {us : List Value} (r : Vals xs us) : xs.length = us.length := Paired.length r
theorem Vals.get : ∀ {xs : List V} {us : List Value} {i : Nat} {x : V}, Vals xs us → xs[i]? = some x → ∃ u, us[i]? = some u ∧ RelV x u
  | _, _, _, _, .nil, e => by simp at e
  | _, _, 0, _, .cons r _, e => by simp at e; subst e; exact ⟨_, rfl, r⟩
  | _, _, i + 1, x, .cons _ t, e => by
    obtain ⟨u, h1, h2⟩ := Vals.get (i := i) (x := x) t (by simpa using e)
    exact ⟨u, by simpa using h1, h2⟩
theorem Vals.set {x : V} {u : Value} (r : RelV x u) : ∀ {xs : List V} {us : List Value} (i : Nat), Vals xs us → Vals (xs.set i x) (us.set i u)
  | _, _, _, .nil => .nil
  | _, _, 0, .cons _ t => .cons r t
  | _, _, i + 1, .cons q t => .cons q (Vals.set r i t)
theorem Vals.append : ∀ {xs ys : List V} {us ws : List Value}, Vals xs us → Vals ys ws → Vals (xs ++ ys) (us ++ ws)
  | _, _, _, _, .nil, s => s
  | _, _, _, _, .cons r t, s => .cons r (Vals.append t s)
theorem Vals.take : ∀ {xs : List V} {us : List Value} (n : Nat), Vals xs us → Vals (xs.take n) (us.take n)
  | _, _, 0, _ => .nil
  | _, _, _ + 1, .nil => .nil
  | _, _, n + 1, .cons r t => .cons r (Vals.take n t)
theorem Vals.drop : ∀ {xs : List V} {us : List Value} (n : Nat), Vals xs us → Vals (xs.drop n) (us.drop n)
  | _, _, 0, r => r
  | _, _, _ + 1, .nil => .nil
  | _, _, n + 1, .cons _ t => Vals.drop n t
def RelO : Option V → Option Value → Prop
  | some v, some u => RelV v u
  | none, none => True
  | _, _ => False
def KV {κ : Type} : List (κ × V) → List (κ × Value) → Prop := Paired fun (p : κ × V) (q : κ × Value) => p.1 = q.1 ∧ RelV p.2 q.2
/-- a key of a dict (00_mix): an int or a text -/
def kV : Key → V
  | .inl i => .int i
  | .inr x => .str x
/-- what stands at a tracked address -/
inductive HO where
  /-- a list -/
  | lst (xs : List V)
  /-- a tuple (never changes) -/
  | tup (xs : List V)
  /-- a dict whose keys are ints and texts; one whose keys are tuples of ints and texts (the empty one is both) -/
  | dK (kvs : List (Key × V)) | dT (kvs : List (List Key × V))
  /-- a set of ints: its members, its size -/
  | set (S : Int → Bool) (n : Nat)
  /-- an instance of the class at C, its dict at dx, its attributes -/
  | ins (C dx : Addr) (fs : List (Str × V))
  /-- the dict of the instance at x -/
  | own (x : Addr)
  /-- the dict of an exception -/
  | xd (fs : List (Str × V))
  /-- a bound method, f of x -/
  | met (f x : Addr)
  /-- a range object lo, lo + 1, .. below hi -/
  | rng (lo hi : Int)
  /-- a thing that is known to the object (the script; a dict while a loop walks it): read, never written while it is so -/
  | frz (o : Obj) (u : HO)
  /-- a code object's table -/
  | tbl (ps : Array Value)
  /-- any other thing, by what is true of its one object (a def of one's own: SetO a S n := HO.ext fun h => ..) -/
  | ext (φ : Heap → Prop)
abbrev Hp := Addr → Option HO
def upd (H : Hp) (a : Addr) (o : HO) : Hp := fun b => if b = a then some o else H b
theorem upd_same {H : Hp} {a : Addr} {o : HO} : upd H a o a = some o := by unfold upd; rw [if_pos rfl]
theorem upd_ne {H : Hp} {a b : Addr} {o : HO} (h : b ≠ a) : upd H a o b = H b := by unfold upd; rw [if_neg h]
/-- two objects of different content stand apart -/
theorem ne_of {H : Hp} {a b : Addr} {o u : HO} (h : H a = some o) (h' : H b = some u) (d : o ≠ u) : a ≠ b := by
  intro e; subst e; rw [h] at h'; exact d (Option.some.inj h')
theorem ne_of_none {H : Hp} {a b : Addr} {o : HO} (h : H a = some o) (h' : H b = none) : a ≠ b := by
  intro e; subst e; rw [h] at h'; cases h'
section
variable (P : Program) (w : World)
def ObjOk (H : Hp) (h : Heap) (a : Addr) : HO → Prop
  | .lst xs => xs.length ≤ sizeLine ∧ ∃ (its : List Value) (n : Nat), Vals xs its ∧ h.get? a = some { cls := .type "list", data := .seq its.toArray n }
  | .tup xs => xs.length ≤ sizeLine ∧ ∃ its : List Value, Vals xs its ∧ IsTup h a its.toArray
  | .dK kvs => kvs.length ≤ sizeLine ∧ (a == sysModules) = false ∧ ∃ vs, KV kvs vs ∧ h.DictOf (mixKind P w) a vs
  | .dT kvs => kvs.length ≤ sizeLine ∧ (a == sysModules) = false ∧ ∃ xs : List (List Key × Addr × Value),
      Paired (fun (p : List Key × V) (q : List Key × Addr × Value) => p.1 = q.1 ∧ H q.2.1 = some (.tup (p.1.map kV)) ∧ RelV p.2 q.2.2) kvs xs ∧
      ∃ o es ep, h.get? a = some o ∧ o.ExactDict ∧ o.data = .dict es ep ∧ es.toList = xs.map (entryOfKey (tupleKind (mixKind P w))) ∧ (xs.map (·.1)).Nodup
  | .set S n => h.SetOf (intKind P w) a S n
  | .ins C dx fs => H dx = some (.own a) ∧ fs.length ≤ 1000 ∧ dx ≠ a ∧ h.get? a = some (PySem.W.instObj C dx) ∧
      ∃ mA, h.Ns1 dx mA ∧ (∀ f, RelO (fs.lookup f) (mA f)) ∧ PySem.Within mA (fs.map (·.1))
  | .own _ => ∃ o, h.get? a = some o
  | .xd fs => ∃ mA, h.Ns1 a mA ∧ ∀ f, RelO (fs.lookup f) (mA f)
  | .rng lo hi => ∃ t u v, h.get? a = some { cls := .type "range", data := .fields #[.int lo t, .int hi u, .int 1 v] }
  | .frz o u => h.get? a = some o ∧ ObjOk H h a u
  | .tbl ps => h.get? a = some { cls := .none, data := .fields ps }
  | .met f x => h.get? a = some (PySem.W.methodObj (.ref f) (.ref x))
  | .ext φ => φ h ∧ (∃ o, h.get? a = some o) ∧ ∀ h1 h2 : Heap, φ h1 → (∀ o, h1.get? a = some o → h2.get? a = some o) → φ h2
/-- the abstract heap is held -/
def HOk (H : Hp) (h : Heap) : Prop := ∀ a o, H a = some o → ObjOk P w H h a o
end
section
variable {P : Program} {w : World} {H H' : Hp} {h h' : Heap} {a : Addr} {o : HO}
theorem ObjOk.lt (x : ObjOk P w H h a o) : a < h.objs.size := by
  cases o with
  | lst xs => obtain ⟨_, _, _, _, e⟩ := x; exact Heap.lt_size e
  | tup xs => obtain ⟨_, _, _, p⟩ := x; exact p.lt
  | dK kvs => obtain ⟨_, _, _, _, o, _, _, e, _⟩ := x; exact Heap.lt_size e
  | dT kvs => obtain ⟨_, _, _, _, o, _, _, e, _⟩ := x; exact Heap.lt_size e
  | set S n => obtain ⟨o, _, _, _, e, _⟩ := x; exact Heap.lt_size e
  | ins C dx fs => obtain ⟨_, _, _, e, _⟩ := x; exact Heap.lt_size e
  | own y => obtain ⟨_, e⟩ := x; exact Heap.lt_size e
  | xd fs => obtain ⟨_, ⟨_, _, _, e, _⟩, _⟩ := x; exact Heap.lt_size e
  | rng lo hi => obtain ⟨_, _, _, e⟩ := x; exact Heap.lt_size e
  | frz ob u => obtain ⟨e, _⟩ := x; exact Heap.lt_size e
  | tbl ps => exact Heap.lt_size (show h.get? a = some _ from x)
  | met f y => exact Heap.lt_size (show h.get? a = some _ from x)
  | ext φ => obtain ⟨_, ⟨_, e⟩, _⟩ := x; exact Heap.lt_size e
theorem Paired.mapP {α β : Type} {F G : α → β → Prop} : ∀ {l₁ : List α} {l₂ : List β}, Paired F l₁ l₂ → (∀ a b, F a b → G a b) → Paired G l₁ l₂
  | _, _, .nil, _ => .nil
  | _, _, .cons r t, f => .cons (f _ _ r) (Paired.mapP t f)
/-- what an object's description leans on: its own object, its own dict, the tuples -/
theorem ObjOk.stay (x : ObjOk P w H h a o) (k : ∀ b u, (b = a ∨ H b = some (.own a)) → h.get? b = some u → h'.get? b = some u)
    (ho : ∀ b, H b = some (.own a) → H' b = some (.own a)) (ht : ∀ b xs, H b = some (.tup xs) → H' b = some (.tup xs)) : ObjOk P w H' h' a o := by
  induction o with
  | lst xs => obtain ⟨z, its, n, r, e⟩ := x; exact ⟨z, its, n, r, k _ _ (.inl rfl) e⟩
  | tup xs => obtain ⟨z, its, r, ob, e, c⟩ := x; exact ⟨z, its, r, ob, k _ _ (.inl rfl) e, c⟩
  | dK kvs => obtain ⟨z, y, vs, r, ob, es, ep, e, c⟩ := x; exact ⟨z, y, vs, r, ob, es, ep, k _ _ (.inl rfl) e, c⟩
  | dT kvs =>
    obtain ⟨z, y, xs, r, ob, es, ep, e, c⟩ := x
    exact ⟨z, y, xs, Paired.mapP r fun p q z => ⟨z.1, ht _ _ z.2.1, z.2.2⟩, ob, es, ep, k _ _ (.inl rfl) e, c⟩
  | set S n => obtain ⟨ob, es, ep, t, e, c⟩ := x; exact ⟨ob, es, ep, t, k _ _ (.inl rfl) e, c⟩
  | ins C dx fs =>
    obtain ⟨d, z, ne, e, mA, ⟨od, es, ep, e2, c⟩, r⟩ := x
    exact ⟨ho _ d, z, ne, k _ _ (.inl rfl) e, mA, ⟨od, es, ep, k _ _ (.inr d) e2, c⟩, r⟩
  | own y => obtain ⟨ob, e⟩ := x; exact ⟨ob, k _ _ (.inl rfl) e⟩
  | xd fs => obtain ⟨mA, ⟨od, es, ep, e, c⟩, r⟩ := x; exact ⟨mA, ⟨od, es, ep, k _ _ (.inl rfl) e, c⟩, r⟩
  | rng lo hi => obtain ⟨t, u, v, e⟩ := x; exact ⟨t, u, v, k _ _ (.inl rfl) e⟩
  | frz ob u ih => obtain ⟨e, q⟩ := x; exact ⟨k _ _ (.inl rfl) e, ih q⟩
  | tbl ps =>
    have e : h.get? a = some { cls := .none, data := .fields ps } := x
    show h'.get? a = some { cls := .none, data := .fields ps }
    exact k a _ (.inl rfl) e
  | met f y =>
    have e : h.get? a = some (PySem.W.methodObj (.ref f) (.ref y)) := x
    show h'.get? a = some (PySem.W.methodObj (.ref f) (.ref y))
    exact k a _ (.inl rfl) e
  | ext φ => obtain ⟨p, ⟨o, e⟩, st⟩ := x; exact ⟨st _ _ p fun o q => k _ _ (.inl rfl) q, ⟨o, k _ _ (.inl rfl) e⟩, st⟩
theorem HOk.lt (x : HOk P w H h) (e : H a = some o) : a < h.objs.size := (x a o e).lt
theorem HOk.fresh (x : HOk P w H h) (e : h.objs.size ≤ a) : H a = none := by
  cases q : H a with
  | none => rfl
  | some u => exact absurd (Nat.lt_of_lt_of_le (x.lt q) e) (Nat.lt_irrefl _)
/-- every object of the heap is kept -/
theorem HOk.kept (x : HOk P w H h) (k : ∀ b u, h.get? b = some u → h'.get? b = some u) : HOk P w H h' := fun a o e =>
  (x a o e).stay (fun b u _ q => k b u q) (fun _ q => q) fun _ _ q => q
/-- a new object is laid and tracked -/
theorem HOk.laid (x : HOk P w H h) (k : ∀ b u, h.get? b = some u → h'.get? b = some u) (hp : h.objs.size ≤ a) (new : ObjOk P w (upd H a o) h' a o) : HOk P w (upd H a o) h' := fun b u e => by
  have hn := x.fresh hp
  by_cases hb : b = a
  · subst hb; rw [upd_same] at e; cases e; exact new
  · rw [upd_ne hb] at e
    exact (x b u e).stay (fun c v _ q => k c v q) (fun c q => by rw [upd_ne (ne_of_none q hn)]; exact q) fun c xs q => by rw [upd_ne (ne_of_none q hn)]; exact q
end
/-- what may be read as u: it is u, or a known u -/
def Rd (H : Hp) (a : Addr) (u : HO) : Prop := H a = some u ∨ ∃ o, H a = some (.frz o u)
theorem Rd.ok {P : Program} {w : World} {H : Hp} {h : Heap} {a : Addr} {u : HO} (r : Rd H a u) (x : HOk P w H h) : ObjOk P w H h a u := by
  rcases r with r | ⟨o, r⟩
  · exact x a u r
  · obtain ⟨_, q⟩ := x a _ r
    exact q
/-- what may be written -/
def Mut : Option HO → Prop
  | some (.lst _) => True
  | some (.dK _) => True
  | some (.dT _) => True
  | some (.set _ _) => True
  | some (.ins _ _ _) => True
  | some (.ext _) => True
  | _ => False
section
variable {P : Program} {w : World} {H : Hp} {h h' : Heap} {x e : Addr} {o' : HO}
/-- the object at e is changed: x itself, or the dict of the instance x -/
theorem HOk.write (ok : HOk P w H h) (mu : Mut (H x)) (he : e = x ∨ H e = some (.own x)) (k : ∀ b u, b ≠ e → h.get? b = some u → h'.get? b = some u) (heo : ∃ u, h'.get? e = some u)
    (new : ObjOk P w (upd H x o') h' x o') : HOk P w (upd H x o') h' := fun b u q => by
  have nown : ∀ c y, H c = some (.own y) → c ≠ x := fun c y r z => by subst z; rw [r] at mu; exact mu
  have ntup : ∀ c xs, H c = some (.tup xs) → c ≠ x := fun c xs r z => by subst z; rw [r] at mu; exact mu
  by_cases hb : b = x
  · subst hb; rw [upd_same] at q; cases q; exact new
  · rw [upd_ne hb] at q
    by_cases hbe : b = e
    · have q' : H b = some (.own x) := by
        rcases he with z | z
        · exact absurd (hbe.trans z) hb
        · rw [hbe]; exact z
      rw [q] at q'; cases q'
      obtain ⟨v, hv⟩ := heo
      exact ⟨v, by rw [hbe]; exact hv⟩
    · refine (ok b u q).stay (fun c v hc r => k c v ?_ r) (fun c r => by rw [upd_ne (nown c b r)]; exact r) fun c xs r => by rw [upd_ne (ntup c xs r)]; exact r
      rcases hc with rfl | hc
      · exact hbe
      · rintro rfl
        rcases he with z | z
        · exact nown c b hc z
        · rw [hc] at z; cases z; exact hb rfl
end
structure Un (fs ex : List Addr) (H H' : Hp) (h h' : Heap) : Prop where
  keep : ∀ b o, h.get? b = some o → H b = none → b ∉ fs → b ∉ ex → h'.get? b = some o
  slot : ∀ b o, h.get? b = some o → H b = none → b ∈ fs → b ∉ ex → ∃ sl, h'.get? b = some { o with slots := sl }
  free : ∀ b o, h.get? b = some o → H b = none → b ∉ ex → H' b = none
  there : ∀ b o, h.get? b = some o → b ∉ ex → ∃ o', h'.get? b = some o'
  tups : ∀ b xs, H b = some (.tup xs) → H' b = some (.tup xs)
  frzs : ∀ b o u, H b = some (.frz o u) → H' b = some (.frz o u)
  tbls : ∀ b ps, H b = some (.tbl ps) → ∃ more, H' b = some (.tbl (ps ++ more))
section
variable {fs fs' ex ex' : List Addr} {H H1 H2 : Hp} {h h1 h2 h' : Heap} {a x e : Addr} {o : HO}
theorem Un.any (u : Un fs ex H H1 h h1) {b : Addr} {ob : Obj} (q : h.get? b = some ob) (n : H b = none) (hx : b ∉ ex) : ∃ sl, h1.get? b = some { ob with slots := sl } := by
  by_cases hb : b ∈ fs
  · exact u.slot b ob q n hb hx
  · exact ⟨ob.slots, u.keep b ob q n hb hx⟩
theorem Un.kept (k : ∀ b u, h.get? b = some u → h'.get? b = some u) : Un fs ex H H h h' :=
  ⟨fun b ob q _ _ _ => k b ob q, fun b ob q _ _ _ => ⟨ob.slots, k b ob q⟩, fun _ _ _ n _ => n, fun b ob q _ => ⟨ob, k b ob q⟩, fun _ _ q => q, fun _ _ _ q => q, fun _ ps q => ⟨#[], by rw [q]; simp⟩⟩
theorem Un.refl : Un fs ex H H h h := Un.kept fun _ _ q => q
theorem Un.laid (k : ∀ b u, h.get? b = some u → h'.get? b = some u) (hp : h.objs.size ≤ a) (hn : H a = none) : Un fs ex H (upd H a o) h h' where
  keep := fun b u q _ _ _ => k b u q
  slot := fun b u q _ _ _ => ⟨u.slots, k b u q⟩
  free := fun b u q n _ => by rw [upd_ne (Nat.ne_of_lt (Nat.lt_of_lt_of_le (Heap.lt_size q) hp))]; exact n
  there := fun b u q _ => ⟨u, k b u q⟩
  tups := fun b xs q => by rw [upd_ne (ne_of_none q hn)]; exact q
  frzs := fun b u xs q => by rw [upd_ne (ne_of_none q hn)]; exact q
  tbls := fun b ps q => ⟨#[], by rw [upd_ne (ne_of_none q hn), q]; simp⟩
theorem Un.write (mu : Mut (H x)) (he : e = x ∨ H e = some (.own x)) (k : ∀ b u, b ≠ e → h.get? b = some u → h'.get? b = some u) (heo : ∃ u, h'.get? e = some u) : Un fs ex H (upd H x o) h h' := by
  have hx : ∀ b, H b = none → b ≠ x := fun b n z => by subst z; rw [n] at mu; exact mu
  have hb : ∀ b, H b = none → b ≠ e := fun b n z => by
    subst z
    rcases he with r | r
    · exact hx b n r
    · rw [n] at r; cases r
  have hm : ∀ b u, H b = some u → ¬ Mut (some u) → b ≠ x := fun b u q nm z => by subst z; rw [q] at mu; exact nm mu
  refine ⟨fun b u q n _ _ => k b u (hb b n) q, fun b u q n _ _ => ⟨u.slots, k b u (hb b n) q⟩, fun b u q n _ => by rw [upd_ne (hx b n)]; exact n, fun b u q _ => ?_,
    fun b xs q => by rw [upd_ne (hm b _ q fun z => z)]; exact q, fun b u xs q => by rw [upd_ne (hm b _ q fun z => z)]; exact q, fun b ps q => ⟨#[], by rw [upd_ne (hm b _ q fun z => z), q]; simp⟩⟩
  by_cases hbe : b = e
  · subst hbe; exact heo
  · exact ⟨u, k b u hbe q⟩
end
def trk (h : Heap) (H : Hp) : List Addr := (List.range h.objs.size).filter fun a => (H a).isSome
def hidT (h : Heap) (H : Hp) : Heap := PySem.W.hideAll h (trk h H)
theorem hidT_size (h : Heap) (H : Hp) : (hidT h H).objs.size = h.objs.size := PySem.W.hideAll_size _ _
theorem hidT_get {h : Heap} {H : Hp} {b : Addr} {o : Obj} (e : h.get? b = some o) (n : H b = none) : (hidT h H).get? b = some o :=
  PySem.W.hideAll_get _ e fun hm => by
    have q : (H b).isSome = true := (List.mem_filter.mp hm).2
    rw [n] at q; simp at q
theorem of_hidT {h : Heap} {H : Hp} {b : Addr} {o : Obj} (e : (hidT h H).get? b = some o) : h.get? b = some o ∧ H b = none := by
  have e' : h.get? b = some o := PySem.W.of_hideAll (trk h H) e
  refine ⟨e', ?_⟩
  cases q : H b with
  | none => rfl
  | some x =>
    have hm : b ∈ trk h H := List.mem_filter.mpr ⟨List.mem_range.mpr (Heap.lt_size e'), by simp [q]⟩
    have z : (hidT h H).get? b = none := PySem.W.hideAll_none (trk h H) hm
    rw [z] at e; cases e
end L2
namespace L2
open PySem PySem.Spec PyProof.Rows
/-- the module's facts, over the base: the heap at the law's entry without what is tracked there -/
structure Mod (K : PySem.W.Frag) (mg : Str → Option Value) (base : Heap) : Prop where
  kin : K.In base
  glob : base.Ns mainGlobals mg
  blt : ∃ mb, base.Ns builtinsNs mb ∧ ∀ x : Str, x ≠ "__name__" → mb x = bootBuiltins x
  nolimit : base.NoLimit
/-- the context: a def's body (or a comprehension's block) running. base: fixed through the whole law; s₀, H₀: the entry; outer: the frames whose slots others may change (a def's callers); stack: all frames that run;
   ex: iterators that were made ahead of the entry and are walked here (a comprehension's); fn: the names whose cells were made at the entry (a def: all; a comprehension's block: its own); calm: not within an except suite; pn: pins that every state bears; xe: what is wanted of an exception that leaves the code -/
structure Cx where
  prog : Program
  w : World
  K : PySem.W.Frag
  mg : Str → Option Value
  base : Heap
  A : Around
  N : List Str
  s_0 : Shared
  H_0 : Hp
  env : Env
  outer : List Env
  stack : List Env
  ex : List Addr
  fn : Str → Bool
  calm : Bool
  pn : List (Addr × Obj)
  xe : Value → Shared → Prop
/-- the callers' frames -/
def frs (l : List Env) : List Addr := l.filterMap (·.frame)
abbrev Cx.fs (X : Cx) : List Addr := frs X.outer
def Vis (sc : Scope) (x : Str) : Prop := sc.names.lookup x = some .local ∨ sc.names.lookup x = some .cell ∨ sc.names.lookup x = some .free
def Loc (sc : Scope) (x : Str) : Prop := sc.names.lookup x = some .local ∨ sc.names.lookup x = some .cell
def Look (env : Env) (h : Heap) (m : Str → Option Value) (x : Str) (u : Value) : Prop :=
  (env.kindOf x = some .local ∧ m x = some u) ∨ ((env.kindOf x = some .cell ∨ env.kindOf x = some .free) ∧ ∃ c, env.cells.lookup x = some c ∧ h.IsCell c (some u))
structure Cx.Ok (X : Cx) : Prop where
  mod : Mod X.K X.mg X.base
  kind : X.env.scope.kind = .function
  glob : X.env.globals = mainGlobals
  blt : X.env.builtins = builtinsNs
  above : X.s_0.heap.objs.size ≤ X.env.locals
  inj : ∀ x y c, X.env.cells.lookup x = some c → X.env.cells.lookup y = some c → x = y
  has : ∀ x, (X.env.kindOf x = some .cell ∨ X.env.kindOf x = some .free) → ∃ c, X.env.cells.lookup x = some c
  cab : ∀ x c, X.fn x = true → X.env.cells.lookup x = some c → X.s_0.heap.objs.size ≤ c
  hd : X.calm = true → X.A.handled = none
  frames : X.A.frames = some X.stack
  stk : X.stack = X.outer ∨ (X.stack = X.env :: X.outer ∧ X.env.frame = some X.env.locals)
  exf : ∀ b ∈ X.ex, b ≠ X.env.locals ∧ ∀ x c, X.env.cells.lookup x = some c → c ≠ b
  bs : ∀ b o, X.base.get? b = some o → X.s_0.heap.get? b = some o ∧ X.H_0 b = none
  bsz : X.base.objs.size ≤ X.s_0.heap.objs.size
  noex : ∀ b o, X.base.get? b = some o → b ∉ X.ex
  exfs : ∀ b ∈ X.ex, b ∉ X.fs
  funs : X.s_0.heap.FunFrames X.base X.outer
  frf : ∀ b ∈ X.fs, X.H_0 b = none
structure Inv (X : Cx) (pins : List (Addr × Obj)) (σ : List (Option V)) (H : Hp) (s : Shared) : Prop where
  ok : X.Ok
  os : s.os = X.s_0.os
  bare : AllBare s.gens
  base : Un X.fs X.ex X.H_0 H X.s_0.heap s.heap
  loc : ∃ m, s.heap.Ns X.env.locals m ∧ ∀ (i : Nat) (x : Str) (v : V), X.N[i]? = some x → σ[i]? = some (some v) → Vis X.env.scope x → ∃ u, RelV v u ∧ Look X.env s.heap m x u
  cell : ∀ x c, X.env.cells.lookup x = some c → ∃ v, s.heap.IsCell c v
  free : H X.env.locals = none
  freeC : ∀ x c, X.env.cells.lookup x = some c → H c = none
  pin : ∀ p ∈ X.pn ++ pins, s.heap.get? p.1 = some p.2 ∧ H p.1 = none ∧ p.1 ≠ X.env.locals ∧ p.1 ∉ X.fs ∧ ∀ v, p.2.data ≠ .cell v
  hok : HOk X.prog X.w H s.heap
  len : σ.length = X.N.length
section
variable {X : Cx} {pins : List (Addr × Obj)} {σ : List (Option V)} {H H' : Hp} {s : Shared} {h' : Heap}
theorem Cx.Ok.nofr (ok : X.Ok) {b : Addr} {o : Obj} (e : X.base.get? b = some o) : b ∉ X.fs := fun hb => by
  have := (ok.funs.mem hb).1
  rw [e] at this; cases this
theorem Inv.bs (I : Inv X pins σ H s) : ∀ b o, X.base.get? b = some o → s.heap.get? b = some o ∧ H b = none := fun b o e =>
  ⟨I.base.keep b o (I.ok.bs b o e).1 (I.ok.bs b o e).2 (I.ok.nofr e) (I.ok.noex b o e), I.base.free b o (I.ok.bs b o e).1 (I.ok.bs b o e).2 (I.ok.noex b o e)⟩
theorem Inv.bk (I : Inv X pins σ H s) : ∀ b o, X.base.get? b = some o → s.heap.get? b = some o := fun b o e => (I.bs b o e).1
theorem Inv.mod (I : Inv X pins σ H s) : Mod X.K X.mg X.base := I.ok.mod
theorem Inv.kIn (I : Inv X pins σ H s) : X.K.In s.heap := I.ok.mod.kin.keeps I.bk
theorem Inv.lt (I : Inv X pins σ H s) : X.env.locals < s.heap.objs.size := let ⟨_, hn, _⟩ := I.loc; hn.lt
theorem Inv.sz (I : Inv X pins σ H s) : X.s_0.heap.objs.size ≤ s.heap.objs.size := Nat.le_trans I.ok.above (Nat.le_of_lt I.lt)
theorem Inv.nofs (I : Inv X pins σ H s) {a : Addr} (h : s.heap.objs.size ≤ a) : a ∉ X.fs := fun hb => by
  obtain ⟨_, o, ho, _⟩ := I.ok.funs.mem hb
  exact absurd (Nat.lt_of_lt_of_le (Heap.lt_size ho) (Nat.le_trans I.sz h)) (Nat.lt_irrefl _)
theorem Inv.cne (I : Inv X pins σ H s) : ∀ x c, X.env.cells.lookup x = some c → c ≠ X.env.locals := fun x c e z => by
  obtain ⟨v, o, ho, hd⟩ := I.cell x c e
  obtain ⟨m, ⟨o', es, ep, ho', hd', _⟩, _⟩ := I.loc
  rw [z, ho'] at ho; cases ho; rw [hd'] at hd; cases hd
theorem Inv.funs (I : Inv X pins σ H s) : s.heap.FunFrames X.base X.outer := by
  have all : ∀ (l : List Env), (∀ b ∈ frs l, b ∈ X.fs) → X.s_0.heap.FunFrames X.base l → s.heap.FunFrames X.base l := by
    intro l
    induction l with
    | nil => intro _ _; trivial
    | cons env r ih =>
      intro hs hl
      obtain ⟨hk, ⟨L, o, hf, hn, ho, hd⟩, hr⟩ := hl
      have hL : L ∈ X.fs := hs L (by unfold frs; rw [List.filterMap_cons, hf]; exact List.mem_cons_self)
      obtain ⟨sl, e⟩ := I.base.slot L o ho (I.ok.frf L hL) hL fun z => I.ok.exfs L z hL
      exact ⟨hk, ⟨L, _, hf, hn, e, hd⟩, ih (fun b hb => hs b (by unfold frs; rw [List.filterMap_cons, hf]; exact List.mem_cons_of_mem _ hb)) hr⟩
  exact all X.outer (fun _ hb => hb) I.ok.funs
/-- the frames that run, for a call -/
theorem Inv.stack (I : Inv X pins σ H s) : s.heap.FunFrames X.base X.stack := by
  rcases I.ok.stk with e | ⟨e, hf⟩
  · rw [e]; exact I.funs
  · rw [e]
    obtain ⟨m, hn, _⟩ := I.loc
    refine .cons (by rw [I.ok.kind]; decide) hf hn ?_ I.funs
    exact Heap.get?_none_of_le (Nat.le_trans I.ok.bsz I.ok.above)
theorem Inv.stkSub (I : Inv X pins σ H s) : ∀ b ∈ frs X.stack, b ∈ X.env.locals :: X.fs := fun b hb => by
  rcases I.ok.stk with e | ⟨e, hf⟩
  · rw [e] at hb; exact List.mem_cons_of_mem _ hb
  · rw [e] at hb
    unfold frs at hb
    rw [List.filterMap_cons, hf] at hb
    exact hb
theorem Inv.stkFree (I : Inv X pins σ H s) : ∀ b ∈ frs X.stack, H b = none := fun b hb => by
  rcases List.mem_cons.mp (I.stkSub b hb) with e | hb
  · rw [e]; exact I.free
  · obtain ⟨_, o, ho, _⟩ := I.ok.funs.mem hb
    exact I.base.free b o ho (I.ok.frf b hb) fun z => I.ok.exfs b z hb
/-- THE STEP: the untracked objects but the frame and the records at ch are kept (the callers' frames up to slots), the frame's map is kept, the new abstract heap is held -/
theorem Inv.step {g' : Array GenState} {t' : Nat} {d' : Drawn} {ch : List Addr} (I : Inv X pins σ H s)
    (hch : ∀ b ∈ ch, (b ∈ X.ex ∨ X.s_0.heap.objs.size ≤ b) ∧ b ≠ X.env.locals ∧ (∀ x c, X.env.cells.lookup x = some c → c ≠ b) ∧ ∀ p ∈ X.pn ++ pins, p.1 ≠ b)
    (keep : ∀ b o, b ≠ X.env.locals → b ∉ X.fs → b ∉ ch → s.heap.get? b = some o → H b = none → h'.get? b = some o)
    (slot : ∀ b o, b ≠ X.env.locals → b ∈ X.fs → b ∉ ch → s.heap.get? b = some o → H b = none → ∃ sl, h'.get? b = some { o with slots := sl }) (free : ∀ b o, b ∉ ch → s.heap.get? b = some o → H b = none → H' b = none)
    (there : ∀ b o, b ∉ ch → s.heap.get? b = some o → ∃ o', h'.get? b = some o')
    (tups : ∀ b xs, H b = some (.tup xs) → H' b = some (.tup xs)) (frzs : ∀ b o u, H b = some (.frz o u) → H' b = some (.frz o u)) (tbls : ∀ b ps, H b = some (.tbl ps) → ∃ more, H' b = some (.tbl (ps ++ more)))
    (ns : ∀ m, s.heap.Ns X.env.locals m → h'.Ns X.env.locals m) (hok : HOk X.prog X.w H' h') (hg : AllBare g') :
    Inv X pins σ H' { s with heap := h', gens := g', drawn := d', toks := t' } := by
  have neL : ∀ b o, X.s_0.heap.get? b = some o → b ≠ X.env.locals := fun b o e => Nat.ne_of_lt (Nat.lt_of_lt_of_le (Heap.lt_size e) I.ok.above)
  have neC : ∀ b o, X.s_0.heap.get? b = some o → b ∉ X.ex → b ∉ ch := fun b o e hx hb => by
    rcases (hch b hb).1 with z | z
    · exact hx z
    · exact absurd (Nat.lt_of_lt_of_le (Heap.lt_size e) z) (Nat.lt_irrefl _)
  have cellK : ∀ x c, X.env.cells.lookup x = some c → ∀ v, s.heap.IsCell c v → h'.IsCell c v := fun x c e v ⟨o, ho, hd⟩ => by
    have nch : c ∉ ch := fun z => (hch c z).2.2.1 x c e rfl
    by_cases hc : c ∈ X.fs
    · obtain ⟨sl, q⟩ := slot c o (I.cne x c e) hc nch ho (I.freeC x c e)
      exact ⟨_, q, hd⟩
    · exact ⟨o, keep c o (I.cne x c e) hc nch ho (I.freeC x c e), hd⟩
  refine ⟨I.ok, I.os, hg, ⟨fun b o e n hb hx => ?_, fun b o e n hb hx => ?_, fun b o e n hx => ?_, fun b o e hx => ?_, fun b xs e => tups b xs (I.base.tups b xs e), fun b o xs e => frzs b o xs (I.base.frzs b o xs e), fun b ps e => ?_⟩, ?_, fun x c e => ?_, ?_, fun x c e => ?_, fun p hp => ?_, hok, I.len⟩
  · exact keep b o (neL b o e) hb (neC b o e hx) (I.base.keep b o e n hb hx) (I.base.free b o e n hx)
  · obtain ⟨sl, e1⟩ := I.base.slot b o e n hb hx
    obtain ⟨sl', e2⟩ := slot b _ (neL b o e) hb (neC b o e hx) e1 (I.base.free b o e n hx)
    exact ⟨sl', e2⟩
  · obtain ⟨o', e1⟩ := I.base.there b o e hx
    exact free b o' (neC b o e hx) e1 (I.base.free b o e n hx)
  · obtain ⟨o', e1⟩ := I.base.there b o e hx
    exact there b o' (neC b o e hx) e1
  · obtain ⟨m1, e1⟩ := I.base.tbls b ps e
    obtain ⟨m2, e2⟩ := tbls b _ e1
    exact ⟨m1 ++ m2, by rw [e2, Array.append_assoc]⟩
  · obtain ⟨m, hn, hl⟩ := I.loc
    refine ⟨m, ns m hn, fun i x v e1 e2 e3 => ?_⟩
    obtain ⟨u, r, l⟩ := hl i x v e1 e2 e3
    refine ⟨u, r, ?_⟩
    rcases l with l | ⟨k, c, e, z⟩
    · exact .inl l
    · exact .inr ⟨k, c, e, cellK x c e _ z⟩
  · obtain ⟨v, z⟩ := I.cell x c e
    exact ⟨v, cellK x c e v z⟩
  · obtain ⟨m, ⟨o, _, _, ho, _⟩, _⟩ := I.loc
    exact free _ o (fun z => (hch _ z).2.1 rfl) ho I.free
  · obtain ⟨v, o, ho, hd⟩ := I.cell x c e
    exact free c o (fun z => (hch c z).2.2.1 x c e rfl) ho (I.freeC x c e)
  · obtain ⟨e, n, ne, nf, d⟩ := I.pin p hp
    have nch : p.1 ∉ ch := fun z => (hch p.1 z).2.2.2 p hp rfl
    exact ⟨keep p.1 p.2 ne nf nch e n, free p.1 p.2 nch e n, ne, nf, d⟩
/-- .. where the frame's own object is kept too -/
theorem Inv.un {t' : Nat} (I : Inv X pins σ H s) (u : Un X.fs [] H H' s.heap h') (hok : HOk X.prog X.w H' h') : Inv X pins σ H' { s with heap := h', toks := t' } := by
  obtain ⟨m, ⟨o, es, ep, ho, r⟩, _⟩ := id I.loc
  obtain ⟨sl, hL⟩ := u.any ho I.free (by simp)
  exact I.step (g' := s.gens) (d' := s.drawn) (ch := []) (fun _ z => nomatch z) (fun b o _ hb _ e n => u.keep b o e n hb (by simp)) (fun b o _ hb _ e n => u.slot b o e n hb (by simp)) (fun b o _ e n => u.free b o e n (by simp)) (fun b o _ e => u.there b o e (by simp)) u.tups u.frzs u.tbls (fun m' hm => by
    obtain ⟨o', es', ep', ho', r'⟩ := hm
    rw [ho] at ho'; cases ho'
    exact ⟨_, es', ep', hL, r'⟩) hok I.bare
/-- behind a call (or a comprehension's block): the slots of this frame may have changed too, the records at ch may have turned -/
theorem Inv.call {g' : Array GenState} {t' : Nat} {d' : Drawn} {ch : List Addr} (I : Inv X pins σ H s) (u : Un (frs X.stack) ch H H' s.heap h') (hok : HOk X.prog X.w H' h') (hg : AllBare g')
    (hch : ∀ b ∈ ch, (b ∈ X.ex ∨ X.s_0.heap.objs.size ≤ b) ∧ b ≠ X.env.locals ∧ (∀ x c, X.env.cells.lookup x = some c → c ≠ b) ∧ ∀ p ∈ X.pn ++ pins, p.1 ≠ b) :
    Inv X pins σ H' { s with heap := h', gens := g', drawn := d', toks := t' } := by
  obtain ⟨m, ⟨o, es, ep, ho, r⟩, _⟩ := id I.loc
  obtain ⟨sl, hL⟩ := u.any ho I.free fun z => (hch _ z).2.1 rfl
  exact I.step (ch := ch) hch (fun b o hL hb hc e n => u.keep b o e n (fun z => (List.mem_cons.mp (I.stkSub b z)).elim hL hb) hc) (fun b o _ _ hc e n => u.any e n hc) (fun b o hc e n => u.free b o e n hc) (fun b o hc e => u.there b o e hc) u.tups u.frzs u.tbls (fun m' hm => by
    obtain ⟨o', es', ep', ho', r'⟩ := hm
    rw [ho] at ho'; cases ho'
    exact ⟨_, es', ep', hL, r'⟩) hok hg
/-- an untracked record of ours (an iterator) has turned -/
theorem Inv.turned {t' : Nat} {it : Addr} (I : Inv X pins σ H s) (k : ∀ b o, b ≠ it → s.heap.get? b = some o → h'.get? b = some o) (hn : H it = none) (hL : it ≠ X.env.locals)
    (h1 : it ∈ X.ex ∨ X.s_0.heap.objs.size ≤ it) (h2 : ∀ x c, X.env.cells.lookup x = some c → c ≠ it) (h3 : ∀ p ∈ X.pn ++ pins, p.1 ≠ it) : Inv X pins σ H { s with heap := h', toks := t' } := by
  have nit : ∀ b u, H b = some u → b ≠ it := fun b u e z => by rw [z, hn] at e; cases e
  refine I.step (g' := s.gens) (d' := s.drawn) (ch := [it]) (fun b hb => ?_) (fun b o _ _ hc e _ => k b o (fun z => hc (by simp [z])) e) (fun b o _ _ hc e _ => ⟨o.slots, k b o (fun z => hc (by simp [z])) e⟩) (fun _ _ _ _ n => n)
    (fun b o hc e => ⟨o, k b o (fun z => hc (by simp [z])) e⟩) (fun _ _ e => e) (fun _ _ _ e => e) (fun b ps e => ⟨#[], by rw [e]; simp⟩) (fun m hm => ?_) (fun b u e => ?_) I.bare
  · have e : b = it := by simpa using hb
    subst e
    exact ⟨h1, hL, h2, h3⟩
  · obtain ⟨o, es, ep, ho, r⟩ := hm
    exact ⟨o, es, ep, k _ o (Ne.symm hL) ho, r⟩
  · refine (I.hok b u e).stay (fun c v hc q => k c v ?_ q) (fun _ q => q) fun _ _ q => q
    rcases hc with z | z
    · rw [z]; exact nit b u e
    · exact nit c _ z
theorem Inv.tok (I : Inv X pins σ H s) (t : Nat) : Inv X pins σ H { s with toks := t } := I.un (h' := s.heap) (t' := t) Un.refl I.hok
/-- all objects kept -/
theorem Inv.kept {t' : Nat} (I : Inv X pins σ H s) (k : ∀ b u, s.heap.get? b = some u → h'.get? b = some u) : Inv X pins σ H { s with heap := h', toks := t' } := I.un (Un.kept k) (I.hok.kept k)
/-- a new object laid and tracked -/
theorem Inv.laid {a : Addr} {o : HO} {t' : Nat} (I : Inv X pins σ H s) (k : ∀ b u, s.heap.get? b = some u → h'.get? b = some u) (hp : s.heap.objs.size ≤ a) (new : ObjOk X.prog X.w (upd H a o) h' a o) :
    Inv X pins σ (upd H a o) { s with heap := h', toks := t' } := I.un (Un.laid k hp (I.hok.fresh hp)) (I.hok.laid k hp new)
/-- an object written -/
theorem Inv.write {x e : Addr} {o : HO} {t' : Nat} (I : Inv X pins σ H s) (mu : Mut (H x)) (he : e = x ∨ H e = some (.own x)) (k : ∀ b u, b ≠ e → s.heap.get? b = some u → h'.get? b = some u) (heo : ∃ u, h'.get? e = some u)
    (new : ObjOk X.prog X.w (upd H x o) h' x o) : Inv X pins σ (upd H x o) { s with heap := h', toks := t' } := I.un (Un.write mu he k heo) (I.hok.write mu he k heo new)
/-- forgetting slots, pins -/
theorem Inv.weak {σ' : List (Option V)} (I : Inv X pins σ H s) (hl : σ'.length = σ.length) (w : ∀ (i : Nat) v, σ'[i]? = some (some v) → σ[i]? = some (some v)) : Inv X pins σ' H s :=
  ⟨I.ok, I.os, I.bare, I.base, let ⟨m, hn, hl'⟩ := I.loc; ⟨m, hn, fun i x v e1 e2 e3 => hl' i x v e1 (w i v e2) e3⟩, I.cell, I.free, I.freeC, I.pin, I.hok, hl.trans I.len⟩
theorem Inv.pins_of {pins' : List (Addr × Obj)} (I : Inv X pins σ H s) (h : ∀ p ∈ pins', s.heap.get? p.1 = some p.2 ∧ H p.1 = none ∧ p.1 ≠ X.env.locals ∧ p.1 ∉ X.fs ∧ ∀ v, p.2.data ≠ .cell v) : Inv X pins' σ H s :=
  ⟨I.ok, I.os, I.bare, I.base, I.loc, I.cell, I.free, I.freeC, fun p hp => (List.mem_append.mp hp).elim (fun z => I.pin p (List.mem_append_left _ z)) (h p), I.hok, I.len⟩
theorem nodup_ix {N : List Str} (hN : N.Nodup) {i j : Nat} {x : Str} (a : N[i]? = some x) (b : N[j]? = some x) : i = j := by
  obtain ⟨h1, e1⟩ := List.getElem?_eq_some_iff.mp a
  obtain ⟨h2, e2⟩ := List.getElem?_eq_some_iff.mp b
  exact (List.getElem_inj hN).mp (e1.trans e2.symm)
/-- a name is stored; what changed -/
theorem store_ok2 {M : Model} {A : Around} {E : Value → Shared → Prop} {i : Nat} {x : Str} {v : V} {u : Value} {Q : Unit → Shared → Prop} (I : Inv X pins σ H s) (hN : X.N.Nodup) (hi : X.N[i]? = some x) (hx : Loc X.env.scope x) (r : RelV v u)
    (h : ∀ s', Inv X pins (σ.set i (some v)) H s' → (∃ a, Heap.SameBut a s.heap s'.heap ∧ (a = X.env.locals ∨ X.env.cells.lookup x = some a)) → Q () s') (hf : X.fn x = true ∨ X.env.scope.names.lookup x = some .local := by first | exact .inl rfl | exact .inr rfl | assumption) : wpAny M A (storeName X.env x u) Q E s := by
  obtain ⟨m, hn, hl⟩ := id I.loc
  have hcls : (X.env.scope.kind == .class || (X.env.scope.kind == .module && X.env.locals != X.env.globals)) = false := by rw [I.ok.kind]; rfl
  have hiσ : i < σ.length := by rw [I.len]; exact (List.getElem?_eq_some_iff.mp hi).1
  have cne := I.cne
  have tracked : ∀ {a : Addr} {h' : Heap}, (∃ o, s.heap.get? a = some o ∧ H a = none) → Heap.SameBut a s.heap h' → HOk X.prog X.w H h' := fun {a h'} ha hs b ob e => by
    obtain ⟨_, _, hfree⟩ := ha
    refine (I.hok b ob e).stay (fun c w' hc q => (hs.2 c ?_).trans q) (fun _ q => q) fun _ _ q => q
    rintro rfl
    rcases hc with rfl | hc
    · rw [hfree] at e; cases e
    · rw [hfree] at hc; cases hc
  rcases hx with hk | hk
  · refine wpAny_storeName_local hk hn (fun h' hn' hs => ?_) hcls
    obtain ⟨oL, _, _, hoL, _⟩ := id hn
    refine h _ ⟨I.ok, I.os, I.bare, ⟨fun b o e n hb hx => ?_, fun b o e n hb hx => ?_, I.base.free, fun b o e hx => ?_, I.base.tups, I.base.frzs, I.base.tbls⟩, ⟨_, hn', fun j y v' e1 e2 e3 => ?_⟩, fun y c e => ?_, I.free, I.freeC, fun p hp => ?_, tracked ⟨oL, hoL, I.free⟩ hs, by simpa using I.len⟩ ⟨_, hs, .inl rfl⟩
    · exact (hs.2 b (Nat.ne_of_lt (Nat.lt_of_lt_of_le (Heap.lt_size e) I.ok.above))).trans (I.base.keep b o e n hb hx)
    · obtain ⟨sl, e1⟩ := I.base.slot b o e n hb hx
      exact ⟨sl, (hs.2 b (Nat.ne_of_lt (Nat.lt_of_lt_of_le (Heap.lt_size e) I.ok.above))).trans e1⟩
    · obtain ⟨o', e1⟩ := I.base.there b o e hx
      exact ⟨o', (hs.2 b (Nat.ne_of_lt (Nat.lt_of_lt_of_le (Heap.lt_size e) I.ok.above))).trans e1⟩
    · by_cases hj : j = i
      · subst hj
        rw [hi] at e1; cases e1
        rw [List.getElem?_set_self hiσ] at e2
        cases e2
        exact ⟨u, r, .inl ⟨hk, by simp⟩⟩
      · rw [List.getElem?_set_ne (Ne.symm hj)] at e2
        obtain ⟨u', r', q⟩ := hl j y v' e1 e2 e3
        refine ⟨u', r', ?_⟩
        rcases q with ⟨k, e⟩ | ⟨k, c, e, z⟩
        · refine .inl ⟨k, ?_⟩
          have : y ≠ x := fun e => hj (nodup_ix hN e1 (e ▸ hi))
          simp [this, e]
        · exact .inr ⟨k, c, e, z.sameBut hs (cne y c e)⟩
    · obtain ⟨w', z⟩ := I.cell y c e
      exact ⟨w', z.sameBut hs (cne y c e)⟩
    · obtain ⟨e, n, ne, nf, d⟩ := I.pin p hp
      exact ⟨(hs.2 p.1 ne).trans e, n, ne, nf, d⟩
  · have hfn : X.fn x = true := by
      rcases hf with z | z
      · exact z
      · rw [z] at hk; cases hk
    obtain ⟨c, hc⟩ := I.ok.has x (.inl hk)
    obtain ⟨w', z⟩ := I.cell x c hc
    refine wpAny_storeName_cell I.ok.kind hk hc z (fun h' hc' hs => ?_)
    obtain ⟨oc, hoc, hocd⟩ := id z
    refine h { s with heap := h' } ⟨I.ok, I.os, I.bare, ⟨fun b o e n hb hx => ?_, fun b o e n hb hx => ?_, I.base.free, fun b o e hx => ?_, I.base.tups, I.base.frzs, I.base.tbls⟩, ⟨m, hn.sameBut hs (Ne.symm (cne x c hc)), fun j y v' e1 e2 e3 => ?_⟩, fun y c' e => ?_, I.free, I.freeC, fun p hp => ?_, tracked ⟨oc, hoc, I.freeC x c hc⟩ hs, by simpa using I.len⟩ ⟨c, hs, .inr hc⟩
    · exact (hs.2 b (Nat.ne_of_lt (Nat.lt_of_lt_of_le (Heap.lt_size e) (I.ok.cab x c hfn hc)))).trans (I.base.keep b o e n hb hx)
    · obtain ⟨sl, e1⟩ := I.base.slot b o e n hb hx
      exact ⟨sl, (hs.2 b (Nat.ne_of_lt (Nat.lt_of_lt_of_le (Heap.lt_size e) (I.ok.cab x c hfn hc)))).trans e1⟩
    · obtain ⟨o', e1⟩ := I.base.there b o e hx
      exact ⟨o', (hs.2 b (Nat.ne_of_lt (Nat.lt_of_lt_of_le (Heap.lt_size e) (I.ok.cab x c hfn hc)))).trans e1⟩
    · by_cases hj : j = i
      · subst hj
        rw [hi] at e1; cases e1
        rw [List.getElem?_set_self hiσ] at e2
        cases e2
        exact ⟨u, r, .inr ⟨.inl hk, c, hc, hc'⟩⟩
      · rw [List.getElem?_set_ne (Ne.symm hj)] at e2
        obtain ⟨u', r', q⟩ := hl j y v' e1 e2 e3
        refine ⟨u', r', ?_⟩
        rcases q with q | ⟨k, c', e, z'⟩
        · exact .inl q
        · refine .inr ⟨k, c', e, z'.sameBut hs ?_⟩
          rintro rfl
          exact hj (nodup_ix hN e1 (I.ok.inj _ _ _ e hc ▸ hi))
    · by_cases hcc : c' = c
      · subst hcc; exact ⟨_, hc'⟩
      · obtain ⟨w2, z2⟩ := I.cell y c' e
        exact ⟨w2, z2.sameBut hs hcc⟩
    · obtain ⟨e, n, ne, nf, d⟩ := I.pin p hp
      refine ⟨(hs.2 p.1 ?_).trans e, n, ne, nf, d⟩
      intro q
      rw [q, hoc] at e
      have q' : oc = p.2 := Option.some.inj e
      exact d w' (by rw [← q']; exact hocd)
theorem store_ok {M : Model} {A : Around} {E : Value → Shared → Prop} {i : Nat} {x : Str} {v : V} {u : Value} {Q : Unit → Shared → Prop} (I : Inv X pins σ H s) (hN : X.N.Nodup) (hi : X.N[i]? = some x) (hx : Loc X.env.scope x) (r : RelV v u)
    (h : ∀ s', Inv X pins (σ.set i (some v)) H s' → Q () s') (hf : X.fn x = true ∨ X.env.scope.names.lookup x = some .local := by first | exact .inl rfl | exact .inr rfl | assumption) : wpAny M A (storeName X.env x u) Q E s :=
  store_ok2 I hN hi hx r (fun s' I' _ => h s' I') hf
/-- behind a call or a block, the state as it is -/
theorem Inv.call' {s' : Shared} {ch : List Addr} (I : Inv X pins σ H s) (ho : s'.os = s.os) (u : Un (frs X.stack) ch H H' s.heap s'.heap) (hok : HOk X.prog X.w H' s'.heap) (hg : AllBare s'.gens)
    (hch : ∀ b ∈ ch, (b ∈ X.ex ∨ X.s_0.heap.objs.size ≤ b) ∧ b ≠ X.env.locals ∧ (∀ x c, X.env.cells.lookup x = some c → c ≠ b) ∧ ∀ p ∈ X.pn ++ pins, p.1 ≠ b) : Inv X pins σ H' s' := by
  obtain ⟨h', g', d', t', o'⟩ := s'
  have e : o' = s.os := ho
  subst e
  exact I.call (g' := g') (t' := t') (d' := d') u hok hg hch
end
/-- an exception: its class, its own dict's address (where it has one), the abstract heap behind it -/
abbrev XK := Value → Option Addr → Hp → Prop
abbrev St := List (Option V)
abbrev VK := V → Hp → Prop
/-- an expression's reading; a test's; an argument list's -/
abbrev TE := St → Hp → VK → Prop
abbrev TT := St → Hp → (Bool → Hp → Prop) → Prop
abbrev TA := St → Hp → (List V → Hp → Prop) → Prop
/-- what is wanted behind a statement -/
structure Ends where
  nx : St → Hp → Prop
  rt : VK
  bk : St → Hp → Prop := fun _ _ => False
  ct : St → Hp → Prop := fun _ _ => False
abbrev TS := Ends → St → Hp → Prop
def EP (X : Cx) (pins : List (Addr × Obj)) (σ : St) (Q : VK) (u : Value) (s' : Shared) : Prop := ∃ v H', Inv X pins σ H' s' ∧ RelV v u ∧ Q v H'
def TP (X : Cx) (pins : List (Addr × Obj)) (σ : St) (Q : Bool → Hp → Prop) (b : Bool) (s' : Shared) : Prop := ∃ H', Inv X pins σ H' s' ∧ Q b H'
def AP (X : Cx) (pins : List (Addr × Obj)) (σ : St) (Q : List V → Hp → Prop) (us : List Value) (s' : Shared) : Prop := ∃ vs H', Inv X pins σ H' s' ∧ Vals vs us ∧ Q vs H'
def SP (X : Cx) (pins : List (Addr × Obj)) (D : Ends) (f : Flow) (s' : Shared) : Prop :=
  match f with
  | .next => ∃ σ' H', Inv X pins σ' H' s' ∧ D.nx σ' H'
  | .brk => ∃ σ' H', Inv X pins σ' H' s' ∧ D.bk σ' H'
  | .cont => ∃ σ' H', Inv X pins σ' H' s' ∧ D.ct σ' H'
  | .ret u => ∃ v σ' H', Inv X pins σ' H' s' ∧ RelV v u ∧ D.rt v H'
def PE (X : Cx) (e : Expr) (t : TE) : Prop :=
  ∀ (pins : List (Addr × Obj)) (s : Shared) (σ : St) (H : Hp) (Q : VK), Inv X pins σ H s → t σ H Q → wpAny (model X.prog X.w) X.A (eval e X.env) (EP X pins σ Q) X.xe s
def PT (X : Cx) (e : Expr) (t : TT) : Prop :=
  ∀ (pins : List (Addr × Obj)) (s : Shared) (σ : St) (H : Hp) (Q : Bool → Hp → Prop), Inv X pins σ H s → t σ H Q → wpAny (model X.prog X.w) X.A (isTrue e X.env (eval e X.env)) (TP X pins σ Q) X.xe s
/-- a test whatever its 'whole' is (and, or) -/
def PW (X : Cx) (e : Expr) (t : TT) : Prop :=
  ∀ (whole : Sem Value) (pins : List (Addr × Obj)) (s : Shared) (σ : St) (H : Hp) (Q : Bool → Hp → Prop), Inv X pins σ H s → t σ H Q → wpAny (model X.prog X.w) X.A (isTrue e X.env whole) (TP X pins σ Q) X.xe s
theorem PW.pt {X : Cx} {e : Expr} {t : TT} (h : PW X e t) : PT X e t := h _
/-- an argument list (no star), from the left -/
def PA (X : Cx) (es : List Expr) (t : TA) : Prop :=
  ∀ (pos : Pos) (pins : List (Addr × Obj)) (s : Shared) (σ : St) (H : Hp) (Q : List V → Hp → Prop), Inv X pins σ H s → t σ H Q → wpAny (model X.prog X.w) X.A (spliced (backTo pos (starEach es X.env))) (AP X pins σ Q) X.xe s
def PS (X : Cx) (st : Stmt) (t : TS) : Prop :=
  ∀ (pins : List (Addr × Obj)) (s : Shared) (σ : St) (H : Hp) (D : Ends), Inv X pins σ H s → t D σ H → wpAny (model X.prog X.w) X.A (exec st X.env) (SP X pins D) X.xe s
def PSs (X : Cx) (st : List Stmt) (t : TS) : Prop :=
  ∀ (pins : List (Addr × Obj)) (s : Shared) (σ : St) (H : Hp) (D : Ends), Inv X pins σ H s → t D σ H → wpAny (model X.prog X.w) X.A (execs st X.env) (SP X pins D) X.xe s
/-- weaken the end -/
theorem thn {α : Type} {t : Sem α} {Q Q' : α → Shared → Prop} {M : Model} {A : Around} {E : Value → Shared → Prop} {s : Shared} (h : wpAny M A t Q E s) (hQ : ∀ a s, Q a s → Q' a s) : wpAny M A t Q' E s := wpAny_mono h hQ fun _ _ x => x
end L2
namespace L2
open PySem PySem.Spec PyProof.Rows
section
variable {X : Cx}
def tVar (i : Nat) : TE := fun σ H Q => ∃ v, σ[i]? = some (some v) ∧ Q v H
def tC (v : V) : TE := fun _ H Q => Q v H
theorem pe_var {i : Nat} {x : Str} {pos : Pos} (hN : X.N[i]? = some x) (hv : Vis X.env.scope x) (hd : (x == ("__debug__" : Str)) = false := by decide) (hcd : (x == ("__classdict__" : Str)) = false := by decide) : PE X (.Name x pos) (tVar i) := by
  intro pins s σ H Q I h
  obtain ⟨v, e, h⟩ := h
  obtain ⟨m, hn, hl⟩ := I.loc
  obtain ⟨u, r, l⟩ := hl i x v hN e hv
  have fin : EP X pins σ Q u s := ⟨v, H, I, r, h⟩
  rcases l with ⟨hk, hm⟩ | ⟨hk, c, hc, hcell⟩
  · exact wpAny_Name (wpAny_loadName_local I.ok.kind hk hn hm fin) hd
  · rcases hk with hk | hk
    · exact wpAny_Name (wpAny_loadName_cell I.ok.kind hk hc hcell fin) hd
    · exact wpAny_Name (wpAny_loadName_free I.ok.kind hk hc hcell fin hcd) hd
theorem pe_int {i j pos} : PE X (.Constant (.int i) j pos) (tC (.int i)) := fun _ _ _ H _ I h => wpAny_Constant_int ⟨.int i, H, I.tok _, ⟨_, rfl⟩, h⟩
theorem pe_bl {b j pos} : PE X (.Constant (.bool b) j pos) (tC (.bl b)) := fun _ _ _ H _ I h => Constant_bool ⟨.bl b, H, I, rfl, h⟩
theorem pe_non {j pos} : PE X (.Constant .none j pos) (tC .non) := fun _ _ _ H _ I h => Constant_none ⟨.non, H, I, rfl, h⟩
/-- a global name of the def -/
def Gl (X : Cx) (x : Str) : Prop := X.env.kindOf x = some .globalImplicit
theorem ld_glob {E : Value → Shared → Prop} {pins : List (Addr × Obj)} {s : Shared} {σ : St} {H : Hp} {x : Str} {u : Value} {pos : Pos} {Q : Value → Shared → Prop} (I : Inv X pins σ H s) (hg : Gl X x) (hm : X.mg x = some u) (h : Q u s)
    (hd : (x == ("__debug__" : Str)) = false := by decide) : wpAny (model X.prog X.w) X.A (eval (.Name x pos) X.env) Q E s :=
  Calls.Name_function_global I.ok.kind hg (Calls.loadGlobal_global (by rw [I.ok.glob]; exact I.mod.glob.keeps I.bk) hm h) hd
theorem ld_blt {E : Value → Shared → Prop} {pins : List (Addr × Obj)} {s : Shared} {σ : St} {H : Hp} {x : Str} {u : Value} {pos : Pos} {Q : Value → Shared → Prop} (I : Inv X pins σ H s) (hg : Gl X x) (hm : X.mg x = none) (hv : bootBuiltins x = some u) (h : Q u s)
    (hn : x ≠ "__name__" := by decide) (hd : (x == ("__debug__" : Str)) = false := by decide) : wpAny (model X.prog X.w) X.A (eval (.Name x pos) X.env) Q E s := by
  obtain ⟨mb, h1, h2⟩ := I.mod.blt
  exact Calls.Name_function_global I.ok.kind hg (Calls.loadGlobal_builtin (by rw [I.ok.glob]; exact I.mod.glob.keeps I.bk) hm (by rw [I.ok.blt]; exact h1.keeps I.bk) ((h2 x hn).trans hv) h) hd
/-- a module's constant, a class, a function, as a value -/
theorem pe_glob {x : Str} {v : V} {u : Value} {pos : Pos} (hg : Gl X x) (hm : X.mg x = some u) (r : RelV v u) (hd : (x == ("__debug__" : Str)) = false := by decide) : PE X (.Name x pos) (tC v) :=
  fun _ _ _ H _ I h => ld_glob I hg hm ⟨v, H, I, r, h⟩ hd
variable {a b : Expr} {ta tb : TE} {pos : Pos}
def PC (X : Cx) (op : CmpOp) (a b : Expr) (t : TE) : Prop :=
  ∀ (pins : List (Addr × Obj)) (s : Shared) (σ : St) (H : Hp) (Q : VK), Inv X pins σ H s → t σ H Q →
    wpAny (model X.prog X.w) X.A (eval a X.env) (fun v s₁ => wpAny (model X.prog X.w) X.A (eval b X.env) (fun u s₂ => wpAny (model X.prog X.w) X.A (compareOp op v u) (EP X pins σ Q) X.xe s₂) X.xe s₁) X.xe s
theorem nobehind (b : Expr) {op : CmpOp} (h : op ≠ .In) (h2 : op ≠ .NotIn) : behindInMarks op b = false := by
  have e1 : (op == CmpOp.In) = false := by cases op <;> first | rfl | exact absurd rfl h
  have e2 : (op == CmpOp.NotIn) = false := by cases op <;> first | rfl | exact absurd rfl h2
  cases b <;> simp [behindInMarks, e1, e2]
/-- is None -/
def tIsN (ta : TE) : TE := fun σ H Q => ta σ H fun x H1 => Q (.bl (decide (x = .non))) H1
theorem RelV.none_iff {x : V} {v : Value} (r : RelV x v) : (v == Value.none) = decide (x = .non) := by
  cases x with
  | non => cases r; rfl
  | bl _ => cases r; rfl
  | int _ => obtain ⟨t, rfl⟩ := r; rfl
  | str _ => obtain ⟨t, rfl⟩ := r; rfl
  | byt _ => obtain ⟨t, rfl⟩ := r; rfl
  | flt _ => obtain ⟨t, rfl⟩ := r; rfl
  | ref _ => cases r; rfl
  | ty _ => cases r; rfl
theorem pc_isN {j pos'} (ha : PE X a ta) : PC X .Is a (.Constant .none j pos') (tIsN ta) := by
  intro pins s σ H Q I h
  refine thn (ha pins s σ H _ I h) fun v s1 ⟨x, H1, I1, r1, q1⟩ => ?_
  exact Constant_none (is_none_gen ⟨.bl _, H1, I1, by rw [r1.none_iff]; rfl, q1⟩)
/-- a comparison as a value, as a test -/
def tB (t : TE) : TT := fun σ H Q => t σ H fun x H1 => ∃ c, x = .bl c ∧ Q c H1
theorem pt_cmp {op : CmpOp} {t : TE} (h : PC X op a b t) (h1 : behindInMarks op b = false := by first | exact nobehind _ (by decide) (by decide) | rfl) : PT X (.Compare a [op] [b] pos) (tB t) := by
  intro pins s σ H Q I hw
  refine wpAny_isTrue_Compare1 (thn (h pins s σ H _ I hw) fun v s1 h1 => thn h1 fun u s2 h2 => thn h2 fun c s3 ⟨x, H1, I1, r1, q1⟩ => ?_) h1
  obtain ⟨d, rfl, q⟩ := q1
  cases r1
  exact wpAny_truthy_bool ⟨H1, I1, q⟩
/-- an expression whose value is a bool, as a test -/
theorem pt_val {e : Expr} {t : TE} (h : PE X e t) (he : ∀ whole, isTrue e X.env whole = (do let v ← whole; standAt e.pos; holding [v] (truthy v)) := by intro _; rfl) : PT X e (tB t) := by
  intro pins s σ H Q I hw
  refine isTrue_plain (thn (h pins s σ H _ I hw) fun v s1 ⟨x, H1, I1, r1, q1⟩ => ?_) (he _)
  obtain ⟨d, rfl, q⟩ := q1
  cases r1
  exact wpAny_truthy_bool ⟨H1, I1, q⟩
variable {tA tB' : TT} {rest : List Expr}
def tOr (t u : TT) : TT := fun σ H Q => t σ H fun c H1 => if c = true then Q true H1 else u σ H1 Q
def tNot (t : TT) : TT := fun σ H Q => t σ H fun c H1 => Q (!c) H1
theorem pw_or1 (ha : PT X a tA) : PW X (.BoolOp .Or [a] pos) tA := by
  intro wh pins s σ H Q I h
  refine isTrue_or (thn (ha pins s σ H Q I h) fun c s1 e => ?_)
  cases c with
  | false => exact isTrue_or_nil e
  | true => exact e
theorem pw_or (ha : PT X a tA) (hb : PW X (.BoolOp .Or (b :: rest) pos) tB') : PW X (.BoolOp .Or (a :: b :: rest) pos) (tOr tA tB') := by
  intro wh pins s σ H Q I h
  refine isTrue_or (thn (ha pins s σ H _ I h) fun c s1 ⟨H1, I1, q1⟩ => ?_)
  cases c with
  | true => exact ⟨H1, I1, q1⟩
  | false => exact hb wh pins s1 σ H1 Q I1 q1
theorem pt_not (ha : PT X a tA) : PT X (.UnaryOp .Not a pos) (tNot tA) := by
  intro pins s σ H Q I h
  exact isTrue_not (ha pins s σ H (fun c H1 => Q (!c) H1) I h)
/-- .. as values (bools) -/
def tAndV (ta tb : TE) : TE := fun σ H Q => ta σ H fun x H1 => ∃ c, x = .bl c ∧ if c = true then tb σ H1 Q else Q (.bl false) H1
def tOrV (ta tb : TE) : TE := fun σ H Q => ta σ H fun x H1 => ∃ c, x = .bl c ∧ if c = true then Q (.bl true) H1 else tb σ H1 Q
theorem pe_one {op} {t : TE} (h : PE X a t) : PE X (.BoolOp op [a] pos) t := fun pins s σ H Q I hw => BoolOp_one (h pins s σ H Q I hw)
theorem pe_and (ha : PE X a ta) (hb : PE X (.BoolOp .And (b :: rest) pos) tb) : PE X (.BoolOp .And (a :: b :: rest) pos) (tAndV ta tb) := by
  intro pins s σ H Q I h
  refine BoolOp_and (thn (ha pins s σ H _ I h) fun v s1 ⟨x, H1, I1, r1, q1⟩ => ?_)
  obtain ⟨c, rfl, q1⟩ := q1
  cases r1
  refine wpAny_truthy_bool ?_
  cases c with
  | true => exact hb pins s1 σ H1 Q I1 q1
  | false => exact ⟨.bl false, H1, I1, rfl, q1⟩
theorem pe_or (ha : PE X a ta) (hb : PE X (.BoolOp .Or (b :: rest) pos) tb) : PE X (.BoolOp .Or (a :: b :: rest) pos) (tOrV ta tb) := by
  intro pins s σ H Q I h
  refine BoolOp_or (thn (ha pins s σ H _ I h) fun v s1 ⟨x, H1, I1, r1, q1⟩ => ?_)
  obtain ⟨c, rfl, q1⟩ := q1
  cases r1
  refine wpAny_truthy_bool ?_
  cases c with
  | false => exact hb pins s1 σ H1 Q I1 q1
  | true => exact ⟨.bl true, H1, I1, rfl, q1⟩
/-- a if t else b -/
def tIf (t : TT) (ta tb : TE) : TE := fun σ H Q => t σ H fun c H1 => if c = true then ta σ H1 Q else tb σ H1 Q
theorem pe_ifExp {c : Expr} (hc : PT X c tA) (ha : PE X a ta) (hb : PE X b tb) : PE X (.IfExp c a b pos) (tIf tA ta tb) := by
  intro pins s σ H Q I h
  refine wpAny_IfExp (thn (hc pins s σ H _ I h) fun d s1 ⟨H1, I1, q1⟩ => ?_)
  cases d with
  | true => exact ha pins s1 σ H1 Q I1 q1
  | false => exact hb pins s1 σ H1 Q I1 q1
end
end L2
namespace L2
open PySem PySem.Spec PyProof.Rows
def SqL (K : PySem.W.Frag) (H : Hp) (a : Addr) (xs : List V) : Prop :=
  Rd H a (.lst xs) ∨
    ∃ (o : Obj) (its : Array Value) (n : Nat), K.lookup a = some o ∧ o.cls = .type "list" ∧ o.dict = none ∧ o.data = .seq its n ∧ its.size ≤ sizeLine ∧ Vals xs its.toList
def SqT (K : PySem.W.Frag) (H : Hp) (a : Addr) (xs : List V) : Prop :=
  Rd H a (.tup xs) ∨
    ∃ (o : Obj) (its : Array Value) (n : Nat), K.lookup a = some o ∧ o.cls = .type "tuple" ∧ o.data = .seq its n ∧ its.size ≤ sizeLine ∧ Vals xs its.toList
def absV : Value → Option V
  | .none => some .non
  | .bool b => some (.bl b)
  | .int i _ => some (.int i)
  | .str x _ => some (.str x)
  | .bytes b _ => some (.byt b)
  | .float b _ => some (.flt b)
  | .ref a => some (.ref a)
  | .type n => some (.ty n)
  | _ => none
theorem RelV.abs {x : V} {u : Value} (r : RelV x u) : absV u = some x := by
  cases x with
  | non => cases r; rfl
  | bl _ => cases r; rfl
  | int _ => obtain ⟨t, rfl⟩ := r; rfl
  | str _ => obtain ⟨t, rfl⟩ := r; rfl
  | byt _ => obtain ⟨t, rfl⟩ := r; rfl
  | flt _ => obtain ⟨t, rfl⟩ := r; rfl
  | ref _ => cases r; rfl
  | ty _ => cases r; rfl
theorem RelV.inj {x y : V} {u : Value} (r : RelV x u) (q : RelV y u) : x = y := Option.some.inj (r.abs.symm.trans q.abs)
theorem Vals.inj : ∀ {xs ys : List V} {us : List Value}, Vals xs us → Vals ys us → xs = ys
  | _, _, _, .nil, .nil => rfl
  | _, _, _, .cons r t, .cons r' t' => by rw [r.inj r', Vals.inj t t']
section
variable {X : Cx} {pins : List (Addr × Obj)} {σ : St} {H : Hp} {s : Shared} {a : Addr} {xs ys : List V}
theorem SqL.of {K : PySem.W.Frag} (h : H a = some (.lst xs)) : SqL K H a xs := .inl (.inl h)
theorem SqT.of {K : PySem.W.Frag} (h : H a = some (.tup xs)) : SqT K H a xs := .inl (.inl h)
theorem Inv.list (I : Inv X pins σ H s) (h : SqL X.K H a xs) : ∃ its : List Value, Vals xs its ∧ PlainL s.heap a its.toArray ∧ xs.length ≤ sizeLine := by
  rcases h with h | ⟨o, its, n, hk, hc, hd, hs, hz, r⟩
  · obtain ⟨z, its, n, r, e⟩ := h.ok I.hok
    exact ⟨its, r, ⟨_, n, e, rfl, rfl, rfl⟩, z⟩
  · refine ⟨its.toList, r, ⟨o, n, I.kIn a o hk, hc, hd, by simpa using hs⟩, ?_⟩
    have e := r.length
    simp only [Array.length_toList] at e
    omega
theorem Inv.tuple (I : Inv X pins σ H s) (h : SqT X.K H a xs) : ∃ its : List Value, Vals xs its ∧ IsTup s.heap a its.toArray ∧ xs.length ≤ sizeLine := by
  rcases h with h | ⟨o, its, n, hk, hc, hs, hz, r⟩
  · obtain ⟨z, its, r, p⟩ := h.ok I.hok
    exact ⟨its, r, p, z⟩
  · refine ⟨its.toList, r, ⟨o, I.kIn a o hk, hc, n, by simpa using hs⟩, ?_⟩
    have e := r.length
    simp only [Array.length_toList] at e
    omega
theorem Inv.list_inj (I : Inv X pins σ H s) (h : SqL X.K H a xs) (h' : SqL X.K H a ys) : xs = ys := by
  obtain ⟨its, r, ⟨o, n, e, _, _, d⟩, _⟩ := I.list h
  obtain ⟨its', r', ⟨o', n', e', _, _, d'⟩, _⟩ := I.list h'
  rw [e] at e'; cases e'
  rw [d] at d'
  injection d' with d1 _
  have : its = its' := by simpa using congrArg Array.toList d1
  subst this
  exact r.inj r'
theorem Inv.tuple_inj (I : Inv X pins σ H s) (h : SqT X.K H a xs) (h' : SqT X.K H a ys) : xs = ys := by
  obtain ⟨its, r, ⟨o, e, _, n, d⟩, _⟩ := I.tuple h
  obtain ⟨its', r', ⟨o', e', _, n', d'⟩, _⟩ := I.tuple h'
  rw [e] at e'; cases e'
  rw [d] at d'
  injection d' with d1 _
  have : its = its' := by simpa using congrArg Array.toList d1
  subst this
  exact r.inj r'
end
abbrev Cx.wish (X : Cx) (E : Value → Shared → Prop) : Cx := { X with xe := E }
/-- no exception leaves -/
abbrev Cx.nox (X : Cx) : Cx := X.wish fun _ _ => False
theorem Cx.Ok.wish {X : Cx} (ok : X.Ok) (E : Value → Shared → Prop) : (X.wish E).Ok :=
  ⟨ok.mod, ok.kind, ok.glob, ok.blt, ok.above, ok.inj, ok.has, ok.cab, ok.hd, ok.frames, ok.stk, ok.exf, ok.bs, ok.bsz, ok.noex, ok.exfs, ok.funs, ok.frf⟩
theorem Cx.Ok.unwish {X : Cx} {E : Value → Shared → Prop} (ok : (X.wish E).Ok) : X.Ok :=
  ⟨ok.mod, ok.kind, ok.glob, ok.blt, ok.above, ok.inj, ok.has, ok.cab, ok.hd, ok.frames, ok.stk, ok.exf, ok.bs, ok.bsz, ok.noex, ok.exfs, ok.funs, ok.frf⟩
section
variable {X : Cx} {pins : List (Addr × Obj)} {σ : St} {H : Hp} {s : Shared} {E : Value → Shared → Prop}
theorem Inv.wish (I : Inv X pins σ H s) (E : Value → Shared → Prop) : Inv (X.wish E) pins σ H s := ⟨I.ok.wish E, I.os, I.bare, I.base, I.loc, I.cell, I.free, I.freeC, I.pin, I.hok, I.len⟩
theorem Inv.unwish (I : Inv (X.wish E) pins σ H s) : Inv X pins σ H s := ⟨I.ok.unwish, I.os, I.bare, I.base, I.loc, I.cell, I.free, I.freeC, I.pin, I.hok, I.len⟩
theorem SP.unwish {D : Ends} {f : Flow} {s' : Shared} (h : SP (X.wish E) pins D f s') : SP X pins D f s' := by
  cases f with
  | next => obtain ⟨σ', H', I, q⟩ := h; exact ⟨σ', H', I.unwish, q⟩
  | brk => obtain ⟨σ', H', I, q⟩ := h; exact ⟨σ', H', I.unwish, q⟩
  | cont => obtain ⟨σ', H', I, q⟩ := h; exact ⟨σ', H', I.unwish, q⟩
  | ret u => obtain ⟨v, σ', H', I, r, q⟩ := h; exact ⟨v, σ', H', I.unwish, r, q⟩
theorem PSs.nox {st : List Stmt} {t : TS} (h : PSs X.nox st t) : PSs X st t := fun pins s σ H D I hw =>
  wpAny_mono (h pins s σ H D (I.wish _) hw) (fun _ _ q => q.unwish) fun _ _ z => False.elim z
end
section
variable {X : Cx} {st : Stmt} {rest : List Stmt} {t u : TS} {e : Expr} {te : TE} {pos : Pos}
def tNext : TS := fun D σ H => D.nx σ H
def tSeq (t u : TS) : TS := fun D σ H => t { D with nx := u D } σ H
theorem pss_nil : PSs X [] tNext := fun _ _ σ H _ I h => wpAny_execs_nil ⟨σ, H, I, h⟩
theorem pss_cons (h1 : PS X st t) (h2 : PSs X rest u) : PSs X (st :: rest) (tSeq t u) := by
  intro pins s σ H D I h
  refine wpAny_execs_cons (thn (h1 pins s σ H { D with nx := u D } I h) fun f s1 q => ?_)
  cases f with
  | next =>
    obtain ⟨σ', H', I', q⟩ := q
    exact h2 pins s1 σ' H' D I' q
  | ret v => exact q
  | brk => exact q
  | cont => exact q
theorem pss_one (h1 : PS X st t) : PSs X [st] t := by
  intro pins s σ H D I h
  refine wpAny_execs_cons (thn (h1 pins s σ H D I h) fun f s1 q => ?_)
  cases f with
  | next => exact wpAny_execs_nil q
  | ret v => exact q
  | brk => exact q
  | cont => exact q
/-- in a def's body nothing is shown -/
theorem Inv.quiet {pins : List (Addr × Obj)} {σ : St} {H : Hp} {s : Shared} (I : Inv X pins σ H s) : interactive X.env = false := by simp [interactive, I.ok.kind]
/-- an expression whose value is dropped -/
def tDrop (te : TE) : TS := fun D σ H => te σ H fun _ H1 => D.nx σ H1
theorem ps_expr (he : PE X e te) (hs : swapsWith e none pos.line X.env = pure false := by rfl) : PS X (.Expr e pos) (tDrop te) := by
  intro pins s σ H D I h
  exact wpAny_Expr_any (thn (he pins s σ H _ I h) fun v s1 ⟨x, H1, I1, r1, q1⟩ => ⟨σ, H1, I1, q1⟩) I.quiet hs
def tRet (te : TE) : TS := fun D σ H => te σ H D.rt
theorem ps_ret (he : PE X e te) : PS X (.Return (some e) pos) (tRet te) := by
  intro pins s σ H D I h
  exact wpAny_Return_some (thn (he pins s σ H _ I h) fun v s1 ⟨x, H1, I1, r1, q1⟩ => ⟨x, σ, H1, I1, r1, q1⟩)
def tIfS (c : TT) (t u : TS) : TS := fun D σ H => c σ H fun b H1 => if b = true then t D σ H1 else u D σ H1
theorem ps_if {c : Expr} {a b : List Stmt} {tc : TT} (hc : PT X c tc) (ha : PSs X a t) (hb : PSs X b u) : PS X (.If c a b pos) (tIfS tc t u) := by
  intro pins s σ H D I h
  refine wpAny_If (thn (hc pins s σ H _ I h) fun d s1 ⟨H1, I1, q1⟩ => ?_)
  cases d with
  | true => exact ha pins s1 σ H1 D I1 q1
  | false => exact hb pins s1 σ H1 D I1 q1
/-- code that the proof never comes to -/
def tNever : TS := fun _ _ _ => False
theorem ps_never : PS X st tNever := fun _ _ _ _ _ _ h => h.elim
end
abbrev TG := V → St → Hp → (St → Hp → Prop) → Prop
abbrev TGs := List V → St → Hp → (St → Hp → Prop) → Prop
def PG (X : Cx) (target : Expr) (t : TG) : Prop :=
  ∀ (pins : List (Addr × Obj)) (s : Shared) (σ : St) (H : Hp) (v : V) (u : Value) (Q : St → Hp → Prop), Inv X pins σ H s → RelV v u → t v σ H Q →
    wpAny (model X.prog X.w) X.A (assign target X.env u) (fun _ s' => ∃ σ' H', Inv X pins σ' H' s' ∧ Q σ' H') X.xe s
/-- several targets, one after another -/
def PGs (X : Cx) (ts : List Expr) (t : TGs) : Prop :=
  ∀ (pins : List (Addr × Obj)) (s : Shared) (σ : St) (H : Hp) (vs : List V) (us : List Value) (Q : St → Hp → Prop), Inv X pins σ H s → Vals vs us → t vs σ H Q →
    wpAny (model X.prog X.w) X.A (assignInOrder ((assignEach ts X.env).map (·.2)) us) (fun _ s' => ∃ σ' H', Inv X pins σ' H' s' ∧ Q σ' H') X.xe s
/-- o[i] = v, by values -/
abbrev TSet := V → V → V → Hp → (Hp → Prop) → Prop
def PSet (X : Cx) (t : TSet) : Prop :=
  ∀ (pins : List (Addr × Obj)) (s : Shared) (σ : St) (H : Hp) (o i v : V) (ov iv u : Value) (Q : Hp → Prop), Inv X pins σ H s → RelV o ov → RelV i iv → RelV v u → t o i v H Q →
    wpAny (model X.prog X.w) X.A (setItem ov iv u) (fun _ s' => ∃ H', Inv X pins σ H' s' ∧ Q H') X.xe s
section
variable {X : Cx} {pos : Pos}
def gName (i : Nat) : TG := fun v σ H Q => Q (σ.set i (some v)) H
theorem pg_name {i : Nat} {x : Str} (hN : X.N.Nodup) (hi : X.N[i]? = some x) (hx : Loc X.env.scope x) (hf : X.fn x = true ∨ X.env.scope.names.lookup x = some .local := by first | exact .inl rfl | exact .inr rfl | assumption) : PG X (.Name x pos) (gName i) := by
  intro pins s σ H v u Q I r h
  exact wpAny_assign_Name (store_ok I hN hi hx r (fun s' I' => ⟨_, H, I', h⟩) hf)
def gNil : TGs := fun vs σ H Q => vs = [] ∧ Q σ H
def gCons (t : TG) (u : TGs) : TGs := fun vs σ H Q => ∃ v r, vs = v :: r ∧ t v σ H fun σ' H' => u r σ' H' Q
theorem pgs_nil : PGs X [] gNil := by
  intro pins s σ H vs us Q I r h
  obtain ⟨e, h⟩ := h
  subst e
  cases r
  exact assignInOrder_nil ⟨σ, H, I, h⟩
theorem pgs_cons {e : Expr} {es : List Expr} {t : TG} {u : TGs} (h1 : PG X e t) (h2 : PGs X es u)
    (hs : (assignEach (e :: es) X.env).map (·.2) = assign e X.env :: (assignEach es X.env).map (·.2) := by rfl) : PGs X (e :: es) (gCons t u) := by
  intro pins s σ H vs us Q I r h
  obtain ⟨v, vr, e1, h⟩ := h
  subst e1
  cases r with
  | cons r rr =>
    rw [hs]
    refine assignInOrder_cons (thn (h1 pins s σ H _ _ _ I r h) fun _ s1 ⟨σ1, H1, I1, q1⟩ => ?_)
    exact h2 pins s1 σ1 H1 _ _ Q I1 rr q1
/-- (a, b, ..) = a tuple of that length -/
def gTup (K : PySem.W.Frag) (n : Nat) (t : TGs) : TG := fun v σ H Q => ∃ a xs, v = .ref a ∧ SqT K H a xs ∧ xs.length = n ∧ t xs σ H Q
theorem pg_tup {es : List Expr} {k : Nat} {t : TGs} {n : Nat} (hc : X.calm = true) (h : PGs X es t)
    (hn : (assignEach es X.env).length = n := by rfl) (hst : (assignEach es X.env).findIdx? (·.1) = none := by rfl) : PG X (.Tuple es k pos) (gTup X.K n t) := by
  intro pins s σ H v u Q I r hw
  obtain ⟨a, xs, e1, hq, hl, hw⟩ := hw
  subst e1
  cases r
  obtain ⟨its, rv, ht, hz⟩ := I.tuple hq
  refine assign_Tuple_tuple (I.ok.hd hc) ht (by simp [hn, ← hl, rv.length]) hst fun h' hx => ?_
  have I1 : Inv X pins σ H { s with heap := h' } := I.kept (t' := s.toks) fun b o e => hx b o (Nat.ne_of_lt (Heap.lt_size e)) e
  exact h pins _ σ H xs _ Q I1 (by simpa using rv) hw
/-- o[i] = .. -/
def gSub (to ti : TE) (t : TSet) : TG := fun v σ H Q => to σ H fun o H1 => ti σ H1 fun i H2 => t o i v H2 fun H3 => Q σ H3
theorem pg_sub {o i : Expr} {to ti : TE} {t : TSet} (ho : PE X o to) (hi : PE X i ti) (hs : PSet X t)
    (ha : ∀ v, assign (.Subscript o i pos) X.env v = (do
      let ov ← holding [v] (eval o X.env)
      let iv ← holding [v, ov] (eval i X.env)
      standAt pos
      holding [v, ov, iv] (setItem ov iv v)
      release [v, ov, iv] []) := by intro _; rfl) : PG X (.Subscript o i pos) (gSub to ti t) := by
  intro pins s σ H v u Q I r h
  rw [ha]
  refine wpAny_bind (wpAny_holding (thn (ho pins s σ H _ I h) fun ov s1 ⟨x, H1, I1, r1, q1⟩ => ?_))
  refine wpAny_bind (wpAny_holding (thn (hi pins s1 σ H1 _ I1 q1) fun iv s2 ⟨y, H2, I2, r2, q2⟩ => ?_))
  refine wpAny_bind (wpAny_standAt (wpAny_bind (wpAny_holding (thn (hs pins s2 σ H2 x y v ov iv u _ I2 r1 r2 r q2) fun _ s3 ⟨H3, I3, q3⟩ => ?_))))
  exact wpAny_release ⟨σ, H3, I3, q3⟩
/-- target = value -/
def tAsg (te : TE) (g : TG) : TS := fun D σ H => te σ H fun x H1 => g x σ H1 D.nx
theorem ps_asg {tg e : Expr} {te : TE} {g : TG} (he : PE X e te) (hg : PG X tg g) (hs : swapsWithSole [tg] e pos.line X.env = pure false := by rfl) (hw : swappedStores [tg] e X.env = pure none := by rfl)
    (h1 : (assignEach [tg] X.env).map (·.2) = [assign tg X.env] := by rfl) : PS X (.Assign [tg] e pos) (tAsg te g) := by
  intro pins s σ H D I h
  refine wpAny_Assign_stores (thn (he pins s σ H _ I h) fun v s1 ⟨x, H1, I1, r1, q1⟩ => ?_) hs hw
  rw [h1]
  exact thn (hg pins s1 σ H1 x v _ I1 r1 q1) fun _ s2 q => q
/-- name = value -/
theorem ps_set {i : Nat} {x : Str} {e : Expr} {te : TE} {pos' : Pos} (hN : X.N.Nodup) (hi : X.N[i]? = some x) (hx : Loc X.env.scope x) (he : PE X e te) (hs : swapsWith e (some (.Name x pos')) pos.line X.env = pure false := by rfl) (hf : X.fn x = true ∨ X.env.scope.names.lookup x = some .local := by first | exact .inl rfl | exact .inr rfl | assumption) :
    PS X (.Assign [.Name x pos'] e pos) (tAsg te (gName i)) := by
  intro pins s σ H D I h
  refine wpAny_Assign_Name (thn (he pins s σ H _ I h) fun v s1 ⟨y, H1, I1, r1, q1⟩ => ?_) hs
  exact store_ok I1 hN hi hx r1 (fun s2 I2 => ⟨_, H1, I2, q1⟩) hf
end
section
variable {X : Cx} {pos : Pos}
/-- the invariant W with its measure -/
def tWhile (c : TT) (tb : TS) : TS := fun D σ H => ∃ W : Nat → St → Hp → Prop, (∃ m, W m σ H) ∧ ∀ m σ H, W m σ H →
  c σ H fun b H1 => if b = true then ∃ N : St → Hp → Prop, (∀ σ' H', N σ' H' → ∃ m', m' < m ∧ W m' σ' H') ∧ tb { D with nx := N, ct := N, bk := D.nx } σ H1 else D.nx σ H1
theorem ps_while {c : Expr} {body : List Stmt} {tc : TT} {tb : TS} (hp : PassesOwn (model X.prog X.w) X.A X.env X.xe) (hc : PT X c tc) (hb : PSs X body tb) : PS X (.While c body [] pos) (tWhile tc tb) := by
  intro pins s σ H D I h
  obtain ⟨W, ⟨m0, w0⟩, turn⟩ := h
  refine wpAny_While (codeAny_whileLoop (fun n s' => ∃ σ' H', Inv X pins σ' H' s' ∧ W n σ' H') ?_ m0 ⟨σ, H, I, w0⟩)
  rintro n s1 ⟨σ1, H1, I1, w1⟩
  refine wpAny_passesOwn hp (thn (hc pins s1 σ1 H1 _ I1 (turn n σ1 H1 w1)) fun b s2 ⟨H2, I2, q2⟩ => ?_)
  cases b with
  | true =>
    obtain ⟨N, hN, q2⟩ := q2
    rw [if_pos rfl]
    refine wpAny_passesOwn hp (thn (hb pins s2 σ1 H2 _ I2 q2) fun f s3 q3 => ?_)
    cases f with
    | next =>
      obtain ⟨σ3, H3, I3, n3⟩ := q3
      obtain ⟨m', hm, w3⟩ := hN σ3 H3 n3
      exact ⟨m', hm, σ3, H3, I3, w3⟩
    | cont =>
      obtain ⟨σ3, H3, I3, n3⟩ := q3
      obtain ⟨m', hm, w3⟩ := hN σ3 H3 n3
      exact ⟨m', hm, σ3, H3, I3, w3⟩
    | brk => exact q3
    | ret v => exact q3
  | false =>
    rw [if_neg Bool.false_ne_true]
    exact wpAny_execs_nil ⟨σ1, H2, I2, q2⟩
end
/-- at turn i: it yields x (the heap may grow), or it stops -/
structure It where
  go : Nat → Hp → Prop
  yld : Nat → Hp → V → Hp → Prop
  stop : Nat → Hp → Prop
/-- the iterator's own objects may turn: they are not the frame's, not pinned, younger than the entry (or a comprehension's own) -/
def FpOk (X : Cx) (pins : List (Addr × Obj)) (H : Hp) (b : Addr) : Prop :=
  H b = none ∧ b ≠ X.env.locals ∧ b ∉ X.fs ∧ (b ∈ X.ex ∨ X.s_0.heap.objs.size ≤ b) ∧ (∀ x c, X.env.cells.lookup x = some c → c ≠ b) ∧ ∀ p ∈ X.pn ++ pins, p.1 ≠ b
theorem Inv.fpOk {X : Cx} {pins : List (Addr × Obj)} {σ : St} {H H' : Hp} {s : Shared} {b : Addr} (I : Inv X pins σ H s) (hb : s.heap.objs.size ≤ b) (hn : H' b = none) : FpOk X pins H' b := by
  refine ⟨hn, Nat.ne_of_gt (Nat.lt_of_lt_of_le I.lt hb), I.nofs hb, .inr (Nat.le_trans I.sz hb), fun x c e z => ?_, fun p hp z => ?_⟩
  · obtain ⟨v, q⟩ := I.cell x c e
    exact absurd (Nat.lt_of_lt_of_le q.lt (by rw [z]; exact hb)) (Nat.lt_irrefl _)
  · exact absurd (Nat.lt_of_lt_of_le (Heap.lt_size (I.pin p hp).1) (by rw [z]; exact hb)) (Nat.lt_irrefl _)
structure Turn (P : Program) (w : World) (K : PySem.W.Frag) (tg : Expr) (J : It) (fp : List Addr) (it : Addr) (tn : Nat → Heap → Prop) : Prop where
  mem : it ∈ fp
  obj : ∀ i h, tn i h → ∀ b ∈ fp, ∃ o, h.get? b = some o ∧ ∀ v, o.data ≠ .cell v
  keep : ∀ i h h', tn i h → (∀ b ∈ fp, ∀ o, h.get? b = some o → h'.get? b = some o) → tn i h'
  item : ∀ (X : Cx), X.prog = P → X.w = w → X.K = K → X.calm = true → ∀ (i : Nat) (pins : List (Addr × Obj)) (s : Shared) (σ : St) (H : Hp) (E : Value → Shared → Prop), Inv X pins σ H s → (∀ b ∈ fp, FpOk X pins H b) → tn i s.heap → J.go i H →
    wpAny (model P w) X.A (pyNext (.ref it)) (fun r s1 => ∃ u, r = some u ∧
      wpAny (model P w) X.A (letOwnedTupleGo tg (.ref it) u) (fun _ s2 => ∃ x H', Inv X pins σ H' s2 ∧ RelV x u ∧ J.yld i H x H' ∧ tn (i + 1) s2.heap ∧ ∀ b ∈ fp, H' b = none) E s1) E s
  done : ∀ (X : Cx), X.prog = P → X.w = w → X.K = K → X.calm = true → ∀ (i : Nat) (pins : List (Addr × Obj)) (s : Shared) (σ : St) (H : Hp) (E : Value → Shared → Prop), Inv X pins σ H s → (∀ b ∈ fp, FpOk X pins H b) → tn i s.heap → J.stop i H →
    wpAny (model P w) X.A (pyNext (.ref it)) (fun r s1 => r = none ∧ Inv X pins σ H s1) E s
  self : ∀ (A : Around) (i : Nat) (s : Shared) (Q : Value → Shared → Prop) (E : Value → Shared → Prop), tn i s.heap → Q (.ref it) s → wpAny (model P w) A (pyIter (.ref it)) Q E s
abbrev TI := St → Hp → (It → Hp → Prop) → Prop
/-- an iterator has come -/
def PIE (X : Cx) (pins : List (Addr × Obj)) (σ : St) (tg : Expr) (R : It → Hp → Prop) (itv : Value) (s2 : Shared) : Prop :=
  ∃ (it : Addr) (fp : List Addr) (tn : Nat → Heap → Prop) (J : It) (H' : Hp), itv = .ref it ∧ Inv X pins σ H' s2 ∧ Turn X.prog X.w X.K tg J fp it tn ∧ tn 0 s2.heap ∧ (∀ b ∈ fp, FpOk X pins H' b) ∧ R J H'
def PI (X : Cx) (tg iter : Expr) (wi : TI) : Prop :=
  ∀ (pins : List (Addr × Obj)) (s : Shared) (σ : St) (H : Hp) (R : It → Hp → Prop), Inv X pins σ H s → wi σ H R →
    wpAny (model X.prog X.w) X.A (eval iter X.env) (fun v s1 => wpAny (model X.prog X.w) X.A (pyIter v) (PIE X pins σ tg R) X.xe s1) X.xe s
/-- the step ahead of the store is nothing for an iterator that keeps no tuple -/
theorem go_of {M : Model} {A : Around} {E : Value → Shared → Prop} {s : Shared} {tg : Expr} {it : Addr} {u : Value} {o : Obj} {n : String} {vs : Array Value} {Q : Unit → Shared → Prop} (ho : s.heap.get? it = some o) (hc : o.cls = .type n) (hd : o.data = .fields vs)
    (hn : ["enumerate", "zip", "dict_itemiterator", "dict_reverseitemiterator", "odict_iterator", "itertools.zip_longest", "itertools.pairwise"].contains n = false) (hQ : Q () s) : wpAny M A (letOwnedTupleGo tg (.ref it) u) Q E s := by
  unfold letOwnedTupleGo
  cases tg <;> first
    | exact wpAny_pure hQ
    | (cases u <;> first
        | exact wpAny_pure hQ
        | (refine wpAny_bind (wpAny_load ho ?_)
           rw [hc, hd]
           show wpAny M A (if (["enumerate", "zip", "dict_itemiterator", "dict_reverseitemiterator", "odict_iterator", "itertools.zip_longest", "itertools.pairwise"].contains n && vs[0]? == some (rawInt _)) = true then _ else _) Q E s
           rw [if_neg (by intro h; rw [hn, Bool.false_and] at h; cases h)]
           exact wpAny_pure hQ))
/-- the list at a, as it stands at each turn (a loop may append to it) -/
def Itl (K : PySem.W.Frag) (a : Addr) : It :=
  ⟨fun i H => ∃ xs x, SqL K H a xs ∧ xs[i]? = some x, fun i H x H' => H' = H ∧ ∀ xs, SqL K H a xs → xs[i]? = some x, fun i H => ∃ xs, SqL K H a xs ∧ xs.length ≤ i⟩
def Itt (K : PySem.W.Frag) (a : Addr) : It :=
  ⟨fun i H => ∃ xs x, SqT K H a xs ∧ xs[i]? = some x, fun i H x H' => H' = H ∧ ∀ xs, SqT K H a xs → xs[i]? = some x, fun i H => ∃ xs, SqT K H a xs ∧ xs.length ≤ i⟩
/-- lo, lo + 1, .. (n of them) -/
def Itr (lo : Int) (n : Nat) : It := ⟨fun i _ => i < n, fun i H x H' => H' = H ∧ x = .int (lo + i), fun i _ => n ≤ i⟩
theorem turn_list {P : Program} {w : World} {K : PySem.W.Frag} {tg : Expr} (a it : Addr) : Turn P w K tg (Itl K a) [it] it (fun i h => h.IsListIter it a i) where
  mem := by simp
  obj := fun i h st b hb => by
    have e : b = it := by simpa using hb
    subst e
    obtain ⟨o, e, c, d⟩ := st
    exact ⟨o, e, fun v z => by rw [d] at z; cases z⟩
  keep := fun i h h' st k => st.at fun o e => k it (by simp) o e
  item := by
    intro X hP hw hK hc i pins s σ H E I hf st hg
    subst hP hw hK
    obtain ⟨xs, x, hq, hx⟩ := hg
    obtain ⟨its, rv, p, hz⟩ := I.list hq
    obtain ⟨u, hu, ru⟩ := rv.get hx
    obtain ⟨f0, f1, f2, f3, f4, f5⟩ := hf it (by simp)
    refine wpAny_pyNext_list_item st p.isList (x := u) (by simpa using hu) fun h' st' sb => ?_
    have I1 : Inv X pins σ H { s with heap := h' } := I.turned (t' := s.toks) (fun b o hb e => (sb.2 b hb).trans e) f0 f1 f3 f4 f5
    obtain ⟨o, e, c, d⟩ := id st'
    exact ⟨u, rfl, go_of (s := { s with heap := h' }) e c d (by decide) ⟨x, H, I1, ru, ⟨rfl, fun ys hy => by rw [I.list_inj hy hq]; exact hx⟩, st', fun b hb => (hf b hb).1⟩⟩
  done := by
    intro X hP hw hK hc i pins s σ H E I hf st hg
    subst hP hw hK
    obtain ⟨xs, hq, hx⟩ := hg
    obtain ⟨its, rv, p, hz⟩ := I.list hq
    obtain ⟨f0, f1, f2, f3, f4, f5⟩ := hf it (by simp)
    have hl := rv.length
    exact wpAny_pyNext_list_end (I.ok.hd hc) st p.isList (by simp; omega) fun h' eb => ⟨rfl, I.turned (t' := s.toks) (fun b o hb e => eb b o hb e) f0 f1 f3 f4 f5⟩
  self := fun _ _ _ _ _ st h => wpAny_pyIter_listiter st h
theorem turn_tuple {P : Program} {w : World} {K : PySem.W.Frag} {tg : Expr} (a it : Addr) : Turn P w K tg (Itt K a) [it] it (fun i h => h.IsTupleIter it a i) where
  mem := by simp
  obj := fun i h st b hb => by
    have e : b = it := by simpa using hb
    subst e
    obtain ⟨o, e, c, d⟩ := st
    exact ⟨o, e, fun v z => by rw [d] at z; cases z⟩
  keep := fun i h h' st k => st.at fun o e => k it (by simp) o e
  item := by
    intro X hP hw hK hc i pins s σ H E I hf st hg
    subst hP hw hK
    obtain ⟨xs, x, hq, hx⟩ := hg
    obtain ⟨its, rv, p, hz⟩ := I.tuple hq
    obtain ⟨u, hu, ru⟩ := rv.get hx
    obtain ⟨f0, f1, f2, f3, f4, f5⟩ := hf it (by simp)
    refine wpAny_pyNext_tuple_item st (show s.heap.IsTuple a its.toArray from p) (x := u) (by simpa using hu) fun h' st' sb => ?_
    have I1 : Inv X pins σ H { s with heap := h' } := I.turned (t' := s.toks) (fun b o hb e => (sb.2 b hb).trans e) f0 f1 f3 f4 f5
    obtain ⟨o, e, c, d⟩ := id st'
    exact ⟨u, rfl, go_of (s := { s with heap := h' }) e c d (by decide) ⟨x, H, I1, ru, ⟨rfl, fun ys hy => by rw [I.tuple_inj hy hq]; exact hx⟩, st', fun b hb => (hf b hb).1⟩⟩
  done := by
    intro X hP hw hK hc i pins s σ H E I hf st hg
    subst hP hw hK
    obtain ⟨xs, hq, hx⟩ := hg
    obtain ⟨its, rv, p, hz⟩ := I.tuple hq
    obtain ⟨f0, f1, f2, f3, f4, f5⟩ := hf it (by simp)
    have hl := rv.length
    exact wpAny_pyNext_tuple_end (I.ok.hd hc) st (show s.heap.IsTuple a its.toArray from p) (by simp; omega) fun h' eb => ⟨rfl, I.turned (t' := s.toks) (fun b o hb e => eb b o hb e) f0 f1 f3 f4 f5⟩
  self := fun _ _ _ _ _ st h => wpAny_pyIter_tupleiter st h
theorem turn_range {P : Program} {w : World} {K : PySem.W.Frag} {tg : Expr} (it : Addr) (lo : Int) (n : Nat) : Turn P w K tg (Itr lo n) [it] it (fun i h => IsRangeIter h it (lo + (i : Nat) * 1) ((n : Int) - (i : Nat)) 1) where
  mem := by simp
  obj := fun i h st b hb => by
    have e : b = it := by simpa using hb
    subst e
    exact ⟨_, st, fun v z => by
      have z' : Data.fields _ = Data.cell v := z
      cases z'⟩
  keep := fun i h h' st k => k it (by simp) _ st
  item := by
    intro X hP hw hK hc i pins s σ H E I hf st hg
    subst hP hw hK
    obtain ⟨f0, f1, f2, f3, f4, f5⟩ := hf it (by simp)
    have W := Walks.range (prog := X.prog) (w := X.w) (I.ok.hd hc) it lo 1 n
    refine W.item i s _ _ hg st fun v h' tk hv st' kk => ?_
    obtain ⟨t, rfl⟩ := hv
    have I1 : Inv X pins σ H { s with heap := h', toks := tk } := I.turned (fun b o hb e => kk b o (by simpa using hb) e) f0 f1 f3 f4 f5
    refine ⟨_, rfl, go_of (s := { s with heap := h', toks := tk }) (n := "range_iterator") st' rfl rfl (by decide) ⟨.int (lo + i), H, I1, ⟨t, ?_⟩, ⟨rfl, rfl⟩, st', fun b hb => (hf b hb).1⟩⟩
    rw [Int.mul_one]
  done := by
    intro X hP hw hK hc i pins s σ H E I hf st hg
    subst hP hw hK
    obtain ⟨f0, f1, f2, f3, f4, f5⟩ := hf it (by simp)
    exact wpAny_pyNext_range_end (I.ok.hd hc) st (by have : n ≤ i := hg; omega) fun h' eb => ⟨rfl, I.turned (t' := s.toks) (fun b o hb e => eb b o hb e) f0 f1 f3 f4 f5⟩
  self := fun _ _ _ _ _ st h => wpAny_pyIter_rangeiter st h
end L2
namespace L2
open PySem PySem.Spec PyProof.Rows
section
variable {X : Cx} {tg : Expr}
def iList (K : PySem.W.Frag) (tl : TE) : TI := fun σ H R => tl σ H fun x H1 => ∃ a, x = .ref a ∧ (∃ xs, SqL K H1 a xs) ∧ R (Itl K a) H1
def iTup (K : PySem.W.Frag) (tl : TE) : TI := fun σ H R => tl σ H fun x H1 => ∃ a, x = .ref a ∧ (∃ xs, SqT K H1 a xs) ∧ R (Itt K a) H1
theorem pi_list {l : Expr} {tl : TE} (hl : PE X l tl) : PI X tg l (iList X.K tl) := by
  intro pins s σ H R I h
  refine thn (hl pins s σ H _ I h) fun v s1 ⟨x, H1, I1, r1, q1⟩ => ?_
  obtain ⟨a, e, ⟨xs, hq⟩, q⟩ := q1
  subst e
  cases r1
  obtain ⟨its, rv, p, hz⟩ := I1.list hq
  refine wpAny_pyIter_list p.isList ?_
  refine ⟨s1.heap.objs.size, [s1.heap.objs.size], _, _, H1, rfl, I1.kept (t' := s1.toks) fun b o e => Heap.get?_push_of_some _ e, turn_list a _, ⟨_, Heap.get?_push_size _ rfl, rfl, rfl⟩, fun b hb => ?_, q⟩
  have e : b = s1.heap.objs.size := by simpa using hb
  subst e
  exact I1.fpOk (Nat.le_refl _) (I1.hok.fresh (Nat.le_refl _))
theorem pi_tup {l : Expr} {tl : TE} (hl : PE X l tl) : PI X tg l (iTup X.K tl) := by
  intro pins s σ H R I h
  refine thn (hl pins s σ H _ I h) fun v s1 ⟨x, H1, I1, r1, q1⟩ => ?_
  obtain ⟨a, e, ⟨xs, hq⟩, q⟩ := q1
  subst e
  cases r1
  obtain ⟨its, rv, p, hz⟩ := I1.tuple hq
  refine wpAny_pyIter_tuple (show s1.heap.IsTuple a its.toArray from p) ?_
  refine ⟨s1.heap.objs.size, [s1.heap.objs.size], _, _, H1, rfl, I1.kept (t' := s1.toks) fun b o e => Heap.get?_push_of_some _ e, turn_tuple a _, ⟨_, Heap.get?_push_size _ rfl, rfl, rfl⟩, fun b hb => ?_, q⟩
  have e : b = s1.heap.objs.size := by simpa using hb
  subst e
  exact I1.fpOk (Nat.le_refl _) (I1.hok.fresh (Nat.le_refl _))
/-- a range object just made, walked -/
theorem range_it {pins : List (Addr × Obj)} {σ : St} {H : Hp} {s : Shared} {R : It → Hp → Prop} {E : Value → Shared → Prop} {lo hi : Int} {t u v : Tok} {tk : Nat} (I : Inv X pins σ H s) (h1 : -(2 ^ 62) ≤ lo) (h2 : lo < 2 ^ 62) (h3 : -(2 ^ 62) ≤ hi) (h4 : hi < 2 ^ 62)
    (q : R (Itr lo (hi - lo).toNat) H) : wpAny (model X.prog X.w) X.A (pyIter (.ref s.heap.objs.size)) (PIE X pins σ tg R) E { s with heap := s.heap.push { cls := .type "range", data := .fields #[.int lo t, .int hi u, .int 1 v] }, toks := tk } := by
  refine wpAny_pyIter_range (IsRange.new ..) (small_one h1 h2 h3 h4) ?_
  have I1 : Inv X pins σ H { s with heap := s.heap.push { cls := .type "range", data := .fields #[.int lo t, .int hi u, .int 1 v] }, toks := tk } := I.kept fun b o e => Heap.get?_push_of_some _ e
  refine ⟨(s.heap.push { cls := .type "range", data := .fields #[.int lo t, .int hi u, .int 1 v] }).objs.size, [(s.heap.push { cls := .type "range", data := .fields #[.int lo t, .int hi u, .int 1 v] }).objs.size], _, _, H, rfl,
    I1.kept (t' := tk) fun b o e => Heap.get?_push_of_some _ e, turn_range _ lo (hi - lo).toNat, ?_, fun b hb => ?_, q⟩
  · have e1 : lo + ((0 : Nat) : Int) * 1 = lo := by simp
    have e2 : (((hi - lo).toNat : Nat) : Int) - ((0 : Nat) : Int) = Builtin.Range.rangeSize lo hi 1 := by rw [rangeSize_one]; split <;> omega
    show IsRangeIter _ _ (lo + ((0 : Nat) : Int) * 1) ((((hi - lo).toNat : Nat) : Int) - ((0 : Nat) : Int)) 1
    rw [e1, e2]
    exact Heap.get?_push_size _ rfl
  · have e : b = (s.heap.push { cls := .type "range", data := .fields #[.int lo t, .int hi u, .int 1 v] }).objs.size := by simpa using hb
    subst e
    exact I1.fpOk (Nat.le_refl _) (I1.hok.fresh (Nat.le_refl _))
def iRng1 (ta : TA) : TI := fun σ H R => ta σ H fun vs H1 => ∃ j : Int, vs = [.int j] ∧ -(2 ^ 62) ≤ j ∧ j < 2 ^ 62 ∧ R (Itr 0 j.toNat) H1
theorem pi_range1 {a : Expr} {ta : TA} {p pos : Pos} (hg : Gl X "range") (hm : X.mg "range" = none) (ha : PA X [a] ta) (hs : starEach [a] X.env = [(false, eval a X.env)] := by rfl) : PI X tg (.Call (.Name "range" p) [a] [] pos) (iRng1 ta) := by
  intro pins s σ H R I h
  refine Call_ (ld_blt I hg hm boot_range (PyProof.Rows.callWith_type1 (thn (ha pos pins s σ H _ I h) fun us s1 ⟨vs, H1, I1, r1, q1⟩ => ?_) hs rfl))
  obtain ⟨j, e, q1, q2, q⟩ := q1
  subst e
  cases r1 with
  | cons r rr =>
    cases rr
    obtain ⟨t, rfl⟩ := r
    exact call_range_1 (range_it I1 (by omega) (by omega) q1 q2 (by simpa using q))
/-- W: the invariant by the turn and a measure; N: what the body is to reach -/
def tFor (wi : TI) (g : TG) (tb : TS) : TS := fun D σ H => wi σ H fun J H1 => ∃ W : Nat → Nat → St → Hp → Prop, (∃ m, W 0 m σ H1) ∧ ∀ i m σ H, W i m σ H →
  (J.stop i H ∧ D.nx σ H) ∨ (J.go i H ∧ ∃ N : St → Hp → Prop, (∀ σ' H', N σ' H' → ∃ m', m' < m ∧ W (i + 1) m' σ' H') ∧ ∀ x H', J.yld i H x H' → g x σ H' fun σ2 H2 => tb { D with nx := N, ct := N, bk := D.nx } σ2 H2)
/-- the records at fp as they stand -/
def pinsAt (fp : List Addr) (h : Heap) : List (Addr × Obj) := fp.filterMap fun b => (h.get? b).map fun o => (b, o)
theorem mem_pinsAt {fp : List Addr} {h : Heap} {b : Addr} {o : Obj} (hb : b ∈ fp) (e : h.get? b = some o) : (b, o) ∈ pinsAt fp h := List.mem_filterMap.mpr ⟨b, hb, by rw [e]; rfl⟩
theorem of_pinsAt {fp : List Addr} {h : Heap} {p : Addr × Obj} (hp : p ∈ pinsAt fp h) : p.1 ∈ fp ∧ h.get? p.1 = some p.2 := by
  obtain ⟨b, hb, e⟩ := List.mem_filterMap.mp hp
  cases q : h.get? b with
  | none => rw [q] at e; cases e
  | some o =>
    rw [q] at e
    have e' : (b, o) = p := Option.some.inj e
    subst e'
    exact ⟨hb, q⟩
theorem Inv.pinned {pins : List (Addr × Obj)} {σ : St} {H : Hp} {s : Shared} {fp : List Addr} (I : Inv X pins σ H s) (hf : ∀ b ∈ fp, FpOk X pins H b) (ho : ∀ b ∈ fp, ∃ o, s.heap.get? b = some o ∧ ∀ v, o.data ≠ .cell v) : Inv X (pins ++ pinsAt fp s.heap) σ H s :=
  I.pins_of fun p hp => (List.mem_append.mp hp).elim (fun z => I.pin p (List.mem_append_right _ z)) fun z => by
    obtain ⟨hb, e⟩ := of_pinsAt z
    obtain ⟨f0, f1, f2, _⟩ := hf p.1 hb
    obtain ⟨o, e', d⟩ := ho p.1 hb
    rw [e] at e'; cases e'
    exact ⟨e, f0, f1, f2, d⟩
theorem Inv.unpinned {pins pl : List (Addr × Obj)} {σ : St} {H : Hp} {s : Shared} (I : Inv X (pins ++ pl) σ H s) : Inv X pins σ H s := I.pins_of fun p hp => I.pin p (List.mem_append_right _ (List.mem_append_left _ hp))
theorem ps_for {iter : Expr} {body : List Stmt} {wi : TI} {g : TG} {tb : TS} {pos : Pos} (hp : PassesOwn (model X.prog X.w) X.A X.env X.xe) (hc : X.calm = true) (hi : PI X tg iter wi) (hg : PG X tg g) (hb : PSs X body tb)
    (hs : ∀ x, foldedSetIterable iter X.env x = pure x := by intro _; rfl) : PS X (.For tg iter body [] pos) (tFor wi g tb) := by
  intro pins s σ H D I h
  refine wpAny_For (thn (hi pins s σ H _ I h) fun v s1 h1 => thn h1 fun itv s2 h2 => ?_) hs
  obtain ⟨it, fp, tn, J, H2, e, I2, T, st2, f2, W, ⟨m0, w0⟩, turn⟩ := h2
  subst e
  -- what stays true of the iterator's objects through the loop
  have stat : ∀ {H' : Hp}, (∀ b ∈ fp, H' b = none) → ∀ b ∈ fp, FpOk X pins H' b := fun hn b hb => ⟨hn b hb, (f2 b hb).2⟩
  refine codeAny_forLoop_any (fun n s' => ∃ i σ' H', Inv X pins σ' H' s' ∧ tn i s'.heap ∧ (∀ b ∈ fp, H' b = none) ∧ W i n σ' H') ?_ m0 ⟨0, σ, H2, I2, st2, fun b hb => (f2 b hb).1, w0⟩
  rintro n s3 ⟨i, σ3, H3, I3, st3, fr3, w3⟩
  rcases turn i n σ3 H3 w3 with ⟨stop, qn⟩ | ⟨go, N, hN, step⟩
  · refine wpAny_passesOwn hp (thn (T.done X rfl rfl rfl hc i pins s3 σ3 H3 X.xe I3 (stat fr3) st3 stop) fun r s4 ⟨hr, I4⟩ => ?_)
    subst hr
    exact wpAny_execs_nil ⟨σ3, H3, I4, qn⟩
  · refine wpAny_passesOwn hp (thn (T.item X rfl rfl rfl hc i pins s3 σ3 H3 X.xe I3 (stat fr3) st3 go) fun r s4 ⟨u, hr, h4⟩ => ?_)
    subst hr
    refine wpAny_passesOwn hp (thn h4 fun _ s5 ⟨x, H5, I5, r5, y5, st5, fr5⟩ => ?_)
    have I5' := I5.pinned (stat fr5) (T.obj _ _ st5)
    refine wpAny_passesOwn hp (thn (hg _ s5 σ3 H5 x u _ I5' r5 (step x H5 y5)) fun _ s6 ⟨σ6, H6, I6, q6⟩ => ?_)
    refine wpAny_passesOwn hp (thn (hb _ s6 σ6 H6 _ I6 q6) fun f s7 q7 => ?_)
    have again : ∀ {σ7 : St} {H7 : Hp}, Inv X (pins ++ pinsAt fp s5.heap) σ7 H7 s7 → N σ7 H7 → ∃ m, m < n ∧ ∃ i σ' H', Inv X pins σ' H' s7 ∧ tn i s7.heap ∧ (∀ b ∈ fp, H' b = none) ∧ W i m σ' H' := fun {σ7 H7} I7 n7 => by
      obtain ⟨m', hm, w7⟩ := hN σ7 H7 n7
      refine ⟨m', hm, i + 1, σ7, H7, I7.unpinned, T.keep _ _ _ st5 fun b hb o e => (I7.pin (b, o) (List.mem_append_right _ (List.mem_append_right _ (mem_pinsAt hb e)))).1, fun b hb => ?_, w7⟩
      obtain ⟨o, e, d⟩ := T.obj _ _ st5 b hb
      exact (I7.pin (b, o) (List.mem_append_right _ (List.mem_append_right _ (mem_pinsAt hb e)))).2.1
    cases f with
    | next => obtain ⟨σ7, H7, I7, n7⟩ := q7; exact again I7 n7
    | cont => obtain ⟨σ7, H7, I7, n7⟩ := q7; exact again I7 n7
    | brk => obtain ⟨σ7, H7, I7, q7⟩ := q7; exact ⟨σ7, H7, I7.unpinned, q7⟩
    | ret v => obtain ⟨x7, σ7, H7, I7, r7, q7⟩ := q7; exact ⟨x7, σ7, H7, I7.unpinned, r7, q7⟩
end
/-- over a list that the body leaves as it is -/
theorem for_list {K : PySem.W.Frag} {a : Addr} {xs : List V} {g : TG} {tb : TS} {D : Ends} {σ : St} {H : Hp} (Pv : Nat → St → Hp → Prop) (h0 : Pv 0 σ H) (hl : ∀ i σ H, i ≤ xs.length → Pv i σ H → SqL K H a xs)
    (hs : ∀ i x σ H, xs[i]? = some x → Pv i σ H → g x σ H fun σ2 H2 => tb { D with nx := Pv (i + 1), ct := Pv (i + 1), bk := D.nx } σ2 H2) (hd : ∀ σ H, Pv xs.length σ H → D.nx σ H) :
    ∃ W : Nat → Nat → St → Hp → Prop, (∃ m, W 0 m σ H) ∧ ∀ i m σ H, W i m σ H →
      ((Itl K a).stop i H ∧ D.nx σ H) ∨ ((Itl K a).go i H ∧ ∃ N : St → Hp → Prop, (∀ σ' H', N σ' H' → ∃ m', m' < m ∧ W (i + 1) m' σ' H') ∧ ∀ x H', (Itl K a).yld i H x H' → g x σ H' fun σ2 H2 => tb { D with nx := N, ct := N, bk := D.nx } σ2 H2) := by
  refine ⟨fun i m σ H => m = xs.length - i ∧ i ≤ xs.length ∧ Pv i σ H, ⟨xs.length, by simp, Nat.zero_le _, h0⟩, ?_⟩
  rintro i m σ H ⟨rfl, hi, p⟩
  have q := hl i σ H hi p
  by_cases hlt : i < xs.length
  · refine .inr ⟨⟨xs, xs[i], q, by simp [hlt]⟩, Pv (i + 1), fun σ' H' p' => ⟨xs.length - (i + 1), by omega, rfl, hlt, p'⟩, fun x H' y => ?_⟩
    obtain ⟨e, y⟩ := y
    subst e
    exact hs i x σ _ (y xs q) p
  · have e : i = xs.length := by omega
    subst e
    exact .inl ⟨⟨xs, q, Nat.le_refl _⟩, hd σ H p⟩
theorem for_range {lo : Int} {n : Nat} {g : TG} {tb : TS} {D : Ends} {σ : St} {H : Hp} (Pv : Nat → St → Hp → Prop) (h0 : Pv 0 σ H)
    (hs : ∀ i σ H, i < n → Pv i σ H → g (.int (lo + i)) σ H fun σ2 H2 => tb { D with nx := Pv (i + 1), ct := Pv (i + 1), bk := D.nx } σ2 H2) (hd : ∀ σ H, Pv n σ H → D.nx σ H) :
    ∃ W : Nat → Nat → St → Hp → Prop, (∃ m, W 0 m σ H) ∧ ∀ i m σ H, W i m σ H →
      ((Itr lo n).stop i H ∧ D.nx σ H) ∨ ((Itr lo n).go i H ∧ ∃ N : St → Hp → Prop, (∀ σ' H', N σ' H' → ∃ m', m' < m ∧ W (i + 1) m' σ' H') ∧ ∀ x H', (Itr lo n).yld i H x H' → g x σ H' fun σ2 H2 => tb { D with nx := N, ct := N, bk := D.nx } σ2 H2) := by
  refine ⟨fun i m σ H => m = n - i ∧ i ≤ n ∧ Pv i σ H, ⟨n, by simp, Nat.zero_le _, h0⟩, ?_⟩
  rintro i m σ H ⟨rfl, hi, p⟩
  by_cases hlt : i < n
  · refine .inr ⟨hlt, Pv (i + 1), fun σ' H' p' => ⟨n - (i + 1), by omega, rfl, hlt, p'⟩, fun x H' y => ?_⟩
    obtain ⟨e, y⟩ := y
    subst e y
    exact hs i σ _ hlt p
  · have e : i = n := by omega
    subst e
    exact .inl ⟨Nat.le_refl _, hd σ H p⟩
end L2
namespace L2
open PySem PySem.Spec PyProof.Rows
abbrev R2 := V → V → Hp → VK → Prop
/-- a two-place operation on values: f is binaryOp op, inplaceOp op or compareOp op -/
def OpR (X : Cx) (f : Value → Value → Sem Value) (r : R2) : Prop :=
  ∀ (pins : List (Addr × Obj)) (s : Shared) (σ : St) (H : Hp) (x y : V) (v u : Value) (Q : VK), Inv X pins σ H s → RelV x v → RelV y u → r x y H Q →
    wpAny (model X.prog X.w) X.A (f v u) (EP X pins σ Q) X.xe s
/-- a call of a value that is known (a builtin, a type) with values -/
def CallR (X : Cx) (f : Value) (r : List V → Hp → VK → Prop) : Prop :=
  ∀ (pins : List (Addr × Obj)) (s : Shared) (σ : St) (H : Hp) (xs : List V) (us : List Value) (Q : VK), Inv X pins σ H s → Vals xs us → r xs H Q →
    wpAny (model X.prog X.w) X.A (call f us) (EP X pins σ Q) X.xe s
def tOp (r : R2) (ta tb : TE) : TE := fun σ H Q => ta σ H fun x H1 => tb σ H1 fun y H2 => r x y H2 Q
/-- ints in, under C, and a value out -/
def rI (C : Int → Int → Prop) (g : Int → Int → V) : R2 := fun x y H Q => ∃ i j, x = .int i ∧ y = .int j ∧ C i j ∧ Q (g i j) H
def rI0 (g : Int → Int → V) : R2 := fun x y H Q => ∃ i j, x = .int i ∧ y = .int j ∧ Q (g i j) H
section
variable {X : Cx} {a b c : Expr} {ta tb tc : TE} {pos : Pos}
theorem binT (ha : PE X a ta) (hb : PE X b tb) {pins : List (Addr × Obj)} {s : Shared} {σ : St} {H : Hp} {R : V → V → Hp → Prop} (I : Inv X pins σ H s)
    (h : ta σ H fun x H1 => tb σ H1 fun y H2 => R x y H2) {Q : Value → Shared → Prop} {f : Value → Value → Sem Value}
    (hf : ∀ v u s2 x y H2, Inv X pins σ H2 s2 → RelV x v → RelV y u → R x y H2 → wpAny (model X.prog X.w) X.A (f v u) Q X.xe s2) :
    wpAny (model X.prog X.w) X.A (eval a X.env) (fun v s₁ => wpAny (model X.prog X.w) X.A (eval b X.env) (fun u s₂ => wpAny (model X.prog X.w) X.A (f v u) Q X.xe s₂) X.xe s₁) X.xe s := by
  refine thn (ha pins s σ H _ I h) fun v s1 ⟨x, H1, I1, r1, q1⟩ => ?_
  refine thn (hb pins s1 σ H1 _ I1 q1) fun u s2 ⟨y, H2, I2, r2, q2⟩ => ?_
  exact hf v u s2 x y H2 I2 r1 r2 q2
theorem pe_op {op : Operator} {r : R2} (ho : OpR X (binaryOp op) r) (ha : PE X a ta) (hb : PE X b tb) : PE X (.BinOp a op b pos) (tOp r ta tb) := by
  intro pins s σ H Q I h
  exact wpAny_BinOp (binT ha hb I h fun v u s2 x y H2 I2 rx ry q => ho pins s2 σ H2 x y v u Q I2 rx ry q)
theorem opI {f : Value → Value → Sem Value} {C : Int → Int → Prop} {g : Int → Int → Int}
    (rule : ∀ (i j : Int) (t u : Tok) (s : Shared) (Q : Value → Shared → Prop) (E : Value → Shared → Prop), C i j → Q (.int (g i j) s.toks) { s with toks := s.toks + 1 } → wpAny (model X.prog X.w) X.A (f (.int i t) (.int j u)) Q E s) :
    OpR X f (rI C fun i j => .int (g i j)) := by
  intro pins s σ H x y v u Q I rx ry h
  obtain ⟨i, j, rfl, rfl, hc, q⟩ := h
  obtain ⟨t, rfl⟩ := rx
  obtain ⟨t', rfl⟩ := ry
  exact rule i j t t' s _ _ hc ⟨.int (g i j), H, I.tok _, ⟨_, rfl⟩, q⟩
theorem opI0 {f : Value → Value → Sem Value} {g : Int → Int → Int}
    (rule : ∀ (i j : Int) (t u : Tok) (s : Shared) (Q : Value → Shared → Prop) (E : Value → Shared → Prop), Q (.int (g i j) s.toks) { s with toks := s.toks + 1 } → wpAny (model X.prog X.w) X.A (f (.int i t) (.int j u)) Q E s) :
    OpR X f (rI0 fun i j => .int (g i j)) := by
  intro pins s σ H x y v u Q I rx ry h
  obtain ⟨i, j, rfl, rfl, q⟩ := h
  obtain ⟨t, rfl⟩ := rx
  obtain ⟨t', rfl⟩ := ry
  exact rule i j t t' s _ _ ⟨.int (g i j), H, I.tok _, ⟨_, rfl⟩, q⟩
theorem opB0 {f : Value → Value → Sem Value} {g : Int → Int → Bool}
    (rule : ∀ (i j : Int) (t u : Tok) (s : Shared) (Q : Value → Shared → Prop) (E : Value → Shared → Prop), Q (.bool (g i j)) s → wpAny (model X.prog X.w) X.A (f (.int i t) (.int j u)) Q E s) :
    OpR X f (rI0 fun i j => .bl (g i j)) := by
  intro pins s σ H x y v u Q I rx ry h
  obtain ⟨i, j, rfl, rfl, q⟩ := h
  obtain ⟨t, rfl⟩ := rx
  obtain ⟨t', rfl⟩ := ry
  exact rule i j t t' s _ _ ⟨.bl (g i j), H, I, rfl, q⟩
def CDiv (i j : Int) : Prop := 0 < j ∧ j < 1073741824
def CMul (i j : Int) : Prop := (-(2 ^ 64) < i ∧ i < 2 ^ 64) ∨ (-(2 ^ 64) < j ∧ j < 2 ^ 64)
theorem CMul.ok {i j : Int} (h : CMul i j) : IntMulOk i j := by
  rcases h with ⟨h1, h2⟩ | ⟨h1, h2⟩
  · exact .of_left (intBits_le_64 h1 h2)
  · exact .of_right (intBits_le_64 h1 h2)
theorem two_pow_nn (k : Nat) : (0 : Int) ≤ 2 ^ k := by
  rw [two_pow_cast]
  exact Int.natCast_nonneg _
theorem op_add : OpR X (binaryOp .Add) (rI0 fun i j => .int (i + j)) := opI0 fun _ _ _ _ _ _ _ q => add_int q
theorem op_sub : OpR X (binaryOp .Sub) (rI0 fun i j => .int (i - j)) := opI0 fun _ _ _ _ _ _ _ q => sub_int q
theorem op_mul : OpR X (binaryOp .Mult) (rI CMul fun i j => .int (i * j)) := opI fun _ _ _ _ _ _ _ hc q => mul_int q hc.ok
/-- // by a positive divisor -/
theorem op_fdiv : OpR X (binaryOp .FloorDiv) (rI CDiv fun i j => .int (i / j)) := opI fun i j _ _ _ _ _ hc q => by
  have h1 : (0 : Int) < j := hc.1
  have h2 : j < 1073741824 := hc.2
  exact floordiv_int (by omega) (by rw [Int.fdiv_eq_ediv_of_nonneg i (by omega)]; exact q) (.inl (PyProof.noPylong_small (by omega)))
/-- % by a positive divisor of any size -/
theorem op_mod : OpR X (binaryOp .Mod) (rI (fun _ j => 0 < j) fun i j => .int (i % j)) := opI fun i j _ _ _ _ _ hc q => by
  have h1 : (0 : Int) < j := hc
  exact mod_int' (by omega) (by rw [Int.fmod_eq_emod_of_nonneg i (by omega)]; exact q)
theorem op_shr : OpR X (binaryOp .RShift) (rI (fun _ j => 0 ≤ j) fun i j => .int (i / 2 ^ j.toNat)) := opI fun i j _ _ _ _ _ hc q =>
  rshift_int hc (by rw [Int.fdiv_eq_ediv_of_nonneg i (two_pow_nn _)]; exact q)
theorem op_and : OpR X (binaryOp .BitAnd) (rI0 fun i j => .int (Builtin.bitAnd i j)) := opI0 fun _ _ _ _ _ _ _ q => and_int q
theorem op_xor : OpR X (binaryOp .BitXor) (rI0 fun i j => .int (Builtin.bitXor i j)) := opI0 fun _ _ _ _ _ _ _ q => xor_int q
end
/-- the scalars that == tells apart as data does -/
def scal : V → V → Bool
  | .non, .non => true | .non, .int _ => true | .int _, .non => true | .non, .bl _ => true | .bl _, .non => true | .non, .str _ => true | .str _, .non => true
  | .int _, .int _ => true | .bl _, .bl _ => true | .str _, .str _ => true | .byt _, .byt _ => true
  | .int _, .str _ => true | .str _, .int _ => true | .bl _, .str _ => true | .str _, .bl _ => true
  | _, _ => false
def rEq : R2 := fun x y H Q => scal x y = true ∧ Q (.bl (decide (x = y))) H
def rNe : R2 := fun x y H Q => scal x y = true ∧ Q (.bl (!decide (x = y))) H
theorem dec_int {i j : Int} : decide (V.int i = V.int j) = (i == j) := by
  rw [Bool.eq_iff_iff]
  simp
theorem dec_bl {i j : Bool} : decide (V.bl i = V.bl j) = (i == j) := by
  rw [Bool.eq_iff_iff]
  simp
theorem dec_str {i j : Str} : decide (V.str i = V.str j) = (i == j) := by
  rw [Bool.eq_iff_iff]
  simp
theorem dec_byt {i j : Array UInt8} : decide (V.byt i = V.byt j) = (i.toList == j.toList) := by
  rw [Bool.eq_iff_iff]
  cases i
  cases j
  simp
section
variable {X : Cx} {a b c : Expr} {ta tb tc : TE} {pos : Pos}
theorem fin_bl {pins : List (Addr × Obj)} {σ : St} {H : Hp} {s : Shared} {Q : VK} {k k' : Bool} (I : Inv X pins σ H s) (q : Q (.bl k) H) (e : k = k') : EP X pins σ Q (.bool k') s := by
  subst e
  exact ⟨.bl k, H, I, rfl, q⟩
theorem op_eq : OpR X (compareOp .Eq) rEq := by
  intro pins s σ H x y v u Q I rx ry h
  obtain ⟨hs, q⟩ := h
  cases x with
  | non =>
    cases rx
    cases y with
    | non => cases ry; exact PySem.EqNone.eq_none_none (fin_bl I q (by simp))
    | bl j => cases ry; exact PySem.EqNone.eq_none_bool (fin_bl I q (by simp))
    | int j => obtain ⟨t', rfl⟩ := ry; exact PySem.EqNone.eq_none_int (fin_bl I q (by simp))
    | str j => obtain ⟨t', rfl⟩ := ry; exact PySem.EqNone.eq_none_str (fin_bl I q (by simp))
    | _ => exact absurd (show false = true from hs) Bool.false_ne_true
  | bl i =>
    cases rx
    cases y with
    | non => cases ry; exact PySem.EqNone.eq_bool_none (fin_bl I q (by simp))
    | bl j => cases ry; exact eq_bool (fin_bl I q dec_bl)
    | str j => obtain ⟨t', rfl⟩ := ry; exact PySem.EqMixed.eq_bool_str (fin_bl I q (by simp))
    | _ => exact absurd (show false = true from hs) Bool.false_ne_true
  | int i =>
    obtain ⟨t, rfl⟩ := rx
    cases y with
    | non => cases ry; exact PySem.EqNone.eq_int_none (fin_bl I q (by simp))
    | int j => obtain ⟨t', rfl⟩ := ry; exact eq_int (fin_bl I q dec_int)
    | str j => obtain ⟨t', rfl⟩ := ry; exact PySem.EqMixed.eq_int_str (fin_bl I q (by simp))
    | _ => exact absurd (show false = true from hs) Bool.false_ne_true
  | str i =>
    obtain ⟨t, rfl⟩ := rx
    cases y with
    | non => cases ry; exact PySem.EqNone.eq_str_none (fin_bl I q (by simp))
    | bl j => cases ry; exact PySem.EqMixed.eq_str_bool (fin_bl I q (by simp))
    | int j => obtain ⟨t', rfl⟩ := ry; exact PySem.EqMixed.eq_str_int (fin_bl I q (by simp))
    | str j => obtain ⟨t', rfl⟩ := ry; exact eq_str (fin_bl I q dec_str)
    | _ => exact absurd (show false = true from hs) Bool.false_ne_true
  | byt i =>
    obtain ⟨t, rfl⟩ := rx
    cases y with
    | byt j => obtain ⟨t', rfl⟩ := ry; exact PySem.W.eq_bytes (fin_bl I q dec_byt)
    | _ => exact absurd (show false = true from hs) Bool.false_ne_true
  | _ => cases y <;> exact absurd (show false = true from hs) Bool.false_ne_true
theorem op_ne : OpR X (compareOp .NotEq) rNe := by
  intro pins s σ H x y v u Q I rx ry h
  obtain ⟨hs, q⟩ := h
  cases x with
  | non =>
    cases rx
    cases y with
    | non => cases ry; exact PySem.EqNone.ne_none_none (fin_bl I q (by simp))
    | bl j => cases ry; exact PySem.EqNone.ne_none_bool (fin_bl I q (by simp))
    | int j => obtain ⟨t', rfl⟩ := ry; exact PySem.EqNone.ne_none_int (fin_bl I q (by simp))
    | str j => obtain ⟨t', rfl⟩ := ry; exact PySem.EqNone.ne_none_str (fin_bl I q (by simp))
    | _ => exact absurd (show false = true from hs) Bool.false_ne_true
  | bl i =>
    cases rx
    cases y with
    | non => cases ry; exact PySem.EqNone.ne_bool_none (fin_bl I q (by simp))
    | bl j => cases ry; exact ne_bool (fin_bl I q (congrArg not dec_bl))
    | str j => obtain ⟨t', rfl⟩ := ry; exact PySem.EqMixed.ne_bool_str (fin_bl I q (by simp))
    | _ => exact absurd (show false = true from hs) Bool.false_ne_true
  | int i =>
    obtain ⟨t, rfl⟩ := rx
    cases y with
    | non => cases ry; exact PySem.EqNone.ne_int_none (fin_bl I q (by simp))
    | int j => obtain ⟨t', rfl⟩ := ry; exact ne_int (fin_bl I q (congrArg not dec_int))
    | str j => obtain ⟨t', rfl⟩ := ry; exact PySem.EqMixed.ne_int_str (fin_bl I q (by simp))
    | _ => exact absurd (show false = true from hs) Bool.false_ne_true
  | str i =>
    obtain ⟨t, rfl⟩ := rx
    cases y with
    | non => cases ry; exact PySem.EqNone.ne_str_none (fin_bl I q (by simp))
    | bl j => cases ry; exact PySem.EqMixed.ne_str_bool (fin_bl I q (by simp))
    | int j => obtain ⟨t', rfl⟩ := ry; exact PySem.EqMixed.ne_str_int (fin_bl I q (by simp))
    | str j => obtain ⟨t', rfl⟩ := ry; exact ne_str (fin_bl I q (congrArg not dec_str))
    | _ => exact absurd (show false = true from hs) Bool.false_ne_true
  | byt i =>
    obtain ⟨t, rfl⟩ := rx
    cases y with
    | byt j => obtain ⟨t', rfl⟩ := ry; exact PySem.W.ne_bytes (fin_bl I q (congrArg not dec_byt))
    | _ => exact absurd (show false = true from hs) Bool.false_ne_true
  | _ => cases y <;> exact absurd (show false = true from hs) Bool.false_ne_true
theorem op_lt : OpR X (compareOp .Lt) (rI0 fun i j => .bl (decide (i < j))) := opB0 fun _ _ _ _ _ _ _ q => lt_int q
theorem op_le : OpR X (compareOp .LtE) (rI0 fun i j => .bl (decide (i ≤ j))) := opB0 fun _ _ _ _ _ _ _ q => le_int q
theorem op_gt : OpR X (compareOp .Gt) (rI0 fun i j => .bl (decide (j < i))) := opB0 fun _ _ _ _ _ _ _ q => gt_int q
theorem op_ge : OpR X (compareOp .GtE) (rI0 fun i j => .bl (decide (j ≤ i))) := opB0 fun _ _ _ _ _ _ _ q => ge_int q
theorem nomark (b : Expr) {op : CmpOp} (h : op ≠ .In := by decide) (h2 : op ≠ .NotIn := by decide) : behindInMarks op b = false := by
  have e1 : (op == CmpOp.In) = false := by cases op <;> first | rfl | exact absurd rfl h
  have e2 : (op == CmpOp.NotIn) = false := by cases op <;> first | rfl | exact absurd rfl h2
  cases b <;> simp [behindInMarks, e1, e2]
/-- a comparison as a value; hm: nomark b, or (for in, not in) by with_unfolding_all rfl -/
theorem pe_cmpR {op : CmpOp} {r : R2} (ho : OpR X (compareOp op) r) (ha : PE X a ta) (hb : PE X b tb) (hm : behindInMarks op b = false) : PE X (.Compare a [op] [b] pos) (tOp r ta tb) := by
  intro pins s σ H Q I h
  exact wpAny_Compare1 (binT ha hb I h fun v u s2 x y H2 I2 rx ry q => ho pins s2 σ H2 x y v u Q I2 rx ry q) hm
/-- a reading of a value as a test -/
def tTest (t : TE) : TT := fun σ H Q => t σ H fun x H' => ∃ k, x = .bl k ∧ Q k H'
theorem pt_cmpR {op : CmpOp} {r : R2} (ho : OpR X (compareOp op) r) (ha : PE X a ta) (hb : PE X b tb) (hm : behindInMarks op b = false) : PT X (.Compare a [op] [b] pos) (tTest (tOp r ta tb)) := by
  intro pins s σ H Q I h
  refine wpAny_isTrue_Compare1 (thn (ha pins s σ H _ I h) fun v s1 ⟨x, H1, I1, r1, q1⟩ => thn (hb pins s1 σ H1 _ I1 q1) fun u s2 ⟨y, H2, I2, r2, q2⟩ =>
    thn (ho pins s2 σ H2 x y v u _ I2 r1 r2 q2) fun c s3 ⟨z, H3, I3, r3, k, e, q3⟩ => ?_) hm
  subst e
  cases r3
  exact wpAny_truthy_bool ⟨H3, I3, q3⟩
theorem line63 : (sizeLine : Nat) < 2 ^ 63 := by rw [sizeLine_eq]; decide
theorem vals1 {x : V} {us : List Value} (r : Vals [x] us) : ∃ u, us = [u] ∧ RelV x u := by
  cases r with
  | cons r1 r2 => cases r2; exact ⟨_, rfl, r1⟩
theorem vals2 {x y : V} {us : List Value} (r : Vals [x, y] us) : ∃ u w', us = [u, w'] ∧ RelV x u ∧ RelV y w' := by
  cases r with
  | cons r1 r2 =>
    cases r2 with
    | cons r3 r4 => cases r4; exact ⟨_, _, rfl, r1, r3⟩
end
end L2
namespace L2
open PySem PySem.Spec PyProof.Rows
structure ObjM (h : Heap) (x dx C : Addr) (mA : Str → Option Value) : Prop where
  obj : h.get? x = some (PySem.W.instObj C dx)
  ns : h.Ns1 dx mA
  ne : dx ≠ x
theorem lookIn_ns {h : Heap} {dx : Addr} {mA : Str → Option Value} (n : h.Ns1 dx mA) : ∃ od, h.get? dx = some od ∧ ∀ name, PySem.W.lookIn name od = some (mA name) := by
  obtain ⟨o, es, ep, ho, hd, hk, _, hm⟩ := n
  refine ⟨o, ho, fun name => ?_⟩
  have e := hm name
  unfold nsFind findBy at e
  rw [← Array.find?_toList] at e
  unfold PySem.W.lookIn
  rw [hd]
  dsimp only
  split
  · rename_i y q
    rw [q] at e
    exact congrArg some e
  · rename_i q
    rw [q] at e
    have a : es.toList.any (·.refKey) = false := by
      rw [List.any_eq_false]
      intro y hy
      obtain ⟨z, t, hkey⟩ := hk y (Array.mem_toList_iff.mp hy)
      simp [DictEntry.refKey, hkey]
    have a' : ¬ es.toList.any (·.refKey) = true := by rw [a]; exact Bool.false_ne_true
    rw [if_neg a']
    exact congrArg some e
theorem ObjM.look {h : Heap} {x dx C : Addr} {mA : Str → Option Value} (I : ObjM h x dx C mA) : ∃ od, PySem.W.InstAt h x (PySem.W.instObj C dx) C (some od) ∧ ∀ name, PySem.W.lookIn name od = some (mA name) :=
  let ⟨od, ho, hl⟩ := lookIn_ns I.ns
  ⟨od, ⟨I.obj, rfl, rfl, ho⟩, hl⟩
section
variable {prog : Program} {w : World} {A : Around} {E : Value → Shared → Prop} {s : Shared} {K : PySem.W.Frag} {x dx C f : Addr} {mA : Str → Option Value} {name : Str} {v : Value}
theorem get_map {expr : Bool} {Q : Value → Shared → Prop} (X : K.In s.heap) (I : ObjM s.heap x dx C mA) (hg : PySem.W.plainGet K C name = true) (hh : PySem.W.hasDictIn K C = true)
    (ha : PySem.W.findIn K (.ref C) name = some none) (hv : mA name = some v) (hv' : PySem.W.handedIn v = true) (h : Q v { s with toks := s.toks + 1 }) :
    wpAny (model prog w) A (getAttr (.ref x) name expr) Q E s := by
  obtain ⟨od, J, hl⟩ := I.look
  exact PySem.W.get_value X J (PySem.W.plainGet_of hg).1 (PySem.W.findObj_own hh ha rfl (by rw [hl, hv])) hv' h
theorem get_meth {pl : Sem Bool} {Q : Value × List Value → Shared → Prop} (X : K.In s.heap) (I : ObjM s.heap x dx C mA) (hg : PySem.W.plainGet K C name = true)
    (hf : PySem.W.findIn K (.ref C) name = some (some (.ref f))) (ht : PySem.W.isFn K (.ref f) = true) (hv : mA name = none) (h : Q (.ref f, [.ref x]) s) :
    wpAny (model prog w) A (getMethod (.ref x) name pl) Q E s := by
  obtain ⟨od, J, hl⟩ := I.look
  exact PySem.W.method_fn X J (PySem.W.plainGet_of hg).1 (PySem.W.plainGet_of hg).2 hf (beq_iff_eq.mp ht) (by show (PySem.W.lookIn name od).map (·.isSome) = some false; rw [hl, hv]; rfl) h
theorem set_map {ns : List Str} {Q : Unit → Shared → Prop} (X : K.In s.heap) (I : ObjM s.heap x dx C mA)
    (hs : PySem.W.findIn K (.ref C) "__setattr__" = some (some (.builtin "object.__setattr__"))) (hp : PySem.W.plainOver K C = true) (ht : PySem.W.takerIn K C name = some none) (hh : PySem.W.hasDictIn K C = true)
    (hw : PySem.Within mA ns) (hsz : ns.length ≤ sizeLine)
    (h : ∀ h', ObjM h' x dx C (fun y => if y = name then some v else mA y) → Heap.SameBut dx s.heap h' → Q () { s with heap := h', toks := s.toks + 2 }) :
    wpAny (model prog w) A (setAttr (.ref x) name v) Q E s := by
  obtain ⟨od, J, hl⟩ := I.look
  refine PySem.W.set_plain X J hs (PySem.W.osa_open (s := { s with toks := s.toks + 1 }) (r := none) X J hp ht fun b => ?_)
  obtain ⟨cd, hc, hd'⟩ := PySem.W.any_some hh
  have hx : s.heap.get? x = some ⟨.ref C, some dx, .plain, #[]⟩ := I.obj
  refine wpAny_bind (wpAny_pure (wpAny_bind (wpAny_bind (wpAny_loadPart hx (wpAny_bind (PySem.W.Looks.here (s := { s with toks := s.toks + 1 }) (PySem.W.looks_clsIn X hc) ?_))))))
  rw [hd']
  refine wpAny_pure (a := some dx) (wpAny_bind (wpAny_pure (wpAny_bind ?_)))
  refine wpAny_nsSet1 (s := { s with toks := s.toks + 1 }) I.ns fun h' hn2 hs2 => ?_
  obtain ⟨oD, esD, epD, hoD, hdD, hcD⟩ := hn2.count (PySem.Within.cons name v hw)
  refine wpAny_bind (wpAny_lookBehind hoD (by rw [hdD]; exact pastItsLine_dict (Nat.le_trans hcD (by rw [List.length_cons]; omega))) ?_)
  exact wpAny_pure (h _ ⟨(hs2.2 _ (Ne.symm I.ne)).trans I.obj, hn2, I.ne⟩ hs2)
/-- C(..): the dict at the heap's end, the instance behind it; then its __init__ -/
theorem make_map {R : Result → Shared → Prop} {vs : List Value} {kw : List (Str × Value)} (X : K.In s.heap) (hm : PySem.W.makesIn K C = true)
    (hi : PySem.W.findIn K (.ref C) "__init__" = some (some (.ref f))) (hf : PySem.W.typeIn K (.ref f) = some (.type "function"))
    (h : codeAny (model prog w) (A.under (.builtin "type.__call__" ⟨.ref C :: vs, kw⟩)) (.call (.ref f) ⟨.ref (s.heap.objs.size + 1) :: vs, kw⟩) (PySem.W.InitBack (s.heap.objs.size + 1) R)
      { s with heap := (s.heap.push PySem.W.emptyDict).push (PySem.W.instObj C s.heap.objs.size) }) :
    codeAny (model prog w) A (.call (.ref C) ⟨vs, kw⟩) R s := by
  obtain ⟨hh, g, d, t, os⟩ := s
  exact PySem.W.make_core (PySem.W.makes_of X hm) (PySem.W.looks_findIn X hi) (fun self => PySem.W.bind_fn X self hf) (.inl rfl) h
end
def putF (f : Str) (v : V) : List (Str × V) → List (Str × V)
  | [] => [(f, v)]
  | (g, x) :: r => if g = f then (g, v) :: r else (g, x) :: putF f v r
theorem lookup_putF (f g : Str) (v : V) : ∀ fs : List (Str × V), (putF f v fs).lookup g = if g = f then some v else fs.lookup g
  | [] => by
    show List.lookup g [(f, v)] = _
    by_cases h : g = f
    · have hb : (g == f) = true := beq_iff_eq.mpr h
      simp only [List.lookup, hb, if_pos h]
    · have hb : (g == f) = false := beq_eq_false_iff_ne.mpr h
      simp only [List.lookup, hb, if_neg h]
  | (k, x) :: r => by
    have ih := lookup_putF f g v r
    rw [show putF f v ((k, x) :: r) = (if k = f then (k, v) :: r else (k, x) :: putF f v r) from rfl]
    by_cases hk : k = f
    · rw [if_pos hk]
      by_cases h : g = k
      · have hb : (g == k) = true := beq_iff_eq.mpr h
        simp only [List.lookup, hb, if_pos (h.trans hk)]
      · have hb : (g == k) = false := beq_eq_false_iff_ne.mpr h
        simp only [List.lookup, hb, if_neg (fun e : g = f => h (e.trans hk.symm))]
    · rw [if_neg hk]
      by_cases h : g = k
      · have hb : (g == k) = true := beq_iff_eq.mpr h
        simp only [List.lookup, hb, if_neg (fun e : g = f => hk (h.symm.trans e))]
      · have hb : (g == k) = false := beq_eq_false_iff_ne.mpr h
        simp only [List.lookup, hb]
        exact ih
theorem keys_putF (f : Str) (v : V) : ∀ fs : List (Str × V), f ∈ (putF f v fs).map (·.1) ∧ ∀ g, g ∈ fs.map (·.1) → g ∈ (putF f v fs).map (·.1)
  | [] => ⟨by simp [putF], fun g h => by simp at h⟩
  | (k, x) :: r => by
    obtain ⟨i1, i2⟩ := keys_putF f v r
    rw [show putF f v ((k, x) :: r) = (if k = f then (k, v) :: r else (k, x) :: putF f v r) from rfl]
    by_cases hk : k = f
    · rw [if_pos hk]
      subst hk
      exact ⟨by simp, fun g h => by simpa using h⟩
    · rw [if_neg hk]
      refine ⟨?_, fun g h => ?_⟩
      · rw [List.map_cons]
        exact List.mem_cons_of_mem _ i1
      · rw [List.map_cons] at h ⊢
        rcases List.mem_cons.mp h with e | e
        · exact List.mem_cons.mpr (.inl e)
        · exact List.mem_cons_of_mem _ (i2 g e)
theorem length_putF (f : Str) (v : V) : ∀ fs : List (Str × V), (putF f v fs).length ≤ fs.length + 1
  | [] => by simp [putF]
  | (k, x) :: r => by
    have ih := length_putF f v r
    rw [show putF f v ((k, x) :: r) = (if k = f then (k, v) :: r else (k, x) :: putF f v r) from rfl]
    by_cases hk : k = f
    · rw [if_pos hk, List.length_cons, List.length_cons]; omega
    · rw [if_neg hk, List.length_cons, List.length_cons]; omega
theorem RelO.some_of {v : V} {o : Option Value} (r : RelO (some v) o) : ∃ u, o = some u ∧ RelV v u := by
  cases o with
  | none => exact (show False from r).elim
  | some u => exact ⟨u, rfl, r⟩
theorem RelO.none_of {o : Option Value} (r : RelO none o) : o = none := by
  cases o with
  | none => rfl
  | some u => exact (show False from r).elim
theorem handed_of {v : V} {u : Value} (r : RelV v u) : PySem.W.handedIn u = true := by
  cases v with
  | non => cases (show u = Value.none from r); rfl
  | bl b => cases (show u = Value.bool b from r); rfl
  | int i => obtain ⟨t, e⟩ := (show ∃ t, u = Value.int i t from r); cases e; rfl
  | str x => obtain ⟨t, e⟩ := (show ∃ t, u = Value.str x t from r); cases e; rfl
  | byt b => obtain ⟨t, e⟩ := (show ∃ t, u = Value.bytes b t from r); cases e; rfl
  | flt b => obtain ⟨t, e⟩ := (show ∃ t, u = Value.float b t from r); cases e; rfl
  | ref a => cases (show u = Value.ref a from r); rfl
  | ty n => cases (show u = Value.type n from r); rfl
section
variable {P : Program} {w : World} {H H' : Hp} {h h' : Heap} {a C dx : Addr} {fs fs' : List (Str × V)}
theorem ins_get (hok : HOk P w H h) (e : H a = some (.ins C dx fs)) : ∃ mA, ObjM h a dx C mA ∧ (∀ f, RelO (fs.lookup f) (mA f)) ∧ PySem.Within mA (fs.map (·.1)) ∧ fs.length ≤ 1000 ∧ H dx = some (.own a) := by
  obtain ⟨d, z, ne, ob, mA, n, r, q⟩ := (show ObjOk P w H h a (.ins C dx fs) from hok a _ e)
  exact ⟨mA, ⟨ob, n, ne⟩, r, q, z, d⟩
end
structure Cls (K : PySem.W.Frag) (C : Addr) : Prop where
  pg : PySem.W.plainGet K C Str.empty = true
  hd : PySem.W.hasDictIn K C = true
  po : PySem.W.plainOver K C = true
  sa : PySem.W.findIn K (.ref C) "__setattr__" = some (some (.builtin "object.__setattr__"))
theorem Cls.get {K : PySem.W.Frag} {C : Addr} (c : Cls K C) (f : Str) : PySem.W.plainGet K C f = true := c.pg
/-- no class of it has the name -/
def NoAttr (K : PySem.W.Frag) (C : Addr) (f : Str) : Prop := PySem.W.findIn K (.ref C) f = some none
theorem NoAttr.taker {K : PySem.W.Frag} {C : Addr} {f : Str} (n : NoAttr K C f) : PySem.W.takerIn K C f = some none := by
  unfold PySem.W.takerIn
  rw [show PySem.W.findIn K (.ref C) f = some none from n]
  rfl
/-- a method: a plain def of the class or of one above it -/
structure Meth (K : PySem.W.Frag) (C : Addr) (m : Str) (f : Addr) : Prop where
  at_ : PySem.W.findIn K (.ref C) m = some (some (.ref f))
  fn : PySem.W.isFn K (.ref f) = true
  kp : PySem.W.keepIn K (.ref f) = true
section
variable {X : Cx} {pins : List (Addr × Obj)} {σ : St} {H : Hp} {s : Shared} {a C dx : Addr} {fs : List (Str × V)} {f : Str} {v : V} {A : Around} {E : Value → Shared → Prop}
theorem getattr_ok {b : Bool} {Q : Value → Shared → Prop} (I : Inv X pins σ H s) (e : H a = some (.ins C dx fs)) (c : Cls X.K C) (n : NoAttr X.K C f) (l : fs.lookup f = some v)
    (h : ∀ u s', Inv X pins σ H s' → RelV v u → Q u s') : wpAny (model X.prog X.w) A (getAttr (.ref a) f b) Q E s := by
  obtain ⟨mA, O, r, _, _, _⟩ := ins_get I.hok e
  obtain ⟨u, hu, ru⟩ := RelO.some_of (v := v) (o := mA f) (by rw [← l]; exact r f)
  exact get_map I.kIn O (c.get f) c.hd n hu (handed_of ru) (h u _ (I.tok _) ru)
theorem getmeth_ok {m : Str} {g : Addr} {pl : Sem Bool} {Q : Value × List Value → Shared → Prop} (I : Inv X pins σ H s) (e : H a = some (.ins C dx fs)) (c : Cls X.K C) (k : Meth X.K C m g) (l : fs.lookup m = none)
    (h : Q (.ref g, [.ref a]) s) : wpAny (model X.prog X.w) A (getMethod (.ref a) m pl) Q E s := by
  obtain ⟨mA, O, r, _, _, _⟩ := ins_get I.hok e
  have hn : mA m = none := RelO.none_of (by rw [← l]; exact r m)
  exact get_meth I.kIn O (c.get m) k.at_ k.fn hn h
theorem setattr_ok {y : V} {u : Value} {Q : Unit → Shared → Prop} (I : Inv X pins σ H s) (e : H a = some (.ins C dx fs)) (c : Cls X.K C) (n : NoAttr X.K C f) (hl : fs.length < 1000) (ry : RelV y u)
    (h : ∀ s', Inv X pins σ (upd H a (.ins C dx (putF f y fs))) s' → Q () s') : wpAny (model X.prog X.w) A (setAttr (.ref a) f u) Q E s := by
  obtain ⟨mA, O, r, wi, _, ho⟩ := ins_get I.hok e
  have hz : (fs.map (·.1)).length ≤ sizeLine := by rw [List.length_map, sizeLine_eq]; omega
  refine set_map I.kIn O c.sa c.po n.taker c.hd wi hz fun h' O' sb => h _ ?_
  have hd : ∃ o, h'.get? dx = some o := let ⟨o, _, _, e', _⟩ := O'.ns; ⟨o, e'⟩
  refine I.write (x := a) (e := dx) (by rw [e]; exact True.intro) (.inr ho) (fun b q hb z => (sb.2 b hb).trans z) hd ?_
  refine ⟨by rw [upd_ne O.ne]; exact ho, ?_, O.ne, O'.obj, _, O'.ns, fun g => ?_, fun g hg => ?_⟩
  · have := length_putF f y fs; omega
  · show RelO ((putF f y fs).lookup g) (if g = f then some u else mA g)
    rw [lookup_putF]
    by_cases q : g = f
    · rw [if_pos q, if_pos q]; exact ry
    · rw [if_neg q, if_neg q]; exact r g
  · by_cases q : g = f
    · rw [q]; exact (keys_putF f y fs).1
    · refine (keys_putF f y fs).2 g (wi g fun z => hg ?_)
      show (if g = f then some u else mA g) = none
      rw [if_neg q]; exact z
/-- a new instance, tracked, without attributes -/
theorem Inv.made (I : Inv X pins σ H s) : Inv X pins σ (upd (upd H s.heap.objs.size (.own (s.heap.objs.size + 1))) (s.heap.objs.size + 1) (.ins C s.heap.objs.size []))
    { s with heap := (s.heap.push PySem.W.emptyDict).push (PySem.W.instObj C s.heap.objs.size) } := by
  have e1 : (s.heap.push PySem.W.emptyDict).get? s.heap.objs.size = some PySem.W.emptyDict := Heap.get?_push_size s.heap rfl
  have e2 : ((s.heap.push PySem.W.emptyDict).push (PySem.W.instObj C s.heap.objs.size)).get? (s.heap.objs.size + 1) = some (PySem.W.instObj C s.heap.objs.size) := by
    have := Heap.get?_push_size (s.heap.push PySem.W.emptyDict) (o := PySem.W.instObj C s.heap.objs.size) rfl
    rwa [Heap.size_push] at this
  have e3 : (s.heap.push PySem.W.emptyDict).Ns s.heap.objs.size (fun _ => none) := ⟨PySem.W.emptyDict, #[], _, e1, rfl, (fun e he => absurd he (by simp)), fun _ => rfl⟩
  have I1 := I.laid (a := s.heap.objs.size) (o := .own (s.heap.objs.size + 1)) (h' := s.heap.push PySem.W.emptyDict) (t' := s.toks) (fun b u q => Heap.get?_push_of_some _ q) (Nat.le_refl _) ⟨_, e1⟩
  refine I1.laid (a := s.heap.objs.size + 1) (o := .ins C s.heap.objs.size []) (t' := s.toks) (fun b u q => Heap.get?_push_of_some _ q) (Nat.le_of_eq (Heap.size_push _ _)) ?_
  have ne : s.heap.objs.size ≠ s.heap.objs.size + 1 := Nat.ne_of_lt (Nat.lt_succ_self _)
  refine ⟨by rw [upd_ne ne, upd_same], Nat.zero_le _, ne, e2, fun _ => none, (Heap.Ns1.of_empty e3).at fun o q => Heap.get?_push_of_some _ q, fun _ => True.intro, fun y hy => absurd rfl hy⟩
/-- e.f where nothing but the object is asked: through attributeBase (super) and the last hold -/
theorem attr_of {prog : Program} {w : World} {env : Env} {e : Expr} {f : Str} {pos : Pos} {s : Shared} {Q : Value → Shared → Prop} (hb : attributeBase e f env (eval e env) = eval e env)
    (h : wpAny (model prog w) A (eval e env) (fun o s₁ => wpAny (model prog w) A (getAttr o f true) Q E s₁) E s) : wpAny (model prog w) A (eval (.Attribute e f pos) env) Q E s :=
  Attribute_any_ h (by rw [arm_eval_Attribute, hb])
end
/-- e.f, an attribute of the instance -/
def tFld (K : PySem.W.Frag) (ta : TE) (f : Str) : TE := fun σ H Q => ta σ H fun x H1 => ∃ a C dx fs v, x = .ref a ∧ H1 a = some (.ins C dx fs) ∧ Cls K C ∧ NoAttr K C f ∧ fs.lookup f = some v ∧ Q v H1
/-- e.f = value -/
def sFld (K : PySem.W.Frag) (ta tv : TE) (f : Str) : TS := fun D σ H => tv σ H fun y H1 => ta σ H1 fun x H2 => ∃ a C dx fs, x = .ref a ∧ H2 a = some (.ins C dx fs) ∧ Cls K C ∧ NoAttr K C f ∧ fs.length < 1000 ∧
  D.nx σ (upd H2 a (.ins C dx (putF f y fs)))
section
variable {X : Cx} {o e value : Expr} {f : Str} {pos pos' tpos : Pos} {ta tv : TE}
theorem pe_fld (he : PE X e ta) (hb : attributeBase e f X.env (eval e X.env) = eval e X.env) : PE X (.Attribute e f pos) (tFld X.K ta f) := by
  intro pins s σ H Q I h
  refine attr_of hb (thn (he pins s σ H _ I h) fun u s1 ⟨x, H1, I1, rx, a, C, dx, fs, v, ex, ea, c, n, l, q⟩ => ?_)
  subst ex
  obtain rfl : u = Value.ref a := rx
  exact getattr_ok I1 ea c n l fun u' s2 I2 ru => ⟨v, H1, I2, ru, q⟩
theorem ps_fld (ha : PE X o ta) (hv : PE X value tv) (hs : swapsWith value (some (.Attribute o f pos')) pos.line X.env = pure false) : PS X (.Assign [.Attribute o f pos'] value pos) (sFld X.K ta tv f) := by
  intro pins s σ H D I h
  refine plainObj_wpAny_Assign_Attribute (thn (hv pins s σ H _ I h) fun u s1 ⟨y, H1, I1, ry, q⟩ => thn (ha pins s1 σ H1 _ I1 q) fun ov s2 ⟨x, H2, I2, rx, a, C, dx, fs, ex, ea, c, n, l, q2⟩ => ?_) hs
  subst ex
  obtain rfl : ov = Value.ref a := rx
  exact setattr_ok I2 ea c n l ry fun s3 I3 => ⟨σ, _, I3, q2⟩
end
section
variable {X : Cx} {pins : List (Addr × Obj)} {σ : St} {H : Hp} {s : Shared} {A : Around} {E : Value → Shared → Prop} {Q : Value → Shared → Prop} {c : Value} {b : Bool}
end
end L2
namespace L2
open PySem PySem.Spec PyProof.Rows
structure Room (k : Nat) (A : Around) : Prop where
  hd : A.handled = none
  dp : A.depth + 3 * k + 5 < recursionLimit
  un : A.units + 16 * k + 200 < cLine
theorem Room.mono {j k : Nat} {A : Around} (r : Room k A) (h : j ≤ k) : Room j A := ⟨r.hd, by have := r.dp; omega, by have := r.un; omega⟩
theorem Room.deeper {k : Nat} {A : Around} (r : Room (k + 1) A) (env : Env) : Room k (A.deeper env) :=
  ⟨r.hd, by have := r.dp; show A.depth + 1 + 3 * k + 5 < _; omega, by have := r.un; show A.units + 3 + 16 * k + 200 < _; omega⟩
theorem make_depth {A : Around} {C : Addr} {us : List Value} {kw : List (Str × Value)} : (A.under (.builtin "type.__call__" ⟨.ref C :: us, kw⟩)).depth = A.depth + 1 := by
  first | rfl | simp [Around.under, Code.weight, Code.isCreation, Code.isGuard, Code.isCaller, Code.frames, Code.isFrame, guardIds]
theorem make_units {A : Around} {C : Addr} {us : List Value} {kw : List (Str × Value)} : (A.under (.builtin "type.__call__" ⟨.ref C :: us, kw⟩)).units = A.units + 1 := by
  first | rfl | simp [Around.under, Code.cUnits, Code.frames, Code.isFrame]
theorem Room.make {k : Nat} {A : Around} (r : Room (k + 1) A) (C : Addr) (us : List Value) (kw : List (Str × Value)) : Room k (A.under (.builtin "type.__call__" ⟨.ref C :: us, kw⟩)) :=
  ⟨r.hd, by have := r.dp; rw [make_depth]; omega, by have := r.un; rw [make_units]; omega⟩
theorem Room.depth {k : Nat} {A : Around} (r : Room k A) : A.depth < recursionLimit := by have := r.dp; omega
theorem Room.units {k : Nat} {A : Around} (r : Room k A) : A.units + 64 < cLine := by have := r.un; omega
def tNil : TA := fun _ H Q => Q [] H
def tCons (ta : TE) (tr : TA) : TA := fun σ H Q => ta σ H fun x H1 => tr σ H1 fun xs H2 => Q (x :: xs) H2
section
variable {X : Cx} {e : Expr} {es : List Expr} {te : TE} {t : TA} {pos : Pos}
theorem pa_nil : PA X [] tNil := fun _ _ _ _ H Q I h => Calls.spliced_nil ⟨[], H, I, .nil, h⟩
theorem pa_cons (ha : PE X e te) (hr : PA X es t) (hs : starEach (e :: es) X.env = (false, eval e X.env) :: starEach es X.env := by rfl) : PA X (e :: es) (tCons te t) := by
  intro pos pins s σ H Q I h
  rw [hs]
  show wpAny _ _ (spliced ((false, eval e X.env) :: backTo pos (starEach es X.env))) _ _ s
  refine Calls.spliced_cons (thn (ha pins s σ H _ I h) fun u s1 ⟨x, H1, I1, r1, q1⟩ => ?_)
  exact thn (hr pos pins s1 σ H1 _ I1 q1) fun us s2 ⟨xs, H2, I2, r2, q2⟩ => ⟨x :: xs, H2, I2, .cons r1 r2, q2⟩
/-- a tuple, a list of written items -/
def tTup (t : TA) : TE := fun σ H Q => t σ H fun xs H1 => xs.length ≤ sizeLine ∧ ∀ p, H1 p = none → Q (.ref p) (upd H1 p (.tup xs))
def tLst (t : TA) : TE := fun σ H Q => t σ H fun xs H1 => xs.length ≤ sizeLine ∧ ∀ p, H1 p = none → Q (.ref p) (upd H1 p (.lst xs))
theorem pe_tup {x1} (h : PA X es t) : PE X (.Tuple es x1 pos) (tTup t) := by
  intro pins s σ H Q I hq
  refine wpAny_Tuple_spliced (thn (h pos pins s σ H _ I hq) fun us s1 ⟨xs, H1, I1, r, z, q⟩ => ⟨by rw [← r.length]; exact z, ?_⟩)
  have hf : H1 s1.heap.objs.size = none := I1.hok.fresh (Nat.le_refl _)
  refine ⟨.ref s1.heap.objs.size, upd H1 s1.heap.objs.size (.tup xs), I1.laid (t' := s1.toks) (fun b u e => Heap.get?_push_of_some _ e) (Nat.le_refl _) ?_, rfl, q _ hf⟩
  exact ⟨z, us, r, ⟨_, Heap.get?_push_size _ rfl, rfl, _, rfl⟩⟩
theorem pe_lst (h : PA X es t) : PE X (.List es pos) (tLst t) := by
  intro pins s σ H Q I hq
  refine wpAny_List_spliced (thn (h pos pins s σ H _ I hq) fun us s1 ⟨xs, H1, I1, r, z, q⟩ => ⟨by rw [← r.length]; exact z, ?_⟩)
  have hf : H1 s1.heap.objs.size = none := I1.hok.fresh (Nat.le_refl _)
  refine ⟨.ref s1.heap.objs.size, upd H1 s1.heap.objs.size (.lst xs), I1.laid (t' := s1.toks) (fun b u e => Heap.get?_push_of_some _ e) (Nat.le_refl _) ?_, rfl, q _ hf⟩
  exact ⟨z, us, 0, r, Heap.get?_push_size _ rfl⟩
end
/-- a def's promise: the bound arguments in the parameters' order, the heap, the wanted end, the wanted exception -/
abbrev Sp := List V → Hp → VK → XK → Prop
/-- how an exception lies behind a call (file 08 gives it): the callers' frames, abstract heap and state ahead of the call, the wish, the exception, the state -/
abbrev CXT := List Env → Hp → Shared → XK → Value → Shared → Prop
/-- the state at a call -/
structure Env0 (P : Program) (w : World) (K : PySem.W.Frag) (mg : Str → Option Value) (base : Heap) (A : Around) (outer : List Env) (s : Shared) (H : Hp) : Prop where
  frames : A.frames = some outer
  mod : Mod K mg base
  bs : ∀ b o, base.get? b = some o → s.heap.get? b = some o ∧ H b = none
  bsz : base.objs.size ≤ s.heap.objs.size
  funs : s.heap.FunFrames base outer
  frf : ∀ b ∈ frs outer, H b = none
  hok : HOk P w H s.heap
  bare : AllBare s.gens
/-- a call's end -/
def CE (outer : List Env) (P : Program) (w : World) (H : Hp) (s : Shared) (Q : VK) (u : Value) (s' : Shared) : Prop :=
  ∃ v H', s'.os = s.os ∧ AllBare s'.gens ∧ Un (frs outer) [] H H' s.heap s'.heap ∧ HOk P w H' s'.heap ∧ RelV v u ∧ Q v H'
def CR (CX : CXT) (outer : List Env) (P : Program) (w : World) (H : Hp) (s : Shared) (Q : VK) (E : XK) (r : Result) (s' : Shared) : Prop :=
  match r with
  | .ok (.ret u) => CE outer P w H s Q u s'
  | .ok _ => False
  | .error e => CX outer H s E e s'
structure FnOk (P : Program) (w : World) (K : PySem.W.Frag) (mg : Str → Option Value) (base : Heap) (CX : CXT) (k : Nat) (f : Addr) (fd : FuncData) (ps : List Str) (sp : Sp) : Prop where
  len : ∀ vs H Q E, sp vs H Q E → vs.length = ps.length
  run : ∀ (A : Around) (outer : List Env) (s : Shared) (H : Hp) (args : Args) (us : List Value) (vs : List V) (Q : VK) (E : XK), Room k A → Env0 P w K mg base A outer s H → BindsTo s fd args (ps.zip us) → Vals vs us → sp vs H Q E →
    codeAny (model P w) A (.call (.ref f) args) (CR CX outer P w H s Q E) s
theorem Env0.make {P : Program} {w : World} {K : PySem.W.Frag} {mg : Str → Option Value} {base : Heap} {A : Around} {outer : List Env} {s : Shared} {H : Hp} (e : Env0 P w K mg base A outer s H) (C : Addr) (us : List Value) (kw : List (Str × Value)) :
    Env0 P w K mg base (A.under (.builtin "type.__call__" ⟨.ref C :: us, kw⟩)) outer s H := ⟨by first | exact e.frames | (simpa [Around.under, Code.envs, Code.isFrame, pushEnvs] using e.frames), e.mod, e.bs, e.bsz, e.funs, e.frf, e.hok, e.bare⟩
section
variable {X : Cx} {pins : List (Addr × Obj)} {σ : St} {H : Hp} {s s' : Shared}
/-- from a body: what a callee wants -/
theorem Inv.env0 (I : Inv X pins σ H s) : Env0 X.prog X.w X.K X.mg X.base X.A X.stack s H :=
  ⟨I.ok.frames, I.ok.mod, I.bs, Nat.le_trans I.ok.bsz I.sz, I.stack, I.stkFree, I.hok, I.bare⟩
/-- behind a call -/
theorem Inv.after {Q : VK} {u : Value} (I : Inv X pins σ H s) (h : CE X.stack X.prog X.w H s Q u s') : EP X pins σ Q u s' := by
  obtain ⟨v, H', os, bare, un, hok, r, q⟩ := h
  obtain ⟨hh, g, d, t, os'⟩ := s'
  obtain rfl : os' = s.os := os
  exact ⟨v, H', I.call (h' := hh) (g' := g) (d' := d) (t' := t) (ch := []) un hok bare (fun b z => absurd z (by simp)), r, q⟩
end
/-- f(..): the written arguments, then the defaults dvs; E: what is wanted of an exception -/
def tCall (sp : Sp) (dvs : List V) (E : XK) (t : TA) : TE := fun σ H Q => t σ H fun vs H1 => sp (vs ++ dvs) H1 Q E
/-- o.m(..) of an instance of the class at C -/
def tMeth (C : Addr) (m : Str) (sp : Sp) (dvs : List V) (E : XK) (ta : TE) (t : TA) : TE := fun σ H Q => ta σ H fun x H1 => ∃ a dx fs, x = .ref a ∧ H1 a = some (.ins C dx fs) ∧ fs.lookup m = none ∧
  t σ H1 fun vs H2 => sp (x :: (vs ++ dvs)) H2 Q E
/-- C(..): a new instance and its dict, then __init__ -/
def tMake (C : Addr) (sp : Sp) (dvs : List V) (E : XK) (t : TA) : TE := fun σ H Q => t σ H fun vs H1 => ∀ x dx, H1 x = none → H1 dx = none → dx ≠ x →
  sp (.ref x :: (vs ++ dvs)) (upd (upd H1 dx (.own x)) x (.ins C dx [])) (fun v H2 => v = .non ∧ Q (.ref x) H2) E
/-- how the parameters are bound: us the positional arguments, kw the keywords' values by name, ds the defaults that fill up -/
def Binds (K : PySem.W.Frag) (fd : FuncData) (ps : List Str) (ds : List Value) : Prop :=
  ∀ (s : Shared) (us : List Value), K.In s.heap → (us ++ ds).length = ps.length → BindsTo s fd ⟨us, []⟩ (ps.zip (us ++ ds))
/-- every parameter is given -/
theorem Binds.all {K : PySem.W.Frag} {fd : FuncData} {ps : List Str} (h : ∀ us : List Value, us.length = ps.length → bindArgs fd ⟨us, []⟩ = pure (ps.zip us)) : Binds K fd ps [] := fun s us _ hl => by
  rw [List.append_nil] at hl ⊢
  exact .of_eq (h us hl)
/-- an exception of a callee reaches what this body wants of exceptions -/
def Passes (CX : CXT) (X : Cx) (E : XK) : Prop := ∀ (pins : List (Addr × Obj)) (σ : St) (H : Hp) (s : Shared) (e : Value) (s' : Shared), Inv X pins σ H s → CX X.stack H s E e s' → X.xe e s'
section
variable {X : Cx} {CX : CXT} {k : Nat} {f C : Addr} {fd : FuncData} {ps : List Str} {sp : Sp} {dvs : List V} {ds : List Value} {E : XK} {x m : Str} {p pos apos : Pos} {e o : Expr} {es : List Expr} {ta : TE} {t : TA}
/-- the callee runs -/
theorem run_fn {pins : List (Addr × Obj)} {σ : St} {H : Hp} {s : Shared} {Q : VK} {us : List Value} {vs : List V} (F : FnOk X.prog X.w X.K X.mg X.base CX k f fd ps sp) (hr : Room k X.A) (hb : Binds X.K fd ps ds) (hd : Vals dvs ds) (hx : Passes CX X E)
    (I : Inv X pins σ H s) (r : Vals vs us) (h : sp (vs ++ dvs) H Q E) : wpAny (model X.prog X.w) X.A (call (.ref f) us) (EP X pins σ Q) X.xe s := by
  have r2 : Vals (vs ++ dvs) (us ++ ds) := r.append hd
  have hl : (us ++ ds).length = ps.length := by rw [← r2.length]; exact F.len _ _ _ _ h
  refine wpAny_call (codeAny_mono (F.run X.A X.stack s H ⟨us, []⟩ (us ++ ds) (vs ++ dvs) Q E hr I.env0 (hb s us I.kIn hl) r2 h) fun r s' hq => ?_)
  cases r with
  | error e => exact hx pins σ H s e s' I hq
  | ok fl =>
    cases fl with
    | ret u => exact I.after hq
    | next => exact False.elim hq
    | brk => exact False.elim hq
    | cont => exact False.elim hq
theorem pe_call (F : FnOk X.prog X.w X.K X.mg X.base CX k f fd ps sp) (hr : Room k X.A) (hg : Gl X x) (hm : X.mg x = some (.ref f)) (hk : PySem.W.keepIn X.K (.ref f) = true) (hb : Binds X.K fd ps ds) (hd : Vals dvs ds) (hx : Passes CX X E)
    (ha : PA X (e :: es) t) (hdb : (x == ("__debug__" : Str)) = false := by decide) (he : starEach (e :: es) X.env = (false, eval e X.env) :: starEach es X.env := by rfl) (hpl : (backTo pos (starEach es X.env)).any (·.1) = false := by rfl) :
    PE X (.Call (.Name x p) (e :: es) [] pos) (tCall sp dvs E t) := by
  intro pins s σ H Q I h
  refine wpAny_Call_Name_kw (ld_glob I hg hm ?_ hdb)
  refine PySem.W.callWith_K (h₀ := X.base) I.ok.mod.kin hk (thn (ha pos pins s σ H _ I h) fun us s1 ⟨vs, H1, I1, r, q⟩ => ⟨I1.kIn, ?_⟩) he hpl
  exact run_fn F hr hb hd hx I1 r q
/-- o.m(e, ..) -/
theorem pe_meth {pl : Sem Bool} (he : PE X o ta) (c : Cls X.K C) (hm : Meth X.K C m f) (F : FnOk X.prog X.w X.K X.mg X.base CX k f fd ps sp) (hr : Room k X.A) (hb : Binds X.K fd ps ds) (hd : Vals dvs ds) (hx : Passes CX X E) (ha : PA X (e :: es) t)
    (hst : starEach (e :: es) X.env = (false, eval e X.env) :: starEach es X.env := by rfl) (hpl : (backTo pos (starEach es X.env)).any (·.1) = false := by rfl)
    (ht : eval (.Call (.Attribute o m apos) (e :: es) [] pos) X.env = (do
      let ov ← eval o X.env
      standAt apos.atName
      let (f, first) ← holding [ov] (getMethod ov m pl)
      callWith pos f first (backTo pos (starEach (e :: es) X.env)) (backToKw pos (keywordEach [] X.env))) := by rfl) :
    PE X (.Call (.Attribute o m apos) (e :: es) [] pos) (tMeth C m sp dvs E ta t) := by
  intro pins s σ H Q I h
  refine PySem.W.methodCall_KW (pl := pl) (thn (he pins s σ H _ I h) fun u s1 ⟨x, H1, I1, rx, a, dx, fs, ex, ea, l, q⟩ => ?_) ht
  subst ex
  obtain rfl : u = Value.ref a := rx
  refine getmeth_ok I1 ea c hm l ?_
  refine PySem.W.callWith_K (first := [.ref a]) (h₀ := X.base) I.ok.mod.kin hm.kp (thn (ha pos pins s1 σ H1 _ I1 q) fun us s2 ⟨vs, H2, I2, r, q2⟩ => ⟨I2.kIn, ?_⟩) hst hpl
  exact run_fn (us := .ref a :: us) (vs := .ref a :: vs) F hr hb hd hx I2 (.cons rfl r) q2
/-- o.m() -/
theorem pe_meth0 {pl : Sem Bool} (he : PE X o ta) (c : Cls X.K C) (hm : Meth X.K C m f) (F : FnOk X.prog X.w X.K X.mg X.base CX k f fd ps sp) (hr : Room k X.A) (hb : Binds X.K fd ps ds) (hd : Vals dvs ds) (hx : Passes CX X E)
    (ht : eval (.Call (.Attribute o m apos) [] [] pos) X.env = (do
      let ov ← eval o X.env
      standAt apos.atName
      let (f, first) ← holding [ov] (getMethod ov m pl)
      callWith pos f first (backTo pos (starEach [] X.env)) (backToKw pos (keywordEach [] X.env))) := by rfl) :
    PE X (.Call (.Attribute o m apos) [] [] pos) (tMeth C m sp dvs E ta tNil) := by
  intro pins s σ H Q I h
  refine PySem.W.methodCall_KW (pl := pl) (thn (he pins s σ H _ I h) fun u s1 ⟨x, H1, I1, rx, a, dx, fs, ex, ea, l, q⟩ => ?_) ht
  subst ex
  obtain rfl : u = Value.ref a := rx
  refine getmeth_ok I1 ea c hm l ?_
  exact PySem.W.callWith_K0 (first := [.ref a]) I1.kIn hm.kp (run_fn (us := [.ref a]) (vs := [.ref a]) F hr hb hd hx I1 (.cons rfl .nil) q)
/-- what a class must have to be made -/
structure Mk (K : PySem.W.Frag) (C f : Addr) : Prop where
  makes : PySem.W.makesIn K C = true
  init : PySem.W.findIn K (.ref C) "__init__" = some (some (.ref f))
  fn : PySem.W.isFn K (.ref f) = true
  kp : PySem.W.keepIn K (.ref C) = true
theorem run_make {pins : List (Addr × Obj)} {σ : St} {H : Hp} {s : Shared} {Q : VK} {us : List Value} {vs : List V} (M : Mk X.K C f) (F : FnOk X.prog X.w X.K X.mg X.base CX k f fd ps sp) (hr : Room (k + 1) X.A) (hb : Binds X.K fd ps ds) (hd : Vals dvs ds)
    (hx : Passes CX X E) (I : Inv X pins σ H s) (r : Vals vs us)
    (h : ∀ x dx, H x = none → H dx = none → dx ≠ x → sp (.ref x :: (vs ++ dvs)) (upd (upd H dx (.own x)) x (.ins C dx [])) (fun v H2 => v = .non ∧ Q (.ref x) H2) E) :
    wpAny (model X.prog X.w) X.A (call (.ref C) us) (EP X pins σ Q) X.xe s := by
  have hq := h (s.heap.objs.size + 1) s.heap.objs.size (I.hok.fresh (Nat.le_succ _)) (I.hok.fresh (Nat.le_refl _)) (Nat.ne_of_lt (Nat.lt_succ_self _))
  have I2 := Inv.made (C := C) I
  have r2 : Vals (V.ref (s.heap.objs.size + 1) :: (vs ++ dvs)) (Value.ref (s.heap.objs.size + 1) :: (us ++ ds)) := .cons rfl (r.append hd)
  have hl : (Value.ref (s.heap.objs.size + 1) :: us ++ ds).length = ps.length := by
    have e := r2.length
    rw [F.len _ _ _ _ hq] at e
    exact e.symm
  refine wpAny_call (make_map (f := f) I.kIn M.makes M.init (beq_iff_eq.mp M.fn) (codeAny_mono (F.run _ X.stack _ _ ⟨Value.ref (s.heap.objs.size + 1) :: us, []⟩ (Value.ref (s.heap.objs.size + 1) :: (us ++ ds)) _ _ E (hr.make C us [])
    (I2.env0.make C us []) (hb _ (Value.ref (s.heap.objs.size + 1) :: us) I2.kIn hl) r2 hq) fun r s' hq' => ?_))
  cases r with
  | error e => exact hx pins σ _ _ e s' I2 hq'
  | ok fl =>
    cases fl with
    | ret u =>
      obtain ⟨v, H', I3, rv, ev, q3⟩ := I2.after hq'
      subst ev
      exact ⟨rv, ⟨V.ref (s.heap.objs.size + 1), H', I3, rfl, q3⟩⟩
    | next => exact False.elim hq'
    | brk => exact False.elim hq'
    | cont => exact False.elim hq'
theorem pe_make (M : Mk X.K C f) (F : FnOk X.prog X.w X.K X.mg X.base CX k f fd ps sp) (hr : Room (k + 1) X.A) (hg : Gl X x) (hm : X.mg x = some (.ref C)) (hb : Binds X.K fd ps ds) (hd : Vals dvs ds) (hx : Passes CX X E)
    (ha : PA X (e :: es) t) (hdb : (x == ("__debug__" : Str)) = false := by decide) (he : starEach (e :: es) X.env = (false, eval e X.env) :: starEach es X.env := by rfl) (hpl : (backTo pos (starEach es X.env)).any (·.1) = false := by rfl) :
    PE X (.Call (.Name x p) (e :: es) [] pos) (tMake C sp dvs E t) := by
  intro pins s σ H Q I h
  refine wpAny_Call_Name_kw (ld_glob I hg hm ?_ hdb)
  refine PySem.W.callWith_K (h₀ := X.base) I.ok.mod.kin M.kp (thn (ha pos pins s σ H _ I h) fun us s1 ⟨vs, H1, I1, r, q⟩ => ⟨I1.kIn, ?_⟩) he hpl
  exact run_make M F hr hb hd hx I1 r q
theorem pe_make0 (M : Mk X.K C f) (F : FnOk X.prog X.w X.K X.mg X.base CX k f fd ps sp) (hr : Room (k + 1) X.A) (hg : Gl X x) (hm : X.mg x = some (.ref C)) (hb : Binds X.K fd ps ds) (hd : Vals dvs ds) (hx : Passes CX X E)
    (hdb : (x == ("__debug__" : Str)) = false := by decide) : PE X (.Call (.Name x p) [] [] pos) (tMake C sp dvs E tNil) := by
  intro pins s σ H Q I h
  refine wpAny_Call_Name_kw (ld_glob I hg hm ?_ hdb)
  exact PySem.W.callWith_K0 I.kIn M.kp (run_make (us := []) M F hr hb hd hx I .nil h)
end
section
variable {X : Cx} {CX : CXT} {k : Nat} {f C : Addr} {fd : FuncData} {ps ks : List Str} {sp : Sp} {E : XK} {x m : Str} {p pos apos kpos : Pos} {e o : Expr} {es : List Expr} {kws : List Keyword} {te ta : TE} {t tk : TA} {nm : Option Str}
variable {g : List Value → List Value → List Value} {gV : List V → List V → List V}
end
/-- names: the parameters first -/
structure FnScope (N P : List Str) (sc : Scope) : Prop where
  kind : sc.kind = .function
  co : sc.isCoroutine = false
  gen : sc.isGenerator = false
  nd : N.Nodup
  pre : N.take P.length = P
  par : ∀ x ∈ P, sc.names.lookup x = some .local ∨ sc.names.lookup x = some .cell
  nofree : ∀ y ∈ sc.names, y.2 ≠ .free
theorem bindL_out {kindOf : Str → Option NameKind} {x : Str} : ∀ {binds : List (Str × Value)} {m : Str → Option Value}, (∀ v, (x, v) ∉ binds) → bindL kindOf binds m x = m x
  | [], _, _ => rfl
  | (n, v) :: r, m, h => by
    unfold bindL
    rw [bindL_out fun w hw => h w (List.mem_cons_of_mem _ hw)]
    split
    · have : x ≠ n := by rintro rfl; exact h v List.mem_cons_self
      simp [this]
    · rfl
theorem bindC_out {kindOf : Str → Option NameKind} {x : Str} : ∀ {binds : List (Str × Value)} {m : Str → Option Value}, (∀ v, (x, v) ∉ binds) → bindC kindOf binds m x = m x
  | [], _, _ => rfl
  | (n, v) :: r, m, h => by
    unfold bindC
    rw [bindC_out fun w hw => h w (List.mem_cons_of_mem _ hw)]
    split
    · rfl
    · have : x ≠ n := by rintro rfl; exact h v List.mem_cons_self
      simp [this]
theorem bindL_get {kindOf : Str → Option NameKind} {x : Str} {v : Value} : ∀ {P : List Str} {vs : List Value} {i : Nat} {m : Str → Option Value}, P.Nodup → P[i]? = some x → vs[i]? = some v → kindOf x = some .local →
    bindL kindOf (P.zip vs) m x = some v
  | [], _, _, _, _, h, _, _ => by simp at h
  | _ :: _, [], _, _, _, _, h, _ => by simp at h
  | p :: P, w :: vs, 0, m, nd, h1, h2, hk => by
    simp at h1 h2; subst h1; subst h2
    show bindL kindOf ((p, w) :: P.zip vs) m p = _
    unfold bindL
    rw [bindL_out fun v hv => (List.nodup_cons.mp nd).1 (List.of_mem_zip hv).1, if_pos hk]
    simp
  | p :: P, w :: vs, i + 1, m, nd, h1, h2, hk => by
    show bindL kindOf ((p, w) :: P.zip vs) m x = _
    unfold bindL
    exact bindL_get (i := i) (List.nodup_cons.mp nd).2 (by simpa using h1) (by simpa using h2) hk
theorem bindC_get {kindOf : Str → Option NameKind} {x : Str} {v : Value} : ∀ {P : List Str} {vs : List Value} {i : Nat} {m : Str → Option Value}, P.Nodup → P[i]? = some x → vs[i]? = some v → kindOf x ≠ some .local →
    bindC kindOf (P.zip vs) m x = some v
  | [], _, _, _, _, h, _, _ => by simp at h
  | _ :: _, [], _, _, _, _, h, _ => by simp at h
  | p :: P, w :: vs, 0, m, nd, h1, h2, hk => by
    simp at h1 h2; subst h1; subst h2
    show bindC kindOf ((p, w) :: P.zip vs) m p = _
    unfold bindC
    rw [bindC_out fun v hv => (List.nodup_cons.mp nd).1 (List.of_mem_zip hv).1, if_neg hk]
    simp
  | p :: P, w :: vs, i + 1, m, nd, h1, h2, hk => by
    show bindC kindOf ((p, w) :: P.zip vs) m x = _
    unfold bindC
    exact bindC_get (i := i) (List.nodup_cons.mp nd).2 (by simpa using h1) (by simpa using h2) hk
/-- the names' values at the entry -/
def start (N : List Str) (vs : List V) : St := vs.map some ++ List.replicate (N.length - vs.length) none
/-- the context of a def's body, at its entry; an exception leaves the frame, then lies as CX says -/
def cxOf (CX : CXT) (P : Program) (w : World) (K : PySem.W.Frag) (mg : Str → Option Value) (base : Heap) (N : List Str) (qual : Str) (scope : Scope) (f : Addr) (cd : Value) (A : Around) (outer : List Env) (s : Shared) (H : Hp) (E : XK) : Cx where
  prog := P
  w := w
  K := K
  mg := mg
  base := base
  A := A.deeper (envOfC qual scope s.heap.objs.size f cd)
  N := N
  s_0 := s
  H_0 := H
  env := envOfC qual scope s.heap.objs.size f cd
  outer := outer
  stack := envOfC qual scope s.heap.objs.size f cd :: outer
  ex := []
  calm := true
  fn := fun _ => true
  pn := []
  xe := fun e s' => wpAny (model P w) (A.deeper (envOfC qual scope s.heap.objs.size f cd)) (leaving (envOfC qual scope s.heap.objs.size f cd) e) (fun _ s'' => CX outer H s E e s'') (fun e' s'' => CX outer H s E e' s'') s'
theorem cell_has {sc : Scope} {n : Nat} {x : Str} (h : sc.names.lookup x = some .cell) : ∃ c, (cellsFrom n sc.names []).lookup x = some c := by
  have q := PySem.W.cellsFrom_some sc.names n [] (.inl h)
  exact Option.isSome_iff_exists.mp q
theorem inv_start {CX : CXT} {P : Program} {w : World} {K : PySem.W.Frag} {mg : Str → Option Value} {base : Heap} {N ps : List Str} {qual : Str} {scope : Scope} {f : Addr} {cd : Value} {A : Around} {outer : List Env} {s s1 : Shared} {H : Hp} {E : XK} {us : List Value} {vs : List V}
    (S : FnScope N ps scope) (hd : A.handled = none) (e0 : Env0 P w K mg base A outer s H) (hl : vs.length = ps.length) (r : Vals vs us)
    (x : InCallC s s.heap.objs.size (bindL (envOfC qual scope s.heap.objs.size f cd).kindOf (ps.zip us) fun _ => none) (cellsFrom (s.heap.objs.size + 1) scope.names []) (bindC (envOfC qual scope s.heap.objs.size f cd).kindOf (ps.zip us) fun _ => none) s1) :
    Inv (cxOf CX P w K mg base N qual scope f cd A outer s H E) [] (start N vs) H s1 := by
  have hpl : ps.length ≤ N.length := by have := congrArg List.length S.pre; rw [List.length_take] at this; omega
  obtain ⟨h1, tk, rfl, hk⟩ := x.done
  have noA : ∀ b : Addr, b ∉ (cxOf CX P w K mg base N qual scope f cd A outer s H E).ex := fun b z => absurd (show b ∈ ([] : List Addr) from z) (by simp)
  refine ⟨⟨e0.mod, S.kind, rfl, rfl, Nat.le_refl _, fun y z c h1 h2 => ?_, fun y hy => ?_, fun y c _ h => ?_, fun _ => hd, Around.frames_deeper e0.frames, .inr ⟨rfl, rfl⟩, fun b z => absurd z (noA b), e0.bs, e0.bsz, fun b _ _ => noA b, fun b z => absurd z (noA b), e0.funs, e0.frf⟩,
    rfl, e0.bare, Un.kept hk, ⟨_, x.toInCall.ns, fun i y v h1 h2 h3 => ?_⟩, fun y c h => ⟨_, x.cell y c h⟩, e0.hok.fresh (Nat.le_refl _), fun y c h => ?_, fun p hp => absurd (show p ∈ ([] : List (Addr × Obj)) from hp) (by simp), e0.hok.kept hk, ?_⟩
  · exact name_of_addr x.apart (PySem.mem_of_lookup h1) (PySem.mem_of_lookup h2)
  · have hy : scope.names.lookup y = some .cell ∨ scope.names.lookup y = some .free := hy
    rcases hy with hy | hy
    · exact cell_has hy
    · exact absurd rfl (S.nofree _ (PySem.mem_of_lookup hy))
  · exact Nat.le_of_lt (x.above y c (PySem.mem_of_lookup h))
  · have hi : i < vs.length := by
      unfold start at h2
      by_cases hi : i < vs.length
      · exact hi
      · rw [List.getElem?_append_right (by simpa using hi)] at h2
        rw [List.getElem?_replicate] at h2
        split at h2 <;> cases h2
    have ha : vs[i]? = some v := by
      unfold start at h2
      rw [List.getElem?_append_left (by simpa using hi), List.getElem?_map] at h2
      cases e : vs[i]? with
      | none => rw [e] at h2; cases h2
      | some a => rw [e] at h2; cases h2; rfl
    obtain ⟨u, hu, rv⟩ := r.get ha
    have hp : ps[i]? = some y := by
      rw [← S.pre, List.getElem?_take_of_lt (by omega)]; exact h1
    have ndP : ps.Nodup := by rw [← S.pre]; exact S.nd.sublist (List.take_sublist _ _)
    refine ⟨u, rv, ?_⟩
    rcases S.par y (List.mem_of_getElem? hp) with k | k
    · exact .inl ⟨k, bindL_get ndP hp hu k⟩
    · obtain ⟨c, e⟩ := cell_has (n := s.heap.objs.size + 1) k
      refine .inr ⟨.inl k, c, e, ?_⟩
      have q := x.cell y c e
      rw [bindC_get ndP hp hu (by show scope.names.lookup y ≠ _; rw [k]; decide)] at q
      exact q
  · exact e0.hok.fresh (Nat.le_of_lt (x.above y c (PySem.mem_of_lookup h)))
  · unfold start
    show _ = N.length
    rw [List.length_append, List.length_map, List.length_replicate]
    omega
/-- THE RULE: a def (or a method) of the text, by its body. The body's reading t is chosen for each entry; it is run at the parameters' values -/
theorem fn_of {CX : CXT} {P : Program} {w : World} {K : PySem.W.Frag} {mg : Str → Option Value} {base : Heap} {k : Nat} {f : Addr} {name qual : Str} {params : Arguments} {body : List Stmt} {scope : Scope} {dV kV doc pm cdv ct oc : Value} {an od : Option Addr}
    {osl : Array (Option Value)} {N ps : List Str} {sp : Sp} (lk : K.lookup f = some ⟨oc, od, .func (PySem.W.fnOf name qual params body scope dV kV doc pm an cdv ct), osl⟩) (hcd : PySem.W.codeIn K cdv qual = true) (S : FnScope N ps scope)
    (len : ∀ vs H Q E, sp vs H Q E → vs.length = ps.length)
    (hbody : ∀ (A : Around) (outer : List Env) (s : Shared) (H : Hp) (vs : List V) (Q : VK) (E : XK), Room k (A.deeper (envOfC qual scope s.heap.objs.size f cdv)) → sp vs H Q E →
      ∃ t, PSs (cxOf CX P w K mg base N qual scope f cdv A outer s H E) body t ∧ t { nx := fun _ H' => Q .non H', rt := Q } (start N vs) H) :
    FnOk P w K mg base CX (k + 1) f (PySem.W.fnOf name qual params body scope dV kV doc pm an cdv ct) ps sp := by
  refine ⟨len, fun A outer s H args us vs Q E hr e0 hb r hsp => ?_⟩
  have hl := len _ _ _ _ hsp
  have KX : K.In s.heap := e0.mod.kin.keeps fun b o e => (e0.bs b o e).1
  have lim : s.heap.NoLimit := e0.mod.nolimit.keeps fun b o e => (e0.bs b o e).1
  have hkind : ∀ y ∈ ps.zip us, scope.names.lookup y.1 = some .local ∨ (scope.names.lookup y.1 = some .cell ∧ ((cellsFrom (s.heap.objs.size + 1) scope.names []).lookup y.1).isSome = true) := fun ⟨n, v⟩ hy => by
    rcases S.par n (List.of_mem_zip hy).1 with q | q
    · exact .inl q
    · exact .inr ⟨q, PySem.W.cellsFrom_some _ _ _ (.inl q)⟩
  refine codeAny_call_function hr.depth (KX _ _ lk) rfl S.co S.gen rfl (PySem.W.codeRec_of KX hcd) (hb _ _ _ _ ?_)
  refine wpAny_newFunctionEnv_cells S.kind hkind fun env he s1 x => ?_
  subst he
  refine ⟨lim.keeps x.toInCall.keep, codeAny_func ?_⟩
  obtain ⟨t, ht, hq⟩ := hbody A outer s H vs Q E (hr.deeper _) hsp
  have I : Inv (cxOf CX P w K mg base N qual scope f cdv A outer s H E) [] (start N vs) H s1 := inv_start S hr.hd e0 hl r x
  refine wpAny_mono (ht [] s1 (start N vs) H _ I hq) (fun fl s' hs => ?_) fun e s' hs => hs
  have fin : ∀ {σ' : St} {H' : Hp} {v : V} {u : Value}, Inv (cxOf CX P w K mg base N qual scope f cdv A outer s H E) [] σ' H' s' → RelV v u → Q v H' → CE outer P w H s Q u s' :=
    fun {σ' H' v u} J rv q => ⟨v, H', J.os, J.bare, J.base, J.hok, rv, q⟩
  cases fl with
  | ret u =>
    obtain ⟨v, σ', H', J, rv, q⟩ := hs
    exact fin J rv q
  | next =>
    obtain ⟨σ', H', J, q⟩ := hs
    exact fin (v := V.non) (u := Value.none) J rfl q
  | brk =>
    obtain ⟨_, _, _, q⟩ := hs
    exact False.elim q
  | cont =>
    obtain ⟨_, _, _, q⟩ := hs
    exact False.elim q
end L2
namespace L2
open PySem PySem.Spec PyProof.Rows
section
variable {X : Cx} {x : Str} {p pos : Pos} {e : Expr} {es : List Expr} {t : TA} {id T : String} {r : List V → Hp → VK → Prop}
def tCB (r : List V → Hp → VK → Prop) (t : TA) : TE := fun σ H Q => t σ H fun vs H1 => r vs H1 Q
/-- f(e, ..), f a built-in function -/
theorem pe_callB (hc : CallR X (.builtin id) r) (hg : Gl X x) (hm : X.mg x = none) (hv : bootBuiltins x = some (.builtin id)) (ha : PA X (e :: es) t) (hn : x ≠ "__name__" := by decide) (hdb : (x == ("__debug__" : Str)) = false := by decide)
    (he : starEach (e :: es) X.env = (false, eval e X.env) :: starEach es X.env := by rfl) (hpl : (backTo pos (starEach es X.env)).any (·.1) = false := by rfl) : PE X (.Call (.Name x p) (e :: es) [] pos) (tCB r t) := by
  intro pins s σ H Q I h
  refine wpAny_Call_Name_kw (ld_blt I hg hm hv ?_ hn hdb)
  exact PyProof.Rows.callWith_builtin1 (thn (ha pos pins s σ H _ I h) fun us s1 ⟨vs, H1, I1, r1, q1⟩ => hc pins s1 σ H1 vs us Q I1 r1 q1) he hpl
/-- T(e, ..), T a built-in type -/
theorem pe_callTy (hc : CallR X (.type T) r) (hg : Gl X x) (hm : X.mg x = none) (hv : bootBuiltins x = some (.type T)) (ha : PA X (e :: es) t) (hn : x ≠ "__name__" := by decide) (hdb : (x == ("__debug__" : Str)) = false := by decide)
    (he : starEach (e :: es) X.env = (false, eval e X.env) :: starEach es X.env := by rfl) (hpl : (backTo pos (starEach es X.env)).any (·.1) = false := by rfl) : PE X (.Call (.Name x p) (e :: es) [] pos) (tCB r t) := by
  intro pins s σ H Q I h
  refine wpAny_Call_Name_kw (ld_blt I hg hm hv ?_ hn hdb)
  exact PyProof.Rows.callWith_type1 (thn (ha pos pins s σ H _ I h) fun us s1 ⟨vs, H1, I1, r1, q1⟩ => hc pins s1 σ H1 vs us Q I1 r1 q1) he hpl
end
end L2
namespace HT
open PySem PyProof.Rows
section
open PySem.SeqAt
open PySem.AutoSeq1 (wpAny_loadPart')
open PySem.MeetsSeq PySem.MeetsSeq2 PySem.MeetsSeq3
end
section
variable {prog : Program} {w : World} {A : Around} {E : Value → Shared → Prop} {s : Shared}
/-- a slice's bound as a place among n (d where it is left out) -/
def sIx (n d : Nat) : Option Int → Nat
  | none => d
  | some v => if v < 0 then (v + (n : Int)).toNat else min v.toNat n
theorem sIx_none (n d : Nat) : sIx n d none = d := rfl
theorem sIx_nat (n d k : Nat) : sIx n d (some (k : Int)) = min k n := by
  show (if (k : Int) < 0 then ((k : Int) + (n : Int)).toNat else min (k : Int).toNat n) = min k n
  rw [if_neg (by omega), Int.toNat_natCast]
end
end HT
namespace L2
open PySem PySem.Spec PyProof.Rows
abbrev TO := St → Hp → (Option Int → Hp → Prop) → Prop
/-- a slice's part (left out, or an int) -/
def PO (X : Cx) (e : Option Expr) (t : TO) : Prop :=
  ∀ (pins : List (Addr × Obj)) (s : Shared) (σ : St) (H : Hp) (Q : Option Int → Hp → Prop), Inv X pins σ H s → t σ H Q →
    wpAny (model X.prog X.w) X.A (evalPart e X.env) (fun u s' => ∃ o H', Inv X pins σ H' s' ∧ IsPart u o ∧ Q o H') X.xe s
def tNoPart : TO := fun _ H Q => Q none H
def tPart (t : TE) : TO := fun σ H Q => t σ H fun x H1 => ∃ i, x = .int i ∧ Q (some i) H1
section
variable {X : Cx} {e : Expr} {te : TE} {lo hi : Option Expr} {tl th : TO} {pos p2 : Pos}
theorem po_none : PO X none tNoPart := by
  intro pins s σ H Q I h
  rw [evalPart_none]
  exact wpAny_pure ⟨none, H, I, .none, h⟩
theorem po_some (h : PE X e te) : PO X (some e) (tPart te) := by
  intro pins s σ H Q I hw
  rw [evalPart_some]
  refine thn (h pins s σ H _ I hw) fun u s1 ⟨x, H1, I1, r1, q1⟩ => ?_
  obtain ⟨i, rfl, q⟩ := q1
  obtain ⟨t, rfl⟩ := r1
  exact ⟨some i, H1, I1, .int i t, q⟩
/-- what a slice of a value is, by values: the slice object stands at sl -/
def SlR (X : Cx) (r : V → Option Int → Option Int → Hp → VK → Prop) : Prop :=
  ∀ (pins : List (Addr × Obj)) (s : Shared) (σ : St) (H : Hp) (x : V) (v vl vu : Value) (lo hi : Option Int) (sl : Addr) (Q : VK), Inv X pins σ H s → RelV x v → s.heap.IsSliceOf sl vl vu .none → IsPart vl lo → IsPart vu hi → r x lo hi H Q →
    ∃ T id, typeLookup (.type T) "__getitem__" = pure (some (.builtin id)) ∧ s.TypeIs v T ∧ wpAny (model X.prog X.w) X.A (getItem v (.ref sl)) (EP X pins σ Q) X.xe s
def tSl (r : V → Option Int → Option Int → Hp → VK → Prop) (te : TE) (tl th : TO) : TE := fun σ H Q => te σ H fun x H1 => tl σ H1 fun l H2 => th σ H2 fun u H3 => r x l u H3 Q
/-- a[lo:hi], any a -/
theorem pe_slice {r : V → Option Int → Option Int → Hp → VK → Prop} (hr : SlR X r) (he : PE X e te) (hl : PO X lo tl) (hu : PO X hi th) : PE X (.Subscript e (.Slice lo hi none p2) pos) (tSl r te tl th) := by
  intro pins s σ H Q I h
  refine Subscript_ (thn (he pins s σ H _ I h) fun v s1 ⟨x, H1, I1, r1, q1⟩ => ?_)
  refine wpAny_Slice (thn (hl pins s1 σ H1 _ I1 q1) fun vl s2 ⟨l, H2, I2, pl, q2⟩ => thn (hu pins s2 σ H2 _ I2 q2) fun vu s3 ⟨u, H3, I3, pu, q3⟩ => ?_)
  rw [evalPart_none]
  refine wpAny_pure ?_
  have I4 : Inv X pins σ H3 { s3 with heap := s3.heap.push { cls := .type "slice", data := .fields #[vl, vu, .none] } } := I3.kept (t' := s3.toks) fun b ob q => Heap.get?_push_of_some _ q
  obtain ⟨T, id, hT, ht, hg⟩ := hr pins { s3 with heap := s3.heap.push { cls := .type "slice", data := .fields #[vl, vu, .none] } } σ H3 x v vl vu l u s3.heap.objs.size Q I4 r1 (Heap.IsSliceOf.new ..) pl pu q3
  show wpAny (model X.prog X.w) X.A (subscriptTail e (.Slice lo hi none p2) v (.ref s3.heap.objs.size)) (EP X pins σ Q) X.xe { s3 with heap := s3.heap.push { cls := .type "slice", data := .fields #[vl, vu, .none] } }
  exact tail_any (ops := [.ref s3.heap.objs.size, v]) ht hT hg (by with_unfolding_all rfl)
/-- the items of xs[lo:hi] -/
def cutV (xs : List V) (lo hi : Option Int) : List V := (xs.drop (HT.sIx xs.length 0 lo)).take (HT.sIx xs.length xs.length hi - HT.sIx xs.length 0 lo)
theorem cutV_length (xs : List V) (lo hi : Option Int) : (cutV xs lo hi).length ≤ xs.length := by
  unfold cutV
  rw [List.length_take, List.length_drop]
  omega
end
end L2
namespace L2
open PySem PySem.Spec PyProof.Rows
/-- the place that an index of any sign means -/
def ixN (n : Nat) (i : Int) : Option Nat := if 0 ≤ i then (if i < n then some i.toNat else none) else if -(n : Int) ≤ i then some (i + n).toNat else none
def atI {α : Type} (xs : List α) (i : Int) : Option α := (ixN xs.length i).bind fun j => xs[j]?
theorem ixN_seq {n : Nat} {i : Int} {j : Nat} (h : ixN n i = some j) : seqIndex? i n = some j ∧ j < n ∧ -(n : Int) ≤ i ∧ i < n := by
  unfold ixN at h
  by_cases h0 : 0 ≤ i
  · rw [if_pos h0] at h
    by_cases h1 : i < n
    · rw [if_pos h1] at h
      have e : i.toNat = j := Option.some.inj h
      exact ⟨by rw [seqIndex_of h0 h1, e], by omega, by omega, h1⟩
    · rw [if_neg h1] at h; cases h
  · rw [if_neg h0] at h
    by_cases h1 : -(n : Int) ≤ i
    · rw [if_pos h1] at h
      have e : (i + n).toNat = j := Option.some.inj h
      exact ⟨by rw [seqIndex_neg (by omega) h1, e], by omega, h1, by omega⟩
    · rw [if_neg h1] at h; cases h
theorem atI_get {α : Type} {xs : List α} {i : Int} {v : α} (h : atI xs i = some v) : ∃ j, seqIndex? i xs.length = some j ∧ xs[j]? = some v ∧ j < xs.length ∧ -(xs.length : Int) ≤ i ∧ i < xs.length := by
  unfold atI at h
  cases e : ixN xs.length i with
  | none => rw [e] at h; cases h
  | some j =>
    rw [e] at h
    obtain ⟨h1, h2, h3, h4⟩ := ixN_seq e
    exact ⟨j, h1, h, h2, h3, h4⟩
theorem atI_nat {α : Type} {xs : List α} {j : Nat} {v : α} (h : xs[j]? = some v) : atI xs (j : Int) = some v := by
  have hj : j < xs.length := (List.getElem?_eq_some_iff.mp h).1
  have e : ixN xs.length (j : Int) = some j := by
    unfold ixN
    rw [if_pos (by omega), if_pos (by omega)]; simp
  unfold atI; rw [e]; exact h
/-- what stands as an index of a plain subscript -/
def PlainIx (b : Expr) : Prop := ∀ o i, subscripted b false o i = operate [o, i] (getItem o i)
/-- a subscript by values -/
def IxR (X : Cx) (r : R2) : Prop :=
  ∀ (value slice : Expr) (pins : List (Addr × Obj)) (s : Shared) (σ : St) (H : Hp) (x y : V) (v u : Value) (Q : VK), Inv X pins σ H s → RelV x v → RelV y u → r x y H Q →
    subscripted slice false v u = operate [v, u] (getItem v u) → wpAny (model X.prog X.w) X.A (subscriptTail value slice v u) (EP X pins σ Q) X.xe s
/-- a call of a builtin's method by values: the receiver, the arguments -/
def MtR (X : Cx) (id : String) (r : V → List V → Hp → VK → Prop) : Prop :=
  ∀ (pins : List (Addr × Obj)) (s : Shared) (σ : St) (H : Hp) (x : V) (xs : List V) (v : Value) (us : List Value) (Q : VK), Inv X pins σ H s → RelV x v → Vals xs us → r x xs H Q →
    wpAny (model X.prog X.w) X.A (call (.builtin id) (v :: us)) (EP X pins σ Q) X.xe s
section
variable {X : Cx} {a b : Expr} {ta tb : TE} {pos : Pos}
/-- a[b] -/
theorem pe_ix {r : R2} (hr : IxR X r) (ha : PE X a ta) (hb : PE X b tb) (hs : PlainIx b) : PE X (.Subscript a b pos) (tOp r ta tb) := by
  intro pins s σ H Q I h
  exact Subscript_ (binT ha hb I h fun v u s2 x y H2 I2 rx ry q => hr a b pins s2 σ H2 x y v u Q I2 rx ry q (hs _ _))
def rIxL (K : PySem.W.Frag) : R2 := fun x y H Q => ∃ p xs i v, x = .ref p ∧ y = .int i ∧ SqL K H p xs ∧ atI xs i = some v ∧ Q v H
def rIxT (K : PySem.W.Frag) : R2 := fun x y H Q => ∃ p xs i v, x = .ref p ∧ y = .int i ∧ SqT K H p xs ∧ atI xs i = some v ∧ Q v H
theorem ix_list : IxR X (rIxL X.K) := by
  intro value slice pins s σ H x y v u Q I rx ry h hs
  obtain ⟨p, xs, i, z, rfl, rfl, hq, he, q⟩ := h
  cases rx
  obtain ⟨t, rfl⟩ := ry
  obtain ⟨its, r, pl, hz⟩ := I.list hq
  obtain ⟨j, h1, h2, h3, h4, h5⟩ := atI_get he
  obtain ⟨w, ew, rw'⟩ := r.get h2
  have hl := r.length
  have hn := line63
  have fin : EP X pins σ Q w s := ⟨z, H, I, rw', q⟩
  by_cases h0 : 0 ≤ i
  · have hj : i.toNat = j := by
      rw [seqIndex_of h0 h5] at h1
      exact Option.some.inj h1
    exact item_listR pl.isList h0 (by omega) (by rw [hj]; simpa using ew) fin hs
  · have hj : (i + (its.toArray.size : Int)).toNat = j := by
      rw [seqIndex_neg (by omega) h4] at h1
      rw [List.size_toArray, ← hl]
      exact Option.some.inj h1
    exact subscriptTail_builtinR (x := w) pl.isList.typeIs slot_list_getitem.lookup
      (wpAny_getItem_list_neg (Q := fun r s' => r = w ∧ EP X pins σ Q r s') pl.isList (by omega) (by rw [List.size_toArray] <;> omega) (by omega) (by rw [hj]; simpa using ew) ⟨rfl, fin⟩) hs
theorem ix_tup : IxR X (rIxT X.K) := by
  intro value slice pins s σ H x y v u Q I rx ry h hs
  obtain ⟨p, xs, i, z, rfl, rfl, hq, he, q⟩ := h
  cases rx
  obtain ⟨t, rfl⟩ := ry
  obtain ⟨its, r, pl, hz⟩ := I.tuple hq
  obtain ⟨j, h1, h2, h3, h4, h5⟩ := atI_get he
  obtain ⟨w, ew, rw'⟩ := r.get h2
  have hl := r.length
  have hn := line63
  have fin : EP X pins σ Q w s := ⟨z, H, I, rw', q⟩
  exact subscriptTail_builtinR (x := w) pl.typeIs slot_tuple_getitem.lookup
    (getItem_tuple (j := j) (Q := fun r s' => r = w ∧ EP X pins σ Q r s') pl (by omega) (by omega) (by rw [List.size_toArray, ← hl]; exact h1) (by simpa using ew) ⟨rfl, fin⟩) hs
/-- the list's object behind a store -/
theorem mapSeq_set (its : List Value) (n j : Nat) (u : Value) : Obj.mapSeq (·.setIfInBounds j u) { cls := .type "list", data := .seq its.toArray n } = { cls := .type "list", data := .seq (its.set j u).toArray n } := by
  simp [Obj.mapSeq]
theorem Inv.lst {pins : List (Addr × Obj)} {σ : St} {H : Hp} {s : Shared} {p : Addr} {xs : List V} (I : Inv X pins σ H s) (h : H p = some (.lst xs)) :
    ∃ (its : List Value) (n : Nat), Vals xs its ∧ s.heap.get? p = some { cls := .type "list", data := .seq its.toArray n } ∧ xs.length ≤ sizeLine := by
  obtain ⟨z, its, n, r, e⟩ := I.hok p _ h
  exact ⟨its, n, r, e, z⟩
/-- the list at p is written by an update of its object -/
theorem Inv.lstUpd {pins : List (Addr × Obj)} {σ : St} {H : Hp} {s : Shared} {p : Addr} {xs ys : List V} {its its' : List Value} {n n' : Nat} {f : Obj → Obj} (I : Inv X pins σ H s) (h : H p = some (.lst xs))
    (ho : s.heap.get? p = some { cls := .type "list", data := .seq its.toArray n }) (hf : f { cls := .type "list", data := .seq its.toArray n } = { cls := .type "list", data := .seq its'.toArray n' }) (r : Vals ys its') (hz : ys.length ≤ sizeLine) (t : Nat) :
    Inv X pins σ (upd H p (.lst ys)) { s with heap := s.heap.update p f, toks := t } := by
  have e : (s.heap.update p f).get? p = some { cls := .type "list", data := .seq its'.toArray n' } := by
    rw [Heap.get?_update_self f ho (by rw [hf] <;> rfl), hf]
  refine I.write (x := p) (e := p) (by rw [h]; trivial) (.inl rfl) (fun b u hb q => (Heap.get?_update_other _ _ (Ne.symm hb)).trans q) ⟨_, e⟩ ?_
  exact ⟨hz, its', n', r, e⟩
def rSetL : V → V → V → Hp → (Hp → Prop) → Prop := fun o i v H Q => ∃ p xs k j, o = .ref p ∧ i = .int k ∧ H p = some (.lst xs) ∧ ixN xs.length k = some j ∧ Q (upd H p (.lst (xs.set j v)))
theorem set_list : PSet X rSetL := by
  intro pins s σ H o i v ov iv u Q I ro ri rv h
  obtain ⟨p, xs, k, j, rfl, rfl, hp, hj, q⟩ := h
  cases ro
  obtain ⟨t, rfl⟩ := ri
  obtain ⟨its, n, r, ho, hz⟩ := I.lst hp
  obtain ⟨h1, h2, h3, h4⟩ := ixN_seq hj
  have hl := r.length
  have hn := line63
  have I' : Inv X pins σ (upd H p (.lst (xs.set j v))) { s with heap := s.heap.update p (Obj.mapSeq (·.setIfInBounds j u)) } :=
    I.lstUpd hp ho (mapSeq_set its n j u) (r.set rv j) (by rw [List.length_set]; exact hz) s.toks
  by_cases h0 : 0 ≤ k
  · have hk : k.toNat = j := by
      rw [seqIndex_of h0 h4] at h1
      exact Option.some.inj h1
    exact PySem.W.ki_setAt ho h0 (by omega) (by rw [List.size_toArray, ← hl]; exact h4) (by rw [hk]; exact ⟨_, I', q⟩)
  · have hk : (k + (its.toArray.size : Int)).toNat = j := by
      rw [seqIndex_neg (by omega) h3] at h1
      rw [List.size_toArray, ← hl]
      exact Option.some.inj h1
    exact PySem.W.ki_setBack ho (by omega) (by rw [List.size_toArray, ← hl]; exact h3) (by omega) (by rw [hk]; exact ⟨_, I', q⟩)
theorem slice_bounds (lo hi : Option Int) (n : Nat) : (sliceBounds lo hi none n).1 = ((HT.sIx n 0 lo : Nat) : Int) ∧ (sliceBounds lo hi none n).2.1 = ((HT.sIx n n hi : Nat) : Int) ∧ (sliceBounds lo hi none n).2.2 = 1 := by
  refine ⟨?_, ?_, rfl⟩
  · cases lo with
    | none => simp [sliceBounds, HT.sIx]
    | some i =>
      simp only [sliceBounds, HT.sIx, Option.getD_none, show (1 : Int) > 0 by decide, if_true]
      by_cases h : i < 0
      · simp only [h, if_true] <;> omega
      · simp only [h, if_false] <;> omega
  · cases hi with
    | none => simp [sliceBounds, HT.sIx]
    | some i =>
      simp only [sliceBounds, HT.sIx, Option.getD_none, show (1 : Int) > 0 by decide, if_true]
      by_cases h : i < 0
      · simp only [h, if_true] <;> omega
      · simp only [h, if_false] <;> omega
theorem slicePick_cut (its : List Value) (lo hi : Option Int) : slicePick its.toArray lo hi none = ((its.drop (HT.sIx its.length 0 lo)).take (HT.sIx its.length its.length hi - HT.sIx its.length 0 lo)).toArray := by
  obtain ⟨h1, h2, h3⟩ := slice_bounds lo hi its.toArray.size
  unfold slicePick
  rw [h1, h2, h3]
  simp only [sliceRange_one, pick_run, List.size_toArray] <;> rfl
/-- xs[lo:hi] of a list: a new list -/
def rSlL (K : PySem.W.Frag) : V → Option Int → Option Int → Hp → VK → Prop := fun x lo hi H Q => ∃ a xs, x = .ref a ∧ SqL K H a xs ∧ ∀ p, H p = none → Q (.ref p) (upd H p (.lst (cutV xs lo hi)))
theorem sl_list : SlR X (rSlL X.K) := by
  intro pins s σ H x v vl vu lo hi sl Q I rx hs pl pu h
  obtain ⟨a, xs, rfl, hx, q⟩ := h
  cases rx
  obtain ⟨its, r, ht, hz⟩ := I.list hx
  have hlen := r.length
  refine ⟨"list", _, slot_list_getitem.lookup, ht.isList.typeIs, ?_⟩
  refine wpAny_getItem_list_slice ht.isList hs pl pu .none (by simp) ?_ (by rw [List.size_toArray] <;> omega)
  rw [slicePick_cut, ← hlen]
  refine ⟨.ref s.heap.objs.size, _, I.laid (t' := s.toks) (o := .lst (cutV xs lo hi)) (fun b ob q => Heap.get?_push_of_some _ q) (Nat.le_refl _) ?_, rfl, q _ (I.hok.fresh (Nat.le_refl _))⟩
  exact ⟨Nat.le_trans (cutV_length xs lo hi) hz, _, 0, (r.drop (HT.sIx xs.length 0 lo)).take (HT.sIx xs.length xs.length hi - HT.sIx xs.length 0 lo), Heap.get?_push_size _ rfl⟩
def flatV : V → Bool
  | .non => true
  | .bl _ => true
  | .int _ => true
  | .str _ => true
  | _ => false
/-- == of flat values -/
def eqV : V → V → Bool
  | .non, .non => true
  | .bl a, .bl b => a == b
  | .bl a, .int b => (if a then 1 else 0) == b
  | .int a, .bl b => a == (if b then 1 else 0)
  | .int a, .int b => a == b
  | .str a, .str b => a == b
  | _, _ => false
theorem eqAt_V {A : Around} {s : Shared} {y x : V} {u v : Value} (ry : RelV y u) (rx : RelV x v) (fy : flatV y = true) (fx : flatV x = true) : SeqAt.EqAt A s u v (eqV y x) := by
  cases y with
  | non =>
    cases ry
    cases x with
    | non => cases rx; exact SeqAt.EqAt.same _
    | bl b => cases rx; exact SeqAt.EqAt.none_bool b
    | int b => obtain ⟨t, rfl⟩ := rx; exact SeqAt.EqAt.none_int b t
    | str b => obtain ⟨t, rfl⟩ := rx; exact SeqAt.EqAt.none_str b t
    | _ => exact absurd (show false = true from fx) Bool.false_ne_true
  | bl a =>
    cases ry
    cases x with
    | non => cases rx; exact SeqAt.EqAt.bool_none a
    | bl b => cases rx; exact SeqAt.EqAt.bool_bool a b
    | int b => obtain ⟨t, rfl⟩ := rx; exact SeqAt.EqAt.bool_int a b t
    | str b => obtain ⟨t, rfl⟩ := rx; exact SeqAt.EqAt.bool_str a b t
    | _ => exact absurd (show false = true from fx) Bool.false_ne_true
  | int a =>
    obtain ⟨t', rfl⟩ := ry
    cases x with
    | non => cases rx; exact SeqAt.EqAt.int_none a t'
    | bl b => cases rx; exact SeqAt.EqAt.int_bool a t' b
    | int b => obtain ⟨t, rfl⟩ := rx; exact SeqAt.EqAt.int_int a t' b t
    | str b => obtain ⟨t, rfl⟩ := rx; exact SeqAt.EqAt.int_str a t' b t
    | _ => exact absurd (show false = true from fx) Bool.false_ne_true
  | str a =>
    obtain ⟨t', rfl⟩ := ry
    cases x with
    | non => cases rx; exact SeqAt.EqAt.str_none a t'
    | bl b => cases rx; exact SeqAt.EqAt.str_bool a t' b
    | int b => obtain ⟨t, rfl⟩ := rx; exact SeqAt.EqAt.str_int a t' b t
    | str b => obtain ⟨t, rfl⟩ := rx; exact SeqAt.EqAt.str_str a t' b t
    | _ => exact absurd (show false = true from fx) Bool.false_ne_true
  | _ => exact absurd (show false = true from fy) Bool.false_ne_true
/-- the items' answers, read off the values (a value's own answer does not lean on its token) -/
def eqU (x : V) (u : Value) : Bool := match u with
  | .none => eqV .non x
  | .bool b => eqV (.bl b) x
  | .int i _ => eqV (.int i) x
  | .str z _ => eqV (.str z) x
  | _ => false
theorem eqU_of {x y : V} {u : Value} (r : RelV y u) (f : flatV y = true) : eqU x u = eqV y x := by
  cases y with
  | non => cases r; rfl
  | bl b => cases r; rfl
  | int i => obtain ⟨t, rfl⟩ := r; rfl
  | str z => obtain ⟨t, rfl⟩ := r; rfl
  | _ => exact absurd (show false = true from f) Bool.false_ne_true
theorem any_eqU {x : V} : ∀ {xs : List V} {us : List Value}, Vals xs us → xs.all flatV = true → us.any (eqU x) = xs.any fun y => eqV y x
  | _, _, .nil, _ => rfl
  | y :: xs, u :: us, .cons r t, f => by
    rw [List.all_cons, Bool.and_eq_true] at f
    rw [List.any_cons, List.any_cons, eqU_of r f.1, any_eqU t f.2]
theorem mem_eqAt {A : Around} {s : Shared} {x : V} {v : Value} (rx : RelV x v) (fx : flatV x = true) : ∀ {xs : List V} {us : List Value}, Vals xs us → xs.all flatV = true → ∀ u ∈ us, SeqAt.EqAt A s u v (eqU x u)
  | _, _, .nil, _ => fun u hu => by cases hu
  | y :: xs, u :: us, .cons r t, f => fun u' hu => by
    rw [List.all_cons, Bool.and_eq_true] at f
    rcases List.mem_cons.mp hu with rfl | hu
    · rw [eqU_of r f.1]; exact eqAt_V r rx f.1 fx
    · exact mem_eqAt rx fx t f.2 u' hu
def inV (x : V) (xs : List V) : Bool := xs.any fun y => eqV y x
/-- x in a list or tuple of flat items -/
def rIn (K : PySem.W.Frag) (neg : Bool) : R2 := fun x y H Q => ∃ p xs, y = .ref p ∧ (SqL K H p xs ∨ SqT K H p xs) ∧ flatV x = true ∧ xs.all flatV = true ∧ Q (.bl (if neg then !inV x xs else inV x xs)) H
theorem op_in_seq : OpR X (compareOp .In) (rIn X.K false) := by
  intro pins s σ H x y v u Q I rx ry h
  obtain ⟨p, xs, rfl, hq, fx, fs, q⟩ := h
  cases ry
  rcases hq with hq | hq
  · obtain ⟨its, r, pl, hz⟩ := I.list hq
    refine SeqAt.in_listAt (eqU x) pl.isList (fun w hw => mem_eqAt rx fx r fs w (by simpa using hw)) ⟨.bl _, H, I, rfl, ?_⟩
    rw [show its.toArray.any (eqU x) = its.any (eqU x) by simp, any_eqU r fs]
    exact q
  · obtain ⟨its, r, pl, hz⟩ := I.tuple hq
    refine SeqAt.in_tupleAt (eqU x) pl (fun w hw => mem_eqAt rx fx r fs w (by simpa using hw)) ⟨.bl _, H, I, rfl, ?_⟩
    rw [show its.toArray.any (eqU x) = its.any (eqU x) by simp, any_eqU r fs]
    exact q
theorem call_len_seq : CallR X (.builtin "len") (fun xs H Q => ∃ p ys, xs = [.ref p] ∧ (SqL X.K H p ys ∨ SqT X.K H p ys) ∧ Q (.int ys.length) H) := by
  intro pins s σ H xs us Q I r h
  obtain ⟨p, ys, rfl, hq, q⟩ := h
  obtain ⟨u, rfl, rx⟩ := vals1 r
  cases rx
  have hn := line63
  rcases hq with hq | hq
  · obtain ⟨its, r', pl, hz⟩ := I.list hq
    have hlen := r'.length
    exact Calls.call_len_list pl.isList (by simp only [List.size_toArray] <;> omega) ⟨.int ys.length, H, I.tok _, ⟨s.toks + 1, by rw [List.size_toArray, hlen]⟩, q⟩
  · obtain ⟨its, r', pl, hz⟩ := I.tuple hq
    have hlen := r'.length
    exact len_tuple pl (by simp only [List.size_toArray] <;> omega) ⟨.int ys.length, H, I.tok _, ⟨s.toks + 1, by rw [List.size_toArray, hlen]⟩, q⟩
theorem call_list_of : CallR X (.type "list") (fun xs H Q => ∃ p ys, xs = [.ref p] ∧ (SqL X.K H p ys ∨ SqT X.K H p ys) ∧ ∀ l, H l = none → Q (.ref l) (upd H l (.lst ys))) := by
  intro pins s σ H xs us Q I r h
  obtain ⟨p, ys, rfl, hq, q⟩ := h
  obtain ⟨u, rfl, rx⟩ := vals1 r
  cases rx
  have fin : ∀ (its : List Value), Vals ys its → ys.length ≤ sizeLine → ∀ (h' : Heap) (c' : Nat), (∀ b o', s.heap.get? b = some o' → h'.get? b = some o') →
      h'.get? s.heap.objs.size = some { cls := .type "list", dict := none, data := .seq its.toArray c', slots := #[] } → EP X pins σ Q (.ref s.heap.objs.size) { s with heap := h' } := fun its r' hz h' c' kp e =>
    ⟨.ref s.heap.objs.size, _, I.laid (t' := s.toks) kp (Nat.le_refl _) (show ObjOk X.prog X.w _ h' _ (.lst ys) from ⟨hz, its, c', r', e⟩), rfl, q _ (I.hok.fresh (Nat.le_refl _))⟩
  rcases hq with hq | hq
  · obtain ⟨its, r', pl, hz⟩ := I.list hq
    have hlen := r'.length
    obtain ⟨o, ho, hc, n, hd⟩ := pl.isList
    exact call_list_seq p (.inl rfl) ho hc hd (fun h' c' kp e => fin its r' hz h' c' kp e) (by simp only [List.size_toArray] <;> omega)
  · obtain ⟨its, r', pl, hz⟩ := I.tuple hq
    have hlen := r'.length
    obtain ⟨o, ho, hc, n, hd⟩ := pl
    exact call_list_seq p (.inr rfl) ho hc hd (fun h' c' kp e => fin its r' hz h' c' kp e) (by simp only [List.size_toArray] <;> omega)
/-- the value is of that builtin type -/
def tyV (K : PySem.W.Frag) (T : String) (x : V) (H : Hp) : Prop := match x with
  | .str _ => T = "str"
  | .int _ => T = "int"
  | .ref p => (T = "list" ∧ ∃ xs, SqL K H p xs) ∨ (T = "tuple" ∧ ∃ o, K.lookup p = some o ∧ o.cls = .type "tuple" ∧ o.dict = none) ∨
      (T = "dict" ∧ ((∃ kvs, H p = some (.dK kvs)) ∨ ∃ kvs, H p = some (.dT kvs))) ∨ (T = "set" ∧ ∃ S n, H p = some (.set S n))
  | _ => False
theorem tyV_is {pins : List (Addr × Obj)} {σ : St} {H : Hp} {s : Shared} {T : String} {x : V} {v : Value} (I : Inv X pins σ H s) (r : RelV x v) (ty : tyV X.K T x H) :
    s.TypeIs v T ∧ ∀ a, v = .ref a → ∃ ob, s.heap.get? a = some ob ∧ ob.dict = none := by
  cases x with
  | str z =>
    obtain ⟨t, rfl⟩ := r
    cases (show T = "str" from ty)
    exact ⟨typeIs_str s z t, fun _ e => nomatch e⟩
  | int i =>
    obtain ⟨t, rfl⟩ := r
    cases (show T = "int" from ty)
    exact ⟨typeIs_int s i t, fun _ e => nomatch e⟩
  | ref p =>
    cases r
    rcases ty with ⟨rfl, xs, hq⟩ | ⟨rfl, o, hk, hc, hd⟩ | ⟨rfl, hk⟩ | ⟨rfl, S, n, hk⟩
    · obtain ⟨its, _, pl, _⟩ := I.list hq
      refine ⟨pl.isList.typeIs, fun a e => ?_⟩
      cases e
      obtain ⟨o, n, e, c, hd, _⟩ := pl
      exact ⟨o, e, hd⟩
    · refine ⟨⟨o, I.kIn p o hk, hc⟩, fun a e => ?_⟩
      cases e
      exact ⟨o, I.kIn _ o hk, hd⟩
    · have z : ∃ o, s.heap.get? p = some o ∧ o.ExactDict := by
        rcases hk with ⟨kvs, hk⟩ | ⟨kvs, hk⟩
        · obtain ⟨_, _, _, _, o, _, _, e, ex, _⟩ := I.hok p _ hk
          exact ⟨o, e, ex⟩
        · obtain ⟨_, _, _, _, o, _, _, e, ex, _⟩ := I.hok p _ hk
          exact ⟨o, e, ex⟩
      obtain ⟨o, e, ex⟩ := z
      refine ⟨⟨o, e, ex.1⟩, fun a e2 => ?_⟩
      cases e2
      exact ⟨o, e, ex.2.1⟩
    · obtain ⟨o, _, _, _, e, ex, _⟩ := I.hok p _ hk
      refine ⟨⟨o, e, ex.1⟩, fun a e2 => ?_⟩
      cases e2
      exact ⟨o, e, ex.2.1⟩
  | _ => exact False.elim ty
def tBM (K : PySem.W.Frag) (T : String) (r : V → List V → Hp → VK → Prop) (to : TE) (t : TA) : TE := fun σ H Q => to σ H fun x H1 => tyV K T x H1 ∧ t σ H1 fun xs H2 => r x xs H2 Q
variable {o e : Expr} {es : List Expr} {to : TE} {t : TA} {name : Str} {apos cpos : Pos} {T id : String} {r : V → List V → Hp → VK → Prop}
theorem pe_bm (pa : PlainAttrs T) (slot : Slot T name id) (hty : typeOf (.builtin id) = pure (.type "method_descriptor")) (hm : MtR X id r) (ho : PE X o to) (ha : PA X (e :: es) t)
    (hbase : attributeBase o name X.env (eval o X.env) = eval o X.env := by rfl)
    (hfew : ((backTo cpos (starEach (e :: es) X.env)).all (fun x => !x.1) && (backToKw cpos (keywordEach [] X.env)).all (fun x => x.1.isSome)
      && decide ((e :: es).length + ([] : List Keyword).length + (if ([] : List Keyword).isEmpty then 0 else 1) < 30)) = true := by rfl)
    (hline : (apos.endLine == cpos.line) = true := by rfl) (hs : starEach (e :: es) X.env = (false, eval e X.env) :: starEach es X.env := by rfl) (hplain : (backTo cpos (starEach es X.env)).any (·.1) = false := by rfl) :
    PE X (.Call (.Attribute o name apos) (e :: es) [] cpos) (tBM X.K T r to t) := by
  intro pins s σ H Q I h
  refine wpAny_Call_method_late hbase hfew hline rfl (thn (ho pins s σ H _ I h) fun v s1 ⟨x, H1, I1, r1, ty, q1⟩ => ?_)
  obtain ⟨h1, h2⟩ := tyV_is I1 r1 ty
  refine ⟨T, id, pa, slot, hty, h1, h2, ?_⟩
  have hA := ha cpos pins s1 σ H1 _ I1 q1
  rw [hs] at hA ⊢
  refine Calls.callWith_builtin (by show (false || (backTo cpos (starEach es X.env)).any (·.1)) = false; rw [hplain] <;> rfl) (Calls.evalArgs_plain ?_)
  exact thn hA fun us s2 ⟨vs, H2, I2, r2, q2⟩ => hm pins s2 σ H2 x vs v us Q I2 r1 r2 q2
end
end L2
namespace L2
open PySem PySem.Spec PyProof.Rows
def MtM (X : Cx) (id : String) (r : V → List V → Hp → VK → Prop) : Prop :=
  ∀ (pins : List (Addr × Obj)) (s : Shared) (σ : St) (H : Hp) (x : V) (xs : List V) (v : Value) (us : List Value) (Q : VK), Inv X pins σ H s → RelV x v → Vals xs us → r x xs H Q →
    wpAny (model X.prog X.w) X.A (call (.builtin id) (v :: us)) (EP X pins σ Q) X.xe s
theorem Vals.one : ∀ {x : V} {us : List Value}, Vals [x] us → ∃ u, us = [u] ∧ RelV x u
  | _, _, .cons r .nil => ⟨_, rfl, r⟩
theorem Vals.rep {xs : List V} {us : List Value} (h : Vals xs us) : ∀ k : Nat, Vals (List.replicate k xs).flatten (List.replicate k us).flatten
  | 0 => .nil
  | k + 1 => by
    rw [List.replicate_succ, List.replicate_succ, List.flatten_cons, List.flatten_cons]
    exact Vals.append h (Vals.rep h k)
theorem foldl_rep (its : List Value) : ∀ (k : Nat) (acc : List Value),
    List.foldl (fun x1 x2 => x1 ++ x2) acc.toArray (List.replicate k its.toArray) = (acc ++ (List.replicate k its).flatten).toArray
  | 0, acc => by simp
  | k + 1, acc => by
    have e : acc.toArray ++ its.toArray = (acc ++ its).toArray := by simp
    have e2 : (acc ++ its) ++ (List.replicate k its).flatten = acc ++ (List.replicate (k + 1) its).flatten := by
      rw [List.replicate_succ, List.flatten_cons, List.append_assoc]
    rw [← e2, ← foldl_rep its k (acc ++ its), ← e, List.replicate_succ, List.foldl_cons]
section
variable {X : Cx} {pins : List (Addr × Obj)} {σ : St} {H : Hp} {s : Shared} {l b : Addr} {xs ys zs : List V}
theorem Inv.lset {its its' : List Value} {n : Nat} {f : Array Value → Array Value} {t' : Nat} (I : Inv X pins σ H s) (hH : H l = some (.lst xs))
    (e : s.heap.get? l = some { cls := .type "list", data := .seq its.toArray n }) (hf : f its.toArray = its'.toArray) (hv : Vals ys its') (hz : ys.length ≤ sizeLine) :
    Inv X pins σ (upd H l (.lst ys)) { s with heap := s.heap.update l (Obj.mapSeq f), toks := t' } := by
  have q := PySem.IsL.update e f
  rw [hf] at q
  refine I.write (x := l) (e := l) (by rw [hH]; exact trivial) (.inl rfl) (fun b' u hb hu => (Heap.get?_update_other s.heap (Obj.mapSeq f) (Ne.symm hb)).trans hu) ⟨_, q⟩ ?_
  exact ⟨hz, its', _, hv, q⟩
theorem Inv.lnew {its : List Value} {t' : Nat} (I : Inv X pins σ H s) (hv : Vals ys its) (hz : ys.length ≤ sizeLine) :
    Inv X pins σ (upd H s.heap.objs.size (.lst ys)) { s with heap := s.heap.push { cls := .type "list", data := .seq its.toArray }, toks := t' } :=
  I.laid (fun _ _ q => Heap.get?_push_of_some _ q) (Nat.le_refl _) ⟨hz, its, 0, hv, Heap.get?_push_size _ rfl⟩
theorem Inv.fresh (I : Inv X pins σ H s) : H s.heap.objs.size = none := I.hok.fresh (Nat.le_refl _)
theorem Inv.lstM (I : Inv X pins σ H s) (hH : H l = some (.lst xs)) : xs.length ≤ sizeLine ∧ ∃ (its : List Value) (n : Nat), Vals xs its ∧ xs.length = its.length ∧ s.heap.get? l = some { cls := .type "list", data := .seq its.toArray n } := by
  obtain ⟨z, its, n, r, e⟩ := I.hok l _ hH
  exact ⟨z, its, n, r, r.length, e⟩
theorem notLongL {n : Nat} (h : n ≤ sizeLine) : Builtin.List.listTooLong n = false := by
  unfold Builtin.List.listTooLong
  exact decide_eq_false (by omega)
end
section
variable {X : Cx}
def rAppend : V → List V → Hp → VK → Prop := fun x vs H Q => ∃ l xs y, x = .ref l ∧ vs = [y] ∧ H l = some (.lst xs) ∧ xs.length < sizeLine ∧ Q .non (upd H l (.lst (xs ++ [y])))
theorem mt_append : MtM X "list.append" rAppend := by
  intro pins s σ H x vs v us Q I rx rv h
  obtain ⟨l, xs, y, rfl, rfl, hH, hz, q⟩ := h
  cases rx
  obtain ⟨u, rfl, ru⟩ := rv.one
  obtain ⟨z, its, n, r, hl, e⟩ := I.lstM hH
  refine call_meets F.slot_list_append ⟨_, e, rfl⟩ F.entry_list_append (F.args_list_append_2 _ _) (PySem.list_append l its.toArray n u (by rw [List.size_toArray]; omega)) ⟨e, ?_⟩
  refine ⟨.non, _, I.lset (its' := its ++ [u]) hH e (by simp) (r.append (.cons ru .nil)) ?_, rfl, q⟩
  rw [List.length_append, List.length_singleton]
  omega
def rExtend : V → List V → Hp → VK → Prop := fun x vs H Q => ∃ l b xs zs, x = .ref l ∧ vs = [.ref b] ∧ H l = some (.lst xs) ∧ H b = some (.lst zs) ∧ xs.length + zs.length ≤ sizeLine ∧ Q .non (upd H l (.lst (xs ++ zs)))
theorem mt_extend : MtM X "list.extend" rExtend := by
  intro pins s σ H x vs v us Q I rx rv h
  obtain ⟨l, b, xs, zs, rfl, rfl, hH, hB, hz, q⟩ := h
  cases rx
  obtain ⟨u, rfl, ru⟩ := rv.one
  cases ru
  obtain ⟨z, its, n, r, hl, e⟩ := I.lstM hH
  obtain ⟨z2, its2, n2, r2, hl2, e2⟩ := I.lstM hB
  have hsz : its.toArray.size + its2.toArray.size ≤ sizeLine := by rw [List.size_toArray, List.size_toArray]; omega
  have hlong : ¬ (!its.toArray.isEmpty && Builtin.List.listTooLong (its.toArray.size + its2.toArray.size)) = true := by
    rw [notLongL hsz, Bool.and_false]
    exact Bool.false_ne_true
  refine call_meets F.slot_list_extend ⟨_, e, rfl⟩ F.entry_list_extend (F.args_list_extend_2 _ _)
    (AutoSeq1.list_extend_list_list_0 l its.toArray n b its2.toArray n2 hlong (by rw [List.size_toArray]; omega) (by omega)) ⟨e, e2, ?_⟩
  refine ⟨.non, _, I.lset (its' := its ++ its2) hH e (by simp) (r.append r2) ?_, rfl, q⟩
  rw [List.length_append]
  omega
def rCat : R2 := fun x y H Q => ∃ l b xs zs, x = .ref l ∧ y = .ref b ∧ H l = some (.lst xs) ∧ H b = some (.lst zs) ∧ xs.length + zs.length ≤ sizeLine ∧ ∀ p, H p = none → Q (.ref p) (upd H p (.lst (xs ++ zs)))
theorem op_cat : OpR X (binaryOp .Add) rCat := by
  intro pins s σ H x y v u Q I rx ry h
  obtain ⟨l, b, xs, zs, rfl, rfl, hH, hB, hz, q⟩ := h
  cases rx
  cases ry
  obtain ⟨z, its, n, r, hl, e⟩ := I.lstM hH
  obtain ⟨z2, its2, n2, r2, hl2, e2⟩ := I.lstM hB
  refine PySem.P.add_list e e2 ?_ (by rw [List.size_toArray, List.size_toArray]; omega)
  have ea : its.toArray ++ its2.toArray = (its ++ its2).toArray := by simp
  rw [ea]
  exact ⟨.ref _, _, I.lnew (t' := s.toks) (r.append r2) (by rw [List.length_append]; omega), rfl, q _ I.fresh⟩
/-- a list times an int (a negative one is nothing) -/
def rRep : R2 := fun x y H Q => ∃ l k xs, x = .ref l ∧ y = .int k ∧ H l = some (.lst xs) ∧ -(2 ^ 63) ≤ k ∧ k < 2 ^ 63 ∧ xs.length * k.toNat ≤ sizeLine ∧
  ∀ p, H p = none → Q (.ref p) (upd H p (.lst (List.replicate k.toNat xs).flatten))
theorem len_rep {α : Type} (xs : List α) (k : Nat) : (List.replicate k xs).flatten.length = k * xs.length := by
  induction k with
  | zero => simp
  | succ k ih => rw [List.replicate_succ, List.flatten_cons, List.length_append, ih, Nat.succ_mul, Nat.add_comm]
theorem op_rep : OpR X (binaryOp .Mult) rRep := by
  intro pins s σ H x y v u Q I rx ry h
  obtain ⟨l, k, xs, rfl, rfl, hH, h1, h2, hz, q⟩ := h
  cases rx
  obtain ⟨t, rfl⟩ := ry
  obtain ⟨z, its, n, r, hl, e⟩ := I.lstM hH
  have hlen : its.toArray.size * k.toNat ≤ sizeLine := by rw [List.size_toArray, ← hl]; exact hz
  have hcap : ¬ its.toArray.size * k.toNat > (2 ^ 63 - 1) / 8 := by
    have : (sizeLine : Nat) ≤ (2 ^ 63 - 1) / 8 := by decide
    omega
  have hfit : ¬ (!Builtin.List.listFitsIndex k) = true := by
    rw [fitsIndex_both h1 h2]
    exact Bool.false_ne_true
  have hlong : ¬ Builtin.List.listTooLong (its.toArray.size * k.toNat) = true := by
    rw [notLongL hlen]
    exact Bool.false_ne_true
  have hnew : List.foldl (fun x1 x2 => x1 ++ x2) #[] (List.replicate (if its.toArray.isEmpty = true then 0 else k.toNat) its.toArray) = (List.replicate k.toNat its).flatten.toArray := by
    have f0 : ∀ m : Nat, List.foldl (fun x1 x2 => x1 ++ x2) #[] (List.replicate m its.toArray) = (List.replicate m its).flatten.toArray := fun m => by
      have := foldl_rep its m []
      rw [List.nil_append] at this
      exact this
    rw [f0]
    cases its with
    | nil => simp
    | cons a r' => rw [if_neg (by simp)]
  refine wpAny_binaryOp_repeat_ref (T := "list") (U := "int") (by decide) ⟨_, e, rfl⟩ (fun s' => typeIs_int s' k t) noFill_list_mul F.fills_int_mul F.slot_int_rmul repeat_list F.slot_int_index.lookup
    (call_meets F.slot_int_rmul (typeIs_int s k t) F.entry_int_rmul (F.args_int_rmul_2 _ _) (int___rmul___int_list k t l its.toArray n)
      ⟨e, rfl, ⟨_, e, rfl⟩, call_meets F.slot_list_mul ⟨_, e, rfl⟩ F.entry_list_mul (F.args_list_mul_2 _ _) (AutoListH.list___mul___list_int_3 l its.toArray n k t hfit hcap hlong) ⟨e, ?_⟩⟩)
  rw [hnew]
  exact ⟨.ref _, _, I.lnew (t' := s.toks) (r.rep k.toNat) (by rw [len_rep, Nat.mul_comm]; exact hz), rfl, q _ I.fresh⟩
end
section
variable {prog : Program} {w : World} {A : Around} {E : Value → Shared → Prop} {s : Shared}
end
section
variable {X : Cx}
end
end L2
namespace L2
open PySem PySem.Spec PyProof.Rows
theorem Vals.bls : ∀ {bs : List Bool} {us : List Value}, Vals (bs.map V.bl) us → us = bs.map Value.bool
  | [], us, h => by
    rw [List.map_nil] at h
    cases h
    rfl
  | b :: bs, us, h => by
    rw [List.map_cons] at h
    cases h with
    | cons r t =>
      cases r
      rw [Vals.bls t, List.map_cons]
theorem Vals.ref1 {a : Addr} {us : List Value} (r : Vals [V.ref a] us) : us = [Value.ref a] := by
  cases r with
  | cons r t =>
    cases t
    cases r
    rfl
section
variable {prog : Program} {w : World} {A : Around} {E : Value → Shared → Prop} {s : Shared} {l : Addr} {its : List Value} {ns : List Int} {Q : Value → Shared → Prop}
end
section
variable {X : Cx}
end
section
variable {X : Cx}
def rIndex (K : PySem.W.Frag) : V → List V → Hp → VK → Prop := fun x xs H Q => ∃ (a : Addr) (ys : List V) (y : V) (j : Nat) (z : V), x = V.ref a ∧ xs = [y] ∧ SqL K H a ys ∧ flatV y = true ∧ ys.all flatV = true ∧ ys[j]? = some z ∧ eqV z y = true ∧
  (∀ (m : Nat) (z' : V), m < j → ys[m]? = some z' → eqV z' y = false) ∧ Q (.int (j : Nat)) H
theorem flat_at {ys : List V} (f : ys.all flatV = true) {j : Nat} {z : V} (h : ys[j]? = some z) : flatV z = true := List.all_eq_true.mp f z (List.mem_of_getElem? h)
theorem mt_index : MtR X "list.index" (rIndex X.K) := by
  intro pins s σ H x xs v us Q I rx rxs h
  obtain ⟨a, ys, y, j, z, rfl, rfl, hs, fy, fys, hz, hzj, hno, q⟩ := h
  cases rx
  cases rxs with
  | cons ry rt =>
    rename_i uy ut
    cases rt
    obtain ⟨its, rv, ⟨⟨cls, dd, data, sl⟩, n, ho, hc, hdn, hd⟩, hlen⟩ := I.list hs
    simp only at hc hd
    subst hc hd
    obtain ⟨u, hu, ru⟩ := rv.get hz
    obtain ⟨hjl, hje⟩ := List.getElem?_eq_some_iff.mp hu
    have hvl := rv.length
    have hj : j < its.toArray.size := by simpa using hjl
    have hsl := sizeLine_eq
    refine call_meets PySem.F.slot_list_index ⟨_, ho, rfl⟩ PySem.F.entry_list_index (PySem.F.args_list_index_2 _ _)
      (SeqAt.list_indexAt a its.toArray n dd sl uy (eqU y) j hj (by omega) ?_ ?_) ⟨ho, fun u' hu' => mem_eqAt ry fy rv fys u' (by simpa using hu'), ?_⟩
    · have e1 : its.toArray[j] = u := by simpa using hje
      rw [e1, eqU_of ru (flat_at fys hz)]
      exact hzj
    · intro m hm hmj
      have hml : m < its.length := by simpa using hm
      have hmy : m < ys.length := by omega
      have hy' : ys[m]? = some ys[m] := List.getElem?_eq_getElem hmy
      obtain ⟨u2, hu2, ru2⟩ := rv.get hy'
      obtain ⟨_, hme⟩ := List.getElem?_eq_some_iff.mp hu2
      have e1 : its.toArray[m] = u2 := by simpa using hme
      rw [e1, eqU_of ru2 (flat_at fys hy')]
      exact hno m _ hmj hy'
    · exact ⟨.int (j : Nat), H, I.tok _, ⟨_, rfl⟩, q⟩
end
section
variable {X : Cx}
end
theorem iter_any {prog : Program} {w : World} {A : Around} {E : Value → Shared → Prop} {s : Shared} {l : Addr} {items : Array Value} {Q : Value → Shared → Prop} (hl : s.heap.IsList l items)
    (h : ∀ s₂ : Shared, s₂ = { s with heap := s.heap.push { cls := .type "list_iterator", data := .fields #[.ref l, .int 0 0] } } →
      (s₂.heap.IsListIter s.heap.objs.size l 0 ∧ s₂.heap.IsList l items) → l ≠ s.heap.objs.size → Q (.ref s.heap.objs.size) s₂) : wpAny (model prog w) A (pyIter (.ref l)) Q E s := by
  have hlt : l < s.heap.objs.size := by obtain ⟨_, e, _⟩ := hl; exact Heap.lt_size e
  exact wpAny_pyIter_list hl (h _ rfl ⟨⟨_, Heap.get?_push_size _ rfl, rfl, rfl⟩, hl.push _⟩ (Nat.ne_of_lt hlt))
theorem truth_bools {prog : Program} {w : World} {A : Around} {bs : List Bool} {its : List Value} (e : its = bs.map Value.bool) :
    TruthOf prog w A (fun i v => its.toArray[i]? = some v) (fun i => bs.getD i false) := fun i v s Q E hv hq => by
  have hv' : its[i]? = some v := by simpa using hv
  rw [e, List.getElem?_map] at hv'
  obtain ⟨b, hb, rfl⟩ := Option.map_eq_some_iff.mp hv'
  have hg : bs.getD i false = b := by rw [List.getD_eq_getElem?_getD, hb] <;> rfl
  have hq' : Q (bs.getD i false) s := hq
  rw [hg] at hq'
  exact wpAny_truthy_bool hq'
theorem all_range : ∀ bs : List Bool, (List.range bs.length).all (fun i => bs.getD i false) = bs.all id
  | [] => rfl
  | b :: bs => by
    rw [List.length_cons, List.range_succ_eq_map, List.all_cons, List.all_map, List.all_cons, ← all_range bs]
    all_goals rfl
section
variable {X : Cx}
def rAll (K : PySem.W.Frag) : List V → Hp → VK → Prop := fun vs H Q => ∃ (a : Addr) (bs : List Bool), vs = [V.ref a] ∧ SqL K H a (bs.map V.bl) ∧ Q (.bl (bs.all id)) H
theorem cr_all (hc : X.calm = true) : CallR X (.builtin "all") (rAll X.K) := by
  intro pins s σ H vs us Q I r h
  obtain ⟨a, bs, rfl, hs, q⟩ := h
  obtain ⟨its, rv, hl, _⟩ := I.list hs
  rw [Vals.ref1 r]
  have hb := rv.bls
  refine call_all_walk (iter_any hl.isList fun s₂ e2 st hne => ?_)
  subst e2
  refine ⟨_, _, _, _, _, _, _, rfl, Walks.list (A := X.A.in1) (I.ok.hd hc) _ a hne its.toArray, st, truth_bools hb, fun h' tk hk => ?_⟩
  refine ⟨.bl _, H, I.kept fun b o eo => hk b o (fun hmem => ?_) (Heap.get?_push_of_some _ eo), ?_, q⟩
  · rcases List.mem_cons.mp hmem with e1 | hmem
    · exact absurd (e1 ▸ Heap.lt_size eo) (Nat.lt_irrefl _)
    · cases hmem
  · show Value.bool _ = Value.bool _
    rw [← all_range, hb, List.size_toArray, List.length_map]
end
mutual
inductive Dp (K : PySem.W.Frag) (H : Hp) : V → PyData → Prop
  | non : Dp K H .non .none
  | bl (b : Bool) : Dp K H (.bl b) (.bool b)
  | int (i : Int) : Dp K H (.int i) (.int i)
  | str (x : Str) : Dp K H (.str x) (.str x)
  | lst {a : Addr} {xs : List V} {ds : List PyData} : SqL K H a xs → DpAll K H xs ds → Dp K H (.ref a) (.list ds)
  | tup {a : Addr} {xs : List V} {ds : List PyData} : SqT K H a xs → DpAll K H xs ds → Dp K H (.ref a) (.tuple ds)
inductive DpAll (K : PySem.W.Frag) (H : Hp) : List V → List PyData → Prop
  | nil : DpAll K H [] []
  | cons {v : V} {vs : List V} {d : PyData} {ds : List PyData} : Dp K H v d → DpAll K H vs ds → DpAll K H (v :: vs) (d :: ds)
end
section
variable {X : Cx} {pins : List (Addr × Obj)} {σ : St} {H : Hp} {s : Shared}
mutual
theorem Dp.reads (I : Inv X pins σ H s) : ∀ (d : PyData) (v : V) (u : Value), Dp X.K H v d → RelV v u → ∃ as, Reads s.heap u d as
  | .none, _, _, h, r => by
    cases h
    cases r
    exact ⟨_, Reads.none⟩
  | .bool b, _, _, h, r => by
    cases h
    cases r
    exact ⟨_, Reads.bool b⟩
  | .int i, _, _, h, r => by
    cases h
    obtain ⟨t, rfl⟩ := r
    exact ⟨_, Reads.int i t⟩
  | .str x, _, _, h, r => by
    cases h
    obtain ⟨t, rfl⟩ := r
    exact ⟨_, Reads.str x t⟩
  | .list ds, _, _, h, r => by
    cases h with
    | lst hs ha =>
      cases r
      obtain ⟨its, rv, ⟨o, n, ho, hc, _, hd⟩, _⟩ := I.list hs
      obtain ⟨as, hr⟩ := Dp.readsAll I ds _ its ha rv
      exact ⟨_, Reads.list ho hc hd hr⟩
  | .tuple ds, _, _, h, r => by
    cases h with
    | tup hs ha =>
      cases r
      obtain ⟨its, rv, ⟨o, ho, hc, n, hd⟩, _⟩ := I.tuple hs
      obtain ⟨as, hr⟩ := Dp.readsAll I ds _ its ha rv
      exact ⟨_, Reads.tuple ho hc hd hr⟩
  | .dict _, _, _, h, _ => by cases h
theorem Dp.readsAll (I : Inv X pins σ H s) : ∀ (ds : List PyData) (vs : List V) (us : List Value), DpAll X.K H vs ds → Vals vs us → ∃ as, ReadsAll s.heap us ds as
  | [], _, _, h, r => by
    cases h
    cases r
    exact ⟨_, ReadsAll.nil⟩
  | d :: ds, _, _, h, r => by
    cases h with
    | cons h1 h2 =>
      cases r with
      | cons r1 r2 =>
        obtain ⟨as, q1⟩ := Dp.reads I d _ _ h1 r1
        obtain ⟨bs, q2⟩ := Dp.readsAll I ds _ _ h2 r2
        exact ⟨_, ReadsAll.cons q1 q2⟩
end
end
section
variable {X : Cx}
def rEqD (K : PySem.W.Frag) : R2 := fun x y H Q => ∃ d e, Dp K H x d ∧ Dp K H y e ∧ SeqAt.shaped d = true ∧ SeqAt.shaped e = true ∧ Q (.bl (PyData.eqv d e)) H
theorem op_eqD (hu : X.A.units + 64 < cLine) : OpR X (compareOp .Eq) (rEqD X.K) := by
  intro pins s σ H x y v u Q I rx ry h
  obtain ⟨d, e, hd, he, sd, se, q⟩ := h
  obtain ⟨as, r1⟩ := Dp.reads I d x v hd rx
  obtain ⟨bs, r2⟩ := Dp.reads I e y u he ry
  exact SeqAt.compareEq_shaped r1 r2 sd se hu ⟨.bl _, H, I, rfl, q⟩
end
end L2
namespace L2
open PySem PySem.Spec PyProof.Rows
abbrev CellAt (h : Heap) (c : Addr) (v : Option Value) : Prop := h.IsCell c v
def relS (scope sc : Scope) : Scope :=
  { scope with names := scope.names.map fun (n, k) => if (k == .free && sc.kind == .function && sc.names.lookup n == some .cell) then (n, .cell) else (n, k) }
def cloFrom (cells : List (Str × Addr)) : List (Str × NameKind) → List (Str × Addr) → List (Str × Addr)
  | [], acc => acc
  | (n, k) :: r, acc => if k == .free then cloFrom cells r ((n, (cells.lookup n).getD 0) :: acc) else cloFrom cells r acc
theorem closure_loop (env : Env) (f : Str × NameKind → List (Str × Addr) → Sem (ForInStep (List (Str × Addr))))
    (hf : ∀ n k c, f (n, k) c = if k == .free then (do let a ← cellOf env n; pure (.yield ((n, a) :: c))) else pure (.yield c)) :
    ∀ (names : List (Str × NameKind)) (acc : List (Str × Addr)), (∀ y ∈ names, y.2 = .free → ∃ c, env.cells.lookup y.1 = some c) → forIn names acc f = pure (cloFrom env.cells names acc)
  | [], acc, _ => by rw [List.forIn_nil]; rfl
  | (n, k) :: r, acc, h => by
    rw [List.forIn_cons, hf]
    have ih := fun acc => closure_loop env f hf r acc fun y hy => h y (List.mem_cons_of_mem _ hy)
    unfold cloFrom
    by_cases hk : (k == NameKind.free) = true
    · rw [if_pos hk, if_pos hk]
      obtain ⟨c, hc⟩ := h (n, k) List.mem_cons_self (by simpa using hk)
      have e : cellOf env n = pure c := by unfold cellOf; rw [hc]
      rw [e]
      have e2 : (env.cells.lookup n).getD 0 = c := by rw [hc]; rfl
      rw [e2]
      exact ih _
    · rw [if_neg hk, if_neg hk]
      exact ih _
theorem closure_ok {scope : Scope} {env : Env} (h : ∀ y ∈ scope.names, y.2 = .free → ∃ c, env.cells.lookup y.1 = some c) : closureFor scope env = pure (cloFrom env.cells scope.names []) := by
  simp only [closureFor]
  rw [closure_loop env _ (fun n k c => rfl) scope.names [] h]
  rfl
theorem mem_lookup {α : Type} : ∀ {l : List (Str × α)} {n : Str} {c : α}, (n, c) ∈ l → ∃ c', l.lookup n = some c'
  | (k, v) :: r, n, c, h => by
    rw [List.lookup_cons]
    cases hb : n == k with
    | true => exact ⟨_, rfl⟩
    | false =>
      rcases List.mem_cons.mp h with e | h
      · cases e; simp at hb
      · exact mem_lookup h
theorem cloFrom_mem {cells : List (Str × Addr)} : ∀ {names : List (Str × NameKind)} {acc : List (Str × Addr)} {n : Str} {c : Addr}, (n, c) ∈ cloFrom cells names acc → (n, c) ∈ acc ∨ ((n, .free) ∈ names ∧ c = (cells.lookup n).getD 0)
  | [], _, _, _, h => .inl h
  | (m, k) :: r, acc, n, c, h => by
    unfold cloFrom at h
    split at h
    · rename_i hk
      have hk : k = .free := by simpa using hk
      rcases cloFrom_mem h with h | ⟨h1, h2⟩
      · rcases List.mem_cons.mp h with e | h
        · cases e; exact .inr ⟨hk ▸ List.mem_cons_self, rfl⟩
        · exact .inl h
      · exact .inr ⟨List.mem_cons_of_mem _ h1, h2⟩
    · rcases cloFrom_mem h with h | ⟨h1, h2⟩
      · exact .inl h
      · exact .inr ⟨List.mem_cons_of_mem _ h1, h2⟩
theorem cloFrom_acc {cells : List (Str × Addr)} : ∀ {names : List (Str × NameKind)} {acc : List (Str × Addr)} {p : Str × Addr}, p ∈ acc → p ∈ cloFrom cells names acc
  | [], _, _, h => h
  | (m, k) :: r, acc, p, h => by
    unfold cloFrom
    split
    · exact cloFrom_acc (List.mem_cons_of_mem _ h)
    · exact cloFrom_acc h
theorem cloFrom_has {cells : List (Str × Addr)} : ∀ {names : List (Str × NameKind)} {acc : List (Str × Addr)} {n : Str}, (n, .free) ∈ names → (n, (cells.lookup n).getD 0) ∈ cloFrom cells names acc
  | (m, k) :: r, acc, n, h => by
    unfold cloFrom
    rcases List.mem_cons.mp h with e | h
    · cases e
      exact cloFrom_acc List.mem_cons_self
    · split
      · exact cloFrom_has h
      · exact cloFrom_has h
theorem cells_mem : ∀ {names : List (Str × NameKind)} {h : Heap} {acc : List (Str × Addr)} {x : Str} {c : Addr}, (x, c) ∈ cellsFrom h.objs.size names acc →
    (x, c) ∈ acc ∨ ((x, .cell) ∈ names ∧ h.objs.size ≤ c ∧ CellAt (pushCells h names) c none)
  | [], _, _, _, _, h => .inl h
  | (n, k) :: r, h, acc, x, c, hm => by
    unfold cellsFrom at hm
    unfold pushCells
    split at hm
    · rename_i hk
      rw [if_pos hk]
      have hk : k = .cell := by simpa using hk
      rw [← Heap.size_push h { cls := .type "cell", data := .cell none }] at hm
      rcases cells_mem hm with hm | ⟨h1, h2, h3⟩
      · rcases List.mem_cons.mp hm with e | hm
        · cases e
          exact .inr ⟨hk ▸ List.mem_cons_self, Nat.le_refl _, _, pushCells_keeps r _ _ _ (Heap.get?_push_size _ rfl), rfl⟩
        · exact .inl hm
      · rw [Heap.size_push] at h2
        exact .inr ⟨List.mem_cons_of_mem _ h1, Nat.le_of_succ_le h2, h3⟩
    · rename_i hk
      rw [if_neg hk]
      rcases cells_mem hm with hm | ⟨h1, h2, h3⟩
      · exact .inl hm
      · exact .inr ⟨List.mem_cons_of_mem _ h1, h2, h3⟩
theorem cells_acc : ∀ {names : List (Str × NameKind)} {n : Nat} {acc : List (Str × Addr)} {p : Str × Addr}, p ∈ acc → p ∈ cellsFrom n names acc
  | [], _, _, _, h => h
  | (m, k) :: r, n, acc, p, h => by
    unfold cellsFrom
    split
    · exact cells_acc (List.mem_cons_of_mem _ h)
    · exact cells_acc h
theorem cells_has : ∀ {names : List (Str × NameKind)} {n : Nat} {acc : List (Str × Addr)} {x : Str}, (x, .cell) ∈ names → ∃ c, (x, c) ∈ cellsFrom n names acc
  | (m, k) :: r, n, acc, x, h => by
    unfold cellsFrom
    rcases List.mem_cons.mp h with e | h
    · cases e
      exact ⟨n, cells_acc List.mem_cons_self⟩
    · split
      · exact cells_has h
      · exact cells_has h
theorem cells_inj : ∀ {names : List (Str × NameKind)} {h : Heap} {acc : List (Str × Addr)} {x y : Str} {c : Addr}, (∀ p ∈ acc, p.2 < h.objs.size) → (∀ x y c, (x, c) ∈ acc → (y, c) ∈ acc → x = y) →
    (x, c) ∈ cellsFrom h.objs.size names acc → (y, c) ∈ cellsFrom h.objs.size names acc → x = y
  | [], _, _, _, _, _, _, hi, h1, h2 => hi _ _ _ h1 h2
  | (n, k) :: r, h, acc, x, y, c, hl, hi, h1, h2 => by
    unfold cellsFrom at h1 h2
    split at h1
    · rename_i hk
      rw [if_pos hk] at h2
      rw [← Heap.size_push h { cls := .type "cell", data := .cell none }] at h1 h2
      refine cells_inj (h := h.push _) (fun p hp => ?_) (fun x y c a b => ?_) h1 h2
      · rw [Heap.size_push]
        rcases List.mem_cons.mp hp with rfl | hp
        · exact Nat.lt_succ_self _
        · exact Nat.lt_succ_of_lt (hl p hp)
      · rcases List.mem_cons.mp a with e | a <;> rcases List.mem_cons.mp b with e' | b
        · cases e; cases e'; rfl
        · cases e; exact absurd (hl _ b) (Nat.lt_irrefl _)
        · cases e'; exact absurd (hl _ a) (Nat.lt_irrefl _)
        · exact hi _ _ _ a b
    · rename_i hk
      rw [if_neg hk] at h2
      exact cells_inj hl hi h1 h2
theorem newEnv_comp {M : Model} {A : Around} {E : Value → Shared → Prop} {s : Shared} {scope : Scope} {globals : Addr} {closure : List (Str × Addr)} {qual : Str} {func : Option Addr} {code : Value} {around : Env} {builtins : Addr} {Q : Env → Shared → Prop}
    (h : Q (newEnv scope s.heap.objs.size globals (cellsFrom (s.heap.objs.size + 1) scope.names closure) qual func code (some around) builtins)
      { s with heap := pushCells (s.heap.push { cls := .type "dict", data := .dict #[] }) scope.names }) :
    wpAny M A (newFunctionEnv scope globals closure [] qual func code (some around) builtins) Q E s := by
  simp only [newFunctionEnv, Option.isSome_some, if_true]
  refine wpAny_bind (wpAny_alloc ?_)
  refine wpAny_bind (wpAny_layCells _ (fun n k c => rfl) scope.names closure _ _ ?_)
  rw [show ({ s with heap := s.heap.push { cls := .type "dict", data := .dict #[] } } : Shared).heap.objs.size = s.heap.objs.size + 1 from Heap.size_push ..]
  rw [List.forIn_nil]
  exact wpAny_bind (wpAny_pure (wpAny_pure h))
/-- every name of the written scope, in the scope that runs -/
theorem lookup_relS {sc : Scope} : ∀ {names : List (Str × NameKind)} {x : Str} {k : NameKind},
    (names.map fun (n, k) => if (k == NameKind.free && sc.kind == .function && sc.names.lookup n == some .cell) then (n, NameKind.cell) else (n, k)).lookup x = some k →
    ∃ k', names.lookup x = some k' ∧ (k = k' ∨ (k' = .free ∧ k = .cell))
  | [], _, _, h => by simp at h
  | (n, k₀) :: r, x, k, h => by
    have ih := @lookup_relS sc r x k
    have h' : List.lookup x ((if (k₀ == NameKind.free && sc.kind == .function && sc.names.lookup n == some .cell) = true then (n, NameKind.cell) else (n, k₀)) :: (r.map _)) = some k := h
    cases hx : x == n with
    | true =>
      simp only [List.lookup_cons, hx]
      by_cases hc : (k₀ == NameKind.free && sc.kind == .function && sc.names.lookup n == some .cell) = true
      · rw [if_pos hc] at h'
        simp only [List.lookup_cons, hx] at h'
        cases h'
        simp only [Bool.and_eq_true, beq_iff_eq] at hc
        exact ⟨k₀, rfl, .inr ⟨hc.1.1, rfl⟩⟩
      · rw [if_neg hc] at h'
        simp only [List.lookup_cons, hx] at h'
        cases h'
        exact ⟨_, rfl, .inl rfl⟩
    | false =>
      simp only [List.lookup_cons, hx]
      by_cases hc : (k₀ == NameKind.free && sc.kind == .function && sc.names.lookup n == some .cell) = true
      · rw [if_pos hc] at h'
        simp only [List.lookup_cons, hx] at h'
        exact ih h'
      · rw [if_neg hc] at h'
        simp only [List.lookup_cons, hx] at h'
        exact ih h'
/-- the names of a comprehension's block: its own (with their places in N), or captured -/
structure BlkOk (N : List Str) (sc scope : Scope) (own : List (Str × Nat)) : Prop where
  kind : scope.kind = .function
  uniq : ∀ y ∈ scope.names, scope.names.lookup y.1 = some y.2
  ix : ∀ p ∈ own, N[p.2]? = some p.1
  free : ∀ y ∈ scope.names, y.2 = .free → sc.names.lookup y.1 = some .cell ∨ sc.names.lookup y.1 = some .free
  own : ∀ y ∈ scope.names, y.2 = .local ∨ y.2 = .cell → y.1 ∈ own.map (·.1) ∨ y.1 ∉ N
/-- the slots of the block's own names forgotten -/
def wipe (σ : St) : List Nat → St
  | [] => σ
  | v :: vs => (wipe σ vs).set v none
theorem wipe_length (σ : St) : ∀ vs : List Nat, (wipe σ vs).length = σ.length
  | [] => rfl
  | v :: vs => by unfold wipe; rw [List.length_set, wipe_length σ vs]
theorem wipe_some {σ : St} {i : Nat} {x : V} : ∀ {vs : List Nat}, (wipe σ vs)[i]? = some (some x) → σ[i]? = some (some x) ∧ i ∉ vs
  | [], h => ⟨h, by simp⟩
  | v :: vs, h => by
    unfold wipe at h
    by_cases hi : v = i
    · subst hi
      by_cases hv : v < (wipe σ vs).length
      · rw [List.getElem?_set_self hv] at h; cases h
      · rw [List.getElem?_eq_none (by simpa using hv)] at h; cases h
    · rw [List.getElem?_set_ne hi] at h
      obtain ⟨h1, h2⟩ := wipe_some h
      exact ⟨h1, by simp only [List.mem_cons, not_or]; exact ⟨fun e => hi e.symm, h2⟩⟩
/-- the context of a block that starts at s, its iterator's objects at fp -/
abbrev Cx.blk (X : Cx) (s : Shared) (H : Hp) (scope : Scope) (cenv : Env) (fp : List Addr) : Cx := { X with s_0 := s, H_0 := H, env := cenv, outer := X.stack, ex := fp, fn := fun x => scope.names.lookup x == some .cell, pn := [], xe := fun _ _ => False }
section
variable {X : Cx} {pins : List (Addr × Obj)} {σ : St} {H : Hp} {s : Shared}
theorem block_start {scope : Scope} {own : List (Str × Nat)} {fp : List Addr} (I : Inv X pins σ H s) (ok : BlkOk X.N X.env.scope scope own) (hN : X.N.Nodup) (hfp : ∀ b ∈ fp, FpOk X pins H b ∧ b < s.heap.objs.size) :
    Inv (X.blk s H scope (compEnvC scope (cellsFrom (s.heap.objs.size + 1) scope.names (cloFrom X.env.cells scope.names [])) s.heap.objs.size X.env) fp) [] (wipe σ (own.map (·.2))) H { s with heap := pushCells (s.heap.push { cls := .type "dict", data := .dict #[] }) scope.names } := by
  have hfree : ∀ y ∈ scope.names, y.2 = .free → ∃ c, X.env.cells.lookup y.1 = some c := fun y hy e => by
    rcases ok.free y hy e with k | k
    · exact I.ok.has _ (.inl k)
    · exact I.ok.has _ (.inr k)
  generalize hcenv : compEnvC scope (cellsFrom (s.heap.objs.size + 1) scope.names (cloFrom X.env.cells scope.names [])) s.heap.objs.size X.env = cenv
  have kp : ∀ b o, s.heap.get? b = some o → (pushCells (s.heap.push { cls := .type "dict", data := .dict #[] }) scope.names).get? b = some o := fun b o e => pushCells_keeps _ _ _ _ (Heap.get?_push_of_some _ e)
  have hL : cenv.locals = s.heap.objs.size := by rw [← hcenv]; rfl
  have hcl : cenv.cells = cellsFrom (s.heap.objs.size + 1) scope.names (cloFrom X.env.cells scope.names []) := by rw [← hcenv]; rfl
  have hsc : cenv.scope = relS scope X.env.scope := by rw [← hcenv]; rfl
  rw [← Heap.size_push s.heap { cls := .type "dict", data := .dict #[] }] at hcl
  have cm : ∀ {y c}, (y, c) ∈ cloFrom X.env.cells scope.names [] → X.env.cells.lookup y = some c ∧ c < s.heap.objs.size := fun {y c} hm => by
    rcases cloFrom_mem hm with hm | ⟨h1, rfl⟩
    · cases hm
    · obtain ⟨c, hc⟩ := hfree _ h1 rfl
      rw [hc]
      obtain ⟨w, z⟩ := I.cell _ _ hc
      exact ⟨rfl, z.lt⟩
  have mem : ∀ {y c}, cenv.cells.lookup y = some c → (X.env.cells.lookup y = some c ∧ c < s.heap.objs.size) ∨ (s.heap.objs.size + 1 ≤ c ∧ CellAt (pushCells (s.heap.push { cls := .type "dict", data := .dict #[] }) scope.names) c none) := fun {y c} e => by
    rw [hcl] at e
    rcases cells_mem (PySem.mem_of_lookup e) with hm | ⟨_, h2, h3⟩
    · exact .inl (cm hm)
    · rw [Heap.size_push] at h2; exact .inr ⟨h2, h3⟩
  have look : ∀ {y}, scope.names.lookup y = some .free → ∃ c, cenv.cells.lookup y = some c ∧ X.env.cells.lookup y = some c := fun {y} hl => by
    have hy : (y, NameKind.free) ∈ scope.names := PySem.mem_of_lookup hl
    obtain ⟨c', e'⟩ := mem_lookup (cells_acc (names := scope.names) (n := (s.heap.push { cls := .type "dict", data := .dict #[] }).objs.size) (cloFrom_has (cells := X.env.cells) (acc := []) hy))
    rw [← hcl] at e'
    refine ⟨c', e', ?_⟩
    rw [hcl] at e'
    rcases cells_mem (PySem.mem_of_lookup e') with hm | ⟨h1, _, _⟩
    · exact (cm hm).1
    · have := ok.uniq _ h1
      rw [hl] at this; cases this
  have okB : (X.blk s H scope cenv fp).Ok := by
    refine ⟨I.ok.mod, by show cenv.scope.kind = _; rw [hsc]; exact ok.kind, by show cenv.globals = _; rw [← hcenv]; exact I.ok.glob, by show cenv.builtins = _; rw [← hcenv]; exact I.ok.blt, by show s.heap.objs.size ≤ cenv.locals; rw [hL]; exact Nat.le_refl _,
      fun y z c e1 e2 => ?_, fun y hy => ?_, fun y c z e => ?_, I.ok.hd, I.ok.frames, .inl rfl, fun b hb => ⟨?_, fun y c e z => ?_⟩, I.bs, Nat.le_trans I.ok.bsz I.sz, fun b o e hb => ?_, fun b hb z => ?_, I.stack, I.stkFree⟩
    · have e1 : cenv.cells.lookup y = some c := e1
      have e2 : cenv.cells.lookup z = some c := e2
      rw [hcl] at e1 e2
      refine cells_inj (fun p hp => ?_) (fun y z c a b => I.ok.inj y z c (cm a).1 (cm b).1) (PySem.mem_of_lookup e1) (PySem.mem_of_lookup e2)
      rw [Heap.size_push]
      exact Nat.lt_succ_of_lt (cm (y := p.1) (c := p.2) hp).2
    · show ∃ c, cenv.cells.lookup y = some c
      have key : ∀ k, cenv.kindOf y = some k → (k = .cell ∨ k = .free) → ∃ c, cenv.cells.lookup y = some c := fun k hk hk' => by
        unfold Env.kindOf at hk
        rw [hsc] at hk
        obtain ⟨k', e, r⟩ := lookup_relS hk
        have : k' = .cell ∨ k' = .free := by
          rcases r with rfl | ⟨rfl, _⟩
          · exact hk'
          · exact .inr rfl
        rcases this with rfl | rfl
        · obtain ⟨c, hm⟩ := cells_has (n := (s.heap.push { cls := .type "dict", data := .dict #[] }).objs.size) (acc := cloFrom X.env.cells scope.names []) (PySem.mem_of_lookup e)
          obtain ⟨c', e'⟩ := mem_lookup hm
          exact ⟨c', by rw [hcl]; exact e'⟩
        · obtain ⟨c, h1, _⟩ := look e
          exact ⟨c, h1⟩
      rcases hy with hy | hy
      · exact key _ hy (.inl rfl)
      · exact key _ hy (.inr rfl)
    · have z : (scope.names.lookup y == some NameKind.cell) = true := z
      have z : scope.names.lookup y = some .cell := by simpa using z
      have e : cenv.cells.lookup y = some c := e
      rw [hcl] at e
      rcases cells_mem (PySem.mem_of_lookup e) with hm | ⟨_, h2, _⟩
      · rcases cloFrom_mem hm with hm | ⟨h1, _⟩
        · cases hm
        · have q := ok.uniq _ h1
          rw [z] at q; cases q
      · rw [Heap.size_push] at h2
        exact Nat.le_of_succ_le h2
    · show b ≠ cenv.locals
      rw [hL]; exact Nat.ne_of_lt (hfp b hb).2
    · have e : cenv.cells.lookup y = some c := e
      rcases mem e with ⟨h1, _⟩ | ⟨h1, _⟩
      · exact (hfp b hb).1.2.2.2.2.1 y c h1 z
      · have h2 : s.heap.objs.size + 1 ≤ b := by rw [← z]; exact h1
        exact absurd (Nat.lt_of_lt_of_le (hfp b hb).2 (Nat.le_of_succ_le h2)) (Nat.lt_irrefl _)
    · rcases (hfp b hb).1.2.2.2.1 with z | z
      · exact I.ok.noex b o e z
      · exact absurd (Nat.lt_of_lt_of_le (Heap.lt_size e) (Nat.le_trans I.ok.bsz z)) (Nat.lt_irrefl _)
    · rcases List.mem_cons.mp (I.stkSub b z) with z | z
      · exact (hfp b hb).1.2.1 z
      · exact (hfp b hb).1.2.2.1 z
  refine ⟨okB, rfl, I.bare, Un.kept kp, ⟨fun _ => none, ?_, fun i y av e1 e2 e3 => ?_⟩, fun y c e => ?_, ?_, fun y c e => ?_, fun p hp => ?_, I.hok.kept kp, by rw [wipe_length]; exact I.len⟩
  · show Heap.Ns _ cenv.locals _
    rw [hL]
    exact Heap.Ns.keeps (Heap.Ns.new ..) fun b o e => pushCells_keeps _ _ _ _ e
  · obtain ⟨e2, hne⟩ := wipe_some e2
    have hfr : scope.names.lookup y = some .free ∧ (cenv.kindOf y = some .cell ∨ cenv.kindOf y = some .free) := by
      have key : ∀ k, cenv.scope.names.lookup y = some k → k = .local ∨ k = .cell ∨ k = .free → scope.names.lookup y = some .free ∧ (cenv.kindOf y = some .cell ∨ cenv.kindOf y = some .free) := fun k hk hk' => by
        have hk0 := hk
        rw [hsc] at hk
        obtain ⟨k', e, r⟩ := lookup_relS hk
        have no : ¬ (k' = .local ∨ k' = .cell) := fun hh => by
          rcases ok.own _ (PySem.mem_of_lookup e) hh with e' | e'
          · obtain ⟨p, hp, hpy⟩ := List.mem_map.mp e'
            have e3 := ok.ix p hp
            have : p.1 = y := hpy
            rw [this] at e3
            exact hne (List.mem_map.mpr ⟨p, hp, nodup_ix hN e3 e1⟩)
          · exact e' (List.mem_of_getElem? e1)
        rcases r with rfl | ⟨rfl, rfl⟩
        · rcases hk' with rfl | rfl | rfl
          · exact absurd (.inl rfl) no
          · exact absurd (.inr rfl) no
          · exact ⟨e, .inr hk0⟩
        · exact ⟨e, .inl hk0⟩
      have e3 : Vis cenv.scope y := e3
      rcases e3 with e3 | e3 | e3
      · exact key _ e3 (.inl rfl)
      · exact key _ e3 (.inr (.inl rfl))
      · exact key _ e3 (.inr (.inr rfl))
    obtain ⟨m, hn, hl⟩ := I.loc
    have hvis : Vis X.env.scope y := (ok.free _ (PySem.mem_of_lookup hfr.1) rfl).elim (fun k => .inr (.inl k)) (fun k => .inr (.inr k))
    obtain ⟨w, r, q⟩ := hl i y av e1 e2 hvis
    refine ⟨w, r, .inr ⟨hfr.2, ?_⟩⟩
    obtain ⟨c, h1, h2⟩ := look hfr.1
    rcases q with ⟨k, _⟩ | ⟨_, c', e', z⟩
    · have k : X.env.scope.names.lookup y = some .local := k
      rcases ok.free _ (PySem.mem_of_lookup hfr.1) rfl with k' | k' <;> rw [show X.env.scope.names.lookup y = _ from k'] at k <;> cases k
    · rw [h2] at e'; cases e'
      exact ⟨c, h1, z.keeps kp⟩
  · have e : cenv.cells.lookup y = some c := e
    rcases mem e with ⟨h1, _⟩ | ⟨_, z⟩
    · obtain ⟨w, z⟩ := I.cell y c h1
      exact ⟨w, z.keeps kp⟩
    · exact ⟨_, z⟩
  · show H cenv.locals = none
    rw [hL]; exact I.hok.fresh (Nat.le_refl _)
  · have e : cenv.cells.lookup y = some c := e
    rcases mem e with ⟨h1, _⟩ | ⟨h1, _⟩
    · exact I.freeC y c h1
    · exact I.hok.fresh (Nat.le_of_succ_le h1)
  · exact absurd (show p ∈ ([] : List (Addr × Obj)) ++ [] from hp) (by simp)
/-- an item appended to a tracked list -/
theorem app_ok {E : Value → Shared → Prop} {D : Addr} {xs : List V} {y : V} {v : Value} {Q : Value → Shared → Prop} (I : Inv X pins σ H s) (hD : H D = some (.lst xs)) (hz : xs.length < sizeLine) (r : RelV y v)
    (h : ∀ s', Inv X pins σ (upd H D (.lst (xs ++ [y]))) s' → Q .none s') : wpAny (model X.prog X.w) X.A (call (.builtin "list.append") [.ref D, v]) Q E s := by
  obtain ⟨hz', its, n, ri, e⟩ := I.hok D _ hD
  have hl := ri.length
  refine append_at (hsz := by rw [List.size_toArray]; omega) e fun h' sb ho' => ?_
  refine h { s with heap := h' } (I.write (t' := s.toks) (by rw [hD]; trivial) (.inl rfl) (fun b u hb q => (sb.2 b hb).trans q) ⟨_, ho'⟩ ⟨by rw [List.length_append]; exact hz, its ++ [v], n + 1, ri.append (.cons r .nil), ?_⟩)
  rw [ho']
  simp
/-- a clause's tests -/
def PTs (X : Cx) (ifs : List Expr) (t : TT) : Prop :=
  ∀ (pins : List (Addr × Obj)) (s : Shared) (σ : St) (H : Hp) (Q : Bool → Hp → Prop), Inv X pins σ H s → t σ H Q →
    wpAny (model X.prog X.w) X.A (forIn ifs true fun c r => if r = true then do let ok ← isTrue c X.env (eval c X.env); pure (ForInStep.yield ok) else pure (ForInStep.yield r)) (TP X pins σ Q) X.xe s
def tYes : TT := fun _ H Q => Q true H
theorem pts_nil : PTs X [] tYes := fun _ _ _ H _ I h => wpAny_tests_nil ⟨H, I, h⟩
theorem pts_one {c : Expr} {t : TT} (h : PT X c t) : PTs X [c] t := fun pins s σ H Q I hw => wpAny_tests_one (h pins s σ H Q I hw)
end
theorem thnF {α : Type} {t : Sem α} {Q Q' : α → Shared → Prop} {M : Model} {A : Around} {E : Value → Shared → Prop} {s : Shared} (h : wpAny M A t Q (fun _ _ => False) s) (hQ : ∀ a s, Q a s → Q' a s) : wpAny M A t Q' E s := wpAny_mono h hQ fun _ _ z => False.elim z
/-- the loop of a list comprehension's block, the target of any form (codeAny_compLoop_tests asks a target that no tuple goes to; statement and proof follow it, PyProof/CompMap.lean:41-61, with the step letOwnedTupleGo kept) -/
theorem compLoop_any {prog : Program} {w : World} {A : Around} {R : Result → Shared → Prop} {s : Shared} {elt target iter : Expr} {ifs : List Expr} {scope : Scope} {pos : Pos} {it acc : Value} {env : Env} (I : Nat → Shared → Prop)
    (turn : ∀ n s, I n s → wpAny (model prog w) A (pyNext it) (fun r s₁ => match r with
      | none => R (.ok .next) s₁
      | some v => wpAny (model prog w) A (letOwnedTupleGo target it v) (fun _ s₁' => wpAny (model prog w) A (assign target env v) (fun _ s₂ =>
          wpAny (model prog w) A (forIn ifs true fun c r => if r = true then do let ok ← isTrue c env (eval c env); pure (ForInStep.yield ok) else pure (ForInStep.yield r)) (fun ok s₃ =>
            if ok = true then wpAny (model prog w) A (eval elt env) (fun x s₄ =>
              wpAny (model prog w) A (call (.builtin "list.append") [acc, x]) (fun _ s₅ => ∃ m, m < n ∧ I m s₅) (notedBy (model prog w) A env fun e s' => R (.error e) s') s₄) (notedBy (model prog w) A env fun e s' => R (.error e) s') s₃
            else ∃ m, m < n ∧ I m s₃) (notedBy (model prog w) A env fun e s' => R (.error e) s') s₂) (notedBy (model prog w) A env fun e s' => R (.error e) s') s₁') (notedBy (model prog w) A env fun e s' => R (.error e) s') s₁) (notedBy (model prog w) A env fun e s' => R (.error e) s') s)
    (n : Nat) (h : I n s) :
    codeAny (model prog w) A (.compLoop (.ListComp elt [⟨target, iter, ifs, 0⟩] scope pos) 0 it acc env) R s := by
  refine codeAny_loop rfl I (fun n s hI => ?_) n h
  show wpAny _ A ((compTurn (.ListComp elt [⟨target, iter, ifs, 0⟩] scope pos) 0 it acc env).onRaise (fun x => do noteFrame x env; theTreesLotGoes x)) _ _ s
  refine wpAny_noted ?_
  rw [compTurn_list]
  refine wpAny_bind (wpAny_standAt (wpAny_bind (wpAny_mono (turn n s hI) (fun r s₁ h₁ => ?_) fun _ _ h' => h')))
  cases r with
  | none => exact wpAny_pure h₁
  | some v =>
    refine wpAny_bind (wpAny_mono h₁ (fun _ s₁' h₁' => ?_) fun _ _ h' => h')
    refine wpAny_bind (wpAny_mono h₁' (fun _ s₂ h₂ => wpAny_bind (wpAny_mono h₂ (fun ok s₃ h₃ => ?_) fun _ _ h' => h')) fun _ _ h' => h')
    cases ok with
    | false => exact wpAny_pure ⟨rfl, h₃⟩
    | true =>
      exact wpAny_bind (wpAny_bind (wpAny_mono h₃ (fun x s₄ h₄ => wpAny_bind (wpAny_mono h₄ (fun _ s₅ h₅ => wpAny_pure (wpAny_pure ⟨rfl, h₅⟩)) fun _ _ h' => h')) fun _ _ h' => h'))
section
variable {X : Cx}
/-- [elt for target in iter if ..]: D the new list; W by the turn and a measure, Nx what a turn is to reach -/
def tLc (wi : TI) (g : TG) (tt : TT) (te : TE) (vs : List Nat) : TE := fun σ H Q => wi σ H fun J H1 => ∀ D, H1 D = none → ∃ W : Nat → Nat → Hp → Prop, (∃ m, W 0 m (upd H1 D (.lst []))) ∧ ∀ i m H, W i m H →
  (J.stop i H ∧ Q (.ref D) H) ∨ (J.go i H ∧ ∃ Nx : Hp → Prop, (∀ H', Nx H' → ∃ m', m' < m ∧ W (i + 1) m' H') ∧ ∀ x H', J.yld i H x H' → g x (wipe σ vs) H' fun σ2 H2 => wipe σ2 vs = wipe σ vs ∧ tt σ2 H2 fun b H3 =>
    if b = true then te σ2 H3 fun y H4 => ∃ acc, H4 D = some (.lst acc) ∧ acc.length < sizeLine ∧ Nx (upd H4 D (.lst (acc ++ [y]))) else Nx H3)
theorem lc_core {pins : List (Addr × Obj)} {s : Shared} {σ : St} {H : Hp} {Q : VK} {elt tg iter : Expr} {ifs : List Expr} {scope : Scope} {own : List (Str × Nat)} {pos pos' : Pos} {wi : TI} {g : TG} {tt : TT} {te : TE} {use : Option (Value → Sem Unit)} {Qf : Value → Shared → Prop}
    (hc : X.calm = true) (hN : X.N.Nodup) (I : Inv X pins σ H s) (hi : PI X tg iter wi) (ok : BlkOk X.N X.env.scope scope own)
    (hg : ∀ (s : Shared) (H : Hp) (C : Addr) (cl : List (Str × Addr)) (fp : List Addr), PG (X.blk s H scope (compEnvC scope cl C X.env) fp) tg g) (ht : ∀ (s : Shared) (H : Hp) (C : Addr) (cl : List (Str × Addr)) (fp : List Addr), PTs (X.blk s H scope (compEnvC scope cl C X.env) fp) ifs tt)
    (he : ∀ (s : Shared) (H : Hp) (C : Addr) (cl : List (Str × Addr)) (fp : List Addr), PE (X.blk s H scope (compEnvC scope cl C X.env) fp) elt te) (hs : ∀ x, foldedSetIterable iter X.env x = pure x)
    (h : tLc wi g tt te (own.map (·.2)) σ H Q)
    (hRR : ∀ D C s' m H', Inv X pins σ H' s' → Q (.ref D) H' → s'.heap.Ns C m → FpOk X pins H' C → compPost (model X.prog X.w) X.A X.xe use Qf (.ref D) C (.ok .next) s') :
    wpAny (model X.prog X.w) X.A (comprehension (.ListComp elt [⟨tg, iter, ifs, 0⟩] scope pos) scope X.env pos' (newList []) false (eval iter X.env) use) Qf X.xe s := by
  have hfree : ∀ y ∈ scope.names, y.2 = .free → ∃ c, X.env.cells.lookup y.1 = some c := fun y hy e => by
    rcases ok.free y hy e with k | k
    · exact I.ok.has _ (.inl k)
    · exact I.ok.has _ (.inr k)
  refine wpAny_comprehension_free (use := use) rfl hs (closure_ok hfree) ok.kind (fun y hy e => by rw [ok.uniq y hy, e])
    (thn (hi pins s σ H _ I h) fun xv s1 hx => thn hx fun itv s2 h2 => ?_)
  obtain ⟨it, fp, tn, J, H2, e, I2, T, st2, f2, q⟩ := h2
  subst e
  refine wpAny_newObj_type (newEnv_comp ?_) (by show 0 ≤ sizeLine; decide)
  generalize hD : s2.heap.objs.size = D
  have hDn : H2 D = none := I2.hok.fresh (Nat.le_of_eq hD)
  obtain ⟨W, ⟨m0, w0⟩, turn⟩ := q D hDn
  -- the new list
  generalize hs3 : ({ s2 with heap := s2.heap.push { cls := .type "list", data := .seq ([] : List Value).toArray } } : Shared) = s3
  have I3 : Inv X pins σ (upd H2 D (.lst [])) s3 := by
    rw [← hs3]
    refine I2.laid (t' := s2.toks) (fun b o e => Heap.get?_push_of_some _ e) (Nat.le_of_eq hD) ⟨Nat.zero_le _, [], 0, .nil, ?_⟩
    rw [← hD]
    exact Heap.get?_push_size _ rfl
  have h3 : s3.heap = s2.heap.push { cls := .type "list", data := .seq ([] : List Value).toArray } := by rw [← hs3]
  have sz : ∀ b ∈ fp, b < s2.heap.objs.size := fun b hb => by
    obtain ⟨o, e, _⟩ := T.obj _ _ st2 b hb
    exact Heap.lt_size e
  have f3 : ∀ b ∈ fp, FpOk X pins (upd H2 D (.lst [])) b ∧ b < s3.heap.objs.size := fun b hb => by
    have hlt := sz b hb
    refine ⟨⟨?_, (f2 b hb).2⟩, by rw [h3, Heap.size_push]; exact Nat.lt_succ_of_lt hlt⟩
    rw [upd_ne (by rw [← hD]; exact Nat.ne_of_lt hlt)]
    exact (f2 b hb).1
  have st3 : tn 0 s3.heap := T.keep _ _ _ st2 fun b _ o e => by rw [h3]; exact Heap.get?_push_of_some _ e
  have I4 := block_start I3 ok hN f3
  have pg := hg s3 (upd H2 D (.lst [])) s3.heap.objs.size (cellsFrom (s3.heap.objs.size + 1) scope.names (cloFrom X.env.cells scope.names [])) fp
  have pt := ht s3 (upd H2 D (.lst [])) s3.heap.objs.size (cellsFrom (s3.heap.objs.size + 1) scope.names (cloFrom X.env.cells scope.names [])) fp
  have pe := he s3 (upd H2 D (.lst [])) s3.heap.objs.size (cellsFrom (s3.heap.objs.size + 1) scope.names (cloFrom X.env.cells scope.names [])) fp
  show codeAny _ _ (.compStart (.ListComp elt [⟨tg, iter, ifs, 0⟩] scope pos) 0 (.ref it) (.ref D) (compEnvC scope (cellsFrom (s3.heap.objs.size + 1) scope.names (cloFrom X.env.cells scope.names [])) s3.heap.objs.size X.env)) (compPost (model X.prog X.w) X.A X.xe use Qf (.ref D) s3.heap.objs.size) { s3 with heap := pushCells (s3.heap.push { cls := .type "dict", data := .dict #[] }) scope.names }
  have nfp : ∀ b ∈ fp, (upd H2 D (.lst [])) b = none := fun b hb => (f3 b hb).1.1
  generalize hce : compEnvC scope (cellsFrom (s3.heap.objs.size + 1) scope.names (cloFrom X.env.cells scope.names [])) s3.heap.objs.size X.env = ce at I4 pg pt pe ⊢
  have cL : ce.locals = s3.heap.objs.size := by subst hce; rfl
  generalize hH3 : upd H2 D (.lst []) = H3 at I3 I4 pg pt pe w0 nfp f3
  generalize hs4 : ({ s3 with heap := pushCells (s3.heap.push { cls := .type "dict", data := .dict #[] }) scope.names } : Shared) = s4 at I4 ⊢
  have st4 : tn 0 s4.heap := T.keep _ _ _ st3 fun b _ o e => by rw [← hs4]; exact pushCells_keeps _ _ _ _ (Heap.get?_push_of_some _ e)
  have stat : ∀ {σ' : St} {H' : Hp} {s' : Shared}, Inv (X.blk s3 H3 scope ce fp) [] σ' H' s' → (∀ b ∈ fp, H' b = none) → ∀ b ∈ fp, FpOk (X.blk s3 H3 scope ce fp) [] H' b := fun {σ' H' s'} I' hn b hb =>
    ⟨hn b hb, (I'.ok.exf b hb).1, I'.ok.exfs b hb, .inl hb, fun x c e => (I'.ok.exf b hb).2 x c e, fun p hp => absurd (show p ∈ ([] : List (Addr × Obj)) ++ [] from hp) (by simp)⟩
  have loop : codeAny (model X.prog X.w) X.A (.compLoop (.ListComp elt [⟨tg, iter, ifs, 0⟩] scope pos) 0 (.ref it) (.ref D) ce) (compPost (model X.prog X.w) X.A X.xe use Qf (.ref D) s3.heap.objs.size) s4 := by
    refine compLoop_any (fun n s' => ∃ i H', Inv (X.blk s3 H3 scope ce fp) [] (wipe σ (own.map (·.2))) H' s' ∧ tn i s'.heap ∧ (∀ b ∈ fp, H' b = none) ∧ W i n H') ?_ m0 ⟨0, H3, I4, st4, nfp, w0⟩
    rintro n s5 ⟨i, H5, I5, st5, n5, w5⟩
    rcases turn i n H5 w5 with ⟨stop, qq⟩ | ⟨go, Nx, hNx, step⟩
    · have td := T.done (X.blk s3 H3 scope ce fp) rfl rfl rfl hc i [] s5 _ H5 (fun _ _ => False) I5 (stat I5 n5) st5 stop
      refine thnF td fun r s6 ⟨hr, I6⟩ => ?_
      subst hr
      -- back in the def's context
      have I7 : Inv X pins σ H5 s6 := I3.call' (ch := fp) I6.os I6.base I6.hok I6.bare fun b hb => ⟨(f3 b hb).1.2.2.2.1, (f3 b hb).1.2.1, (f3 b hb).1.2.2.2.2.1, (f3 b hb).1.2.2.2.2.2⟩
      have nC : H5 s3.heap.objs.size = none := by
        have z : H5 ce.locals = none := I6.free
        rw [cL] at z
        exact z
      obtain ⟨m, hn, _⟩ := I6.loc
      have hn : s6.heap.Ns ce.locals m := hn
      rw [cL] at hn
      exact hRR D s3.heap.objs.size s6 m H5 I7 qq hn (I3.fpOk (Nat.le_refl _) nC)
    · have ti := T.item (X.blk s3 H3 scope ce fp) rfl rfl rfl hc i [] s5 _ H5 (fun _ _ => False) I5 (stat I5 n5) st5 go
      refine thnF ti fun r s6 ⟨u, hr, h6⟩ => ?_
      subst hr
      refine thnF h6 fun _ s7 ⟨x, H7, I7, r7, y7, st7, n7⟩ => ?_
      have I7' := I7.pinned (stat I7 n7) (T.obj _ _ st7)
      refine thnF (pg _ s7 _ H7 x u _ I7' r7 (step x H7 y7)) fun _ s8 ⟨σ8, H8, I8, hw8, q8⟩ => ?_
      refine thnF (pt _ s8 σ8 H8 _ I8 q8) fun b s9 ⟨H9, I9, q9⟩ => ?_
      -- the turn's end
      have fin : ∀ {s' : Shared} {H' : Hp}, Inv (X.blk s3 H3 scope ce fp) ([] ++ pinsAt fp s7.heap) σ8 H' s' → Nx H' → ∃ m, m < n ∧ ∃ i H', Inv (X.blk s3 H3 scope ce fp) [] (wipe σ (own.map (·.2))) H' s' ∧ tn i s'.heap ∧ (∀ b ∈ fp, H' b = none) ∧ W i m H' := fun {s' H'} I' nx => by
        obtain ⟨m', hm, w'⟩ := hNx H' nx
        have pin' : ∀ b ∈ fp, ∀ o, s7.heap.get? b = some o → s'.heap.get? b = some o ∧ H' b = none := fun b hb o e =>
          let z := I'.pin (b, o) (List.mem_append_right _ (List.mem_append_right _ (mem_pinsAt hb e)))
          ⟨z.1, z.2.1⟩
        have hl : (wipe σ (own.map (·.2))).length = σ8.length := by rw [← hw8, wipe_length]
        refine ⟨m', hm, i + 1, H', (I'.unpinned (pins := [])).weak hl (fun j v e => ?_), T.keep _ _ _ st7 fun b hb o e => (pin' b hb o e).1, fun b hb => ?_, w'⟩
        · rw [← hw8] at e
          exact (wipe_some e).1
        · obtain ⟨o, e, _⟩ := T.obj _ _ st7 b hb
          exact (pin' b hb o e).2
      cases b with
      | false =>
        simp only [Bool.false_eq_true, if_false] at q9 ⊢
        exact fin I9 q9
      | true =>
        simp only [if_true] at q9 ⊢
        refine thnF (pe _ s9 σ8 H9 _ I9 q9) fun z s10 ⟨yv, H10, I10, r10, acc, hD10, hz10, nx⟩ => ?_
        exact app_ok (X := X.blk s3 H3 scope ce fp) I10 hD10 hz10 r10 fun s11 I11 => fin I11 nx
  exact codeAny_compStart_list loop (T.self X.A 0 _ _ _ st4 loop)
/-- as a value -/
theorem pe_lc {elt tg iter : Expr} {ifs : List Expr} {scope : Scope} {own : List (Str × Nat)} {pos : Pos} {wi : TI} {g : TG} {tt : TT} {te : TE} (hc : X.calm = true) (hN : X.N.Nodup) (hi : PI X tg iter wi) (ok : BlkOk X.N X.env.scope scope own)
    (hg : ∀ (s : Shared) (H : Hp) (C : Addr) (cl : List (Str × Addr)) (fp : List Addr), PG (X.blk s H scope (compEnvC scope cl C X.env) fp) tg g) (ht : ∀ (s : Shared) (H : Hp) (C : Addr) (cl : List (Str × Addr)) (fp : List Addr), PTs (X.blk s H scope (compEnvC scope cl C X.env) fp) ifs tt)
    (he : ∀ (s : Shared) (H : Hp) (C : Addr) (cl : List (Str × Addr)) (fp : List Addr), PE (X.blk s H scope (compEnvC scope cl C X.env) fp) elt te) (hs : ∀ x, foldedSetIterable iter X.env x = pure x := by intro _; rfl) :
    PE X (.ListComp elt [⟨tg, iter, ifs, 0⟩] scope pos) (tLc wi g tt te (own.map (·.2))) := by
  intro pins s σ H Q I h
  rw [eval_ListComp]
  refine lc_core hc hN I hi ok hg ht he hs h fun D C s' m H' I' q hn f => ⟨m, hn, fun h'' sb => ?_⟩
  obtain ⟨f0, f1, f2, f3, f4, f5⟩ := f
  exact ⟨.ref D, H', I'.turned (t' := s'.toks) (fun b o hb e => (sb.2 b hb).trans e) f0 f1 f3 f4 f5, rfl, q⟩
/-- name = [..] on one line, the name a local -/
theorem ps_setLc {i : Nat} {y : Str} {py : Pos} {elt tg iter : Expr} {ifs : List Expr} {scope : Scope} {own : List (Str × Nat)} {pos spos : Pos} {wi : TI} {g : TG} {tt : TT} {te : TE} (hc : X.calm = true) (hN : X.N.Nodup) (hy : X.N[i]? = some y) (hyl : X.env.scope.names.lookup y = some .local)
    (hsw : swapsWith (.ListComp elt [⟨tg, iter, ifs, 0⟩] scope pos) (some (.Name y py)) spos.line X.env = pure true) (hi : PI X tg iter wi) (ok : BlkOk X.N X.env.scope scope own)
    (hg : ∀ (s : Shared) (H : Hp) (C : Addr) (cl : List (Str × Addr)) (fp : List Addr), PG (X.blk s H scope (compEnvC scope cl C X.env) fp) tg g) (ht : ∀ (s : Shared) (H : Hp) (C : Addr) (cl : List (Str × Addr)) (fp : List Addr), PTs (X.blk s H scope (compEnvC scope cl C X.env) fp) ifs tt)
    (he : ∀ (s : Shared) (H : Hp) (C : Addr) (cl : List (Str × Addr)) (fp : List Addr), PE (X.blk s H scope (compEnvC scope cl C X.env) fp) elt te) (hs : ∀ x, foldedSetIterable iter X.env x = pure x := by intro _; rfl) :
    PS X (.Assign [.Name y py] (.ListComp elt [⟨tg, iter, ifs, 0⟩] scope pos) spos) (tAsg (tLc wi g tt te (own.map (·.2))) (gName i)) := by
  intro pins s σ H D I h
  rw [exec_Assign_Name_used _ _ _ _ hsw]
  refine wpAny_bind (wpAny_standAt (wpAny_bind ?_))
  show wpAny _ X.A (do let _ ← comprehension (.ListComp elt [⟨tg, iter, ifs, 0⟩] scope pos) scope X.env (firstIterPos [⟨tg, iter, ifs, 0⟩] pos) (newList []) false (eval iter X.env) (some (assign (.Name y py) X.env))) _ _ s
  have h : tLc wi g tt te (own.map (·.2)) σ H (fun x H1 => gName i x σ H1 D.nx) := h
  refine wpAny_bind (thn (lc_core (Qf := fun _ s' => SP X pins D .next s') hc hN I hi ok hg ht he hs h fun L C s' m H' I' q hn f => ?_) fun _ s' hq => wpAny_pure (wpAny_pure hq))
  show wpAny _ _ (assign (.Name y py) X.env (.ref L)) _ _ _
  refine wpAny_assign_Name (store_ok2 (v := V.ref L) I' hN hy (.inl hyl) rfl (fun s2 I2 ⟨a, sb, ha⟩ => ?_) (.inr hyl))
  obtain ⟨f0, f1, f2, f3, f4, f5⟩ := f
  have haC : C ≠ a := by
    rcases ha with z | z
    · rw [z]; exact f1
    · exact fun e => f4 y a z e.symm
  refine ⟨m, hn.sameBut sb haC, fun h3 sb3 => ?_⟩
  exact ⟨_, H', I2.turned (t' := s2.toks) (fun b o hb e => (sb3.2 b hb).trans e) f0 f1 f3 f4 f5, q⟩
theorem sw_true {elt : Expr} {gs : List Comprehension} {scope : Scope} {pos py : Pos} {y : Str} {l : Nat} {env : Env} (hk : env.scope.kind = .function) (hy : env.scope.names.lookup y = some .local) (hl : (py.line == pos.line) = true)
    (ha : (scope.names.any fun (n, k) => n == y && (k == .local || k == .cell)) = false) : swapsWith (.ListComp elt gs scope pos) (some (.Name y py)) l env = pure true := by
  have ky : env.kindOf y = some .local := hy
  have hb : env.blockKind = .function := by unfold Env.blockKind; rw [hk]; rfl
  unfold swapsWith
  simp only [hb, ky, ha, Expr.pos, hl]
  rfl
end
/-- over a range: Pv by the turn and the heap (the new list at D within) -/
theorem lc_range {lo : Int} {n : Nat} {g : TG} {tt : TT} {te : TE} {vs : List Nat} {σ : St} {H1 : Hp} {D : Addr} {Qd : Hp → Prop} (Pv : Nat → Hp → Prop) (h0 : Pv 0 (upd H1 D (.lst [])))
    (hs : ∀ i H, i < n → Pv i H → g (.int (lo + i)) (wipe σ vs) H fun σ2 H2 => wipe σ2 vs = wipe σ vs ∧ tt σ2 H2 fun b H3 =>
      if b = true then te σ2 H3 fun y H4 => ∃ acc, H4 D = some (.lst acc) ∧ acc.length < sizeLine ∧ Pv (i + 1) (upd H4 D (.lst (acc ++ [y]))) else Pv (i + 1) H3) (hd : ∀ H, Pv n H → Qd H) :
    ∃ W : Nat → Nat → Hp → Prop, (∃ m, W 0 m (upd H1 D (.lst []))) ∧ ∀ i m H, W i m H →
      ((Itr lo n).stop i H ∧ Qd H) ∨ ((Itr lo n).go i H ∧ ∃ Nx : Hp → Prop, (∀ H', Nx H' → ∃ m', m' < m ∧ W (i + 1) m' H') ∧ ∀ x H', (Itr lo n).yld i H x H' → g x (wipe σ vs) H' fun σ2 H2 => wipe σ2 vs = wipe σ vs ∧ tt σ2 H2 fun b H3 =>
        if b = true then te σ2 H3 fun y H4 => ∃ acc, H4 D = some (.lst acc) ∧ acc.length < sizeLine ∧ Nx (upd H4 D (.lst (acc ++ [y]))) else Nx H3) := by
  refine ⟨fun i m H => m = n - i ∧ i ≤ n ∧ Pv i H, ⟨n, by simp, Nat.zero_le _, h0⟩, ?_⟩
  rintro i m H ⟨rfl, hi, p⟩
  by_cases hlt : i < n
  · refine .inr ⟨hlt, Pv (i + 1), fun H' p' => ⟨n - (i + 1), by omega, rfl, hlt, p'⟩, fun x H' y => ?_⟩
    obtain ⟨e, y⟩ := y
    subst e y
    exact hs i _ hlt p
  · have e : i = n := by omega
    subst e
    exact .inl ⟨Nat.le_refl _, hd H p⟩
/-- over a list that the block leaves as it is -/
theorem lc_list {K : PySem.W.Frag} {a : Addr} {xs : List V} {g : TG} {tt : TT} {te : TE} {vs : List Nat} {σ : St} {H1 : Hp} {D : Addr} {Qd : Hp → Prop} (Pv : Nat → Hp → Prop) (h0 : Pv 0 (upd H1 D (.lst []))) (hl : ∀ i H, i ≤ xs.length → Pv i H → SqL K H a xs)
    (hs : ∀ i x H, xs[i]? = some x → Pv i H → g x (wipe σ vs) H fun σ2 H2 => wipe σ2 vs = wipe σ vs ∧ tt σ2 H2 fun b H3 =>
      if b = true then te σ2 H3 fun y H4 => ∃ acc, H4 D = some (.lst acc) ∧ acc.length < sizeLine ∧ Pv (i + 1) (upd H4 D (.lst (acc ++ [y]))) else Pv (i + 1) H3) (hd : ∀ H, Pv xs.length H → Qd H) :
    ∃ W : Nat → Nat → Hp → Prop, (∃ m, W 0 m (upd H1 D (.lst []))) ∧ ∀ i m H, W i m H →
      ((Itl K a).stop i H ∧ Qd H) ∨ ((Itl K a).go i H ∧ ∃ Nx : Hp → Prop, (∀ H', Nx H' → ∃ m', m' < m ∧ W (i + 1) m' H') ∧ ∀ x H', (Itl K a).yld i H x H' → g x (wipe σ vs) H' fun σ2 H2 => wipe σ2 vs = wipe σ vs ∧ tt σ2 H2 fun b H3 =>
        if b = true then te σ2 H3 fun y H4 => ∃ acc, H4 D = some (.lst acc) ∧ acc.length < sizeLine ∧ Nx (upd H4 D (.lst (acc ++ [y]))) else Nx H3) := by
  refine ⟨fun i m H => m = xs.length - i ∧ i ≤ xs.length ∧ Pv i H, ⟨xs.length, by simp, Nat.zero_le _, h0⟩, ?_⟩
  rintro i m H ⟨rfl, hi, p⟩
  have q := hl i H hi p
  by_cases hlt : i < xs.length
  · refine .inr ⟨⟨xs, xs[i], q, by simp [hlt]⟩, Pv (i + 1), fun H' p' => ⟨xs.length - (i + 1), by omega, rfl, hlt, p'⟩, fun x H' y => ?_⟩
    obtain ⟨e, y⟩ := y
    subst e
    exact hs i x _ (y xs q) p
  · have e : i = xs.length := by omega
    subst e
    exact .inl ⟨⟨xs, q, Nat.le_refl _⟩, hd H p⟩
/-- over a tuple -/
theorem lc_tup {K : PySem.W.Frag} {a : Addr} {xs : List V} {g : TG} {tt : TT} {te : TE} {vs : List Nat} {σ : St} {H1 : Hp} {D : Addr} {Qd : Hp → Prop} (Pv : Nat → Hp → Prop) (h0 : Pv 0 (upd H1 D (.lst []))) (hl : ∀ i H, i ≤ xs.length → Pv i H → SqT K H a xs)
    (hs : ∀ i x H, xs[i]? = some x → Pv i H → g x (wipe σ vs) H fun σ2 H2 => wipe σ2 vs = wipe σ vs ∧ tt σ2 H2 fun b H3 =>
      if b = true then te σ2 H3 fun y H4 => ∃ acc, H4 D = some (.lst acc) ∧ acc.length < sizeLine ∧ Pv (i + 1) (upd H4 D (.lst (acc ++ [y]))) else Pv (i + 1) H3) (hd : ∀ H, Pv xs.length H → Qd H) :
    ∃ W : Nat → Nat → Hp → Prop, (∃ m, W 0 m (upd H1 D (.lst []))) ∧ ∀ i m H, W i m H →
      ((Itt K a).stop i H ∧ Qd H) ∨ ((Itt K a).go i H ∧ ∃ Nx : Hp → Prop, (∀ H', Nx H' → ∃ m', m' < m ∧ W (i + 1) m' H') ∧ ∀ x H', (Itt K a).yld i H x H' → g x (wipe σ vs) H' fun σ2 H2 => wipe σ2 vs = wipe σ vs ∧ tt σ2 H2 fun b H3 =>
        if b = true then te σ2 H3 fun y H4 => ∃ acc, H4 D = some (.lst acc) ∧ acc.length < sizeLine ∧ Nx (upd H4 D (.lst (acc ++ [y]))) else Nx H3) := by
  refine ⟨fun i m H => m = xs.length - i ∧ i ≤ xs.length ∧ Pv i H, ⟨xs.length, by simp, Nat.zero_le _, h0⟩, ?_⟩
  rintro i m H ⟨rfl, hi, p⟩
  have q := hl i H hi p
  by_cases hlt : i < xs.length
  · refine .inr ⟨⟨xs, xs[i], q, by simp [hlt]⟩, Pv (i + 1), fun H' p' => ⟨xs.length - (i + 1), by omega, rfl, hlt, p'⟩, fun x H' y => ?_⟩
    obtain ⟨e, y⟩ := y
    subst e
    exact hs i x _ (y xs q) p
  · have e : i = xs.length := by omega
    subst e
    exact .inl ⟨⟨xs, q, Nat.le_refl _⟩, hd H p⟩
def blkC (N : List Str) (sc scope : Scope) (own : List (Str × Nat)) : Bool :=
  (match scope.kind with | .function => true | _ => false) && (scope.names.all fun y => decide (scope.names.lookup y.1 = some y.2)) && (own.all fun p => decide (N[p.2]? = some p.1)) &&
    (scope.names.all fun y => match y.2 with
      | .free => (match sc.names.lookup y.1 with | some .cell => true | some .free => true | _ => false)
      | .local => decide (y.1 ∈ own.map (·.1)) || decide (y.1 ∉ N)
      | .cell => decide (y.1 ∈ own.map (·.1)) || decide (y.1 ∉ N)
      | _ => true)
theorem blkOk_by {N : List Str} {sc scope : Scope} {own : List (Str × Nat)} (h : blkC N sc scope own = true) : BlkOk N sc scope own := by
  unfold blkC at h
  simp only [Bool.and_eq_true, List.all_eq_true, decide_eq_true_eq] at h
  obtain ⟨⟨⟨h1, h2⟩, h3⟩, h4⟩ := h
  refine ⟨?_, h2, h3, fun y hy e => ?_, fun y hy e => ?_⟩
  · split at h1
    · assumption
    · cases h1
  · have q := h4 y hy
    simp only [e] at q
    split at q <;> first | exact .inl (by assumption) | exact .inr (by assumption) | cases q
  · have q := h4 y hy
    rcases e with e | e <;> (simp only [e, Bool.or_eq_true, decide_eq_true_eq] at q; exact q)
end L2
namespace L2
open PySem PySem.Spec PyProof.Rows
section
variable {prog : Program} {w : World} {A : Around} {R : Result → Shared → Prop} {s : Shared} {elt t0 i0 t1 i1 : Expr} {ifs0 ifs1 : List Expr} {scope : Scope} {pos : Pos} {it acc : Value} {env : Env}
end
section
variable {X : Cx}
end
end L2
namespace L2
open PySem PySem.Spec PyProof.Rows
section
variable {κ : Type} [DecidableEq κ]
end
section
variable {P : Program} {w : World} {H : Hp} {h : Heap} {a : Addr}
end
section
variable {X : Cx} {pins : List (Addr × Obj)} {σ : St} {H : Hp} {s : Shared} {a : Addr} {y v : V} {u r : Value} {o : Option V} {A : Around} {E : Value → Shared → Prop}
end
section
variable {X : Cx} {pins : List (Addr × Obj)} {σ : St} {H : Hp} {s : Shared} {a : Addr} {kvs : List (Key × V)} {k : Key} {u : Value} {A : Around} {E : Value → Shared → Prop}
end
section
variable {X : Cx} {o i e value : Expr} {pos pos' tpos : Pos} {td ty tv : TE}
end
section
variable {X : Cx} {pos : Pos}
end
section
variable {X : Cx} {pins : List (Addr × Obj)} {σ : St} {H : Hp} {s : Shared} {a : Addr} {y d : V} {u r : Value} {o : Option V} {A : Around} {E : Value → Shared → Prop}
end
section
variable {X : Cx} {o e f : Expr} {apos cpos : Pos} {td ty tx : TE}
end
section
variable {X : Cx} {pins : List (Addr × Obj)} {σ : St} {H : Hp} {s : Shared} {a : Addr} {kvs : List (Key × V)} {A : Around} {E : Value → Shared → Prop}
end
section
variable {X : Cx} {pins : List (Addr × Obj)} {σ : St} {H : Hp} {s : Shared} {a : Addr} {y : V} {u : Value} {A : Around} {E : Value → Shared → Prop}
end
end L2
namespace L2
open PySem PySem.Spec PyProof.Rows
section
variable {prog : Program} {w : World} {A : Around} {E : Value → Shared → Prop}
end
section
variable {X : Cx}
end
end L2
namespace L2
open PySem PySem.Spec PyProof.Rows
theorem boot_reversed5 : bootBuiltins "reversed" = some (.type "reversed") := by decide +kernel
section
variable {X : Cx} {pins : List (Addr × Obj)} {σ : St} {H : Hp} {s : Shared} {h' : Heap}
/-- several records of ours have turned -/
theorem Inv.turnedL {t' : Nat} {ch : List Addr} (I : Inv X pins σ H s) (k : ∀ b o, b ∉ ch → s.heap.get? b = some o → h'.get? b = some o) (hf : ∀ b ∈ ch, FpOk X pins H b) : Inv X pins σ H { s with heap := h', toks := t' } := by
  have nit : ∀ b u, H b = some u → b ∉ ch := fun b u e z => by
    have q := (hf b z).1
    rw [q] at e; cases e
  refine I.step (g' := s.gens) (d' := s.drawn) (ch := ch) (fun b hb => ⟨(hf b hb).2.2.2.1, (hf b hb).2.1, (hf b hb).2.2.2.2.1, (hf b hb).2.2.2.2.2⟩) (fun b o _ _ hc e _ => k b o hc e) (fun b o _ _ hc e _ => ⟨o.slots, k b o hc e⟩)
    (fun _ _ _ _ n => n) (fun b o hc e => ⟨o, k b o hc e⟩) (fun _ _ e => e) (fun _ _ _ e => e) (fun b ps e => ⟨#[], by rw [e]; simp⟩) (fun m hm => ?_) (fun b u e => ?_) I.bare
  · obtain ⟨o, es, ep, ho, r⟩ := hm
    exact ⟨o, es, ep, k _ o (fun z => (hf _ z).2.1 rfl) ho, r⟩
  · refine (I.hok b u e).stay (fun c v hc q => k c v ?_ q) (fun _ q => q) fun _ _ q => q
    rcases hc with z | z
    · rw [z]; exact nit b u e
    · exact nit c _ z
/-- .. and one new object is laid -/
theorem Inv.turnedNew {t' : Nat} {ch : List Addr} {T : Addr} {ob : HO} (I : Inv X pins σ H s) (k : ∀ b o, b ∉ ch → s.heap.get? b = some o → h'.get? b = some o) (hf : ∀ b ∈ ch, FpOk X pins H b) (hT : s.heap.objs.size ≤ T)
    (new : ObjOk X.prog X.w (upd H T ob) h' T ob) : Inv X pins σ (upd H T ob) { s with heap := h', toks := t' } := by
  have hn : H T = none := I.hok.fresh hT
  have nit : ∀ b u, H b = some u → b ∉ ch := fun b u e z => by
    have q := (hf b z).1
    rw [q] at e; cases e
  refine I.step (g' := s.gens) (d' := s.drawn) (ch := ch) (fun b hb => ⟨(hf b hb).2.2.2.1, (hf b hb).2.1, (hf b hb).2.2.2.2.1, (hf b hb).2.2.2.2.2⟩) (fun b o _ _ hc e _ => k b o hc e) (fun b o _ _ hc e _ => ⟨o.slots, k b o hc e⟩)
    (fun b o _ e n => ?_) (fun b o hc e => ⟨o, k b o hc e⟩) (fun b xs e => ?_) (fun b o u e => ?_) (fun b ps e => ⟨#[], ?_⟩) (fun m hm => ?_) (fun b u e => ?_) I.bare
  · rw [upd_ne (Nat.ne_of_lt (Nat.lt_of_lt_of_le (Heap.lt_size e) hT))]; exact n
  · rw [upd_ne (ne_of_none e hn)]; exact e
  · rw [upd_ne (ne_of_none e hn)]; exact e
  · rw [upd_ne (ne_of_none e hn), e]; simp
  · obtain ⟨o, es, ep, ho, r⟩ := hm
    exact ⟨o, es, ep, k _ o (fun z => (hf _ z).2.1 rfl) ho, r⟩
  · by_cases hb : b = T
    · subst hb
      rw [upd_same] at e
      cases e
      exact new
    · rw [upd_ne hb] at e
      refine (I.hok b u e).stay (fun c v hc q => k c v ?_ q) (fun c q => by rw [upd_ne (ne_of_none q hn)]; exact q) fun c xs q => by rw [upd_ne (ne_of_none q hn)]; exact q
      rcases hc with z | z
      · rw [z]; exact nit b u e
      · exact nit c _ z
end
section
variable {X : Cx}
theorem pi_one {tg : Expr} {pins : List (Addr × Obj)} {σ : St} {H : Hp} {s : Shared} {R : It → Hp → Prop} {J : It} {tn : Nat → Heap → Prop} {tk : Nat} (I : Inv X pins σ H s) (o : Obj)
    (T : Turn X.prog X.w X.K tg J [s.heap.objs.size] s.heap.objs.size tn) (st : tn 0 (s.heap.push o)) (q : R J H) : PIE X pins σ tg R (.ref s.heap.objs.size) { s with heap := s.heap.push o, toks := tk } := by
  refine ⟨s.heap.objs.size, [s.heap.objs.size], tn, J, H, rfl, I.kept fun b ob e => Heap.get?_push_of_some _ e, T, st, fun b hb => ?_, q⟩
  have e : b = s.heap.objs.size := by simpa using hb
  subst e
  exact I.fpOk (Nat.le_refl _) (I.hok.fresh (Nat.le_refl _))
end
/-- lo, lo + c, .. (n of them) -/
def Itc (lo c : Int) (n : Nat) : It := ⟨fun i _ => i < n, fun i H x H' => H' = H ∧ x = .int (lo + (i : Nat) * c), fun i _ => n ≤ i⟩
theorem turn_rangeC {P : Program} {w : World} {K : PySem.W.Frag} {tg : Expr} (it : Addr) (lo c : Int) (n : Nat) : Turn P w K tg (Itc lo c n) [it] it (fun i h => IsRangeIter h it (lo + (i : Nat) * c) ((n : Int) - (i : Nat)) c) where
  mem := by simp
  obj := fun i h st b hb => by
    have e : b = it := by simpa using hb
    subst e
    exact ⟨_, st, fun v z => nomatch z⟩
  keep := fun i h h' st k => k it (by simp) _ st
  item := by
    intro X hP hw hK hc i pins s σ H E I hf st hg
    subst hP hw hK
    obtain ⟨f0, f1, f2, f3, f4, f5⟩ := hf it (by simp)
    have W := Walks.range (prog := X.prog) (w := X.w) (I.ok.hd hc) it lo c n
    refine W.item i s _ _ hg st fun v h' tk hv st' kk => ?_
    obtain ⟨t, rfl⟩ := hv
    have I1 : Inv X pins σ H { s with heap := h', toks := tk } := I.turned (fun b o hb e => kk b o (by simpa using hb) e) f0 f1 f3 f4 f5
    exact ⟨_, rfl, go_of (s := { s with heap := h', toks := tk }) (n := "range_iterator") st' rfl rfl (by decide) ⟨.int (lo + (i : Nat) * c), H, I1, ⟨t, rfl⟩, ⟨rfl, rfl⟩, st', fun b hb => (hf b hb).1⟩⟩
  done := by
    intro X hP hw hK hc i pins s σ H E I hf st hg
    subst hP hw hK
    obtain ⟨f0, f1, f2, f3, f4, f5⟩ := hf it (by simp)
    exact wpAny_pyNext_range_end (I.ok.hd hc) st (by have : n ≤ i := hg; omega) fun h' eb => ⟨rfl, I.turned (t' := s.toks) (fun b o hb e => eb b o hb e) f0 f1 f3 f4 f5⟩
  self := fun A i s Q E st h => wpAny_pyIter_rangeiter st h
/-- range(i, j, c): small bounds, n items -/
def RgC (i j c : Int) (n : Nat) : Prop := c ≠ 0 ∧ c.natAbs < 1073741824 ∧ Builtin.Range.small i j c = true ∧ Builtin.Range.rangeSize i j c = n
def iRng3 (ta : TA) : TI := fun σ H R => ta σ H fun vs H1 => ∃ (i j c : Int) (n : Nat), vs = [.int i, .int j, .int c] ∧ RgC i j c n ∧ R (Itc i c n) H1
section
variable {X : Cx} {tg : Expr}
theorem pi_range3 {a b c : Expr} {ta : TA} {p pos : Pos} (hg : Gl X "range") (hm : X.mg "range" = none) (ha : PA X [a, b, c] ta)
    (hs : starEach [a, b, c] X.env = (false, eval a X.env) :: starEach [b, c] X.env := by rfl) (hpl : (backTo pos (starEach [b, c] X.env)).any (·.1) = false := by rfl) :
    PI X tg (.Call (.Name "range" p) [a, b, c] [] pos) (iRng3 ta) := by
  intro pins s σ H R I h
  refine Call_ (ld_blt I hg hm boot_range (PyProof.Rows.callWith_type1 (thn (ha pos pins s σ H _ I h) fun us s1 ⟨vs, H1, I1, r1, q1⟩ => ?_) hs hpl))
  obtain ⟨i, j, k, n, e, ⟨c0, c1, c2, c3⟩, q⟩ := q1
  subst e
  cases r1 with
  | cons r rr =>
    cases rr with
    | cons r' rr =>
      cases rr with
      | cons r'' rr =>
        cases rr
        obtain ⟨t, rfl⟩ := r
        obtain ⟨t', rfl⟩ := r'
        obtain ⟨t'', rfl⟩ := r''
        refine call_range_3 c0 ?_ (.inl (PyProof.noPylong_small c1))
        refine wpAny_pyIter_range (IsRange.new ..) c2 ?_
        have I2 : Inv X pins σ H1 { s1 with heap := s1.heap.push { cls := .type "range", data := .fields #[.int i t, .int j t', .int k t''] } } := I1.kept (t' := s1.toks) fun b o e => Heap.get?_push_of_some _ e
        refine pi_one (tk := s1.toks) I2 _ (turn_rangeC _ i k n) ?_ q
        have e1 : i + ((0 : Nat) : Int) * k = i := by simp
        have e2 : (n : Int) - ((0 : Nat) : Int) = Builtin.Range.rangeSize i j k := by rw [c3]; simp
        show IsRangeIter _ _ (i + ((0 : Nat) : Int) * k) ((n : Int) - ((0 : Nat) : Int)) k
        rw [e1, e2]
        exact Heap.get?_push_size _ rfl
end
/-- the turns of a step range, for the for loop -/
theorem for_rangeC {lo c : Int} {n : Nat} {g : TG} {tb : TS} {D : Ends} {σ : St} {H : Hp} (Pv : Nat → St → Hp → Prop) (h0 : Pv 0 σ H)
    (hs : ∀ i σ H, i < n → Pv i σ H → g (.int (lo + (i : Nat) * c)) σ H fun σ2 H2 => tb { D with nx := Pv (i + 1), ct := Pv (i + 1), bk := D.nx } σ2 H2) (hd : ∀ σ H, Pv n σ H → D.nx σ H) :
    ∃ W : Nat → Nat → St → Hp → Prop, (∃ m, W 0 m σ H) ∧ ∀ i m σ H, W i m σ H →
      ((Itc lo c n).stop i H ∧ D.nx σ H) ∨ ((Itc lo c n).go i H ∧ ∃ N : St → Hp → Prop, (∀ σ' H', N σ' H' → ∃ m', m' < m ∧ W (i + 1) m' σ' H') ∧ ∀ x H', (Itc lo c n).yld i H x H' → g x σ H' fun σ2 H2 => tb { D with nx := N, ct := N, bk := D.nx } σ2 H2) := by
  refine ⟨fun i m σ H => m = n - i ∧ i ≤ n ∧ Pv i σ H, ⟨n, by simp, Nat.zero_le _, h0⟩, ?_⟩
  rintro i m σ H ⟨rfl, hi, p⟩
  by_cases hlt : i < n
  · refine .inr ⟨hlt, Pv (i + 1), fun σ' H' p' => ⟨n - (i + 1), by omega, rfl, hlt, p'⟩, fun x H' y => ?_⟩
    obtain ⟨e, y⟩ := y
    subst e y
    exact hs i σ _ hlt p
  · have e : i = n := by omega
    subst e
    exact .inl ⟨Nat.le_refl _, hd σ H p⟩
/-- the list at a (n items at the start, which the loop leaves there), from its end -/
def Itv (K : PySem.W.Frag) (a : Addr) (n : Nat) : It :=
  ⟨fun i H => i < n ∧ ∃ (xs : List V) (x : V), SqL K H a xs ∧ xs[n - 1 - i]? = some x, fun i H x H' => H' = H ∧ ∀ xs, SqL K H a xs → xs[n - 1 - i]? = some x, fun i _ => n ≤ i⟩
theorem turn_rev {P : Program} {w : World} {K : PySem.W.Frag} {tg : Expr} (a it : Addr) (n : Nat) : Turn P w K tg (Itv K a n) [it] it (fun i h => i ≤ n ∧ h.IsRevIter it a ((n : Int) - 1 - (i : Nat))) where
  mem := by simp
  obj := fun i h st b hb => by
    have e : b = it := by simpa using hb
    subst e
    obtain ⟨_, o, e, c, d⟩ := st
    exact ⟨o, e, fun v z => by rw [d] at z; cases z⟩
  keep := fun i h h' st k => ⟨st.1, st.2.at fun o e => k it (by simp) o e⟩
  item := by
    intro X hP hw hK hc i pins s σ H E I hf st hg
    subst hP hw hK
    obtain ⟨hin, xs, x, hq, hx⟩ := hg
    obtain ⟨its, rv, p, hz⟩ := I.list hq
    obtain ⟨u, hu, ru⟩ := rv.get hx
    obtain ⟨f0, f1, f2, f3, f4, f5⟩ := hf it (by simp)
    obtain ⟨_, hit⟩ := st
    have e1 : (n : Int) - 1 - ((i : Nat) : Int) = ((n - 1 - i : Nat) : Int) := by omega
    rw [e1] at hit
    refine wpAny_pyNext_rev_item hit p.isList (x := u) (by simpa using hu) fun h' st' sb => ?_
    have e2 : ((n - 1 - i : Nat) : Int) - 1 = (n : Int) - 1 - ((i + 1 : Nat) : Int) := by omega
    rw [e2] at st'
    have I1 : Inv X pins σ H { s with heap := h' } := I.turned (t' := s.toks) (fun b o hb e => (sb.2 b hb).trans e) f0 f1 f3 f4 f5
    obtain ⟨o, e, c, d⟩ := id st'
    exact ⟨u, rfl, go_of (s := { s with heap := h' }) e c d (by decide) ⟨x, H, I1, ru, ⟨rfl, fun ys hy => by rw [I.list_inj hy hq]; exact hx⟩, ⟨hin, st'⟩, fun b hb => (hf b hb).1⟩⟩
  done := by
    intro X hP hw hK hc i pins s σ H E I hf st hg
    subst hP hw hK
    obtain ⟨f0, f1, f2, f3, f4, f5⟩ := hf it (by simp)
    obtain ⟨hin, hit⟩ := st
    have hge : n ≤ i := hg
    have e1 : (n : Int) - 1 - ((i : Nat) : Int) = -1 := by omega
    rw [e1] at hit
    exact wpAny_pyNext_rev_end (I.ok.hd hc) hit fun h' eb => ⟨rfl, I.turned (t' := s.toks) (fun b o hb e => eb b o hb e) f0 f1 f3 f4 f5⟩
  self := fun A i s Q E st h => wpAny_pyIter_revIter st.2 h
def iRev (K : PySem.W.Frag) (ta : TA) : TI := fun σ H R => ta σ H fun vs H1 => ∃ (a : Addr) (xs : List V), vs = [.ref a] ∧ SqL K H1 a xs ∧ R (Itv K a xs.length) H1
section
variable {X : Cx} {tg : Expr}
theorem pi_reversed {e : Expr} {ta : TA} {p pos : Pos} (hg : Gl X "reversed") (hm : X.mg "reversed" = none) (ha : PA X [e] ta) (hs : starEach [e] X.env = [(false, eval e X.env)] := by rfl) : PI X tg (.Call (.Name "reversed" p) [e] [] pos) (iRev X.K ta) := by
  intro pins s σ H R I h
  refine Call_ (ld_blt I hg hm boot_reversed5 (PyProof.Rows.callWith_type1 (thn (ha pos pins s σ H _ I h) fun us s1 ⟨vs, H1, I1, r1, q1⟩ => ?_) hs rfl))
  obtain ⟨a, xs, e, hq, q⟩ := q1
  subst e
  cases r1 with
  | cons r rr =>
    cases rr
    cases r
    obtain ⟨its, rv, p', hz⟩ := I1.list hq
    have hl := rv.length
    have e1 : ((its.toArray.size : Nat) : Int) - 1 = (xs.length : Int) - 1 - ((0 : Nat) : Int) := by simp only [List.size_toArray]; omega
    refine call_reversed_list p'.isList (wpAny_pyIter_revIter (l := a) (i := ((its.toArray.size : Nat) : Int) - 1) ⟨_, Heap.get?_push_size _ rfl, rfl, rfl⟩ ?_)
    refine pi_one (tk := s1.toks) I1 _ (turn_rev a _ xs.length) ⟨Nat.zero_le _, ?_⟩ q
    rw [← e1]
    exact ⟨_, Heap.get?_push_size _ rfl, rfl, rfl⟩
end
section
variable {prog : Program} {w : World} {A : Around} {E : Value → Shared → Prop} {s : Shared}
end
section
variable {X : Cx} {pins : List (Addr × Obj)} {σ : St} {H : Hp} {s : Shared} {d : Addr} {o : Obj}
end
section
variable {P : Program} {w : World} {K : PySem.W.Frag} {tg : Expr} {d : Addr} {o : Obj} {es : Array DictEntry} {ep : Nat}
end
section
variable {X : Cx} {tg e : Expr} {td : TE} {apos cpos : Pos}
end
theorem boot_zip5 : bootBuiltins "zip" = some (.type "zip") := by decide +kernel
end L2
section 
namespace Bits
open PySem PyProof.Rows
theorem nat_xor_add_and (m : Nat) : ∀ n : Nat, (m ^^^ n) + 2 * (m &&& n) = m + n := by
  induction m using Nat.strongRecOn with
  | _ m ih =>
    intro n
    by_cases h0 : m = 0
    · subst h0
      simp
    · have ih' := ih (m / 2) (by omega) (n / 2)
      rw [← Nat.xor_div_two, ← Nat.and_div_two] at ih'
      have o1 := @Nat.xor_mod_two_eq_one m n
      have a1 := @Nat.and_mod_two_eq_one m n
      omega
theorem bitXor_pp {x y : Int} (hx : 0 ≤ x) (hy : 0 ≤ y) : Builtin.bitXor x y = ((x.toNat ^^^ y.toNat : Nat) : Int) := by
  have e := nat_xor_add_and x.toNat y.toNat
  rw [bitXor_and, bitAnd_pp hx hy]
  omega
end Bits
end 
section 
namespace TL
open PySem PySem.Builtin PySem.Builtin.Str PySem.StrLaws
end TL
end 
namespace L2
open PySem PySem.Spec PyProof.Rows
section
variable {X : Cx} {pins : List (Addr × Obj)} {σ : St} {H : Hp} {s : Shared} {Q : VK}
end
section
variable {X : Cx}
end
section
variable {X : Cx} {o e : Expr} {to te : TE}
end
end L2
namespace L2
open PySem PySem.Spec PyProof.Rows
section
variable {X : Cx}
end
end L2
namespace Att
open PySem PySem.W PySem.Calls PyProof.Rows
section
variable {prog : Program} {w : World} {A : Around} {E : Value → Shared → Prop} {s : Shared} {K : Frag}
end
end Att
namespace L2
open PySem PySem.Spec PyProof.Rows
end L2
namespace L2
open PySem PySem.Spec PyProof.Rows
abbrev KOf {K : PySem.W.Frag} {h : Heap} (_ : K.In h) : PySem.W.Frag := K
end L2
section
set_option Elab.async false
set_option linter.all false
set_option maxRecDepth 100000
set_option maxHeartbeats 2000000
namespace L2
open PySem PySem.Spec PyProof.Rows
open PySem.W (WData Codec OpenSpec Well WellAll ReadsW ReadsAllW)
mutual
/-- x stands for the datum d, lists and tuples all the way -/
inductive Dw (K : PySem.W.Frag) (H : Hp) : V → WData → Prop
  | non : Dw K H .non .none
  | bl (b : Bool) : Dw K H (.bl b) (.bool b)
  | int (i : Int) : Dw K H (.int i) (.int i)
  | str (x : Str) : Dw K H (.str x) (.str x)
  | byt (b : Array UInt8) : Dw K H (.byt b) (.bytes b.toList)
  | lst {a : Addr} {xs : List V} {ds : List WData} : SqL K H a xs → DwAll K H xs ds → Dw K H (.ref a) (.list ds)
  | tup {a : Addr} {xs : List V} {ds : List WData} : SqT K H a xs → DwAll K H xs ds → Dw K H (.ref a) (.tuple ds)
inductive DwAll (K : PySem.W.Frag) (H : Hp) : List V → List WData → Prop
  | nil : DwAll K H [] []
  | cons {v : V} {vs : List V} {d : WData} {ds : List WData} : Dw K H v d → DwAll K H vs ds → DwAll K H (v :: vs) (d :: ds)
end
theorem dw_ints {K : PySem.W.Frag} {H : Hp} : ∀ ns : List Int, DwAll K H (ns.map V.int) (ns.map WData.int)
  | [] => .nil
  | n :: r => .cons (.int n) (dw_ints r)
theorem ints_dw {K : PySem.W.Frag} {H : Hp} : ∀ (ns : List Int) (xs : List V), DwAll K H xs (ns.map WData.int) → xs = ns.map V.int
  | [], xs, h => by
    cases h
    rfl
  | n :: r, xs, h => by
    cases h with
    | cons h1 h2 =>
      cases h1
      rw [ints_dw r _ h2] <;> rfl
section
variable {P : Program} {w : World} {K : PySem.W.Frag} {H : Hp} {h : Heap} {R : PySem.W.WRecords} {cl : Str → Option Addr}
theorem sqL_at {a : Addr} {xs : List V} (hok : HOk P w H h) (KX : K.In h) (q : SqL K H a xs) : ∃ (its : List Value) (o : Obj) (n : Nat), Vals xs its ∧ h.get? a = some o ∧ o.cls = .type "list" ∧ o.data = .seq its.toArray n := by
  rcases q with q | ⟨o, its, n, e, hc, _, hd, _, hv⟩
  · obtain ⟨_, its, n, hv, e⟩ := (show ObjOk P w H h a (.lst xs) from q.ok hok)
    exact ⟨its, _, n, hv, e, rfl, rfl⟩
  · exact ⟨its.toList, o, n, hv, KX _ _ e, hc, by simp [hd]⟩
theorem sqT_at {a : Addr} {xs : List V} (hok : HOk P w H h) (KX : K.In h) (q : SqT K H a xs) : ∃ (its : List Value) (o : Obj) (n : Nat), Vals xs its ∧ h.get? a = some o ∧ o.cls = .type "tuple" ∧ o.data = .seq its.toArray n := by
  rcases q with q | ⟨o, its, n, e, hc, hd, _, hv⟩
  · obtain ⟨_, its, hv, o, e, hc, n, hd⟩ := (show ObjOk P w H h a (.tup xs) from q.ok hok)
    exact ⟨its, o, n, hv, e, hc, hd⟩
  · exact ⟨its.toList, o, n, hv, KX _ _ e, hc, by simp [hd]⟩
mutual
theorem Dw.reads (hok : HOk P w H h) (KX : K.In h) : ∀ (d : WData) (v : V) (u : Value), Dw K H v d → RelV v u → ∃ as, ReadsW R cl h u d as
  | .none, _, _, x, r => by
    cases x
    cases r
    exact ⟨_, ReadsW.none⟩
  | .bool b, _, _, x, r => by
    cases x
    cases r
    exact ⟨_, ReadsW.bool b⟩
  | .int i, _, _, x, r => by
    cases x
    obtain ⟨t, rfl⟩ := r
    exact ⟨_, ReadsW.int i t⟩
  | .str s, _, _, x, r => by
    cases x
    obtain ⟨t, rfl⟩ := r
    exact ⟨_, ReadsW.str s t⟩
  | .bytes b, _, _, x, r => by
    cases x
    obtain ⟨t, rfl⟩ := r
    exact ⟨_, ReadsW.bytes _ t⟩
  | .list ds, _, _, x, r => by
    cases x with
    | lst hs ha =>
      cases r
      obtain ⟨its, o, n, rv, ho, hc, hd⟩ := sqL_at hok KX hs
      obtain ⟨as, hr⟩ := Dw.readsAll hok KX ds _ its ha rv
      exact ⟨_, ReadsW.list ho hc hd hr⟩
  | .tuple ds, _, _, x, r => by
    cases x with
    | tup hs ha =>
      cases r
      obtain ⟨its, o, n, rv, ho, hc, hd⟩ := sqT_at hok KX hs
      obtain ⟨as, hr⟩ := Dw.readsAll hok KX ds _ its ha rv
      exact ⟨_, ReadsW.tuple ho hc hd hr⟩
  | .float _, _, _, x, _ => by cases x
  | .dict _, _, _, x, _ => by cases x
  | .bytearray _, _, _, x, _ => by cases x
  | .set _, _, _, x, _ => by cases x
  | .frozenset _, _, _, x, _ => by cases x
  | .obj _ _, _, _, x, _ => by cases x
theorem Dw.readsAll (hok : HOk P w H h) (KX : K.In h) : ∀ (ds : List WData) (vs : List V) (us : List Value), DwAll K H vs ds → Vals vs us → ∃ as, ReadsAllW R cl h us ds as
  | [], _, _, x, r => by
    cases x
    cases r
    exact ⟨_, ReadsAllW.nil⟩
  | d :: ds, _, _, x, r => by
    cases x with
    | cons h1 h2 =>
      cases r with
      | cons r1 r2 =>
        obtain ⟨as, q1⟩ := Dw.reads hok KX d _ _ h1 r1
        obtain ⟨bs, q2⟩ := Dw.readsAll hok KX ds _ _ h2 r2
        exact ⟨_, ReadsAllW.cons q1 q2⟩
end
end
mutual
/-- data that a codec tells -/
def plW : WData → Bool
  | .none => true
  | .bool _ => true
  | .int _ => true
  | .str _ => true
  | .bytes _ => true
  | .list xs => plWs xs
  | .tuple xs => plWs xs
  | _ => false
def plWs : List WData → Bool
  | [] => true
  | x :: r => plW x && plWs r
end
theorem plWs_map {α : Type} {f : α → WData} (h : ∀ a, plW (f a) = true) : ∀ l : List α, plWs (l.map f) = true
  | [] => rfl
  | x :: r => by
    show (plW (f x) && plWs (r.map f)) = true
    rw [h x, plWs_map h r] <;> rfl
theorem pl_enc : ∀ (c : Codec) (a : c.denote), plW (c.enc a) = true
  | .unit, _ => rfl
  | .bool, _ => rfl
  | .int _ _, _ => rfl
  | .nat _ _, _ => rfl
  | .u8, _ => rfl
  | .bytes _ _, _ => rfl
  | .text _ _ _ _, _ => rfl
  | .list _ _ c, a => plWs_map (fun x => pl_enc c x) a
  | .pair c d, a => by
    show (plW (c.enc a.1) && (plW (d.enc a.2) && true)) = true
    rw [pl_enc c a.1, pl_enc d a.2] <;> rfl
  | .triple c d e, a => by
    show (plW (c.enc a.1) && (plW (d.enc a.2.1) && (plW (e.enc a.2.2) && true))) = true
    rw [pl_enc c a.1, pl_enc d a.2.1, pl_enc e a.2.2] <;> rfl
  | .option c, none => rfl
  | .option c, some x => pl_enc c x
theorem pl_encAll : ∀ (cs : List Codec) (a : Codec.denoteAll cs), plWs (Codec.encAll cs a) = true
  | [], _ => rfl
  | c :: cs, a => by
    show (plW (c.enc a.1) && plWs (Codec.encAll cs a.2)) = true
    rw [pl_enc c a.1, pl_encAll cs a.2] <;> rfl
theorem weight_mem : ∀ {xs : List WData} {d : WData}, d ∈ xs → d.weight ≤ WData.weightAll xs
  | [], d, h => absurd h (by simp)
  | x :: r, d, h => by
    show d.weight ≤ x.weight + 1 + WData.weightAll r
    rcases List.mem_cons.mp h with e | m
    · rw [e]
      omega
    · have z := weight_mem m
      omega
def toV : Value → V
  | .none => .non
  | .bool b => .bl b
  | .int i _ => .int i
  | .str x _ => .str x
  | .bytes b _ => .byt b
  | .ref a => .ref a
  | _ => .non
/-- a value of the arguments, its objects among A -/
def OkU (A : List Addr) : Value → Prop
  | .none => True
  | .bool _ => True
  | .int _ _ => True
  | .str _ _ => True
  | .bytes _ _ => True
  | .ref a => a ∈ A
  | _ => False
theorem OkU.mono {A B : List Addr} (h : ∀ a ∈ A, a ∈ B) : ∀ {u : Value}, OkU A u → OkU B u := fun {u} x => by
  cases u with
  | ref a => exact h a x
  | none => trivial
  | bool b => trivial
  | int i t => trivial
  | str s t => trivial
  | bytes b t => trivial
  | _ => exact False.elim x
theorem relV_toV {A : List Addr} {u : Value} (x : OkU A u) : RelV (toV u) u := by
  cases u with
  | ref a => rfl
  | none => rfl
  | bool b => rfl
  | int i t => exact ⟨t, rfl⟩
  | str s t => exact ⟨t, rfl⟩
  | bytes b t => exact ⟨t, rfl⟩
  | _ => exact False.elim x
theorem vals_toV {A : List Addr} : ∀ {vs : List Value}, (∀ u ∈ vs, OkU A u) → Vals (vs.map toV) vs
  | [], _ => .nil
  | u :: r, h => .cons (relV_toV (h u (List.mem_cons_self ..))) (vals_toV fun x hx => h x (List.mem_cons_of_mem _ hx))
/-- an object of the arguments -/
def ArgOb (h : Heap) (A : List Addr) (a : Addr) : Prop := ∃ vs : List Value, vs.length ≤ sizeLine ∧ (∀ u ∈ vs, OkU A u) ∧
  (h.get? a = some { cls := .type "list", data := .seq vs.toArray } ∨ h.get? a = some { cls := .type "tuple", data := .seq vs.toArray })
theorem ArgOb.mono {h : Heap} {A B : List Addr} {a : Addr} (k : ∀ a ∈ A, a ∈ B) (x : ArgOb h A a) : ArgOb h B a := by
  obtain ⟨vs, h1, h2, h3⟩ := x
  exact ⟨vs, h1, fun u hu => (h2 u hu).mono k, h3⟩
theorem wellAll_len {P : Params} {h : Heap} : ∀ {vs : List Value} {ds : List WData}, WellAll P h vs ds → vs.length = ds.length
  | _, _, .nil => rfl
  | _, _, .cons _ b => by
    show _ + 1 = _ + 1
    rw [wellAll_len b]
theorem well_list {P : Params} {h : Heap} {v : Value} {ds : List WData} (x : Well P h v (.list ds)) : ∃ (a : Addr) (vs : List Value), v = .ref a ∧ h.get? a = some { cls := .type "list", data := .seq vs.toArray } ∧ WellAll P h vs ds := by
  cases x with
  | list ho hall => exact ⟨_, _, rfl, ho, hall⟩
theorem well_tuple {P : Params} {h : Heap} {v : Value} {ds : List WData} (x : Well P h v (.tuple ds)) : ∃ (a : Addr) (vs : List Value), v = .ref a ∧ h.get? a = some { cls := .type "tuple", data := .seq vs.toArray } ∧ WellAll P h vs ds := by
  cases x with
  | tuple ho hall => exact ⟨_, _, rfl, ho, hall⟩
theorem well_cons {P : Params} {h : Heap} {us : List Value} {d : WData} {ds : List WData} (x : WellAll P h us (d :: ds)) : ∃ (v : Value) (vs : List Value), us = v :: vs ∧ Well P h v d ∧ WellAll P h vs ds := by
  cases x with
  | cons a b => exact ⟨_, _, rfl, a, b⟩
theorem line_of {n : Nat} (h : n ≤ 1048576) : n ≤ sizeLine := Nat.le_trans h (by decide)
section
variable {P : Params} {h : Heap}
mutual
theorem area_one : ∀ (d : WData) (v : Value), Well P h v d → plW d = true → d.weight ≤ 1048576 → ∃ A : List Addr, OkU A v ∧ ∀ a ∈ A, ArgOb h A a
  | .none, _, x, _, _ => by
    cases x
    exact ⟨[], trivial, fun a m => absurd m (by simp)⟩
  | .bool b, _, x, _, _ => by
    cases x
    exact ⟨[], trivial, fun a m => absurd m (by simp)⟩
  | .int i, _, x, _, _ => by
    cases x
    exact ⟨[], trivial, fun a m => absurd m (by simp)⟩
  | .str s, _, x, _, _ => by
    cases x
    exact ⟨[], trivial, fun a m => absurd m (by simp)⟩
  | .bytes b, _, x, _, _ => by
    cases x
    exact ⟨[], trivial, fun a m => absurd m (by simp)⟩
  | .list ds, _, x, p, z => by
    obtain ⟨a, vs, rfl, ho, hall⟩ := well_list x
    have z2 : WData.weightAll ds ≤ 1048576 := z
    obtain ⟨A, h1, h2⟩ := area_all ds _ hall p fun d hd => Nat.le_trans (weight_mem hd) z2
    have k : ∀ b ∈ A, b ∈ a :: A := fun b hb => List.mem_cons_of_mem _ hb
    refine ⟨a :: A, List.mem_cons_self .., fun b hb => ?_⟩
    rcases List.mem_cons.mp hb with e | m
    · rw [e]
      exact ⟨vs, line_of (by rw [wellAll_len hall]; exact Nat.le_trans (PySem.W.length_le_weightAllW ds) z2), fun u hu => (h1 u hu).mono k, .inl ho⟩
    · exact (h2 b m).mono k
  | .tuple ds, _, x, p, z => by
    obtain ⟨a, vs, rfl, ho, hall⟩ := well_tuple x
    have z2 : WData.weightAll ds ≤ 1048576 := z
    obtain ⟨A, h1, h2⟩ := area_all ds _ hall p fun d hd => Nat.le_trans (weight_mem hd) z2
    have k : ∀ b ∈ A, b ∈ a :: A := fun b hb => List.mem_cons_of_mem _ hb
    refine ⟨a :: A, List.mem_cons_self .., fun b hb => ?_⟩
    rcases List.mem_cons.mp hb with e | m
    · rw [e]
      exact ⟨vs, line_of (by rw [wellAll_len hall]; exact Nat.le_trans (PySem.W.length_le_weightAllW ds) z2), fun u hu => (h1 u hu).mono k, .inr ho⟩
    · exact (h2 b m).mono k
  | .float _, _, _, p, _ => Bool.noConfusion (show false = true from p)
  | .dict _, _, _, p, _ => Bool.noConfusion (show false = true from p)
  | .bytearray _, _, _, p, _ => Bool.noConfusion (show false = true from p)
  | .set _, _, _, p, _ => Bool.noConfusion (show false = true from p)
  | .frozenset _, _, _, p, _ => Bool.noConfusion (show false = true from p)
  | .obj _ _, _, _, p, _ => Bool.noConfusion (show false = true from p)
theorem area_all : ∀ (ds : List WData) (vs : List Value), WellAll P h vs ds → plWs ds = true → (∀ d ∈ ds, d.weight ≤ 1048576) → ∃ A : List Addr, (∀ u ∈ vs, OkU A u) ∧ ∀ a ∈ A, ArgOb h A a
  | [], _, x, _, _ => by
    cases x
    exact ⟨[], fun u m => absurd m (by simp), fun a m => absurd m (by simp)⟩
  | d :: ds, _, x, p, z => by
    obtain ⟨v, vs, rfl, x1, x2⟩ := well_cons x
    have q : plW d = true ∧ plWs ds = true := Bool.and_eq_true_iff.mp p
    obtain ⟨A, a1, a2⟩ := area_one d v x1 q.1 (z d (List.mem_cons_self ..))
    obtain ⟨B, b1, b2⟩ := area_all ds vs x2 q.2 fun e he => z e (List.mem_cons_of_mem _ he)
    have kA : ∀ b ∈ A, b ∈ A ++ B := fun b hb => List.mem_append.mpr (.inl hb)
    have kB : ∀ b ∈ B, b ∈ A ++ B := fun b hb => List.mem_append.mpr (.inr hb)
    refine ⟨A ++ B, fun u hu => ?_, fun b hb => ?_⟩
    · rcases List.mem_cons.mp hu with e | m
      · rw [e]
        exact a1.mono kA
      · exact (b1 u m).mono kB
    · rcases List.mem_append.mp hb with m | m
      · exact (a2 b m).mono kA
      · exact (b2 b m).mono kB
end
end
/-- what is tracked of an argument's object -/
def hoOf (o : Obj) : Option HO := match o.data with
  | .seq vs _ => if (o.cls == Value.type "list") = true then some (.frz o (.lst (vs.toList.map toV))) else some (.frz o (.tup (vs.toList.map toV)))
  | _ => none
def argH (K : PySem.W.Frag) (h : Heap) (A : List Addr) : Hp := fun b => if b ∈ A then (if (K.lookup b).isNone = true then (h.get? b).bind hoOf else none) else none
/-- nothing is tracked but what is known to the object -/
def OnlyF (H : Hp) : Prop := ∀ b, H b = none ∨ ∃ o u, H b = some (.frz o u)
theorem hoOf_lst (vs : List Value) : hoOf { cls := .type "list", data := .seq vs.toArray } = some (.frz { cls := .type "list", data := .seq vs.toArray } (.lst (vs.map toV))) := by
  show (if (Value.type "list" == Value.type "list") = true then some (HO.frz { cls := .type "list", data := .seq vs.toArray } (.lst (vs.toArray.toList.map toV))) else some (HO.frz { cls := .type "list", data := .seq vs.toArray } (.tup (vs.toArray.toList.map toV)))) = _
  rw [if_pos (beq_self_eq_true _)]
theorem hoOf_tup (vs : List Value) : hoOf { cls := .type "tuple", data := .seq vs.toArray } = some (.frz { cls := .type "tuple", data := .seq vs.toArray } (.tup (vs.map toV))) := by
  show (if (Value.type "tuple" == Value.type "list") = true then some (HO.frz { cls := .type "tuple", data := .seq vs.toArray } (.lst (vs.toArray.toList.map toV))) else some (HO.frz { cls := .type "tuple", data := .seq vs.toArray } (.tup (vs.toArray.toList.map toV)))) = _
  rw [if_neg (by decide)]
section
variable {P : Program} {w : World} {K : PySem.W.Frag} {h : Heap} {A : List Addr}
theorem argH_at {b : Addr} {o : Obj} (hb : b ∈ A) (hk : K.lookup b = none) (e : h.get? b = some o) : argH K h A b = hoOf o := by
  unfold argH
  rw [if_pos hb, hk, if_pos (show (none : Option Obj).isNone = true from rfl), e] <;> rfl
theorem of_argH {b : Addr} {u : HO} (q : argH K h A b = some u) : b ∈ A ∧ K.lookup b = none := by
  unfold argH at q
  by_cases hb : b ∈ A
  · rw [if_pos hb] at q
    cases hk : K.lookup b with
    | none => exact ⟨hb, rfl⟩
    | some o =>
      rw [hk, if_neg (by simp)] at q
      cases q
  · rw [if_neg hb] at q
    cases q
/-- what stands tracked -/
theorem argH_is (ar : ∀ a ∈ A, ArgOb h A a) {b : Addr} {u : HO} (q : argH K h A b = some u) : K.lookup b = none ∧ ∃ vs : List Value, vs.length ≤ sizeLine ∧ (∀ u ∈ vs, OkU A u) ∧
    ((h.get? b = some { cls := .type "list", data := .seq vs.toArray } ∧ u = .frz { cls := .type "list", data := .seq vs.toArray } (.lst (vs.map toV))) ∨
     (h.get? b = some { cls := .type "tuple", data := .seq vs.toArray } ∧ u = .frz { cls := .type "tuple", data := .seq vs.toArray } (.tup (vs.map toV)))) := by
  obtain ⟨hb, hk⟩ := of_argH q
  obtain ⟨vs, h1, h2, h3⟩ := ar b hb
  refine ⟨hk, vs, h1, h2, ?_⟩
  rcases h3 with e | e
  · rw [argH_at hb hk e, hoOf_lst] at q
    exact .inl ⟨e, (Option.some.inj q).symm⟩
  · rw [argH_at hb hk e, hoOf_tup] at q
    exact .inr ⟨e, (Option.some.inj q).symm⟩
theorem argH_only (ar : ∀ a ∈ A, ArgOb h A a) : OnlyF (argH K h A) := fun b => by
  cases q : argH K h A b with
  | none => exact .inl rfl
  | some u =>
    obtain ⟨_, vs, _, _, ⟨_, e⟩ | ⟨_, e⟩⟩ := argH_is ar q
    · exact .inr ⟨_, _, by rw [e]⟩
    · exact .inr ⟨_, _, by rw [e]⟩
theorem argH_ok (ar : ∀ a ∈ A, ArgOb h A a) : HOk P w (argH K h A) h := fun b u q => by
  obtain ⟨_, vs, h1, h2, ⟨e, rfl⟩ | ⟨e, rfl⟩⟩ := argH_is ar q
  · exact ⟨e, by rw [List.length_map]; exact h1, vs, _, vals_toV h2, e⟩
  · exact ⟨e, by rw [List.length_map]; exact h1, vs, vals_toV h2, _, e, rfl, _, rfl⟩
theorem seq_inj {c c' : Value} {vs us : List Value} (e : (some { cls := c, data := .seq vs.toArray } : Option Obj) = some { cls := c', data := .seq us.toArray }) : c = c' ∧ vs = us := by
  have e1 := Option.some.inj e
  have e2 : c = c' := congrArg Obj.cls e1
  have e3 : Data.seq vs.toArray = Data.seq us.toArray := congrArg Obj.data e1
  injection e3 with e4
  refine ⟨e2, ?_⟩
  have e5 := congrArg Array.toList e4
  simpa using e5
/-- a list argument -/
theorem argL (KX : K.In h) (ar : ∀ a ∈ A, ArgOb h A a) {a : Addr} {vs : List Value} (ha : a ∈ A) (e : h.get? a = some { cls := .type "list", data := .seq vs.toArray }) : (∀ u ∈ vs, OkU A u) ∧ SqL K (argH K h A) a (vs.map toV) := by
  obtain ⟨us, h1, h2, h3⟩ := ar a ha
  have hu : us = vs := by
    rcases h3 with q | q
    · rw [e] at q
      exact (seq_inj q).2.symm
    · rw [e] at q
      exact absurd (Value.type.inj (seq_inj q).1) (by decide)
  subst hu
  refine ⟨h2, ?_⟩
  cases hk : K.lookup a with
  | none => exact .inl (.inr ⟨_, by rw [argH_at ha hk e, hoOf_lst]⟩)
  | some o =>
    have e2 := KX a o hk
    rw [e] at e2
    obtain rfl := Option.some.inj e2
    exact .inr ⟨_, us.toArray, _, hk, rfl, rfl, rfl, by rw [List.size_toArray]; exact h1, by simpa using vals_toV h2⟩
theorem argT (KX : K.In h) (ar : ∀ a ∈ A, ArgOb h A a) {a : Addr} {vs : List Value} (ha : a ∈ A) (e : h.get? a = some { cls := .type "tuple", data := .seq vs.toArray }) : (∀ u ∈ vs, OkU A u) ∧ SqT K (argH K h A) a (vs.map toV) := by
  obtain ⟨us, h1, h2, h3⟩ := ar a ha
  have hu : us = vs := by
    rcases h3 with q | q
    · rw [e] at q
      exact absurd (Value.type.inj (seq_inj q).1) (by decide)
    · rw [e] at q
      exact (seq_inj q).2.symm
  subst hu
  refine ⟨h2, ?_⟩
  cases hk : K.lookup a with
  | none => exact .inl (.inr ⟨_, by rw [argH_at ha hk e, hoOf_tup]⟩)
  | some o =>
    have e2 := KX a o hk
    rw [e] at e2
    obtain rfl := Option.some.inj e2
    exact .inr ⟨_, us.toArray, _, hk, rfl, rfl, by rw [List.size_toArray]; exact h1, by simpa using vals_toV h2⟩
mutual
theorem dw_one {Pm : Params} (KX : K.In h) (ar : ∀ a ∈ A, ArgOb h A a) : ∀ (d : WData) (v : Value), Well Pm h v d → plW d = true → OkU A v → Dw K (argH K h A) (toV v) d
  | .none, _, x, _, _ => by
    cases x
    exact .non
  | .bool b, _, x, _, _ => by
    cases x
    exact .bl b
  | .int i, _, x, _, _ => by
    cases x
    exact .int i
  | .str s, _, x, _, _ => by
    cases x
    exact .str s
  | .bytes b, _, x, _, _ => by
    cases x
    have z := Dw.byt (K := K) (H := argH K h A) b.toArray
    exact z
  | .list ds, _, x, p, hu => by
    obtain ⟨a, vs, rfl, ho, hall⟩ := well_list x
    obtain ⟨h2, hs⟩ := argL KX ar hu ho
    exact .lst hs (dw_all KX ar ds _ hall p h2)
  | .tuple ds, _, x, p, hu => by
    obtain ⟨a, vs, rfl, ho, hall⟩ := well_tuple x
    obtain ⟨h2, hs⟩ := argT KX ar hu ho
    exact .tup hs (dw_all KX ar ds _ hall p h2)
  | .float _, _, _, p, _ => Bool.noConfusion (show false = true from p)
  | .dict _, _, _, p, _ => Bool.noConfusion (show false = true from p)
  | .bytearray _, _, _, p, _ => Bool.noConfusion (show false = true from p)
  | .set _, _, _, p, _ => Bool.noConfusion (show false = true from p)
  | .frozenset _, _, _, p, _ => Bool.noConfusion (show false = true from p)
  | .obj _ _, _, _, p, _ => Bool.noConfusion (show false = true from p)
theorem dw_all {Pm : Params} (KX : K.In h) (ar : ∀ a ∈ A, ArgOb h A a) : ∀ (ds : List WData) (vs : List Value), WellAll Pm h vs ds → plWs ds = true → (∀ u ∈ vs, OkU A u) → DwAll K (argH K h A) (vs.map toV) ds
  | [], _, x, _, _ => by
    cases x
    exact .nil
  | d :: ds, _, x, p, hu => by
    obtain ⟨v, vs, rfl, x1, x2⟩ := well_cons x
    have q : plW d = true ∧ plWs ds = true := Bool.and_eq_true_iff.mp p
    exact .cons (dw_one KX ar d v x1 q.1 (hu _ (List.mem_cons_self ..))) (dw_all KX ar ds vs x2 q.2 fun u m => hu u (List.mem_cons_of_mem _ m))
end
end
theorem spec_call {P : Program} {w : World} {K : PySem.W.Frag} {mg mb : Str → Option Value} {CX : CXT} {k : Nat} {fa : Addr} {fd : FuncData} {ps : List Str} {sp : Sp} {s₁ : Shared} {vals : List Value} {ds : List WData} {R : PySem.W.WRecords} {cl : Str → Option Addr} {d0 : WData}
    (KX : K.In s₁.heap) (hns : s₁.heap.Ns mainGlobals mg) (hb : s₁.heap.Ns builtinsNs mb) (hbb : ∀ x : Str, x ≠ "__name__" → mb x = bootBuiltins x) (hlim : s₁.heap.NoLimit) (hg : s₁.gens = #[])
    (hwl : WellAll w.params s₁.heap vals ds) (hpl : plWs ds = true) (hwt : ∀ d ∈ ds, d.weight ≤ 1048576) (hr : Room k callerA)
    (F : ∀ base : Heap, K.In base → base.Ns mainGlobals mg → FnOk P w K mg base CX k fa fd ps sp) (hbind : ∀ (s : Shared) (us : List Value), us.length = ps.length → BindsTo s fd ⟨us, []⟩ (ps.zip us)) (hlen : ds.length = ps.length)
    (hsp : ∀ (H : Hp) (xs : List V), OnlyF H → DwAll K H xs ds → sp xs H (fun v H' => Dw K H' v d0) fun _ _ _ => False)
    (hCX : ∀ H e s', CX [] H s₁ (fun _ _ _ => False) e s' → False) :
    codeAny (model P w) callerA (.call (.ref fa) ⟨vals, []⟩) (fun r s' => ∃ u as, r = .ok (.ret u) ∧ ReadsW R cl s'.heap u d0 as ∧ OldK s₁.heap s'.heap ∧ s'.os = s₁.os ∧ AllBare s'.gens) s₁ := by
  obtain ⟨A, ho, ar⟩ := area_all ds vals hwl hpl hwt
  have hO : OnlyF (argH K s₁.heap A) := argH_only ar
  have hok : HOk P w (argH K s₁.heap A) s₁.heap := argH_ok ar
  have hS := dw_all KX ar ds vals hwl hpl ho
  have hV := vals_toV ho
  have hK : ∀ b u, argH K s₁.heap A b = some u → K.lookup b = none := fun b u q => (argH_is ar q).1
  have noA : ∀ {b : Addr} {o : Obj} {es : Array DictEntry} {ep : Nat}, s₁.heap.get? b = some o → o.data = .dict es ep → argH K s₁.heap A b = none := fun {b o es ep} e d => by
    cases q : argH K s₁.heap A b with
    | none => rfl
    | some u =>
      obtain ⟨_, vs, _, _, ⟨e2, _⟩ | ⟨e2, _⟩⟩ := argH_is ar q
      · rw [e2] at e
        cases e
        have d' : Data.seq vs.toArray _ = Data.dict es ep := d
        cases d'
      · rw [e2] at e
        cases e
        have d' : Data.seq vs.toArray _ = Data.dict es ep := d
        cases d'
  generalize argH K s₁.heap A = H at hO hok hS hK noA
  have base_of : ∀ {b : Addr} {o : Obj}, s₁.heap.get? b = some o → H b = none → (hidT s₁.heap H).get? b = some o := fun e n => hidT_get e n
  have nsK : ∀ {b : Addr} {m : Str → Option Value}, s₁.heap.Ns b m → (hidT s₁.heap H).Ns b m := fun {b m} ⟨o, es, ep, e, d, r⟩ => ⟨o, es, ep, base_of e (noA e d), d, r⟩
  have nK : ∀ b o, K.lookup b = some o → H b = none := fun b o e => by
    cases q : H b with
    | none => rfl
    | some u =>
      rw [hK b u q] at e
      cases e
  have hKb : K.In (hidT s₁.heap H) := fun b o e => base_of (KX b o e) (nK b o e)
  have hM : Mod K mg (hidT s₁.heap H) := ⟨hKb, nsK hns, ⟨mb, nsK hb, hbb⟩, let ⟨mc, h1, h2⟩ := hlim; ⟨mc, nsK h1, h2⟩⟩
  have e0 : Env0 P w K mg (hidT s₁.heap H) callerA [] s₁ H := ⟨rfl, hM, fun b o e => of_hidT e, Nat.le_of_eq (hidT_size _ _), trivial, fun b hb => absurd (show b ∈ ([] : List Addr) from hb) (by simp), hok, .of_eq hg⟩
  have hl : vals.length = ps.length := by rw [wellAll_len hwl]; exact hlen
  refine codeAny_mono ((F _ hKb (nsK hns)).run callerA [] s₁ H ⟨vals, []⟩ vals (vals.map toV) _ _ hr e0 (hbind s₁ vals hl) hV (hsp H _ hO hS)) fun r s' x => ?_
  cases r with
  | error e => exact (hCX H e s' x).elim
  | ok fl =>
    cases fl with
    | next => exact False.elim x
    | brk => exact False.elim x
    | cont => exact False.elim x
    | ret u =>
      obtain ⟨v, H', os, bare, un, hok', r', q⟩ := x
      have kept : ∀ b o, s₁.heap.get? b = some o → s'.heap.get? b = some o := fun b o e => by
        cases q2 : H b with
        | none => exact un.keep b o e q2 (by intro z; exact absurd (show b ∈ ([] : List Addr) from z) (by simp)) (by simp)
        | some u2 =>
          rcases hO b with z | ⟨ob, u3, z⟩
          · rw [q2] at z
            cases z
          · have z2 := un.frzs b ob _ z
            obtain ⟨e1, _⟩ := hok b _ z
            obtain ⟨e2, _⟩ := hok' b _ z2
            rw [e] at e1
            cases e1
            exact e2
      have KX' : K.In s'.heap := fun b o e => kept b o (KX b o e)
      obtain ⟨as, hrd⟩ := Dw.reads (R := R) (cl := cl) hok' KX' d0 v u q r'
      exact ⟨u, as, rfl, hrd, OldK.of_keep kept, os, bare⟩
theorem layable_weight {ds : List WData} (h : WData.layableAll ds = true) : ∀ d ∈ ds, d.weight ≤ 1048576 := fun d hd =>
  (PySem.W.layableW_iff.mp (List.all_eq_true.mp h d hd)).2.2
theorem encAll_len : ∀ (cs : List Codec) (a : Codec.denoteAll cs), (Codec.encAll cs a).length = cs.length
  | [], _ => rfl
  | c :: cs, a => by
    show (Codec.encAll cs a.2).length + 1 = cs.length + 1
    rw [encAll_len cs a.2]
/-- the goal that k_headS leaves (case hc), from the promise of the row's def: whatever the arguments that the codecs let and the row asks for, the def gives what stands for enc (f ..) -/
theorem walk_spec {r : OpenSpec} {k : Nat} {q : Program} {loose : List Str} {XP : (Str → Option Value) → Heap → Prop} {YP : World → Heap → Prop} {d : DefRec} {K : Params → PySem.W.Frag} {CX : World → CXT} {ps : List Str} {sp : World → Sp}
    (hwell : r.wellSaid = true) (hdf : d.params.defaults = []) (hlen : r.args.length = ps.length) (hr : Room k callerA)
    (hY : ∀ (w : World) (h : Heap), YP w h → (K w.params).In h)
    (F : ∀ (w : World) (mg : Str → Option Value) (fa : Addr) (h : Heap), YP w h → (K w.params).In h → h.Ns mainGlobals mg → mg d.name = some (.ref fa) →
      ∃ fd : FuncData, (∀ (s : Shared) (us : List Value), us.length = ps.length → BindsTo s fd ⟨us, []⟩ (ps.zip us)) ∧
        ∀ base : Heap, (K w.params).In base → base.Ns mainGlobals mg → FnOk r.prog w (K w.params) mg base (CX w) k fa fd ps (sp w))
    (hsp : ∀ (w : World) (H : Hp) (xs : List V) (a : Codec.denoteAll r.args), OnlyF H → Codec.withinAll r.args a = true → Codec.app r.args r.asked a = true → DwAll (K w.params) H xs (Codec.encAll r.args a) →
      sp w xs H (fun v H' => Dw (K w.params) H' v (r.ret.enc (Codec.app r.args r.f a))) fun _ _ _ => False)
    (hCX : ∀ (w : World) (H : Hp) (s : Shared) (e : Value) (s' : Shared), CX w [] H s (fun _ _ _ => False) e s' → False) :
    PySem.W.WalkOS q loose XP YP r d [] (fun f vs => PySem.call f vs) := by
  intro w s_0 s₁ mg mb G Y fa o pm cd doc dV kV ho hd hcd hD hmg hg args vals as hpre hlay hrd hwl hlo
  obtain ⟨a, e1, e2⟩ := PySem.W.os_pre_some hpre
  obtain ⟨e3, hwi⟩ := Codec.encAll_of_decAll r.args args a e1
  subst e3
  have KX := hY w _ Y
  obtain ⟨fd, hb, hF⟩ := F w mg fa _ Y KX G.T.g hmg
  refine PySem.W.enter_call (codeAny_mono (spec_call (R := []) (cl := classAt s_0.heap) (d0 := r.ret.enc (Codec.app r.args r.f a)) KX G.T.g G.T.b G.T.builtins G.T.nolimit hg hwl (pl_encAll _ _) (layable_weight hlay) hr hF hb (by rw [encAll_len]; exact hlen)
    (fun H xs hO hS => hsp w H xs a hO hwi e2 hS) fun H e s' => hCX w H s₁ e s') fun r' s' hq => ?_)
  obtain ⟨u, as', rfl, h1, h2, h3, h4⟩ := hq
  exact ⟨.inl ⟨u, _, as', rfl, fun _ => rfl, h1, (OpenSpec.post_iff hwell hwi _ _).mpr rfl, fun z => Bool.noConfusion (show false = true from z)⟩, h2, h3, h4⟩
/-- the same where the promise hangs on the written part alone -/
theorem walk_specK {r : OpenSpec} {k : Nat} {q : Program} {loose : List Str} {XP : (Str → Option Value) → Heap → Prop} {YP : World → Heap → Prop} {d : DefRec} {K : Params → PySem.W.Frag} {CX : CXT} {ps : List Str} {sp : PySem.W.Frag → Sp}
    (hwell : r.wellSaid = true) (hdf : d.params.defaults = []) (hlen : r.args.length = ps.length) (hr : Room k callerA)
    (hY : ∀ (w : World) (h : Heap), YP w h → (K w.params).In h)
    (F : ∀ (w : World) (mg : Str → Option Value) (fa : Addr) (h : Heap), YP w h → (K w.params).In h → h.Ns mainGlobals mg → mg d.name = some (.ref fa) →
      ∃ fd : FuncData, (∀ (s : Shared) (us : List Value), us.length = ps.length → BindsTo s fd ⟨us, []⟩ (ps.zip us)) ∧
        ∀ base : Heap, (K w.params).In base → base.Ns mainGlobals mg → FnOk r.prog w (K w.params) mg base CX k fa fd ps (sp (K w.params)))
    (hsp : ∀ (K : PySem.W.Frag) (H : Hp) (xs : List V) (a : Codec.denoteAll r.args), OnlyF H → Codec.withinAll r.args a = true → Codec.app r.args r.asked a = true → DwAll K H xs (Codec.encAll r.args a) →
      sp K xs H (fun v H' => Dw K H' v (r.ret.enc (Codec.app r.args r.f a))) fun _ _ _ => False)
    (hCX : ∀ (H : Hp) (s : Shared) (e : Value) (s' : Shared), CX [] H s (fun _ _ _ => False) e s' → False) :
    PySem.W.WalkOS q loose XP YP r d [] (fun f vs => PySem.call f vs) :=
  walk_spec (K := K) (CX := fun _ => CX) (sp := fun w => sp (K w.params)) hwell hdf hlen hr hY F (fun w H xs a h1 h2 h3 h4 => hsp (K w.params) H xs a h1 h2 h3 h4) fun _ H s e s' => hCX H s e s'
end L2
end
namespace L2
open PySem PySem.Spec PyProof.Rows
/-- the j-th statement of a class's body -/
def inClass (s : Stmt) (j : Nat) : Stmt := match s with
  | .ClassDef _ _ _ body _ _ _ _ _ _ _ => body.getD j (.Pass ⟨0, 0, 0, 0⟩)
  | _ => .Pass ⟨0, 0, 0, 0⟩
def defArgs (s : Stmt) : Arguments := match s with
  | .FunctionDef _ a _ _ _ _ _ _ _ _ => a
  | _ => { posonlyargs := [], args := [], vararg := none, kwonlyargs := [], kw_defaults := [], kwarg := none, defaults := [] }
def defBody (s : Stmt) : List Stmt := match s with
  | .FunctionDef _ _ b _ _ _ _ _ _ _ => b
  | _ => []
def defScope (s : Stmt) : Scope := match s with
  | .FunctionDef _ _ _ _ _ _ sc _ _ _ => sc
  | _ => { kind := .function, names := [], isGenerator := false, isCoroutine := false }
abbrev CX0 : CXT := fun _ _ _ _ _ _ => False
abbrev E0 : XK := fun _ _ _ => False
theorem pass0 {X : Cx} : Passes CX0 X E0 := fun _ _ _ _ _ _ _ h => h.elim
structure Fun (K : PySem.W.Frag) (x qual : Str) (st : Stmt) (f : Addr) (fd : FuncData) : Prop where
  ex : ∃ (oc : Value) (od : Option Addr) (kV doc pm : Value) (an : Option Addr) (cdv ct : Value) (osl : Array (Option Value)),
    fd = PySem.W.fnOf x qual (defArgs st) (defBody st) (defScope st) .none kV doc pm an cdv ct ∧ K.lookup f = some ⟨oc, od, .func fd, osl⟩ ∧ PySem.W.codeIn K cdv qual = true
  kp : PySem.W.keepIn K (.ref f) = true
section
variable {P : Program} {w : World} {K : PySem.W.Frag} {mg : Str → Option Value} {base : Heap}
/-- THE RULE for a def: its body as a term of rules, and the reading of that term -/
theorem Fun.ok {x qual : Str} {st : Stmt} {f : Addr} {fd : FuncData} {N ps : List Str} {k : Nat} {sp : Sp} (F : Fun K x qual st f fd) (S : FnScope N ps (defScope st)) (len : ∀ vs H Q E, sp vs H Q E → vs.length = ps.length)
    (hbody : ∀ (cdv : Value) (A : Around) (outer : List Env) (s : Shared) (H : Hp) (vs : List V) (Q : VK) (E : XK), Room k (A.deeper (envOfC qual (defScope st) s.heap.objs.size f cdv)) → sp vs H Q E →
      ∃ t, PSs (cxOf CX0 P w K mg base N qual (defScope st) f cdv A outer s H E).nox (defBody st) t ∧ t { nx := fun _ H' => Q .non H', rt := Q } (start N vs) H) : FnOk P w K mg base CX0 (k + 1) f fd ps sp := by
  obtain ⟨oc, od, kV, doc, pm, an, cdv, ct, osl, rfl, lk, hcd⟩ := F.ex
  refine fn_of lk hcd S len fun A outer s H vs Q E hr hsp => ?_
  obtain ⟨t, h, q⟩ := hbody cdv A outer s H vs Q E hr hsp
  exact ⟨t, h.nox, q⟩
/-- how its arguments bind (no defaults): h is «fun _ _ _ _ _ _ us hl => match us, hl with | [_, _], _ => rfl», one _ a parameter -/
theorem Fun.binds {x qual : Str} {st : Stmt} {f : Addr} {fd : FuncData} {ps : List Str} (F : Fun K x qual st f fd)
    (h : ∀ (kV doc pm : Value) (an : Option Addr) (cdv ct : Value) (us : List Value), us.length = ps.length → bindArgs (PySem.W.fnOf x qual (defArgs st) (defBody st) (defScope st) .none kV doc pm an cdv ct) ⟨us, []⟩ = pure (ps.zip us)) : Binds K fd ps [] := by
  obtain ⟨oc, od, kV, doc, pm, an, cdv, ct, osl, rfl, lk, hcd⟩ := F.ex
  exact .all (h kV doc pm an cdv ct)
theorem fun_mk {x qual : Str} {st : Stmt} {f : Addr} {oc : Value} {od an : Option Addr} {osl : Array (Option Value)} {kV doc pm cdv ct : Value} (l : K.lookup f = some ⟨oc, od, .func (PySem.W.fnOf x qual (defArgs st) (defBody st) (defScope st) .none kV doc pm an cdv ct), osl⟩)
    (c : PySem.W.codeIn K cdv qual = true) (k : PySem.W.keepIn K (.ref f) = true) : Fun K x qual st f (PySem.W.fnOf x qual (defArgs st) (defBody st) (defScope st) .none kV doc pm an cdv ct) := ⟨⟨oc, od, kV, doc, pm, an, cdv, ct, osl, rfl, l, c⟩, k⟩
end
section
variable {X : Cx}
theorem pv (i : Nat) {x : Str} {pos : Pos} (hN : X.N[i]? = some x := by rfl) (hv : Vis X.env.scope x := by first | exact Or.inl rfl | exact Or.inr (Or.inl rfl) | exact Or.inr (Or.inr rfl)) (hd : (x == ("__debug__" : Str)) = false := by decide)
    (hcd : (x == ("__classdict__" : Str)) = false := by decide) : PE X (.Name x pos) (tVar i) := pe_var hN hv hd hcd
end
theorem ite2 {c A B : Prop} [Decidable c] (h1 : c → A) (h2 : ¬ c → B) : if c then A else B := by
  by_cases h : c
  · rw [if_pos h]
    exact h1 h
  · rw [if_neg h]
    exact h2 h
/-- all that was tracked is as it was -/
def Same (H H' : Hp) : Prop := ∀ b o, H b = some o → H' b = some o
theorem Same.refl (H : Hp) : Same H H := fun _ _ h => h
theorem Same.trans {H H1 H2 : Hp} (a : Same H H1) (b : Same H1 H2) : Same H H2 := fun c o h => b c o (a c o h)
theorem Same.free {H H' : Hp} (e : Same H H') {l : Addr} (h : H' l = Option.none) : H l = Option.none := by
  cases q : H l with
  | none => rfl
  | some o =>
    rw [e l o q] at h
    cases h
theorem Same.seq {K : PySem.W.Frag} {H H' : Hp} {a : Addr} {xs : List V} (e : Same H H') (h : SqL K H a xs) : SqL K H' a xs := by
  rcases h with (h | ⟨o, h⟩) | h
  · exact .inl (.inl (e _ _ h))
  · exact .inl (.inr ⟨o, e _ _ h⟩)
  · exact .inr h
section
variable {κ : Type} [DecidableEq κ]
end
theorem at_of {xs : List V} {z : Int} {j : Nat} {v : V} (e : z = (j : Int)) (h : xs[j]? = some v) : atI xs z = some v := by
  rw [e]
  exact atI_nat h
/-- a new instance and its __init__ leave all that was tracked as it was -/
theorem Same.made {H H1 : Hp} {x dx C : Addr} (nx : H x = Option.none) (nd : H dx = Option.none) (k : ∀ b o, (upd (upd H dx (.own x)) x (.ins C dx [])) b = some o → b ≠ x → H1 b = some o) : Same H H1 := fun b o e =>
  k b o (by rw [upd_ne (ne_of_none e nx), upd_ne (ne_of_none e nd)]; exact e) (ne_of_none e nx)
end L2

set_option linter.all false
namespace Hw
open Tilt

/-! numbers of bytes as ints -/
def ni (l : List Nat) : List Int := l.map fun (n : Nat) => (n : Int)
def bi (b : Bytes) : List Int := b.map fun c => (c.toNat : Int)
theorem ni_length (l : List Nat) : (ni l).length = l.length := List.length_map ..
theorem bi_length (b : Bytes) : (bi b).length = b.length := List.length_map ..
theorem ni_append (a b : List Nat) : ni (a ++ b) = ni a ++ ni b := List.map_append ..
theorem bi_append (a b : Bytes) : bi (a ++ b) = bi a ++ bi b := List.map_append ..
theorem bi_nat8 (b : Bytes) : bi b = ni (nat8 b) := by
  unfold bi ni nat8
  rw [List.map_map]
  rfl

/-! ### little endian -/
theorem le_length (w n : Nat) : (le w n).length = w := by
  unfold le
  rw [List.length_map, List.length_range]
theorem u8_toNat (n : Nat) : (UInt8.ofNat (n % 256)).toNat = n % 256 := by
  rw [UInt8.toNat_ofNat']
  show n % 256 % 256 = n % 256
  omega
theorem bi_le (w n : Nat) : bi (le w n) = (List.range w).map fun i => ((n / 256 ^ i % 256 : Nat) : Int) := by
  unfold bi le
  rw [List.map_map]
  refine List.map_congr_left fun i _ => ?_
  show (((UInt8.ofNat (n / 256 ^ i % 256)).toNat : Nat) : Int) = _
  rw [u8_toNat]
theorem num_nil : num [] = 0 := rfl
theorem num_cons (c : UInt8) (b : Bytes) : num (c :: b) = c.toNat + 256 * num b := rfl
theorem num_lt : ∀ b : Bytes, num b < 256 ^ b.length
  | [] => by decide
  | c :: b => by
    have h := num_lt b
    have hc : c.toNat < 256 := c.toNat_lt
    rw [num_cons, List.length_cons, Nat.pow_succ]
    omega

/-! ### scores: the number of a score rises with it -/
def nk (k a : Nat) : Nat := sumOf ((List.range k).map fun i => digit a i * 10 ^ i)
theorem nk_succ (k a : Nat) : nk (k + 1) a = nk k a + digit a k * 10 ^ k := by
  unfold nk sumOf
  rw [List.range_succ, List.map_append, List.foldl_append]
  rfl
theorem nk_lt : ∀ (k a : Nat), (∀ i, i < k → digit a i < 10) → nk k a < 10 ^ k
  | 0, a, _ => by
    show 0 < 1
    decide
  | k + 1, a, h => by
    have ih := nk_lt k a fun i hi => h i (by omega)
    have hd := h k (by omega)
    rw [nk_succ, Nat.pow_succ]
    have : digit a k * 10 ^ k ≤ 9 * 10 ^ k := Nat.mul_le_mul_right _ (by omega)
    omega
theorem lex {P Q x y p q m n : Nat} (hp : p < P) (hq : q < P) (hm : m < Q) (hn : n < Q) (h : p ≤ q ↔ m ≤ n) : (p + P * x ≤ q + P * y ↔ m + x * Q ≤ n + y * Q) := by
  rcases Nat.lt_trichotomy x y with e | e | e
  · have h1 : P * (x + 1) ≤ P * y := Nat.mul_le_mul_left _ e
    have h2 : (x + 1) * Q ≤ y * Q := Nat.mul_le_mul_right _ e
    rw [Nat.mul_add, Nat.mul_one] at h1
    rw [Nat.add_mul, Nat.one_mul] at h2
    constructor <;> intro _ <;> omega
  · subst e
    constructor <;> intro z
    · have : p ≤ q := by omega
      have := h.mp this
      omega
    · have : m ≤ n := by omega
      have := h.mpr this
      omega
  · have h1 : P * (y + 1) ≤ P * x := Nat.mul_le_mul_left _ e
    have h2 : (y + 1) * Q ≤ x * Q := Nat.mul_le_mul_right _ e
    rw [Nat.mul_add, Nat.mul_one] at h1
    rw [Nat.add_mul, Nat.one_mul] at h2
    constructor <;> intro _ <;> omega
theorem nk_le : ∀ (k a b : Nat), (∀ i, i < k → digit a i < 10) → (∀ i, i < k → digit b i < 10) → (a % 16 ^ k ≤ b % 16 ^ k ↔ nk k a ≤ nk k b)
  | 0, a, b, _, _ => by
    rw [Nat.pow_zero, Nat.mod_one, Nat.mod_one]
    exact Iff.rfl
  | k + 1, a, b, ha, hb => by
    have ih := nk_le k a b (fun i hi => ha i (by omega)) fun i hi => hb i (by omega)
    have la := nk_lt k a fun i hi => ha i (by omega)
    have lb := nk_lt k b fun i hi => hb i (by omega)
    rw [nk_succ, nk_succ, Nat.mod_pow_succ, Nat.mod_pow_succ]
    exact lex (Nat.mod_lt _ (Nat.pow_pos (by decide))) (Nat.mod_lt _ (Nat.pow_pos (by decide))) la lb ih
theorem score_digits {a : Nat} (h : isScore a = true) : a < 2 ^ 48 ∧ ∀ i, i < 12 → digit a i < 10 := by
  unfold isScore at h
  rw [Bool.and_eq_true, List.all_eq_true] at h
  exact ⟨of_decide_eq_true h.1, fun i hi => of_decide_eq_true (h.2 i (List.mem_range.mpr hi))⟩
theorem score_le {a b : Nat} (ha : isScore a = true) (hb : isScore b = true) : a ≤ b ↔ numberOfScore a ≤ numberOfScore b := by
  obtain ⟨a1, a2⟩ := score_digits ha
  obtain ⟨b1, b2⟩ := score_digits hb
  have h := nk_le 12 a b a2 b2
  have e : (16 : Nat) ^ 12 = 2 ^ 48 := by decide
  rw [e, Nat.mod_eq_of_lt a1, Nat.mod_eq_of_lt b1] at h
  exact h

/-! ### right, as the program asks it -/
def levelsP : Nat → List Nat → Bool
  | _, [] => true
  | b, x :: l => decide (b < x) && (isScore x && levelsP x l)
def letterP (c : UInt8) : Bool := c == 32 || (decide (65 ≤ c) && decide (c ≤ 90))
def bestP : Nat → Best → Bool
  | _, [] => true
  | b, e :: l => decide (e.score ≤ b) && (isScore e.score && (e.who.all letterP && bestP e.score l))
theorem rising_cons : ∀ (l : List Nat) (x : Nat), risingBy (x :: l) = true ↔ (∀ z ∈ l, x < z) ∧ risingBy l = true
  | [], x => ⟨fun _ => ⟨fun _ h => (nomatch h), rfl⟩, fun _ => rfl⟩
  | y :: l, x => by
    have ih := rising_cons l y
    have e : risingBy (x :: y :: l) = (decide (x < y) && risingBy (y :: l)) := rfl
    rw [e, Bool.and_eq_true, decide_eq_true_iff]
    constructor
    · rintro ⟨h1, h2⟩
      refine ⟨fun z hz => ?_, h2⟩
      rcases List.mem_cons.mp hz with q | q
      · rw [q]
        exact h1
      · exact Nat.lt_trans h1 ((ih.mp h2).1 z q)
    · rintro ⟨h1, h2⟩
      exact ⟨h1 y List.mem_cons_self, h2⟩
theorem falls_cons : ∀ (l : List Nat) (x : Nat), falls (x :: l) = true ↔ (∀ z ∈ l, z ≤ x) ∧ falls l = true
  | [], x => ⟨fun _ => ⟨fun _ h => (nomatch h), rfl⟩, fun _ => rfl⟩
  | y :: l, x => by
    have ih := falls_cons l y
    have e : falls (x :: y :: l) = (decide (y ≤ x) && falls (y :: l)) := rfl
    rw [e, Bool.and_eq_true, decide_eq_true_iff]
    constructor
    · rintro ⟨h1, h2⟩
      refine ⟨fun z hz => ?_, h2⟩
      rcases List.mem_cons.mp hz with q | q
      · rw [q]
        exact h1
      · exact Nat.le_trans ((ih.mp h2).1 z q) h1
    · rintro ⟨h1, h2⟩
      exact ⟨h1 y List.mem_cons_self, h2⟩
theorem levelsP_iff : ∀ (l : List Nat) (b : Nat), levelsP b l = true ↔ (∀ x ∈ l, isScore x = true ∧ b < x) ∧ risingBy l = true
  | [], b => ⟨fun _ => ⟨fun _ h => (nomatch h), rfl⟩, fun _ => rfl⟩
  | x :: l, b => by
    have ih := levelsP_iff l x
    have e : levelsP b (x :: l) = (decide (b < x) && (isScore x && levelsP x l)) := rfl
    rw [e, Bool.and_eq_true, Bool.and_eq_true, decide_eq_true_iff, ih, rising_cons]
    constructor
    · rintro ⟨h1, h2, h3, h4⟩
      refine ⟨fun z hz => ?_, fun z hz => (h3 z hz).2, h4⟩
      rcases List.mem_cons.mp hz with q | q
      · rw [q]
        exact ⟨h2, h1⟩
      · exact ⟨(h3 z q).1, Nat.lt_trans h1 (h3 z q).2⟩
    · rintro ⟨h1, h2, h3⟩
      have hx := h1 x List.mem_cons_self
      exact ⟨hx.2, hx.1, fun z hz => ⟨(h1 z (List.mem_cons_of_mem _ hz)).1, h2 z hz⟩, h3⟩
theorem levelsP_right (l : List Nat) : levelsP 0 l = levelsRight l := by
  rw [Bool.eq_iff_iff, levelsP_iff]
  unfold levelsRight
  rw [Bool.and_eq_true, List.all_eq_true]
  constructor
  · rintro ⟨h1, h2⟩
    exact ⟨fun x hx => by rw [Bool.and_eq_true, decide_eq_true_iff]; exact h1 x hx, h2⟩
  · rintro ⟨h1, h2⟩
    exact ⟨fun x hx => by have := h1 x hx; rw [Bool.and_eq_true, decide_eq_true_iff] at this; exact this, h2⟩
theorem bestP_iff : ∀ (l : Best) (b : Nat), bestP b l = true ↔ (∀ e ∈ l, e.score ≤ b ∧ isScore e.score = true ∧ e.who.all letterP = true) ∧ falls (l.map fun e => numberOfScore e.score) = true
  | [], b => ⟨fun _ => ⟨fun _ h => (nomatch h), rfl⟩, fun _ => rfl⟩
  | e :: l, b => by
    have ih := bestP_iff l e.score
    have q : bestP b (e :: l) = (decide (e.score ≤ b) && (isScore e.score && (e.who.all letterP && bestP e.score l))) := rfl
    rw [q, Bool.and_eq_true, Bool.and_eq_true, Bool.and_eq_true, decide_eq_true_iff, ih, List.map_cons, falls_cons]
    constructor
    · rintro ⟨h1, h2, h3, h4, h5⟩
      refine ⟨fun z hz => ?_, fun z hz => ?_, h5⟩
      · rcases List.mem_cons.mp hz with q | q
        · rw [q]
          exact ⟨h1, h2, h3⟩
        · have := h4 z q
          exact ⟨Nat.le_trans this.1 h1, this.2⟩
      · obtain ⟨f, hf, rfl⟩ := List.mem_map.mp hz
        have := h4 f hf
        exact (score_le this.2.1 h2).mp this.1
    · rintro ⟨h1, h2, h3⟩
      have he := h1 e List.mem_cons_self
      refine ⟨he.1, he.2.1, he.2.2, fun z hz => ?_, h3⟩
      have hz' := h1 z (List.mem_cons_of_mem _ hz)
      exact ⟨(score_le hz'.2.1 he.2.1).mpr (h2 _ (List.mem_map.mpr ⟨z, hz, rfl⟩)), hz'.2⟩
theorem bestP_right (s : Best) (h8 : s.length = 8) (h3 : ∀ e ∈ s, e.who.length = 3) : bestP (2 ^ 48) s = s.right := by
  rw [Bool.eq_iff_iff, bestP_iff]
  unfold Best.right
  rw [Bool.and_eq_true, Bool.and_eq_true, List.all_eq_true, beq_iff_eq]
  have q : ∀ e ∈ s, isWho e.who = e.who.all letterP := fun e he => by
    unfold isWho
    rw [h3 e he]
    rfl
  constructor
  · rintro ⟨h1, h2⟩
    refine ⟨h8, fun e he => ?_, h2⟩
    have := h1 e he
    rw [Bool.and_eq_true, q e he]
    exact this.2
  · rintro ⟨_, h1, h2⟩
    refine ⟨fun e he => ?_, h2⟩
    have := h1 e he
    rw [Bool.and_eq_true, q e he] at this
    exact ⟨Nat.le_of_lt (score_digits this.1).1, this⟩
end Hw

set_option linter.all false
namespace Hw
open Tilt

/-! ### parts of parts -/
theorem part_part {α : Type} (b : List α) (p n q m : Nat) (h : q + m ≤ n) : (((b.drop p).take n).drop q).take m = (b.drop (p + q)).take m := by
  rw [List.drop_take, List.take_take, List.drop_drop, Nat.min_eq_left (by omega)]
theorem part_getD {α : Type} (b : List α) (p n i : Nat) (d : α) (h : i < n) : ((b.drop p).take n).getD i d = b.getD (p + i) d := by
  rw [List.getD_eq_getElem?_getD, List.getD_eq_getElem?_getD, List.getElem?_take_of_lt h, List.getElem?_drop]
theorem flatMap_length {α β : Type} (f : α → List β) (k : Nat) : ∀ l : List α, (∀ x ∈ l, (f x).length = k) → (l.flatMap f).length = k * l.length
  | [], _ => rfl
  | x :: l, h => by
    rw [List.flatMap_cons, List.length_append, flatMap_length f k l fun y hy => h y (List.mem_cons_of_mem _ hy), h x List.mem_cons_self, List.length_cons, Nat.mul_add]
    omega

/-! ### a content as it is told, what a level gives being any number -/
structure Raw where
  audits : List Nat
  coins : Nat
  balls : Nat
  warnings : Nat
  players : Nat
  gives : Nat
  save : Nat
  levels : List Nat
  best : Best
def six (r : Raw) : List Nat := [r.coins, r.balls, r.warnings, r.players, r.gives, r.save]
def entryNums (e : Entry) : List Nat := e.score :: nat8 e.who
def Raw.nums (r : Raw) : List Nat := r.audits ++ (six r ++ (r.levels.length :: (r.levels ++ r.best.flatMap entryNums)))
def Raw.toC (r : Raw) : Content := ⟨r.audits, ⟨r.coins, r.balls, r.warnings, r.players, r.gives != 0, r.save, r.levels⟩, r.best⟩
structure Shape (r : Raw) : Prop where
  aud : r.audits.length = 8
  lev : r.levels.length ≤ 4
  bst : r.best.length = 8
  who : ∀ e ∈ r.best, e.who.length = 3
theorem nums_eq {r : Raw} (h : r.gives ≤ 1) : r.nums = TiltKeepCalls.contentNums r.toC := by
  have e : (r.gives != 0).toNat = r.gives := by
    rcases Nat.lt_or_ge r.gives 1 with q | q
    · have : r.gives = 0 := by omega
      rw [this]
      rfl
    · have : r.gives = 1 := by omega
      rw [this]
      rfl
  unfold TiltKeepCalls.contentNums Raw.nums Raw.toC six
  show _ = r.audits ++ ([r.coins, r.balls, r.warnings, r.players, (r.gives != 0).toNat, r.save, r.levels.length] ++ _)
  rw [e]
  rfl
theorem nums_length {r : Raw} (S : Shape r) : r.nums.length = 47 + r.levels.length := by
  have e : (r.best.flatMap entryNums).length = 4 * r.best.length := flatMap_length _ 4 _ fun e he => by
    unfold entryNums nat8
    rw [List.length_cons, List.length_map, S.who e he]
  unfold Raw.nums six
  simp only [List.length_append, List.length_cons, List.length_nil, e, S.aud, S.bst]
  omega

/-! ### right -/
def setupP (r : Raw) : Bool := between 1 9 r.coins && (between 1 9 r.balls && (between 0 9 r.warnings && (between 1 4 r.players && (between 0 1 r.gives && between 0 100000 r.save))))
def rightP (r : Raw) : Bool := setupP r && (levelsP 0 r.levels && bestP (2 ^ 48) r.best)
theorem between0 (h n : Nat) : between 0 h n = decide (n ≤ h) := by
  unfold between
  rw [decide_eq_true (Nat.zero_le n), Bool.true_and]
theorem rightP_eq {r : Raw} (S : Shape r) : rightP r = (decide (r.gives ≤ 1) && (r.toC.setup.right && r.toC.best.right)) := by
  unfold rightP
  rw [levelsP_right, bestP_right r.best S.bst S.who]
  show (setupP r && (levelsRight r.levels && Best.right r.best)) = (decide (r.gives ≤ 1) && (Setup.right _ && Best.right r.best))
  unfold setupP Setup.right Raw.toC
  rw [between0, between0, between0, decide_eq_true S.lev]
  cases between 1 9 r.coins <;> cases between 1 9 r.balls <;> cases decide (r.warnings ≤ 9) <;> cases between 1 4 r.players <;> cases decide (r.gives ≤ 1) <;> cases decide (r.save ≤ 100000) <;> cases levelsRight r.levels <;> cases Best.right r.best <;> rfl

/-! ### lengths of forms -/
theorem setup_form_length (u : Setup) (h : u.levels.length ≤ 4) : u.form.length = 48 := by
  unfold Setup.form
  rw [List.length_append, List.length_append, List.length_append, List.length_append, le_length, le_length, List.length_replicate, flatMap_length (le 8) 8 u.levels fun x _ => le_length 8 x]
  show 8 + (4 + (4 + (8 * u.levels.length + 8 * (4 - u.levels.length)))) = 48
  omega
theorem best_form_length (s : Best) (h : ∀ e ∈ s, e.who.length = 3) : s.form.length = 16 * s.length := by
  unfold Best.form
  refine flatMap_length _ 16 s fun e he => ?_
  rw [List.length_append, List.length_append, le_length, h e he, List.length_replicate]
theorem audits_length (a : List Nat) : (a.flatMap (le 8)).length = 8 * a.length := flatMap_length (le 8) 8 a fun x _ => le_length 8 x
theorem form_length {r : Raw} (S : Shape r) : r.toC.form.length = 240 := by
  unfold Content.form
  rw [List.length_append, List.length_append, audits_length, setup_form_length _ S.lev, best_form_length r.toC.best S.who]
  show 8 * r.audits.length + (48 + 16 * r.best.length) = 240
  rw [S.aud, S.bst]
theorem half_length {c : Content} (n : Nat) (h : c.form.length = 240) : (halfOf n c).length = 256 := by
  unfold halfOf
  simp only [List.length_append, le_length, h]
  rfl

/-! ### what 240 bytes tell -/
def rawIn (b : Bytes) : Raw where
  audits := (List.range 8).map fun i => num ((b.drop (8 * i)).take 8)
  coins := (b.getD 64 0).toNat
  balls := (b.getD 65 0).toNat
  warnings := (b.getD 66 0).toNat
  players := (b.getD 67 0).toNat
  gives := (b.getD 68 0).toNat
  save := num ((b.drop 72).take 4)
  levels := ((List.range 4).map fun i => num ((b.drop (80 + 8 * i)).take 8)).takeWhile fun l => l != 0
  best := (List.range 8).map fun i => ⟨num ((b.drop (112 + 16 * i)).take 8), (b.drop (112 + 16 * i + 8)).take 3⟩
theorem takeWhile_length_le {α : Type} (p : α → Bool) : ∀ l : List α, (l.takeWhile p).length ≤ l.length
  | [] => Nat.le_refl _
  | x :: l => by
    rw [List.takeWhile_cons]
    split
    · rw [List.length_cons, List.length_cons]
      have := takeWhile_length_le p l
      omega
    · exact Nat.zero_le _
theorem rawIn_shape {b : Bytes} (hb : b.length = 240) : Shape (rawIn b) where
  aud := by
    show ((List.range 8).map _).length = 8
    rw [List.length_map, List.length_range]
  lev := by
    refine Nat.le_trans (takeWhile_length_le _ _) ?_
    rw [List.length_map, List.length_range]
    exact Nat.le_refl _
  bst := by
    show ((List.range 8).map _).length = 8
    rw [List.length_map, List.length_range]
  who := fun e he => by
    obtain ⟨i, hi, rfl⟩ := List.mem_map.mp he
    have := List.mem_range.mp hi
    show ((b.drop (112 + 16 * i + 8)).take 3).length = 3
    rw [List.length_take, List.length_drop, hb]
    omega
theorem rawIn_setup (b : Bytes) : (rawIn b).toC.setup = setupBytes ((b.drop 64).take 48) := by
  have g : ∀ i, i < 48 → (((b.drop 64).take 48).getD i 0).toNat = (b.getD (64 + i) 0).toNat := fun i hi => by rw [part_getD b 64 48 i 0 hi]
  have l : ((List.range 4).map fun (i : Nat) => num ((((b.drop 64).take 48).drop (16 + 8 * i)).take 8)) = (List.range 4).map fun i => num ((b.drop (80 + 8 * i)).take 8) := by
    refine List.map_congr_left fun i hi => ?_
    have := List.mem_range.mp hi
    rw [part_part b 64 48 (16 + 8 * i) 8 (by omega)]
    show num ((b.drop (64 + (16 + 8 * i))).take 8) = _
    rw [show 64 + (16 + 8 * i) = 80 + 8 * i by omega]
  unfold setupBytes
  show (⟨(b.getD 64 0).toNat, (b.getD 65 0).toNat, (b.getD 66 0).toNat, (b.getD 67 0).toNat, (b.getD 68 0).toNat != 0, num ((b.drop 72).take 4), ((List.range 4).map fun i => num ((b.drop (80 + 8 * i)).take 8)).takeWhile fun l => l != 0⟩ : Setup) = ⟨(((b.drop 64).take 48).getD 0 0).toNat, (((b.drop 64).take 48).getD 1 0).toNat, (((b.drop 64).take 48).getD 2 0).toNat, (((b.drop 64).take 48).getD 3 0).toNat, (((b.drop 64).take 48).getD 4 0).toNat != 0, num ((((b.drop 64).take 48).drop 8).take 4), ((List.range 4).map fun (i : Nat) => num ((((b.drop 64).take 48).drop (16 + 8 * i)).take 8)).takeWhile fun l => l != 0⟩
  rw [l, g 0 (by decide), g 1 (by decide), g 2 (by decide), g 3 (by decide), g 4 (by decide), part_part b 64 48 8 4 (by decide)]
theorem rawIn_best (b : Bytes) : (rawIn b).best = (List.range BEST).map fun (i : Nat) => (⟨num ((((b.drop 112).take 128).drop (16 * i)).take 8), (((b.drop 112).take 128).drop (16 * i + 8)).take 3⟩ : Entry) := by
  refine List.map_congr_left fun i hi => ?_
  have := List.mem_range.mp hi
  rw [part_part b 112 128 (16 * i) 8 (by omega), part_part b 112 128 (16 * i + 8) 3 (by omega)]
  show (⟨_, _⟩ : Entry) = _
  rw [show 112 + (16 * i + 8) = 112 + 16 * i + 8 by omega]
theorem take_left {α : Type} (a b : List α) (n : Nat) (h : a.length = n) : (a ++ b).take n = a := by
  rw [← h, List.take_left]
theorem drop_left {α : Type} (a b : List α) (n : Nat) (h : a.length = n) : (a ++ b).drop n = b := by
  rw [← h, List.drop_left]

/-- the content of 240 bytes: a right one's bytes, made anew from what they tell -/
theorem contentIn_eq {b : Bytes} (hb : b.length = 240) : contentIn b = if rightP (rawIn b) = true ∧ (rawIn b).toC.form = b then some (rawIn b).toC else none := by
  have S := rawIn_shape hb
  have eu := rawIn_setup b
  have es := rawIn_best b
  have er := rightP_eq S
  by_cases h : rightP (rawIn b) = true ∧ (rawIn b).toC.form = b
  · rw [if_pos h]
    obtain ⟨h1, h2⟩ := h
    rw [er, Bool.and_eq_true, Bool.and_eq_true] at h1
    obtain ⟨_, hu, hs⟩ := h1
    have fa : ((rawIn b).toC.audits.flatMap (le 8)).length = 64 := by
      rw [audits_length]
      show 8 * (rawIn b).audits.length = 64
      rw [S.aud]
    have fu : (rawIn b).toC.setup.form.length = 48 := setup_form_length _ S.lev
    have fs : (rawIn b).toC.best.form.length = 128 := by
      rw [best_form_length (rawIn b).toC.best S.who]
      show 16 * (rawIn b).best.length = 128
      rw [S.bst]
    have h2' : (rawIn b).toC.audits.flatMap (le 8) ++ ((rawIn b).toC.setup.form ++ (rawIn b).toC.best.form) = b := h2
    have q1 : (rawIn b).toC.setup.form = (b.drop 64).take 48 := by
      have e : (b.drop 64).take 48 = (((rawIn b).toC.audits.flatMap (le 8) ++ ((rawIn b).toC.setup.form ++ (rawIn b).toC.best.form)).drop 64).take 48 := by rw [h2']
      rw [e, drop_left _ _ 64 fa, take_left _ _ 48 fu]
    have q2 : (rawIn b).toC.best.form = (b.drop 112).take 128 := by
      have e : (b.drop 112).take 128 = (((rawIn b).toC.audits.flatMap (le 8) ++ ((rawIn b).toC.setup.form ++ (rawIn b).toC.best.form)).drop (64 + 48)).take 128 := by rw [h2']
      rw [e, ← List.drop_drop, drop_left _ _ 64 fa, drop_left _ _ 48 fu, List.take_of_length_le (Nat.le_of_eq fs)]
    have hsetup : setupIn ((b.drop 64).take 48) = some (rawIn b).toC.setup := by
      show (if (setupBytes ((b.drop 64).take 48)).right = true ∧ (setupBytes ((b.drop 64).take 48)).form = (b.drop 64).take 48 then some (setupBytes ((b.drop 64).take 48)) else none) = _
      rw [← eu, if_pos ⟨hu, q1⟩]
    have hbest : bestIn ((b.drop 112).take 128) = some (rawIn b).best := by
      unfold bestIn
      show (if Best.right ((List.range BEST).map fun (i : Nat) => (⟨num ((((b.drop 112).take 128).drop (16 * i)).take 8), (((b.drop 112).take 128).drop (16 * i + 8)).take 3⟩ : Entry)) = true ∧ Best.form ((List.range BEST).map fun (i : Nat) => (⟨num ((((b.drop 112).take 128).drop (16 * i)).take 8), (((b.drop 112).take 128).drop (16 * i + 8)).take 3⟩ : Entry)) = (b.drop 112).take 128 then some ((List.range BEST).map fun (i : Nat) => (⟨num ((((b.drop 112).take 128).drop (16 * i)).take 8), (((b.drop 112).take 128).drop (16 * i + 8)).take 3⟩ : Entry)) else none) = _
      rw [← es, if_pos ⟨hs, q2⟩]
    unfold contentIn
    rw [hsetup, hbest]
    show (if Content.form (rawIn b).toC = b then some (rawIn b).toC else none) = some (rawIn b).toC
    rw [if_pos h2]
  · rw [if_neg h]
    cases hc : contentIn b with
    | none => rfl
    | some c =>
      exfalso
      apply h
      unfold contentIn at hc
      cases hs1 : setupIn ((b.drop 64).take 48) with
      | none =>
        rw [hs1] at hc
        cases hc
      | some u =>
        cases hs2 : bestIn ((b.drop 112).take 128) with
        | none =>
          rw [hs1, hs2] at hc
          cases hc
        | some s =>
          rw [hs1, hs2] at hc
          have hs1' : (if (setupBytes ((b.drop 64).take 48)).right = true ∧ (setupBytes ((b.drop 64).take 48)).form = (b.drop 64).take 48 then some (setupBytes ((b.drop 64).take 48)) else none) = some u := hs1
          have hs2' : (if Best.right ((List.range BEST).map fun (i : Nat) => (⟨num ((((b.drop 112).take 128).drop (16 * i)).take 8), (((b.drop 112).take 128).drop (16 * i + 8)).take 3⟩ : Entry)) = true ∧ Best.form ((List.range BEST).map fun (i : Nat) => (⟨num ((((b.drop 112).take 128).drop (16 * i)).take 8), (((b.drop 112).take 128).drop (16 * i + 8)).take 3⟩ : Entry)) = (b.drop 112).take 128 then some ((List.range BEST).map fun (i : Nat) => (⟨num ((((b.drop 112).take 128).drop (16 * i)).take 8), (((b.drop 112).take 128).drop (16 * i + 8)).take 3⟩ : Entry)) else none) = some s := hs2
          rw [← eu] at hs1'
          rw [← es] at hs2'
          by_cases k1 : (rawIn b).toC.setup.right = true ∧ (rawIn b).toC.setup.form = (b.drop 64).take 48
          · rw [if_pos k1] at hs1'
            have e1 := Option.some.inj hs1'
            subst e1
            by_cases k2 : Best.right (rawIn b).best = true ∧ Best.form (rawIn b).best = (b.drop 112).take 128
            · rw [if_pos k2] at hs2'
              have e2 := Option.some.inj hs2'
              subst e2
              have hc' : (if Content.form (rawIn b).toC = b then some (rawIn b).toC else none) = some c := hc
              by_cases k3 : Content.form (rawIn b).toC = b
              · refine ⟨?_, k3⟩
                rw [er, Bool.and_eq_true, Bool.and_eq_true, decide_eq_true_iff]
                refine ⟨?_, k1.1, k2.1⟩
                have e5 : (rawIn b).toC.setup.form.getD 4 0 = ((b.drop 64).take 48).getD 4 0 := by rw [k1.2]
                rw [part_getD b 64 48 4 0 (by decide)] at e5
                have e6 : (rawIn b).toC.setup.form.getD 4 0 = UInt8.ofNat ((rawIn b).toC.setup.gives.toNat) := rfl
                rw [e6] at e5
                show (b.getD 68 0).toNat ≤ 1
                have e7 : b.getD 68 0 = b.getD (64 + 4) 0 := rfl
                rw [e7, ← e5]
                cases (rawIn b).toC.setup.gives <;> decide
              · rw [if_neg k3] at hc'
                cases hc'
            · rw [if_neg k2] at hs2'
              cases hs2'
          · rw [if_neg k1] at hs1'
            cases hs1'

/-- a whole half, as the program asks it -/
def wholeP (h : Bytes) : Bool := rightP (rawIn ((h.drop 8).take 240)) && decide (h = halfOf (num ((h.drop 4).take 4)) (rawIn ((h.drop 8).take 240)).toC)
theorem wholeIn_eq {h : Bytes} (hl : h.length = 256) : wholeIn h = if wholeP h = true then some (num ((h.drop 4).take 4), (rawIn ((h.drop 8).take 240)).toC) else none := by
  have hb : ((h.drop 8).take 240).length = 240 := by
    rw [List.length_take, List.length_drop, hl]
    decide
  have S := rawIn_shape hb
  unfold wholeIn wholeP
  show (contentIn ((h.drop 8).take 240)).bind (fun (c : Content) => if halfOf (num ((h.drop 4).take 4)) c = h then some (num ((h.drop 4).take 4), c) else none) = _
  rw [contentIn_eq hb]
  by_cases h1 : rightP (rawIn ((h.drop 8).take 240)) = true
  · by_cases h2 : h = halfOf (num ((h.drop 4).take 4)) (rawIn ((h.drop 8).take 240)).toC
    · rw [if_pos (show (rightP (rawIn ((h.drop 8).take 240)) && decide (h = halfOf (num ((h.drop 4).take 4)) (rawIn ((h.drop 8).take 240)).toC)) = true by rw [h1, decide_eq_true h2]; rfl)]
      have h3 : (rawIn ((h.drop 8).take 240)).toC.form = (h.drop 8).take 240 := by
        have fl := form_length S
        generalize rawIn ((h.drop 8).take 240) = r at h2 fl S
        generalize num ((h.drop 4).take 4) = n at h2
        rw [h2]
        unfold halfOf
        show r.toC.form = (((MARK ++ (le 4 n ++ r.toC.form)) ++ _).drop 8).take 240
        rw [List.append_assoc, List.append_assoc, ← List.append_assoc MARK (le 4 n), drop_left _ _ 8 (by rw [List.length_append, le_length]; rfl), take_left _ _ 240 fl]
      rw [if_pos ⟨h1, h3⟩]
      show (if halfOf (num ((h.drop 4).take 4)) (rawIn ((h.drop 8).take 240)).toC = h then some (num ((h.drop 4).take 4), (rawIn ((h.drop 8).take 240)).toC) else none) = _
      rw [if_pos h2.symm]
    · rw [if_neg (show ¬ (rightP (rawIn ((h.drop 8).take 240)) && decide (h = halfOf (num ((h.drop 4).take 4)) (rawIn ((h.drop 8).take 240)).toC)) = true by rw [Bool.and_eq_true, decide_eq_true_iff]; exact fun z => h2 z.2)]
      by_cases h3 : (rawIn ((h.drop 8).take 240)).toC.form = (h.drop 8).take 240
      · rw [if_pos ⟨h1, h3⟩]
        show (if halfOf (num ((h.drop 4).take 4)) (rawIn ((h.drop 8).take 240)).toC = h then some (num ((h.drop 4).take 4), (rawIn ((h.drop 8).take 240)).toC) else none) = _
        rw [if_neg fun z => h2 z.symm]
      · rw [if_neg fun z => h3 z.2]
        rfl
  · rw [if_neg (show ¬ (rightP (rawIn ((h.drop 8).take 240)) && decide (h = halfOf (num ((h.drop 4).take 4)) (rawIn ((h.drop 8).take 240)).toC)) = true by rw [Bool.and_eq_true]; exact fun z => h1 z.1), if_neg fun z => h1 z.1]
    rfl
end Hw

set_option linter.all false
namespace Hw
open Tilt

/-! ### numbers read from behind -/
theorem num_drop {b : Bytes} {i : Nat} {c : UInt8} (h : b[i]? = some c) : num (b.drop i) = c.toNat + 256 * num (b.drop (i + 1)) := by
  obtain ⟨hi, e⟩ := List.getElem?_eq_some_iff.mp h
  rw [List.drop_eq_getElem_cons hi, e, num_cons]

/-! ### the sum, turn by turn -/
theorem crcBits_succ : ∀ (k n : Nat), crcBits (k + 1) n = crcBit (crcBits k n)
  | 0, _ => rfl
  | k + 1, n => by
    show crcBits (k + 1) (crcBit n) = crcBit (crcBits k (crcBit n))
    exact crcBits_succ k (crcBit n)
theorem take_snoc {α : Type} : ∀ {l : List α} {i : Nat} {x : α}, l[i]? = some x → l.take (i + 1) = l.take i ++ [x]
  | [], i, x, h => by simp at h
  | a :: l, 0, x, h => by
    have e : a = x := Option.some.inj h
    subst e
    rfl
  | a :: l, i + 1, x, h => by
    have ih := take_snoc (l := l) (i := i) (x := x) h
    show a :: l.take (i + 1) = a :: l.take i ++ [x]
    rw [ih]
    rfl
theorem crcOver_take {b : Bytes} {i : Nat} {c : UInt8} (n : Nat) (h : b[i]? = some c) : crcOver n (b.take (i + 1)) = crcBits 8 (Nat.xor (crcOver n (b.take i)) c.toNat) := by
  rw [take_snoc h]
  unfold crcOver
  rw [List.foldl_append]
  rfl

/-! ### what is read -/
theorem half_len {m : Bytes} (hm : m.length = 512) {h : Nat} (hh : h ≤ 1) : (half m h).length = 256 := by
  unfold half
  rw [List.length_take, List.length_drop, hm]
  have e : HALF = 256 := rfl
  rw [e]
  omega
def numIn (h : Bytes) : Nat := num ((h.drop 4).take 4)
def rawOf (h : Bytes) : Raw := rawIn ((h.drop 8).take 240)
def readP (m : Bytes) : Option Nat :=
  if wholeP (half m 0) = true then
    (if wholeP (half m 1) = true then (if numIn (half m 1) = (numIn (half m 0) + 1) % 2 ^ 32 then some 1 else some 0) else some 0)
  else (if wholeP (half m 1) = true then some 1 else none)
theorem readMem_eq {m : Bytes} (hm : m.length = 512) : readMem m = (readP m).map fun h => (h, numIn (half m h), (rawOf (half m h)).toC) := by
  unfold readMem readP
  rw [wholeIn_eq (half_len hm (Nat.zero_le 1)), wholeIn_eq (half_len hm (Nat.le_refl 1))]
  by_cases h0 : wholeP (half m 0) = true
  · by_cases h1 : wholeP (half m 1) = true
    · rw [if_pos h0, if_pos h1, if_pos h0, if_pos h1]
      show (if numIn (half m 1) = (numIn (half m 0) + 1) % W32 then some (1, numIn (half m 1), (rawOf (half m 1)).toC) else some (0, numIn (half m 0), (rawOf (half m 0)).toC)) = _
      have e : W32 = 2 ^ 32 := rfl
      rw [e]
      by_cases hn : numIn (half m 1) = (numIn (half m 0) + 1) % 2 ^ 32
      · rw [if_pos hn, if_pos hn]
        rfl
      · rw [if_neg hn, if_neg hn]
        rfl
    · rw [if_pos h0, if_neg h1, if_pos h0, if_neg h1]
      rfl
  · by_cases h1 : wholeP (half m 1) = true
    · rw [if_neg h0, if_pos h1, if_neg h0, if_pos h1]
      rfl
    · rw [if_neg h0, if_neg h1, if_neg h0, if_neg h1]
      rfl
theorem readP_le {m : Bytes} {h : Nat} (e : readP m = some h) : h ≤ 1 ∧ wholeP (half m h) = true := by
  unfold readP at e
  by_cases h0 : wholeP (half m 0) = true
  · rw [if_pos h0] at e
    by_cases h1 : wholeP (half m 1) = true
    · rw [if_pos h1] at e
      by_cases hn : numIn (half m 1) = (numIn (half m 0) + 1) % 2 ^ 32
      · rw [if_pos hn] at e
        have := Option.some.inj e
        subst this
        exact ⟨Nat.le_refl _, h1⟩
      · rw [if_neg hn] at e
        have := Option.some.inj e
        subst this
        exact ⟨Nat.zero_le _, h0⟩
    · rw [if_neg h1] at e
      have := Option.some.inj e
      subst this
      exact ⟨Nat.zero_le _, h0⟩
  · rw [if_neg h0] at e
    by_cases h1 : wholeP (half m 1) = true
    · rw [if_pos h1] at e
      have := Option.some.inj e
      subst this
      exact ⟨Nat.le_refl _, h1⟩
    · rw [if_neg h1] at e
      cases e
theorem whole_gives {h : Bytes} (hl : h.length = 256) (w : wholeP h = true) : (rawOf h).gives ≤ 1 := by
  have hb : ((h.drop 8).take 240).length = 240 := by
    rw [List.length_take, List.length_drop, hl]
    decide
  unfold wholeP at w
  rw [Bool.and_eq_true, rightP_eq (rawIn_shape hb), Bool.and_eq_true] at w
  exact of_decide_eq_true w.1.1
def targetP (m : Bytes) : Nat × Nat := match readP m with
  | some h => (1 - h, (numIn (half m h) + 1) % 2 ^ 32)
  | none => (0, 0)
theorem target_eq {m : Bytes} (hm : m.length = 512) : target m = targetP m := by
  unfold target targetP
  rw [readMem_eq hm]
  cases readP m with
  | none => rfl
  | some h => rfl
theorem targetP_le (m : Bytes) : (targetP m).1 ≤ 1 := by
  unfold targetP
  cases readP m with
  | none => exact Nat.zero_le _
  | some h => exact Nat.sub_le _ _

/-! ### the plan -/
def places : List Nat := (List.range 252).map (fun i => 4 + i) ++ [1, 2, 3, 0]
def writesP (o : UInt8) (b : Bytes) : List (Nat × UInt8) := (if o = 0x54 then [(0, 0)] else []) ++ places.map fun i => (i, b.getD i 0)
theorem plan_eq {m : Bytes} (hm : m.length = 512) (c : Content) : plan m c = writesP ((half m (targetP m).1).getD 0 0) (halfOf (targetP m).2 c) := by
  unfold plan writesP places
  rw [target_eq hm, List.map_append, List.map_map]
  rfl
theorem places_lt : ∀ i ∈ places, i < 256 := by
  intro i hi
  unfold places at hi
  rcases List.mem_append.mp hi with h | h
  · obtain ⟨j, hj, rfl⟩ := List.mem_map.mp h
    have := List.mem_range.mp hj
    omega
  · simp at h
    omega
theorem writesP_lt {o : UInt8} {b : Bytes} : ∀ w ∈ writesP o b, w.1 < 256 := by
  intro w hw
  unfold writesP at hw
  rcases List.mem_append.mp hw with h | h
  · by_cases e : o = 0x54
    · rw [if_pos e] at h
      have := List.mem_singleton.mp h
      subst this
      decide
    · rw [if_neg e] at h
      cases h
  · obtain ⟨i, hi, rfl⟩ := List.mem_map.mp h
    exact places_lt i hi
theorem writesP_length (o : UInt8) (b : Bytes) : (writesP o b).length ≤ 257 := by
  unfold writesP places
  rw [List.length_append, List.length_map, List.length_append, List.length_map, List.length_range]
  by_cases e : o = 0x54
  · rw [if_pos e]
    decide
  · rw [if_neg e]
    decide
theorem written_take {m : Bytes} {h : Nat} {l : List (Nat × UInt8)} {i : Nat} {w : Nat × UInt8} (e : l[i]? = some w) : written m h (l.take (i + 1)) = (written m h (l.take i)).set (256 * h + w.1) w.2 := by
  rw [take_snoc e]
  unfold written
  rw [List.foldl_append]
  rfl
theorem written_length (h : Nat) : ∀ (l : List (Nat × UInt8)) (m : Bytes), (written m h l).length = m.length
  | [], _ => rfl
  | w :: l, m => by
    have := written_length h l (put m h w)
    show (written (put m h w) h l).length = m.length
    rw [this]
    exact List.length_set
theorem bi_set (m : Bytes) (i : Nat) (x : UInt8) : bi (m.set i x) = (bi m).set i (x.toNat : Int) := by
  unfold bi
  exact List.map_set

/-! ### calls: what is handed in -/
theorem text_bi : ∀ {l : List Int}, (l.all fun (z : Int) => KeepNeutral.natural z 8) = true → bi (KeepNeutral.text l) = l
  | [], _ => rfl
  | z :: l, h => by
    rw [List.all_cons, Bool.and_eq_true] at h
    have ih := text_bi h.2
    have hz : KeepNeutral.natural z 8 = true := h.1
    unfold KeepNeutral.natural at hz
    rw [Bool.and_eq_true, decide_eq_true_iff, decide_eq_true_iff] at hz
    have hz2 : z < 256 := hz.2
    show (((UInt8.ofNat z.toNat).toNat : Nat) : Int) :: bi (KeepNeutral.text l) = z :: l
    rw [ih, UInt8.toNat_ofNat']
    have e : ((z.toNat % 2 ^ 8 : Nat) : Int) = z := by
      show ((z.toNat % 256 : Nat) : Int) = z
      omega
    rw [e]
theorem whole_id (c : List (List Int)) : PyWqaqch.whole c = c := by
  unfold PyWqaqch.whole
  split <;> rfl
theorem map_whole (cs : List (List (List Int))) : cs.map PyWqaqch.whole = cs := by
  have : PyWqaqch.whole = id := funext whole_id
  rw [this, List.map_id]
/-- the list that is handed in is its calls', each of which may be asked -/
theorem asked_of {l : List Int} (h : PyWqaqch.answers_asked l = true) : ∃ cs, l = PyFlat.put cs ∧ (∀ c ∈ cs, KeepNeutral.asked1 c = true) ∧ cs.length ≤ 300 ∧ PyWqaqch.answers l = PyFlat.told (PyFlat.played KeepNeutral.step KeepNeutral.start cs) := by
  unfold PyWqaqch.answers_asked at h
  unfold PyWqaqch.answers
  cases e : PyWqaqch.calls l with
  | none =>
    rw [e] at h
    cases h
  | some cs =>
    rw [e] at h
    have h' : (PyFlat.atMost 300 cs && KeepNeutral.asked cs) = true := h
    rw [Bool.and_eq_true] at h'
    unfold PyWqaqch.calls at e
    cases e2 : PyFlat.calls PyWqaqch.shape l.length l with
    | none =>
      rw [e2] at e
      cases e
    | some ds =>
      rw [e2] at e
      have e3 : ds.map PyWqaqch.whole = cs := Option.some.inj e
      rw [map_whole] at e3
      subst e3
      have a := PyFlat.put_calls _ _ _ e2
      refine ⟨ds, a.1, ?_, of_decide_eq_true h'.1, rfl⟩
      have h2 := h'.2
      unfold KeepNeutral.asked at h2
      rw [Bool.and_eq_true, List.all_eq_true] at h2
      exact h2.2

/-! ### a content that is handed in -/
theorem nat_of {z : Int} (h : 0 ≤ z) : ((z.toNat : Nat) : Int) = z := by omega
theorem ni_nats : ∀ {l : List Int}, (∀ z ∈ l, 0 ≤ z) → ni (KeepNeutral.nats l) = l
  | [], _ => rfl
  | z :: l, h => by
    have ih := ni_nats (l := l) fun y hy => h y (List.mem_cons_of_mem _ hy)
    show ((z.toNat : Nat) : Int) :: ni (KeepNeutral.nats l) = z :: l
    rw [ih, nat_of (h z List.mem_cons_self)]
theorem bestOf_nums : ∀ (n : Nat) {l : List Int} {s : Best}, l.length ≤ n → (∀ z ∈ l, 0 ≤ z) → KeepNeutral.bestOf l = some s → l = ni (s.flatMap entryNums) ∧ ∀ e ∈ s, e.who.length = 3
  | n, [], s, _, _, h => by
    have e : ([] : Best) = s := Option.some.inj h
    subst e
    exact ⟨rfl, fun _ h => (nomatch h)⟩
  | n, [a], s, _, _, h => by cases h
  | n, [a, b], s, _, _, h => by cases h
  | n, [a, b, c], s, _, _, h => by cases h
  | 0, a :: b :: c :: d :: r, s, hl, _, _ => by simp at hl
  | n + 1, a :: b :: c :: d :: r, s, hl, h0, h => by
    have h' : (if NeutralIO.bytes [b, c, d] = true then (KeepNeutral.bestOf r).map fun (l : Best) => (⟨a.toNat, KeepNeutral.text [b, c, d]⟩ : Entry) :: l else none) = some s := h
    by_cases hb : NeutralIO.bytes [b, c, d] = true
    · rw [if_pos hb] at h'
      cases hr : KeepNeutral.bestOf r with
      | none =>
        rw [hr] at h'
        cases h'
      | some t =>
        rw [hr] at h'
        have e : (⟨a.toNat, KeepNeutral.text [b, c, d]⟩ : Entry) :: t = s := Option.some.inj h'
        subst e
        have ih := bestOf_nums n (l := r) (s := t) (by simp at hl; omega) (fun z hz => h0 z (by simp [hz])) hr
        have tb : bi (KeepNeutral.text [b, c, d]) = [b, c, d] := by
          refine text_bi ?_
          unfold NeutralIO.bytes at hb
          rw [List.all_eq_true] at hb ⊢
          intro z hz
          have := hb z hz
          rw [Bool.and_eq_true, decide_eq_true_iff, decide_eq_true_iff] at this
          unfold KeepNeutral.natural
          rw [Bool.and_eq_true, decide_eq_true_iff, decide_eq_true_iff]
          exact ⟨this.1, by show z < 256; omega⟩
        refine ⟨?_, fun e he => ?_⟩
        · rw [List.flatMap_cons, ni_append, ← ih.1]
          show a :: b :: c :: d :: r = (((a.toNat : Nat) : Int) :: ni (nat8 (KeepNeutral.text [b, c, d]))) ++ r
          rw [← bi_nat8, tb, nat_of (h0 a List.mem_cons_self)]
          rfl
        · rcases List.mem_cons.mp he with q | q
          · rw [q]
            rfl
          · exact ih.2 e q
    · rw [if_neg hb] at h'
      cases h'
/-- a content's row: its numbers by a shape -/
theorem content_row {l : List Int} (h : KeepNeutral.contentFits l = true) : ∃ r : Raw, Shape r ∧ l = ni r.nums ∧ r.gives ≤ 1 ∧ KeepNeutral.contentOf l = some r.toC ∧ r.toC.right = rightP r := by
  unfold KeepNeutral.contentFits at h
  rw [Bool.and_eq_true, List.all_eq_true] at h
  obtain ⟨hn, hc⟩ := h
  have h0 : ∀ z ∈ l, 0 ≤ z := fun z hz => by
    have := hn z hz
    unfold KeepNeutral.natural at this
    rw [Bool.and_eq_true, decide_eq_true_iff] at this
    exact this.1
  cases e : KeepNeutral.contentOf l with
  | none =>
    rw [e] at hc
    cases hc
  | some y =>
    rw [e] at hc
    have hc' : TiltKeepCalls.contentAsked y = true := hc
    have e' := e
    unfold KeepNeutral.contentOf at e'
    have hsp : l = l.take 8 ++ l.drop 8 := (List.take_append_drop 8 l).symm
    match hd : l.drop 8, e' with
    | a :: b :: c :: d :: g :: f :: n :: r, e' =>
      have e2 : (if (decide (0 ≤ g) && (decide (g ≤ 1) && (decide (0 ≤ n) && (decide (n ≤ 4) && decide (n.toNat ≤ r.length))))) = true then (match KeepNeutral.bestOf (r.drop n.toNat) with
          | some s => if s.length = 8 then some (⟨KeepNeutral.nats (l.take 8), ⟨a.toNat, b.toNat, c.toNat, d.toNat, g == 1, f.toNat, KeepNeutral.nats (r.take n.toNat)⟩, s⟩ : Content) else none
          | none => none) else none) = some y := e'
      by_cases k1 : (decide (0 ≤ g) && (decide (g ≤ 1) && (decide (0 ≤ n) && (decide (n ≤ 4) && decide (n.toNat ≤ r.length))))) = true
      · rw [if_pos k1] at e2
        rw [Bool.and_eq_true, Bool.and_eq_true, Bool.and_eq_true, Bool.and_eq_true, decide_eq_true_iff, decide_eq_true_iff, decide_eq_true_iff, decide_eq_true_iff, decide_eq_true_iff] at k1
        obtain ⟨g0, g1, n0, n4, nr⟩ := k1
        cases hb : KeepNeutral.bestOf (r.drop n.toNat) with
        | none =>
          rw [hb] at e2
          cases e2
        | some s =>
          rw [hb] at e2
          have e3 : (if s.length = 8 then some (⟨KeepNeutral.nats (l.take 8), ⟨a.toNat, b.toNat, c.toNat, d.toNat, g == 1, f.toNat, KeepNeutral.nats (r.take n.toNat)⟩, s⟩ : Content) else none) = some y := e2
          by_cases k2 : s.length = 8
          · rw [if_pos k2] at e3
            have ey := Option.some.inj e3
            subst ey
            have hin : ∀ z ∈ l.drop 8, 0 ≤ z := fun z hz => h0 z (List.mem_of_mem_drop hz)
            rw [hd] at hin
            have hr0 : ∀ z ∈ r, 0 ≤ z := fun z hz => hin z (by simp [hz])
            have hB := bestOf_nums _ (Nat.le_refl _) (fun z hz => hr0 z (List.mem_of_mem_drop hz)) hb
            have hA := ni_nats (l := l.take 8) fun z hz => h0 z (List.mem_of_mem_take hz)
            have hL := ni_nats (l := r.take n.toNat) fun z hz => hr0 z (List.mem_of_mem_take hz)
            have lenL : (KeepNeutral.nats (r.take n.toNat)).length = n.toNat := by
              unfold KeepNeutral.nats
              rw [List.length_map, List.length_take]
              omega
            unfold TiltKeepCalls.contentAsked at hc'
            rw [Bool.and_eq_true, beq_iff_eq, Bool.and_eq_true] at hc'
            have hau : (KeepNeutral.nats (l.take 8)).length = 8 := hc'.1
            have gb : (g.toNat != 0) = (g == 1) := by
              rcases Int.lt_or_le g 1 with q | q
              · have : g = 0 := by omega
                subst this
                rfl
              · have : g = 1 := by omega
                subst this
                rfl
            refine ⟨⟨KeepNeutral.nats (l.take 8), a.toNat, b.toNat, c.toNat, d.toNat, g.toNat, f.toNat, KeepNeutral.nats (r.take n.toNat), s⟩, ⟨hau, by rw [lenL]; omega, k2, hB.2⟩, ?_, by show g.toNat ≤ 1; omega, ?_, ?_⟩
            · unfold Raw.nums six
              rw [ni_append, ni_append, hA]
              show l = l.take 8 ++ (ni [a.toNat, b.toNat, c.toNat, d.toNat, g.toNat, f.toNat] ++ (((KeepNeutral.nats (r.take n.toNat)).length : Int) :: ni (KeepNeutral.nats (r.take n.toNat) ++ s.flatMap entryNums)))
              rw [ni_append, hL, ← hB.1, List.take_append_drop, lenL]
              show l = l.take 8 ++ (((a.toNat : Nat) : Int) :: ((b.toNat : Nat) : Int) :: ((c.toNat : Nat) : Int) :: ((d.toNat : Nat) : Int) :: ((g.toNat : Nat) : Int) :: ((f.toNat : Nat) : Int) :: ((n.toNat : Nat) : Int) :: r)
              rw [nat_of (hin a (by simp)), nat_of (hin b (by simp)), nat_of (hin c (by simp)), nat_of (hin d (by simp)), nat_of (hin g (by simp)), nat_of (hin f (by simp)), nat_of n0, ← hd, List.take_append_drop]
            · show some _ = some (⟨_, ⟨_, _, _, _, g.toNat != 0, _, _⟩, _⟩ : Content)
              rw [gb]
            · have S : Shape ⟨KeepNeutral.nats (l.take 8), a.toNat, b.toNat, c.toNat, d.toNat, g.toNat, f.toNat, KeepNeutral.nats (r.take n.toNat), s⟩ := ⟨hau, by rw [lenL]; omega, k2, hB.2⟩
              rw [rightP_eq S]
              have ea : (decide (g.toNat ≤ 1)) = true := decide_eq_true (by omega)
              show _ = (decide (g.toNat ≤ 1) && _)
              rw [ea, Bool.true_and]
              unfold Content.right Raw.toC
              show ((KeepNeutral.nats (l.take 8)).length == AUDITS && (((KeepNeutral.nats (l.take 8)).all fun (n : Nat) => decide (n < U64)) && _)) = _
              rw [hau]
              have e9 : ((KeepNeutral.nats (l.take 8)).all fun (n : Nat) => decide (n < U64)) = true := hc'.2.1
              rw [e9]
              rfl
          · rw [if_neg k2] at e3
            cases e3
      · rw [if_neg k1] at e2
        cases e2
    | [], e' => cases e'
    | [_], e' => cases e'
    | [_, _], e' => cases e'
    | [_, _, _], e' => cases e'
    | [_, _, _, _], e' => cases e'
    | [_, _, _, _, _], e' => cases e'
    | [_, _, _, _, _, _], e' => cases e'
end Hw

set_option linter.all false
namespace Hw
/-! ### a content's numbers by places -/
theorem nums_aud {r : Raw} (S : Shape r) : r.nums.take 8 = r.audits := take_left _ _ 8 S.aud
theorem nums_rest {r : Raw} (S : Shape r) : r.nums.drop 8 = six r ++ (r.levels.length :: (r.levels ++ r.best.flatMap entryNums)) := drop_left _ _ 8 S.aud
theorem nums_six {r : Raw} (S : Shape r) : (r.nums.drop 8).take 6 = six r := by
  rw [nums_rest S]
  exact take_left _ _ 6 rfl
theorem nums_five {r : Raw} (S : Shape r) : (r.nums.drop 8).take 5 = [r.coins, r.balls, r.warnings, r.players, r.gives] := by
  rw [nums_rest S]
  rfl
theorem nums_at {r : Raw} (S : Shape r) (i : Nat) : r.nums[8 + i]? = (six r ++ (r.levels.length :: (r.levels ++ r.best.flatMap entryNums)))[i]? := by
  rw [← nums_rest S, List.getElem?_drop]
theorem nums_13 {r : Raw} (S : Shape r) : r.nums[13]? = some r.save := nums_at S 5
theorem nums_14 {r : Raw} (S : Shape r) : r.nums[14]? = some r.levels.length := nums_at S 6
theorem nums_15 {r : Raw} (S : Shape r) : r.nums.drop 15 = r.levels ++ r.best.flatMap entryNums := by
  have e : r.nums.drop 15 = (r.nums.drop 8).drop 7 := by rw [List.drop_drop]
  rw [e, nums_rest S]
  rfl
theorem nums_levels {r : Raw} (S : Shape r) : (r.nums.drop 15).take r.levels.length = r.levels := by
  rw [nums_15 S]
  exact take_left _ _ _ rfl
theorem nums_best {r : Raw} (S : Shape r) : r.nums.drop (15 + r.levels.length) = r.best.flatMap entryNums := by
  rw [← List.drop_drop, nums_15 S]
  exact drop_left _ _ _ rfl
theorem flat_length {r : Raw} (S : Shape r) : (r.best.flatMap entryNums).length = 32 := by
  rw [flatMap_length entryNums 4 r.best fun e he => by
    unfold entryNums Tilt.nat8
    rw [List.length_cons, List.length_map, S.who e he], S.bst]
theorem flat_part {α β : Type} {f : α → List β} {k : Nat} : ∀ {l : List α} {i : Nat} {x : α}, (∀ y ∈ l, (f y).length = k) → l[i]? = some x → ((l.flatMap f).drop (k * i)).take k = f x
  | [], i, x, _, h => by simp at h
  | a :: l, 0, x, hk, h => by
    have e : a = x := Option.some.inj h
    subst e
    rw [List.flatMap_cons, Nat.mul_zero, List.drop_zero]
    exact take_left _ _ k (hk a List.mem_cons_self)
  | a :: l, i + 1, x, hk, h => by
    have ih := flat_part (f := f) (k := k) (l := l) (i := i) (x := x) (fun y hy => hk y (List.mem_cons_of_mem _ hy)) h
    rw [List.flatMap_cons, show k * (i + 1) = k + k * i by rw [Nat.mul_add, Nat.mul_one, Nat.add_comm], ← List.drop_drop, drop_left _ _ k (hk a List.mem_cons_self)]
    exact ih
theorem entry_part {r : Raw} (S : Shape r) {i : Nat} {e : Tilt.Entry} (h : r.best[i]? = some e) : ((r.best.flatMap entryNums).drop (4 * i)).take 4 = entryNums e := flat_part (fun y hy => by
  unfold entryNums Tilt.nat8
  rw [List.length_cons, List.length_map, S.who y hy]) h

/-! ### bounds, one behind another -/
def inB (p : Nat × (Nat × Nat)) : Bool := Tilt.between p.2.1 p.2.2 p.1
theorem all_take {α : Type} (p : α → Bool) {l : List α} {i : Nat} {x : α} (h : l[i]? = some x) : (l.take (i + 1)).all p = ((l.take i).all p && p x) := by
  rw [take_snoc h, List.all_append]
  simp
theorem all_false {α : Type} (p : α → Bool) {l : List α} {i : Nat} {x : α} (h : l[i]? = some x) (hx : p x = false) : l.all p = false := by
  rw [Bool.eq_false_iff]
  intro z
  have := List.all_eq_true.mp z x (List.mem_of_getElem? h)
  rw [hx] at this
  cases this
theorem levelsP_drop {l : List Nat} {b i x : Nat} (h : l[i]? = some x) : levelsP b (l.drop i) = (decide (b < x) && (Tilt.isScore x && levelsP x (l.drop (i + 1)))) := by
  obtain ⟨hi, e⟩ := List.getElem?_eq_some_iff.mp h
  rw [List.drop_eq_getElem_cons hi, e]
  rfl
theorem bestP_drop {l : Tilt.Best} {b i : Nat} {e : Tilt.Entry} (h : l[i]? = some e) : bestP b (l.drop i) = (decide (e.score ≤ b) && (Tilt.isScore e.score && (e.who.all letterP && bestP e.score (l.drop (i + 1))))) := by
  obtain ⟨hi, q⟩ := List.getElem?_eq_some_iff.mp h
  rw [List.drop_eq_getElem_cons hi, q]
  rfl
end Hw

set_option linter.all false
namespace Hw
open Tilt

/-! ### a content's bytes, part by part -/
def fiveB (r : Raw) : Bytes := [UInt8.ofNat r.coins, UInt8.ofNat r.balls, UInt8.ofNat r.warnings, UInt8.ofNat r.players, UInt8.ofNat r.gives]
def zeros (n : Nat) : Bytes := List.replicate n 0
theorem bi_zeros (n : Nat) : bi (zeros n) = List.replicate n 0 := by
  unfold bi zeros
  rw [List.map_replicate]
  rfl
theorem le8_0 : le 8 0 = zeros 8 := by decide
theorem le4_0 : le 4 0 = zeros 4 := by decide
theorem flat_zeros : ∀ k : Nat, (List.replicate k 0).flatMap (le 8) = zeros (8 * k)
  | 0 => rfl
  | k + 1 => by
    rw [List.replicate_succ, List.flatMap_cons, flat_zeros k, le8_0]
    unfold zeros
    rw [List.replicate_append_replicate, Nat.mul_add]
    congr 1
    omega
def fourL (r : Raw) : List Nat := r.levels ++ List.replicate (4 - r.levels.length) 0
theorem form_eq {r : Raw} (h : r.gives ≤ 1) : r.audits.flatMap (le 8) ++ (fiveB r ++ zeros 3) ++ (le 4 r.save ++ zeros 4) ++ (fourL r).flatMap (le 8) ++ Best.form r.best = r.toC.form := by
  have e : (r.gives != 0).toNat = r.gives := by
    rcases Nat.lt_or_ge r.gives 1 with q | q
    · have : r.gives = 0 := by omega
      rw [this]
      rfl
    · have : r.gives = 1 := by omega
      rw [this]
      rfl
  have e2 : (fourL r).flatMap (le 8) = r.levels.flatMap (le 8) ++ zeros (8 * (4 - r.levels.length)) := by
    unfold fourL
    rw [List.flatMap_append, flat_zeros]
  unfold Content.form Setup.form Raw.toC
  show _ = r.audits.flatMap (le 8) ++ (([UInt8.ofNat r.coins, UInt8.ofNat r.balls, UInt8.ofNat r.warnings, UInt8.ofNat r.players, UInt8.ofNat (r.gives != 0).toNat, 0, 0, 0] ++ (le 4 r.save ++ (le 4 0 ++ (r.levels.flatMap (le 8) ++ List.replicate (8 * (4 - r.levels.length)) 0)))) ++ Best.form r.best)
  rw [e, e2, le4_0]
  unfold zeros
  have e3 : ([UInt8.ofNat r.coins, UInt8.ofNat r.balls, UInt8.ofNat r.warnings, UInt8.ofNat r.players, UInt8.ofNat r.gives, 0, 0, 0] : Bytes) = fiveB r ++ List.replicate 3 0 := rfl
  rw [e3]
  simp only [List.append_assoc]
theorem right_bounds {r : Raw} (h : rightP r = true) : r.coins < 256 ∧ r.balls < 256 ∧ r.warnings < 256 ∧ r.players < 256 ∧ r.gives ≤ 1 := by
  unfold rightP setupP at h
  simp only [Bool.and_eq_true] at h
  obtain ⟨⟨h1, h2, h3, h4, h5, _⟩, _⟩ := h
  unfold between at h1 h2 h3 h4 h5
  simp only [Bool.and_eq_true, decide_eq_true_iff] at h1 h2 h3 h4 h5
  omega
theorem bi_five {r : Raw} (h : rightP r = true) : bi (fiveB r) = ni [r.coins, r.balls, r.warnings, r.players, r.gives] := by
  obtain ⟨h1, h2, h3, h4, h5⟩ := right_bounds h
  have q : ∀ n : Nat, n < 256 → (((UInt8.ofNat n).toNat : Nat) : Int) = (n : Int) := fun n hn => by
    rw [UInt8.toNat_ofNat']
    show ((n % 256 : Nat) : Int) = n
    omega
  show [(((UInt8.ofNat r.coins).toNat : Nat) : Int), (((UInt8.ofNat r.balls).toNat : Nat) : Int), (((UInt8.ofNat r.warnings).toNat : Nat) : Int), (((UInt8.ofNat r.players).toNat : Nat) : Int), (((UInt8.ofNat r.gives).toNat : Nat) : Int)] = [(r.coins : Int), (r.balls : Int), (r.warnings : Int), (r.players : Int), (r.gives : Int)]
  rw [q _ h1, q _ h2, q _ h3, q _ h4, q _ (by omega)]
theorem flat_take_snoc {α β : Type} (f : α → List β) {l : List α} {i : Nat} {x : α} (h : l[i]? = some x) : (l.take (i + 1)).flatMap f = (l.take i).flatMap f ++ f x := by
  rw [take_snoc h, List.flatMap_append]
  simp
def entryB (e : Entry) : Bytes := le 8 e.score ++ (e.who ++ zeros 5)
theorem best_form (s : Best) : Best.form s = s.flatMap entryB := rfl

/-! ### what bytes tell, part by part -/
theorem levels4 (b : Bytes) : ((List.range 4).map fun i => num ((((b.drop 80).take 32).drop (8 * i)).take 8)) = (List.range 4).map fun i => num ((b.drop (80 + 8 * i)).take 8) := by
  refine List.map_congr_left fun i hi => ?_
  have := List.mem_range.mp hi
  rw [part_part b 80 32 (8 * i) 8 (by omega)]
theorem audits8 (b : Bytes) : ((List.range 8).map fun i => num (((b.take 64).drop (8 * i)).take 8)) = (rawIn b).audits := by
  have ea : (rawIn b).audits = (List.range 8).map fun i => num ((b.drop (8 * i)).take 8) := rfl
  rw [ea]
  refine List.map_congr_left fun i hi => ?_
  have := List.mem_range.mp hi
  have e := part_part b 0 64 (8 * i) 8 (by omega)
  rw [List.drop_zero, Nat.zero_add] at e
  rw [e]
theorem five_at {b : Bytes} (hb : b.length = 240) : bi ((b.drop 64).take 5) = ni [(rawIn b).coins, (rawIn b).balls, (rawIn b).warnings, (rawIn b).players, (rawIn b).gives] := by
  have g : ∀ i, (h : i < 240) → b.getD i 0 = b[i] := fun i h => by rw [List.getD_eq_getElem?_getD, List.getElem?_eq_getElem (by omega)]; rfl
  have e : (b.drop 64).take 5 = [b.getD 64 0, b.getD 65 0, b.getD 66 0, b.getD 67 0, b.getD 68 0] := by
    rw [List.drop_eq_getElem_cons (by omega : 64 < b.length), List.drop_eq_getElem_cons (by omega : 65 < b.length), List.drop_eq_getElem_cons (by omega : 66 < b.length), List.drop_eq_getElem_cons (by omega : 67 < b.length), List.drop_eq_getElem_cons (by omega : 68 < b.length)]
    rw [g 64 (by decide), g 65 (by decide), g 66 (by decide), g 67 (by decide), g 68 (by decide)]
    rfl
  rw [e]
  rfl
theorem take_tw {α : Type} (p : α → Bool) : ∀ l : List α, l.take (l.takeWhile p).length = l.takeWhile p
  | [] => rfl
  | x :: l => by
    rw [List.takeWhile_cons]
    split
    · rw [List.length_cons, List.take_succ_cons, take_tw p l]
    · rfl
theorem tw_before {α : Type} (p : α → Bool) : ∀ (l : List α) (m : Nat) (x : α), m < (l.takeWhile p).length → l[m]? = some x → p x = true
  | [], m, x, h, _ => by simp at h
  | a :: l, m, x, h, e => by
    rw [List.takeWhile_cons] at h
    by_cases ha : p a = true
    · rw [if_pos ha] at h
      cases m with
      | zero =>
        have q : a = x := Option.some.inj e
        subst q
        exact ha
      | succ m =>
        rw [List.length_cons] at h
        exact tw_before p l m x (by omega) e
    · rw [if_neg ha] at h
      simp at h
theorem tw_stop {α : Type} (p : α → Bool) : ∀ (l : List α) (x : α), l[(l.takeWhile p).length]? = some x → p x = false
  | [], x, h => by simp at h
  | a :: l, x, h => by
    rw [List.takeWhile_cons] at h
    by_cases ha : p a = true
    · rw [if_pos ha, List.length_cons] at h
      exact tw_stop p l x h
    · rw [if_neg ha] at h
      have q : a = x := Option.some.inj h
      subst q
      exact Bool.eq_false_iff.mpr ha
/-- the first 0 of a row with a 0 put behind it -/
theorem first0 (l : List Nat) : (l ++ [0])[(l.takeWhile fun n => n != 0).length]? = some 0 ∧ ∀ m x, m < (l.takeWhile fun n => n != 0).length → (l ++ [0])[m]? = some x → x ≠ 0 := by
  have hle : (l.takeWhile fun n => n != 0).length ≤ l.length := takeWhile_length_le _ l
  constructor
  · rcases Nat.lt_or_ge (l.takeWhile fun n => n != 0).length l.length with h | h
    · rw [List.getElem?_append_left h, List.getElem?_eq_getElem h]
      have := tw_stop (fun n => n != 0) l _ (List.getElem?_eq_getElem h)
      have e : l[(l.takeWhile fun n => n != 0).length] = 0 := by simpa using this
      rw [e]
    · have e : (l.takeWhile fun n => n != 0).length = l.length := by omega
      rw [e, List.getElem?_append_right (Nat.le_refl _), Nat.sub_self]
      rfl
  · intro m x hm hx
    rw [List.getElem?_append_left (by omega)] at hx
    have := tw_before (fun n => n != 0) l m x hm hx
    simpa using this
theorem best_at {b : Bytes} {i : Nat} (h : i < 8) : (rawIn b).best[i]? = some ⟨num ((b.drop (112 + 16 * i)).take 8), (b.drop (112 + 16 * i + 8)).take 3⟩ := by
  have e : (rawIn b).best = (List.range 8).map fun i => (⟨num ((b.drop (112 + 16 * i)).take 8), (b.drop (112 + 16 * i + 8)).take 3⟩ : Entry) := rfl
  rw [e, List.getElem?_map, List.getElem?_range h]
  rfl

/-! ### a half -/
theorem halfOf_eq (n : Nat) (c : Content) : halfOf n c = MARK ++ le 4 n ++ c.form ++ le 4 (crc (MARK ++ le 4 n ++ c.form)) ++ le 4 (Nat.xor (crc (MARK ++ le 4 n ++ c.form)) ONES) := by
  unfold halfOf
  simp only [List.append_assoc]
end Hw

set_option Elab.async false
set_option linter.all false
set_option maxRecDepth 100000
set_option maxHeartbeats 4000000
namespace Hw
open PySem PySem.Spec PyProof.Rows L2
open PySem.W (Codec)
/-! ### the text by places -/
def top (i : Nat) : Stmt := PySem.Challenge.pw_halfwhole_s01_answers.main.body.getD i (.Pass ⟨0, 0, 0, 0⟩)
/-! ### lists of ints as values -/
abbrev IL (l : List Int) : List V := l.map V.int
theorem il_append (a b : List Int) : IL (a ++ b) = IL a ++ IL b := List.map_append ..
theorem il_get {l : List Int} {i : Nat} {x : V} (h : (IL l)[i]? = some x) : ∃ z, l[i]? = some z ∧ x = V.int z := by
  rw [List.getElem?_map] at h
  cases e : l[i]? with
  | none =>
    rw [e] at h
    cases h
  | some z =>
    rw [e] at h
    exact ⟨z, rfl, (Option.some.inj h).symm⟩
theorem il_at {l : List Int} {i : Nat} {z : Int} (h : l[i]? = some z) : (IL l)[i]? = some (V.int z) := by
  rw [List.getElem?_map, h]
  rfl
theorem il_inj : ∀ {a b : List Int}, IL a = IL b → a = b
  | [], [], _ => rfl
  | [], _ :: _, h => by cases h
  | _ :: _, [], h => by cases h
  | x :: a, y :: b, h => by
    have h1 : V.int x :: IL a = V.int y :: IL b := h
    injection h1 with e1 e2
    injection e1 with e3
    rw [e3, il_inj e2]
/-! ### a def of the text, by its name -/
structure Df (K : PySem.W.Frag) (mg : Str → Option Value) (x : Str) (st : Stmt) (f : Addr) (fd : FuncData) : Prop where
  fn : Fun K x x st f fd
  mg_ : mg x = some (.ref f)
/-- a def that keeps its promise, to be called by its name -/
structure Fn (P : Program) (w : World) (K : PySem.W.Frag) (mg : Str → Option Value) (base : Heap) (x : Str) (k : Nat) (ps : List Str) (sp : Sp) : Prop where
  ex : ∃ f fd, mg x = some (.ref f) ∧ PySem.W.keepIn K (.ref f) = true ∧ Binds K fd ps [] ∧ FnOk P w K mg base CX0 k f fd ps sp
theorem pe_fn {X : Cx} {x : Str} {k j : Nat} {ps : List Str} {sp : Sp} {e : Expr} {es : List Expr} {t : TA} {p pos : Pos} (G : Fn X.prog X.w X.K X.mg X.base x k ps sp) (hr : Room j X.A) (hg : Gl X x) (ha : PA X (e :: es) t) (hk : k ≤ j := by decide)
    (hdb : (x == ("__debug__" : Str)) = false := by decide) (he : starEach (e :: es) X.env = (false, eval e X.env) :: starEach es X.env := by rfl) (hpl : (backTo pos (starEach es X.env)).any (·.1) = false := by rfl) :
    PE X (.Call (.Name x p) (e :: es) [] pos) (tCall sp [] E0 t) := by
  obtain ⟨f, fd, h1, h2, h3, h4⟩ := G.ex
  exact pe_call h4 (hr.mono hk) hg h1 h2 h3 .nil pass0 ha hdb he hpl
/-- an int constant of the module -/
def GI (mg : Str → Option Value) (x : Str) (i : Int) : Prop := ∃ t, mg x = some (.int i t)
theorem pe_gi {X : Cx} {x : Str} {i : Int} {pos : Pos} (h : GI X.mg x i) (hg : Gl X x := by rfl) (hd : (x == ("__debug__" : Str)) = false := by decide) : PE X (.Name x pos) (tC (.int i)) := by
  obtain ⟨t, e⟩ := h
  exact pe_glob hg e ⟨t, rfl⟩ hd
/-- a tuple of the module -/
def GT (K : PySem.W.Frag) (mg : Str → Option Value) (x : Str) (a : Addr) (xs : List V) : Prop := mg x = some (.ref a) ∧ ∀ H, SqT K H a xs
theorem pe_gt {X : Cx} {x : Str} {a : Addr} {xs : List V} {pos : Pos} (h : GT X.K X.mg x a xs) (hg : Gl X x := by rfl) (hd : (x == ("__debug__" : Str)) = false := by decide) : PE X (.Name x pos) (tC (.ref a)) := pe_glob hg h.1 rfl hd
/-! ### what the module has besides its defs -/
structure Txt (K : PySem.W.Frag) (mg : Str → Option Value) : Prop where
  LOAD : GI mg "LOAD" 1
  READ : GI mg "READ" 2
  PLAN : GI mg "PLAN" 3
  SAVE : GI mg "SAVE" 4
  CUT : GI mg "CUT" 5
  BYTES_OF : GI mg "BYTES_OF" 6
  CRC : GI mg "CRC" 7
  DONE : GI mg "DONE" 0
  NOT_512 : GI mg "NOT_512" (-1)
  NOTHING : GI mg "NOTHING" (-4)
  NOT_RIGHT : GI mg "NOT_RIGHT" (-8)
  MEMORY_SIZE : GI mg "MEMORY_SIZE" 512
  HALF_SIZE : GI mg "HALF_SIZE" 256
  NUMBER_END : GI mg "NUMBER_END" 4294967296
  ALL_BITS : GI mg "ALL_BITS" 4294967295
  POLYNOMIAL : GI mg "POLYNOMIAL" 2197175160
  SCORE_END : GI mg "SCORE_END" 281474976710656
  SCORE_DIGITS : GI mg "SCORE_DIGITS" 12
  MOST_LEVELS : GI mg "MOST_LEVELS" 4
  SETUP : GI mg "SETUP" 8
  TICKS : GI mg "TICKS" 13
  LEVEL_COUNT : GI mg "LEVEL_COUNT" 14
  LEVELS : GI mg "LEVELS" 15
  MARK : ∃ a, GT K mg "MARK" a (IL [84, 76, 75, 49])
  BOUNDS : ∃ a b0 b1 b2 b3 b4 b5, GT K mg "SETUP_BOUNDS" a [.ref b0, .ref b1, .ref b2, .ref b3, .ref b4, .ref b5] ∧ ∀ H, SqT K H b0 (IL [1, 9]) ∧ SqT K H b1 (IL [1, 9]) ∧ SqT K H b2 (IL [0, 9]) ∧ SqT K H b3 (IL [1, 4]) ∧ SqT K H b4 (IL [0, 1]) ∧ SqT K H b5 (IL [0, 100000])
  range : mg "range" = none
  len : mg "len" = none
  all : mg "all" = none
  list : mg "list" = none
  reversed : mg "reversed" = none
  zip : mg "zip" = none
/-! ### what a def hands back -/
/-- a new list with these items; all else as it was -/
def RetL (H : Hp) (Q : VK) (xs : List V) : Prop := ∀ (H' : Hp) (p : Addr), Same H H' → H p = none → H' p = some (.lst xs) → Q (.ref p) H'
/-- this value; all else as it was -/
def RetV (H : Hp) (Q : VK) (v : V) : Prop := ∀ H' : Hp, Same H H' → Q v H'
theorem same_upd {H H' : Hp} {p : Addr} {o : HO} (s : Same H H') (h : H p = none) : Same H (upd H' p o) := fun b u e => by
  rw [upd_ne (ne_of_none e h)]
  exact s b u e
theorem same_new {H H' : Hp} {p : Addr} {o : HO} (s : Same H H') (h : H' p = none) : Same H (upd H' p o) := same_upd s (s.free h)
theorem Same.tup {K : PySem.W.Frag} {H H' : Hp} {a : Addr} {xs : List V} (e : Same H H') (h : SqT K H a xs) : SqT K H' a xs := by
  rcases h with (h | ⟨o, h⟩) | h
  · exact .inl (.inl (e _ _ h))
  · exact .inl (.inr ⟨o, e _ _ h⟩)
  · exact .inr h
theorem retL_upd {H H' : Hp} {Q : VK} {xs : List V} {p : Addr} (k : RetL H Q xs) (s : Same H H') (h : H' p = none) : Q (.ref p) (upd H' p (.lst xs)) := k _ p (same_new s h) (s.free h) upd_same
end Hw

set_option Elab.async false
set_option linter.all false
set_option maxRecDepth 100000
set_option maxHeartbeats 4000000
namespace Hw
open PySem PySem.Spec PyProof.Rows L2
section
variable {P : Program} {w : World} {K : PySem.W.Frag} {mg : Str → Option Value} {base : Heap}
/-! ### octets_of -/
def sp_octets_of : Sp := fun vs H Q _ => ∃ (n k : Nat), vs = [.int n, .int k] ∧ k ≤ 8 ∧ RetL H Q (IL (bi (Tilt.le k n)))
theorem sc_octets_of : FnScope ["number", "size", "place"] ["number", "size"] (defScope (top 27)) := ⟨rfl, rfl, rfl, by decide +kernel, rfl, by decide +kernel, by decide +kernel⟩
theorem shift_and (n i : Nat) : Builtin.bitAnd ((n : Int) / 2 ^ ((8 : Int) * ((0 : Int) + (i : Int))).toNat) 255 = ((n / 256 ^ i % 256 : Nat) : Int) := by
  have e1 : ((8 : Int) * ((0 : Int) + (i : Int))).toNat = 8 * i := by omega
  have e2 : (256 : Nat) ^ i = 2 ^ (8 * i) := by rw [Nat.pow_mul]
  rw [e1, bitAnd_m8, e2]
  have e3 : (2 : Int) ^ (8 * i) = ((2 ^ (8 * i) : Nat) : Int) := by
    rw [Int.natCast_pow]
    rfl
  rw [e3]
  omega
theorem ok_octets_of {f : Addr} {fd : FuncData} (F : Df K mg "octets_of" (top 27) f fd) (T : Txt K mg) : Fn P w K mg base "octets_of" 1 ["number", "size"] sp_octets_of := by
  refine ⟨f, fd, F.mg_, F.fn.kp, F.fn.binds fun _ _ _ _ _ _ us hl => match us, hl with | [_, _], _ => rfl, F.fn.ok sc_octets_of (fun vs H Q E h => ?_) (fun cdv A outer s H vs Q E hr h => ?_)⟩
  · obtain ⟨n, k, rfl, _⟩ := h
    rfl
  · obtain ⟨n, k, rfl, hk, q⟩ := h
    refine ⟨_, pss_one (ps_ret (pe_lc rfl sc_octets_of.nd (pi_range1 rfl T.range (pa_cons (pv 1) pa_nil)) (blkOk_by (N := ["number", "size", "place"]) (sc := defScope (top 27)) (own := [("place", 2)]) (by decide +kernel)) (fun _ _ _ _ _ => pg_name (i := 2) sc_octets_of.nd rfl (Or.inl rfl)) (fun _ _ _ _ _ => pts_nil)
      (fun _ _ _ _ _ => pe_op op_and (pe_op op_shr (pv 0) (pe_op op_mul pe_int (pv 2))) pe_int))), ?_⟩
    have lb : (bi (Tilt.le k n)).length = k := by rw [bi_length, le_length]
    refine ⟨_, rfl, k, rfl, by omega, by omega, fun D hD => lc_range (fun i H' => Same H H' ∧ H' D = some (.lst (IL ((bi (Tilt.le k n)).take i)))) ⟨same_upd (Same.refl H) hD, upd_same⟩ ?_ ?_⟩
    · rintro i H1 hi ⟨s1, h1⟩
      refine ⟨rfl, _, rfl, _, rfl, _, _, rfl, rfl, .inl ⟨by decide, by decide⟩, _, _, rfl, rfl, ?_, _, _, rfl, rfl, _, h1, ?_, same_upd s1 hD, ?_⟩
      · omega
      · rw [List.length_map, List.length_take]
        have : sizeLine = 16777216 := rfl
        omega
      · rw [upd_same]
        have e : (bi (Tilt.le k n))[i]? = some ((n / 256 ^ i % 256 : Nat) : Int) := by
          rw [bi_le, List.getElem?_map, List.getElem?_range (by omega)]
          rfl
        rw [take_snoc e, il_append]
        show some (HO.lst (_ ++ [V.int (Builtin.bitAnd ((n : Int) / 2 ^ ((8 : Int) * ((0 : Int) + (i : Int))).toNat) 255)])) = _
        rw [shift_and]
        rfl
    · rintro H1 ⟨s1, h1⟩
      rw [List.take_of_length_le (by omega)] at h1
      exact q _ D s1 hD h1
end
end Hw

set_option Elab.async false
set_option linter.all false
set_option maxRecDepth 100000
set_option maxHeartbeats 4000000
namespace Hw
open PySem PySem.Spec PyProof.Rows L2
theorem bi_get {b : Tilt.Bytes} {i : Nat} {z : Int} (h : (bi b)[i]? = some z) : ∃ c : UInt8, b[i]? = some c ∧ z = ((c.toNat : Nat) : Int) := by
  unfold bi at h
  rw [List.getElem?_map] at h
  cases e : b[i]? with
  | none =>
    rw [e] at h
    cases h
  | some c =>
    rw [e] at h
    exact ⟨c, rfl, (Option.some.inj h).symm⟩
theorem ib_get {b : Tilt.Bytes} {i : Nat} {x : V} (h : (IL (bi b))[i]? = some x) : ∃ c : UInt8, b[i]? = some c ∧ x = V.int ((c.toNat : Nat) : Int) := by
  obtain ⟨z, hz, rfl⟩ := il_get h
  obtain ⟨c, hc, rfl⟩ := bi_get hz
  exact ⟨c, hc, rfl⟩
theorem ni_get {l : List Nat} {i : Nat} {x : V} (h : (IL (ni l))[i]? = some x) : ∃ n : Nat, l[i]? = some n ∧ x = V.int (n : Int) := by
  obtain ⟨z, hz, rfl⟩ := il_get h
  unfold ni at hz
  rw [List.getElem?_map] at hz
  cases e : l[i]? with
  | none =>
    rw [e] at hz
    cases hz
  | some c =>
    rw [e] at hz
    exact ⟨c, rfl, congrArg V.int (Option.some.inj hz).symm⟩
/-- for over reversed(list) -/
theorem for_rev {K : PySem.W.Frag} {a : Addr} {xs : List V} {g : TG} {tb : TS} {D : Ends} {σ : L2.St} {H : Hp} (Pv : Nat → L2.St → Hp → Prop) (h0 : Pv 0 σ H) (hl : ∀ i σ H, i ≤ xs.length → Pv i σ H → SqL K H a xs)
    (hs : ∀ i x σ H, i < xs.length → xs[xs.length - 1 - i]? = some x → Pv i σ H → g x σ H fun σ2 H2 => tb { D with nx := Pv (i + 1), ct := Pv (i + 1), bk := D.nx } σ2 H2) (hd : ∀ σ H, Pv xs.length σ H → D.nx σ H) :
    ∃ W : Nat → Nat → L2.St → Hp → Prop, (∃ m, W 0 m σ H) ∧ ∀ i m σ H, W i m σ H →
      ((Itv K a xs.length).stop i H ∧ D.nx σ H) ∨ ((Itv K a xs.length).go i H ∧ ∃ N : L2.St → Hp → Prop, (∀ σ' H', N σ' H' → ∃ m', m' < m ∧ W (i + 1) m' σ' H') ∧ ∀ x H', (Itv K a xs.length).yld i H x H' → g x σ H' fun σ2 H2 => tb { D with nx := N, ct := N, bk := D.nx } σ2 H2) := by
  refine ⟨fun i m σ H => m + i = xs.length ∧ Pv i σ H, ⟨xs.length, rfl, h0⟩, ?_⟩
  rintro i m σ H ⟨hm, p⟩
  have q := hl i σ H (by omega) p
  by_cases hlt : i < xs.length
  · have hj : xs.length - 1 - i < xs.length := by omega
    refine .inr ⟨⟨hlt, xs, xs[xs.length - 1 - i], q, List.getElem?_eq_getElem hj⟩, Pv (i + 1), fun σ' H' p' => ⟨m - 1, by omega, by omega, p'⟩, ?_⟩
    rintro x H' ⟨rfl, y⟩
    exact hs i x σ _ hlt (y xs q) p
  · have e : i = xs.length := by omega
    subst e
    exact .inl ⟨Nat.le_refl _, hd σ H p⟩
/-- a comprehension over a range by steps -/
theorem lc_steps {lo c : Int} {n : Nat} {g : TG} {tt : TT} {te : TE} {vs : List Nat} {σ : L2.St} {H1 : Hp} {D : Addr} {Qd : Hp → Prop} (Pv : Nat → Hp → Prop) (h0 : Pv 0 (upd H1 D (.lst [])))
    (hs : ∀ i H, i < n → Pv i H → g (.int (lo + (i : Nat) * c)) (wipe σ vs) H fun σ2 H2 => wipe σ2 vs = wipe σ vs ∧ tt σ2 H2 fun b H3 =>
      if b = true then te σ2 H3 fun y H4 => ∃ acc, H4 D = some (.lst acc) ∧ acc.length < sizeLine ∧ Pv (i + 1) (upd H4 D (.lst (acc ++ [y]))) else Pv (i + 1) H3) (hd : ∀ H, Pv n H → Qd H) :
    ∃ W : Nat → Nat → Hp → Prop, (∃ m, W 0 m (upd H1 D (.lst []))) ∧ ∀ i m H, W i m H →
      ((Itc lo c n).stop i H ∧ Qd H) ∨ ((Itc lo c n).go i H ∧ ∃ Nx : Hp → Prop, (∀ H', Nx H' → ∃ m', m' < m ∧ W (i + 1) m' H') ∧ ∀ x H', (Itc lo c n).yld i H x H' → g x (wipe σ vs) H' fun σ2 H2 => wipe σ2 vs = wipe σ vs ∧ tt σ2 H2 fun b H3 =>
        if b = true then te σ2 H3 fun y H4 => ∃ acc, H4 D = some (.lst acc) ∧ acc.length < sizeLine ∧ Nx (upd H4 D (.lst (acc ++ [y]))) else Nx H3) := by
  refine ⟨fun i m H => m + i = n ∧ Pv i H, ⟨n, rfl, h0⟩, ?_⟩
  rintro i m H ⟨hm, p⟩
  by_cases hlt : i < n
  · refine .inr ⟨hlt, Pv (i + 1), fun H' p' => ⟨m - 1, by omega, by omega, p'⟩, ?_⟩
    rintro x H' ⟨rfl, rfl⟩
    exact hs i _ hlt p
  · have e : i = n := by omega
    subst e
    exact .inl ⟨Nat.le_refl _, hd H p⟩
end Hw

set_option Elab.async false
set_option linter.all false
set_option maxRecDepth 100000
set_option maxHeartbeats 4000000
namespace Hw
open PySem PySem.Spec PyProof.Rows L2
section
variable {P : Program} {w : World} {K : PySem.W.Frag} {mg : Str → Option Value} {base : Heap}
/-! ### number_of -/
def sp_number_of (K : PySem.W.Frag) : Sp := fun vs H Q _ => ∃ (a : Addr) (b : Tilt.Bytes), vs = [.ref a] ∧ SqL K H a (IL (bi b)) ∧ RetV H Q (.int (Tilt.num b))
theorem sc_number_of : FnScope ["octets", "number", "octet"] ["octets"] (defScope (top 28)) := ⟨rfl, rfl, rfl, by decide +kernel, rfl, by decide +kernel, by decide +kernel⟩
theorem ok_number_of {f : Addr} {fd : FuncData} (F : Df K mg "number_of" (top 28) f fd) (T : Txt K mg) : Fn P w K mg base "number_of" 1 ["octets"] (sp_number_of K) := by
  refine ⟨f, fd, F.mg_, F.fn.kp, F.fn.binds fun _ _ _ _ _ _ us hl => match us, hl with | [_], _ => rfl, F.fn.ok sc_number_of (fun vs H Q E h => ?_) (fun cdv A outer s H vs Q E hr h => ?_)⟩
  · obtain ⟨a, b, rfl, _⟩ := h
    rfl
  · obtain ⟨a, b, rfl, hS, q⟩ := h
    refine ⟨_, pss_cons (ps_set (i := 1) sc_number_of.nd rfl (Or.inl rfl) pe_int)
      (pss_cons (ps_for PassesOwn.never rfl (pi_reversed rfl T.reversed (pa_cons (pv 0) pa_nil)) (pg_name (i := 2) sc_number_of.nd rfl (Or.inl rfl))
        (pss_one (ps_set (i := 1) sc_number_of.nd rfl (Or.inl rfl) (pe_op op_add (pe_op op_mul (pv 1) pe_int) (pv 2)))))
      (pss_one (ps_ret (pv 1)))), ?_⟩
    have ll : (IL (bi b)).length = b.length := by rw [List.length_map, bi_length]
    refine ⟨_, rfl, a, _, rfl, hS, for_rev (fun i σ H' => ∃ v : Option V, σ = [some (.ref a), some (.int (Tilt.num (b.drop (b.length - i)))), v] ∧ H = H')
      ⟨none, ?_, rfl⟩ (fun i σ H' _ ⟨_, _, e⟩ => by rw [← e]; exact hS) ?_ ?_⟩
    · rw [Nat.sub_zero, List.drop_length]
      rfl
    · rintro i x σ H' hi hx ⟨v, rfl, rfl⟩
      rw [ll] at hi hx
      obtain ⟨c, hc, rfl⟩ := ib_get hx
      refine ⟨_, rfl, _, _, rfl, rfl, .inr ⟨by decide, by decide⟩, _, rfl, _, _, rfl, rfl, some (.int c.toNat), ?_, rfl⟩
      have e2 := num_drop hc
      have e3 : b.length - 1 - i + 1 = b.length - i := by omega
      have e4 : b.length - (i + 1) = b.length - 1 - i := by omega
      rw [e3] at e2
      rw [e4, e2]
      show [some (V.ref a), some (V.int (((Tilt.num (List.drop (b.length - i) b) : Nat) : Int) * 256 + _)), some _] = _
      congr 3
      refine congrArg V.int ?_
      omega
    · rintro σ H' ⟨v, rfl, rfl⟩
      rw [ll, Nat.sub_self, List.drop_zero]
      exact ⟨_, rfl, q _ (Same.refl _)⟩
/-! ### crc_of -/
def sp_crc_of (K : PySem.W.Frag) : Sp := fun vs H Q _ => ∃ (a : Addr) (b : Tilt.Bytes), vs = [.ref a] ∧ SqL K H a (IL (bi b)) ∧ RetV H Q (.int (Tilt.crc b))
theorem sc_crc_of : FnScope ["octets", "bits", "octet", "turn", "fell_out"] ["octets"] (defScope (top 29)) := ⟨rfl, rfl, rfl, by decide +kernel, rfl, by decide +kernel, by decide +kernel⟩
theorem xor_nat (m n : Nat) : Builtin.bitXor (m : Int) (n : Int) = ((Nat.xor m n : Nat) : Int) := by
  rw [Bits.bitXor_pp (Int.natCast_nonneg m) (Int.natCast_nonneg n), Int.toNat_natCast, Int.toNat_natCast]
  rfl
theorem ok_crc_of {f : Addr} {fd : FuncData} (F : Df K mg "crc_of" (top 29) f fd) (T : Txt K mg) : Fn P w K mg base "crc_of" 1 ["octets"] (sp_crc_of K) := by
  refine ⟨f, fd, F.mg_, F.fn.kp, F.fn.binds fun _ _ _ _ _ _ us hl => match us, hl with | [_], _ => rfl, F.fn.ok sc_crc_of (fun vs H Q E h => ?_) (fun cdv A outer s H vs Q E hr h => ?_)⟩
  · obtain ⟨a, b, rfl, _⟩ := h
    rfl
  · obtain ⟨a, b, rfl, hS, q⟩ := h
    refine ⟨_, pss_cons (ps_set (i := 1) sc_crc_of.nd rfl (Or.inl rfl) (pe_gi T.ALL_BITS))
      (pss_cons (ps_for PassesOwn.never rfl (pi_list (pv 0)) (pg_name (i := 2) sc_crc_of.nd rfl (Or.inl rfl))
        (pss_cons (ps_set (i := 1) sc_crc_of.nd rfl (Or.inl rfl) (pe_op op_xor (pv 1) (pv 2)))
        (pss_one (ps_for PassesOwn.never rfl (pi_range1 rfl T.range (pa_cons pe_int pa_nil)) (pg_name (i := 3) sc_crc_of.nd rfl (Or.inl rfl))
          (pss_cons (ps_set (i := 4) sc_crc_of.nd rfl (Or.inl rfl) (pe_op op_mod (pv 1) pe_int))
          (pss_cons (ps_set (i := 1) sc_crc_of.nd rfl (Or.inl rfl) (pe_op op_fdiv (pv 1) pe_int))
          (pss_one (ps_if (pt_cmpR op_eq (pv 4) pe_int (nomark _)) (pss_one (ps_set (i := 1) sc_crc_of.nd rfl (Or.inl rfl) (pe_op op_xor (pv 1) (pe_gi T.POLYNOMIAL)))) pss_nil))))))))
      (pss_one (ps_ret (pe_op op_xor (pv 1) (pe_gi T.ALL_BITS))))), ?_⟩
    have ll : (IL (bi b)).length = b.length := by rw [List.length_map, bi_length]
    refine ⟨_, rfl, a, rfl, ⟨_, hS⟩, for_list (K := K) (a := a) (xs := IL (bi b)) (fun i σ H' => ∃ v2 v3 v4 : Option V, σ = [some (.ref a), some (.int (Tilt.crcOver Tilt.ONES (b.take i))), v2, v3, v4] ∧ H = H')
      ⟨none, none, none, rfl, rfl⟩ (fun i σ H' _ ⟨_, _, _, _, e⟩ => by rw [← e]; exact hS) ?_ ?_⟩
    · rintro i x σ H' hx ⟨v2, v3, v4, rfl, rfl⟩
      obtain ⟨c, hc, rfl⟩ := ib_get hx
      · skip
        refine ⟨_, rfl, _, rfl, _, _, rfl, rfl, 8, rfl, by decide, by decide, for_range (lo := 0) (n := 8) (fun j σ H' => ∃ v3 v4 : Option V, σ = [some (.ref a), some (.int (Tilt.crcBits j (Nat.xor (Tilt.crcOver Tilt.ONES (b.take i)) c.toNat))), some (.int c.toNat), v3, v4] ∧ H = H')
          ⟨v3, v4, ?_, rfl⟩ ?_ ?_⟩
        · show [some (V.ref a), some (V.int (Builtin.bitXor _ _)), _, _, _] = _
          rw [xor_nat]
          rfl
        · rintro j σ H' hj ⟨v3, v4, rfl, rfl⟩
          generalize hM : Tilt.crcBits j (Nat.xor (Tilt.crcOver Tilt.ONES (b.take i)) c.toNat) = M
          refine ⟨_, rfl, _, _, rfl, rfl, (by show (0 : Int) < 2; decide), _, rfl, _, _, rfl, rfl, ⟨by decide, by decide⟩, _, rfl, rfl, _, rfl, ?_⟩
          have hs : Tilt.crcBits (j + 1) (Nat.xor (Tilt.crcOver Tilt.ONES (b.take i)) c.toNat) = Tilt.crcBit M := by rw [crcBits_succ, hM]
          refine ite2 (fun h => ?_) (fun h => ?_)
          · have h1 : V.int ((M : Int) % 2) = V.int 1 := of_decide_eq_true h
            injection h1 with h2
            refine ⟨_, rfl, _, _, rfl, rfl, some (.int (0 + (j : Int))), some (.int ((M : Int) % 2)), ?_, rfl⟩
            rw [hs]
            unfold Tilt.crcBit
            rw [if_pos (by omega)]
            have e5 : (M : Int) / 2 = ((M / 2 : Nat) : Int) := by omega
            show [some (V.ref a), some (V.int (Builtin.bitXor ((M : Int) / 2) ((2197175160 : Nat) : Int))), _, _, _] = _
            rw [e5, xor_nat]
          · have h1 : ¬ ((M : Int) % 2) = 1 := fun z => h (decide_eq_true (congrArg V.int z))
            refine ⟨some (.int (0 + (j : Int))), some (.int ((M : Int) % 2)), ?_, rfl⟩
            rw [hs]
            unfold Tilt.crcBit
            rw [if_neg (by omega)]
            have e5 : (M : Int) / 2 = ((M / 2 : Nat) : Int) := by omega
            show [some (V.ref a), some (V.int ((M : Int) / 2)), _, _, _] = _
            rw [e5]
        · rintro σ H' ⟨v3, v4, rfl, rfl⟩
          refine ⟨some (.int c.toNat), v3, v4, ?_, rfl⟩
          rw [crcOver_take _ hc]
    · rintro σ H' ⟨v2, v3, v4, rfl, rfl⟩
      rw [ll, List.take_length]
      refine ⟨_, rfl, _, _, rfl, rfl, ?_⟩
      show Q (V.int (Builtin.bitXor _ ((4294967295 : Nat) : Int))) _
      rw [xor_nat]
      exact q _ (Same.refl _)
/-! ### is_letter -/
def sp_is_letter : Sp := fun vs H Q _ => ∃ c : UInt8, vs = [.int c.toNat] ∧ RetV H Q (.bl (letterP c))
theorem sc_is_letter : FnScope ["octet"] ["octet"] (defScope (top 31)) := ⟨rfl, rfl, rfl, by decide +kernel, rfl, by decide +kernel, by decide +kernel⟩
theorem letter_eq (c : UInt8) : letterP c = (decide (c.toNat = 32) || (decide (65 ≤ c.toNat) && decide (c.toNat ≤ 90))) := by
  unfold letterP
  have e1 : (c == 32) = decide (c.toNat = 32) := by
    rw [Bool.eq_iff_iff, beq_iff_eq, decide_eq_true_iff]
    constructor
    · intro h
      rw [h]
      rfl
    · intro h
      exact UInt8.toNat_inj.mp h
  rw [e1]
  rfl
theorem ok_is_letter {f : Addr} {fd : FuncData} (F : Df K mg "is_letter" (top 31) f fd) (T : Txt K mg) : Fn P w K mg base "is_letter" 1 ["octet"] sp_is_letter := by
  refine ⟨f, fd, F.mg_, F.fn.kp, F.fn.binds fun _ _ _ _ _ _ us hl => match us, hl with | [_], _ => rfl, F.fn.ok sc_is_letter (fun vs H Q E h => ?_) (fun cdv A outer s H vs Q E hr h => ?_)⟩
  · obtain ⟨c, rfl, _⟩ := h
    rfl
  · obtain ⟨c, rfl, q⟩ := h
    refine ⟨_, pss_one (ps_ret (pe_or (pe_cmpR op_eq (pv 0) pe_int (nomark _)) (pe_one (pe_and (pe_cmpR op_ge (pv 0) pe_int (nomark _)) (pe_one (pe_cmpR op_le (pv 0) pe_int (nomark _))))))), ?_⟩
    have qq := q _ (Same.refl _)
    rw [letter_eq] at qq
    refine ⟨_, rfl, rfl, _, rfl, ite2 (fun h => ?_) (fun h => ⟨_, rfl, _, _, rfl, rfl, _, rfl, ite2 (fun h2 => ⟨_, rfl, _, _, rfl, rfl, ?_⟩) fun h2 => ?_⟩)⟩
    · have h1 : V.int (c.toNat : Nat) = V.int 32 := of_decide_eq_true h
      injection h1 with h1
      rw [decide_eq_true (show c.toNat = 32 by omega)] at qq
      exact qq
    · have h1 : ¬ c.toNat = 32 := fun z => h (decide_eq_true (by rw [z]; rfl))
      have h3 := of_decide_eq_true h2
      rw [decide_eq_false h1, decide_eq_true (show 65 ≤ c.toNat by omega)] at qq
      have e : decide (((c.toNat : Nat) : Int) ≤ 90) = decide (c.toNat ≤ 90) := by
        rw [Bool.eq_iff_iff, decide_eq_true_iff, decide_eq_true_iff]
        omega
      show Q (V.bl (decide (((c.toNat : Nat) : Int) ≤ 90))) H
      rw [e]
      exact qq
    · have h1 : ¬ c.toNat = 32 := fun z => h (decide_eq_true (by rw [z]; rfl))
      have h3 : ¬ 65 ≤ c.toNat := fun z => h2 (decide_eq_true (by omega))
      rw [decide_eq_false h1, decide_eq_false h3] at qq
      exact qq
/-! ### is_score -/
def sp_is_score : Sp := fun vs H Q _ => ∃ n : Nat, vs = [.int n] ∧ RetV H Q (.bl (Tilt.isScore n))
theorem sc_is_score : FnScope ["number", "place"] ["number"] (defScope (top 30)) := ⟨rfl, rfl, rfl, by decide +kernel, rfl, by decide +kernel, by decide +kernel⟩
theorem digit_le (n i : Nat) : decide (((n : Int) / 2 ^ ((4 : Int) * ((0 : Int) + (i : Int))).toNat) % 16 ≤ 9) = decide (Tilt.digit n i < 10) := by
  have e1 : ((4 : Int) * ((0 : Int) + (i : Int))).toNat = 4 * i := by omega
  have e2 : (16 : Nat) ^ i = 2 ^ (4 * i) := by rw [Nat.pow_mul]
  have e3 : (2 : Int) ^ (4 * i) = ((2 ^ (4 * i) : Nat) : Int) := by
    rw [Int.natCast_pow]
    rfl
  unfold Tilt.digit
  rw [e1, e2, e3, Bool.eq_iff_iff, decide_eq_true_iff, decide_eq_true_iff]
  omega
theorem ok_is_score {f : Addr} {fd : FuncData} (F : Df K mg "is_score" (top 30) f fd) (T : Txt K mg) : Fn P w K mg base "is_score" 1 ["number"] sp_is_score := by
  refine ⟨f, fd, F.mg_, F.fn.kp, F.fn.binds fun _ _ _ _ _ _ us hl => match us, hl with | [_], _ => rfl, F.fn.ok sc_is_score (fun vs H Q E h => ?_) (fun cdv A outer s H vs Q E hr h => ?_)⟩
  · obtain ⟨n, rfl, _⟩ := h
    rfl
  · obtain ⟨n, rfl, q⟩ := h
    refine ⟨_, pss_cons (ps_if (pt_cmpR op_ge (pv 0) (pe_gi T.SCORE_END) (nomark _)) (pss_one (ps_ret pe_bl)) pss_nil)
      (pss_one (ps_ret (pe_callB (cr_all rfl) rfl T.all (by decide +kernel) (pa_cons
        (pe_lc rfl sc_is_score.nd (pi_range1 rfl T.range (pa_cons (pe_gi T.SCORE_DIGITS) pa_nil)) (blkOk_by (N := ["number", "place"]) (sc := defScope (top 30)) (own := [("place", 1)]) (by decide +kernel)) (fun _ _ _ _ _ => pg_name (i := 1) sc_is_score.nd rfl (Or.inl rfl)) (fun _ _ _ _ _ => pts_nil)
        (fun _ _ _ _ _ => pe_cmpR op_le (pe_op op_mod (pe_op op_shr (pv 0) (pe_op op_mul pe_int (pv 1))) pe_int) pe_int (nomark _))) pa_nil)))), ?_⟩
    refine ⟨_, rfl, _, _, rfl, rfl, _, rfl, ite2 (fun h => ?_) (fun h => ?_)⟩
    · have h1 := of_decide_eq_true h
      have e : Tilt.isScore n = false := by
        unfold Tilt.isScore
        rw [decide_eq_false (by omega)]
        rfl
      rw [e] at q
      exact q _ (Same.refl _)
    · have h1 : n < 281474976710656 := by
        rcases Nat.lt_or_ge n 281474976710656 with z | z
        · exact z
        · exact absurd (decide_eq_true (show (281474976710656 : Int) ≤ (n : Int) by omega)) h
      have e : Tilt.isScore n = ((List.range 12).map fun i => decide (Tilt.digit n i < 10)).all id := by
        unfold Tilt.isScore
        rw [decide_eq_true (by omega), Bool.true_and, List.all_map]
        rfl
      rw [e] at q
      refine ⟨12, rfl, by decide, by decide, fun D hD => lc_range (lo := 0) (n := 12) (fun i H' => Same H H' ∧ H' D = some (.lst (((List.range i).map fun i => decide (Tilt.digit n i < 10)).map V.bl))) ⟨same_upd (Same.refl H) hD, upd_same⟩ ?_ ?_⟩
      · rintro i H1 hi ⟨s1, h2⟩
        refine ⟨rfl, _, rfl, _, rfl, _, _, rfl, rfl, .inl ⟨by decide, by decide⟩, _, _, rfl, rfl, ?_, _, _, rfl, rfl, ?_, _, _, rfl, rfl, _, h2, ?_, same_upd s1 hD, ?_⟩
        · omega
        · show (0 : Int) < 16
          decide
        · rw [List.length_map, List.length_map, List.length_range]
          have : sizeLine = 16777216 := rfl
          omega
        · rw [upd_same, List.range_succ, List.map_append, List.map_append]
          show some (HO.lst (_ ++ [V.bl (decide (((n : Int) / 2 ^ ((4 : Int) * ((0 : Int) + (i : Int))).toNat) % 16 ≤ 9))])) = _
          rw [digit_le]
          rfl
      · rintro H1 ⟨s1, h2⟩
        exact ⟨D, _, rfl, SqL.of h2, q _ s1⟩
end
end Hw

set_option Elab.async false
set_option linter.all false
set_option maxRecDepth 100000
set_option maxHeartbeats 4000000
namespace Hw
open PySem PySem.Spec PyProof.Rows L2
/-! ### rules by a written fragment -/
theorem sl_lk {X : Cx} (K : PySem.W.Frag) (h : X.K = K := by rfl) : SlR X (rSlL K) := by
  subst h
  exact sl_list
theorem ix_lk {X : Cx} (K : PySem.W.Frag) (h : X.K = K := by rfl) : IxR X (rIxL K) := by
  subst h
  exact ix_list
theorem ix_tk {X : Cx} (K : PySem.W.Frag) (h : X.K = K := by rfl) : IxR X (rIxT K) := by
  subst h
  exact ix_tup
/-! ### slices -/
theorem cutV_nat (xs : List V) (i j : Nat) : cutV xs (some (i : Int)) (some (j : Int)) = (xs.drop i).take (j - i) := by
  unfold cutV
  rw [HT.sIx_nat, HT.sIx_nat]
  rcases Nat.lt_or_ge xs.length i with h | h
  · rw [Nat.min_eq_right (Nat.le_of_lt h), List.drop_of_length_le (Nat.le_refl _), List.drop_of_length_le (Nat.le_of_lt h), List.take_nil, List.take_nil]
  · rw [Nat.min_eq_left h]
    rcases Nat.lt_or_ge xs.length j with g | g
    · rw [Nat.min_eq_right (Nat.le_of_lt g), List.take_of_length_le (by rw [List.length_drop]; exact Nat.le_refl _), List.take_of_length_le (by rw [List.length_drop]; omega)]
    · rw [Nat.min_eq_left g]
theorem cutV_from (xs : List V) (i : Nat) : cutV xs (some (i : Int)) none = xs.drop i := by
  unfold cutV
  rw [HT.sIx_nat, HT.sIx_none]
  rcases Nat.lt_or_ge xs.length i with h | h
  · rw [Nat.min_eq_right (Nat.le_of_lt h), List.drop_of_length_le (Nat.le_refl _), List.drop_of_length_le (Nat.le_of_lt h), List.take_nil]
  · rw [Nat.min_eq_left h, List.take_of_length_le (by rw [List.length_drop]; exact Nat.le_refl _)]
theorem cutV_to (xs : List V) (j : Nat) : cutV xs none (some (j : Int)) = xs.take j := by
  unfold cutV
  rw [HT.sIx_nat, HT.sIx_none, List.drop_zero, Nat.sub_zero]
  rcases Nat.lt_or_ge xs.length j with g | g
  · rw [Nat.min_eq_right (Nat.le_of_lt g), List.take_of_length_le (Nat.le_refl _), List.take_of_length_le (Nat.le_of_lt g)]
  · rw [Nat.min_eq_left g]
theorem il_part (l : List Int) (i j : Nat) : ((IL l).drop i).take j = IL ((l.drop i).take j) := by
  unfold IL
  rw [List.map_take, List.map_drop]
theorem il_from (l : List Int) (i : Nat) : (IL l).drop i = IL (l.drop i) := by
  unfold IL
  rw [List.map_drop]
theorem il_to (l : List Int) (i : Nat) : (IL l).take i = IL (l.take i) := by
  unfold IL
  rw [List.map_take]
theorem ni_part (l : List Nat) (i j : Nat) : ((ni l).drop i).take j = ni ((l.drop i).take j) := by
  unfold ni
  rw [List.map_take, List.map_drop]
theorem ni_from (l : List Nat) (i : Nat) : (ni l).drop i = ni (l.drop i) := by
  unfold ni
  rw [List.map_drop]
theorem ni_to (l : List Nat) (i : Nat) : (ni l).take i = ni (l.take i) := by
  unfold ni
  rw [List.map_take]
theorem bi_part (l : Tilt.Bytes) (i j : Nat) : ((bi l).drop i).take j = bi ((l.drop i).take j) := by
  unfold bi
  rw [List.map_take, List.map_drop]
theorem bi_from (l : Tilt.Bytes) (i : Nat) : (bi l).drop i = bi (l.drop i) := by
  unfold bi
  rw [List.map_drop]
theorem bi_to (l : Tilt.Bytes) (i : Nat) : (bi l).take i = bi (l.take i) := by
  unfold bi
  rw [List.map_take]
theorem cut_ni (l : List Nat) (i j : Nat) : cutV (IL (ni l)) (some (i : Int)) (some (j : Int)) = IL (ni ((l.drop i).take (j - i))) := by rw [cutV_nat, il_part, ni_part]
theorem cut_ni_from (l : List Nat) (i : Nat) : cutV (IL (ni l)) (some (i : Int)) none = IL (ni (l.drop i)) := by rw [cutV_from, il_from, ni_from]
theorem cut_ni_to (l : List Nat) (i : Nat) : cutV (IL (ni l)) none (some (i : Int)) = IL (ni (l.take i)) := by rw [cutV_to, il_to, ni_to]
theorem cut_bi (l : Tilt.Bytes) (i j : Nat) : cutV (IL (bi l)) (some (i : Int)) (some (j : Int)) = IL (bi ((l.drop i).take (j - i))) := by rw [cutV_nat, il_part, bi_part]
theorem cut_bi_from (l : Tilt.Bytes) (i : Nat) : cutV (IL (bi l)) (some (i : Int)) none = IL (bi (l.drop i)) := by rw [cutV_from, il_from, bi_from]
theorem cut_bi_to (l : Tilt.Bytes) (i : Nat) : cutV (IL (bi l)) none (some (i : Int)) = IL (bi (l.take i)) := by rw [cutV_to, il_to, bi_to]
theorem ni_at {l : List Nat} {i n : Nat} (h : l[i]? = some n) : (IL (ni l))[i]? = some (V.int (n : Int)) := by
  refine il_at ?_
  unfold ni
  rw [List.getElem?_map, h]
  rfl
theorem bi_at {l : Tilt.Bytes} {i : Nat} {c : UInt8} (h : l[i]? = some c) : (IL (bi l))[i]? = some (V.int ((c.toNat : Nat) : Int)) := by
  refine il_at ?_
  unfold bi
  rw [List.getElem?_map, h]
  rfl
/-! ### a list of lists of numbers -/
structure Rows (H : Hp) (as : List Addr) (ls : List (List Nat)) : Prop where
  len : as.length = ls.length
  at_ : ∀ (i : Nat) (a : Addr), as[i]? = some a → ∃ l, ls[i]? = some l ∧ H a = some (.lst (IL (ni l)))
theorem Rows.nil (H : Hp) : Rows H [] [] := ⟨rfl, fun i a h => by simp at h⟩
theorem Rows.same {H H' : Hp} {as : List Addr} {ls : List (List Nat)} (R : Rows H as ls) (s : Same H H') : Rows H' as ls := ⟨R.len, fun i a h => by
  obtain ⟨l, h1, h2⟩ := R.at_ i a h
  exact ⟨l, h1, s _ _ h2⟩⟩
theorem Rows.off {H : Hp} {as : List Addr} {ls : List (List Nat)} {D : Addr} {o : HO} (R : Rows H as ls) (n : ∀ a ∈ as, a ≠ D) : Rows (upd H D o) as ls := ⟨R.len, fun i a h => by
  obtain ⟨l, h1, h2⟩ := R.at_ i a h
  exact ⟨l, h1, by rw [upd_ne (n a (List.mem_of_getElem? h))]; exact h2⟩⟩
theorem Rows.snoc {H : Hp} {as : List Addr} {ls : List (List Nat)} {a : Addr} {l : List Nat} (R : Rows H as ls) (h : H a = some (.lst (IL (ni l)))) : Rows H (as ++ [a]) (ls ++ [l]) := by
  refine ⟨by rw [List.length_append, List.length_append, R.len]; rfl, fun i b hb => ?_⟩
  rcases Nat.lt_or_ge i as.length with q | q
  · rw [List.getElem?_append_left q] at hb
    obtain ⟨l', h1, h2⟩ := R.at_ i b hb
    exact ⟨l', by rw [List.getElem?_append_left (by rw [← R.len]; exact q)]; exact h1, h2⟩
  · rw [List.getElem?_append_right q] at hb
    have e : i - as.length = 0 := by
      have := List.getElem?_eq_some_iff.mp hb
      obtain ⟨z, _⟩ := this
      simp at z
      omega
    rw [e] at hb
    have e2 : a = b := Option.some.inj hb
    subst e2
    refine ⟨l, ?_, h⟩
    rw [List.getElem?_append_right (by rw [← R.len]; exact q), ← R.len, e]
    rfl
theorem ref_get {as : List Addr} {i : Nat} {x : V} (h : (as.map V.ref)[i]? = some x) : ∃ a, as[i]? = some a ∧ x = V.ref a := by
  rw [List.getElem?_map] at h
  cases e : as[i]? with
  | none =>
    rw [e] at h
    cases h
  | some a =>
    rw [e] at h
    exact ⟨a, rfl, (Option.some.inj h).symm⟩
/-- a new list that is not the one at D, over it -/
theorem off_new {H : Hp} {D p : Addr} {o : HO} (hD : H D = some o) (hp : H p = none) : p ≠ D := fun e => by
  rw [e, hD] at hp
  cases hp
end Hw

set_option Elab.async false
set_option linter.all false
set_option maxRecDepth 100000
set_option maxHeartbeats 4000000
namespace Hw
open PySem PySem.Spec PyProof.Rows L2
section
variable {P : Program} {w : World} {K : PySem.W.Frag} {mg : Str → Option Value} {base : Heap}
/-! ### levels_of -/
def sp_levels_of (K : PySem.W.Frag) : Sp := fun vs H Q _ => ∃ (a : Addr) (r : Raw), vs = [.ref a] ∧ Shape r ∧ SqL K H a (IL (ni r.nums)) ∧ RetL H Q (IL (ni r.levels))
theorem sc_levels_of : FnScope ["content"] ["content"] (defScope (top 32)) := ⟨rfl, rfl, rfl, by decide +kernel, rfl, by decide +kernel, by decide +kernel⟩
theorem ok_levels_of {f : Addr} {fd : FuncData} (F : Df K mg "levels_of" (top 32) f fd) (T : Txt K mg) : Fn P w K mg base "levels_of" 1 ["content"] (sp_levels_of K) := by
  refine ⟨f, fd, F.mg_, F.fn.kp, F.fn.binds fun _ _ _ _ _ _ us hl => match us, hl with | [_], _ => rfl, F.fn.ok sc_levels_of (fun vs H Q E h => ?_) (fun cdv A outer s H vs Q E hr h => ?_)⟩
  · obtain ⟨a, r, rfl, _⟩ := h
    rfl
  · obtain ⟨a, r, rfl, S, hS, q⟩ := h
    refine ⟨_, pss_one (ps_ret (pe_slice sl_list (pv 0) (po_some (pe_gi T.LEVELS)) (po_some (pe_op op_add (pe_gi T.LEVELS) (pe_ix ix_list (pv 0) (pe_gi T.LEVEL_COUNT) (fun _ _ => rfl)))))), ?_⟩
    refine ⟨_, rfl, _, rfl, _, rfl, a, _, _, _, rfl, rfl, hS, at_of (j := 14) rfl (ni_at (nums_14 S)), _, _, rfl, rfl, _, rfl, a, _, rfl, hS, fun p hp => ?_⟩
    have e : cutV (IL (ni r.nums)) (some 15) (some (15 + (r.levels.length : Int))) = IL (ni r.levels) := by
      have e1 : (15 : Int) + (r.levels.length : Int) = ((15 + r.levels.length : Nat) : Int) := by omega
      rw [e1]
      show cutV (IL (ni r.nums)) (some ((15 : Nat) : Int)) (some ((15 + r.levels.length : Nat) : Int)) = _
      rw [cut_ni, Nat.add_sub_cancel_left, nums_levels S]
    show Q (.ref p) (upd H p (.lst (cutV (IL (ni r.nums)) (some 15) (some (15 + (r.levels.length : Int))))))
    rw [e]
    exact retL_upd q (Same.refl H) hp
/-! ### entries_of -/
def RetR (H : Hp) (Q : VK) (ls : List (List Nat)) : Prop := ∀ (H' : Hp) (p : Addr) (as : List Addr), Same H H' → H p = none → H' p = some (.lst (as.map V.ref)) → (∀ c ∈ as, H c = none) → Rows H' as ls → Q (.ref p) H'
def sp_entries_of (K : PySem.W.Frag) : Sp := fun vs H Q _ => ∃ (a : Addr) (r : Raw), vs = [.ref a] ∧ Shape r ∧ SqL K H a (IL (ni r.nums)) ∧ RetR H Q (r.best.map entryNums)
theorem sc_entries_of : FnScope ["content", "best", "place"] ["content"] (defScope (top 33)) := ⟨rfl, rfl, rfl, by decide +kernel, rfl, by decide +kernel, by decide +kernel⟩
theorem ok_entries_of {f : Addr} {fd : FuncData} (F : Df K mg "entries_of" (top 33) f fd) (T : Txt K mg) : Fn P w K mg base "entries_of" 1 ["content"] (sp_entries_of K) := by
  refine ⟨f, fd, F.mg_, F.fn.kp, F.fn.binds fun _ _ _ _ _ _ us hl => match us, hl with | [_], _ => rfl, F.fn.ok sc_entries_of (fun vs H Q E h => ?_) (fun cdv A outer s H vs Q E hr h => ?_)⟩
  · obtain ⟨a, r, rfl, _⟩ := h
    rfl
  · obtain ⟨a, r, rfl, S, hS, q⟩ := h
    refine ⟨_, pss_cons (ps_set (i := 1) sc_entries_of.nd rfl (Or.inr rfl) (pe_slice sl_list (pv 0) (po_some (pe_op op_add (pe_gi T.LEVELS) (pe_ix ix_list (pv 0) (pe_gi T.LEVEL_COUNT) (fun _ _ => rfl)))) po_none))
      (pss_one (ps_ret (pe_lc rfl sc_entries_of.nd (pi_range3 rfl T.range (pa_cons pe_int (pa_cons (pe_callB call_len_seq rfl T.len PySem.boot_len (pa_cons (pv 1) pa_nil)) (pa_cons pe_int pa_nil)))) (blkOk_by (N := ["content", "best", "place"]) (sc := defScope (top 33)) (own := [("place", 2)]) (by decide +kernel))
        (fun _ _ _ _ _ => pg_name (i := 2) sc_entries_of.nd rfl (Or.inl rfl)) (fun _ _ _ _ _ => pts_nil)
        (fun _ _ _ _ _ => pe_slice (sl_lk K) (pv 1) (po_some (pv 2)) (po_some (pe_op op_add (pv 2) pe_int)))))), ?_⟩
    refine ⟨_, rfl, _, rfl, a, _, _, _, rfl, rfl, hS, at_of (j := 14) rfl (ni_at (nums_14 S)), _, _, rfl, rfl, _, rfl, a, _, rfl, hS, fun p hp => ?_⟩
    have e : cutV (IL (ni r.nums)) (some (15 + (r.levels.length : Int))) none = IL (ni (r.best.flatMap entryNums)) := by
      have e1 : (15 : Int) + (r.levels.length : Int) = ((15 + r.levels.length : Nat) : Int) := by omega
      rw [e1, cut_ni_from, nums_best S]
    have hp2 : upd H p (.lst (cutV (IL (ni r.nums)) (some (15 + (r.levels.length : Int))) none)) p = some (.lst (IL (ni (r.best.flatMap entryNums)))) := by
      rw [upd_same, e]
    have s1 : Same H (upd H p (.lst (cutV (IL (ni r.nums)) (some (15 + (r.levels.length : Int))) none))) := same_upd (Same.refl H) hp
    show tSeq _ _ _ _ _
    generalize upd H p (.lst (cutV (IL (ni r.nums)) (some (15 + (r.levels.length : Int))) none)) = H1 at hp2 s1
    have l32 : (IL (ni (r.best.flatMap entryNums))).length = 32 := by rw [List.length_map, ni_length, flat_length S]
    refine ⟨_, rfl, p, _, rfl, .inl (SqL.of hp2), 0, _, 4, 8, rfl, ?_, fun D hD => lc_steps (lo := 0) (c := 4) (n := 8) (fun i H' => Same H1 H' ∧ ∃ as : List Addr, (∀ a ∈ as, a ≠ D ∧ H1 a = none) ∧ H' D = some (.lst (as.map V.ref)) ∧ Rows H' as ((r.best.map entryNums).take i))
      ⟨same_upd (Same.refl H1) hD, [], fun _ h => (nomatch h), upd_same, Rows.nil _⟩ ?_ ?_⟩
    · rw [l32]
      exact ⟨by decide, by decide, by decide, by decide⟩
    · rintro i H2 hi ⟨s2, as, nD, h2, R⟩
      have hl : (r.best.map entryNums).length = 8 := by rw [List.length_map, S.bst]
      refine ⟨rfl, _, rfl, _, rfl, _, rfl, _, rfl, _, _, rfl, rfl, _, rfl, p, _, rfl, SqL.of (s2 _ _ hp2), fun b hb => ⟨as.map V.ref, ?_, ?_, ?_, as ++ [b], ?_, ?_, ?_⟩⟩
      · rw [upd_ne (Ne.symm (off_new h2 hb))]
        exact h2
      · have := R.len
        rw [List.length_map, this, List.length_take]
        have : sizeLine = 16777216 := rfl
        omega
      · exact same_upd (same_new s2 hb) hD
      · intro c hc
        rcases List.mem_append.mp hc with z | z
        · exact nD c z
        · rw [List.mem_singleton.mp z]
          exact ⟨off_new h2 hb, s2.free hb⟩
      · rw [upd_same, List.map_append]
        rfl
      · obtain ⟨e1, he1⟩ : ∃ e1, r.best[i]? = some e1 := ⟨_, List.getElem?_eq_getElem (by rw [S.bst]; exact hi)⟩
        have he2 : (r.best.map entryNums)[i]? = some (entryNums e1) := by
          rw [List.getElem?_map, he1]
          rfl
        rw [take_snoc he2]
        refine Rows.off ((R.same (same_new (Same.refl H2) hb)).snoc ?_) ?_
        · rw [upd_same]
          have e5 : (0 : Int) + (i : Int) * 4 = ((4 * i : Nat) : Int) := by omega
          have e6 : (0 : Int) + (i : Int) * 4 + 4 = ((4 * i + 4 : Nat) : Int) := by omega
          show some (HO.lst (cutV (IL (ni (r.best.flatMap entryNums))) (some ((0 : Int) + (i : Int) * 4)) (some ((0 : Int) + (i : Int) * 4 + 4)))) = _
          rw [e6, e5, cut_ni, Nat.add_sub_cancel_left, entry_part S he1]
        · intro c hc
          rcases List.mem_append.mp hc with z | z
          · exact (nD c z).1
          · rw [List.mem_singleton.mp z]
            exact off_new h2 hb
    · rintro H2 ⟨s2, as, nD, h2, R⟩
      rw [List.take_of_length_le (by rw [List.length_map, S.bst]; exact Nat.le_refl _)] at R
      exact q _ D as (s1.trans s2) (s1.free hD) h2 (fun c hc => s1.free (nD c hc).2) R
end
end Hw

set_option Elab.async false
set_option linter.all false
set_option maxRecDepth 100000
set_option maxHeartbeats 4000000
namespace Hw
open PySem PySem.Spec PyProof.Rows L2
section
variable {P : Program} {w : World} {K : PySem.W.Frag} {mg : Str → Option Value} {base : Heap}
/-! ### are_levels_right -/
def sp_are_levels_right (K : PySem.W.Frag) : Sp := fun vs H Q _ => ∃ (a : Addr) (ls : List Nat), vs = [.ref a] ∧ SqL K H a (IL (ni ls)) ∧ RetV H Q (.bl (levelsP 0 ls))
theorem sc_are_levels_right : FnScope ["levels", "before", "level"] ["levels"] (defScope (top 35)) := ⟨rfl, rfl, rfl, by decide +kernel, rfl, by decide +kernel, by decide +kernel⟩
theorem ok_are_levels_right {f : Addr} {fd : FuncData} (F : Df K mg "are_levels_right" (top 35) f fd) (T : Txt K mg) (G : Fn P w K mg base "is_score" 1 ["number"] sp_is_score) : Fn P w K mg base "are_levels_right" 2 ["levels"] (sp_are_levels_right K) := by
  refine ⟨f, fd, F.mg_, F.fn.kp, F.fn.binds fun _ _ _ _ _ _ us hl => match us, hl with | [_], _ => rfl, F.fn.ok sc_are_levels_right (fun vs H Q E h => ?_) (fun cdv A outer s H vs Q E hr h => ?_)⟩
  · obtain ⟨a, ls, rfl, _⟩ := h
    rfl
  · obtain ⟨a, ls, rfl, hS, q⟩ := h
    refine ⟨_, pss_cons (ps_set (i := 1) sc_are_levels_right.nd rfl (Or.inl rfl) pe_int)
      (pss_cons (ps_for PassesOwn.never rfl (pi_list (pv 0)) (pg_name (i := 2) sc_are_levels_right.nd rfl (Or.inl rfl))
        (pss_cons (ps_if (PW.pt (pw_or (pt_cmpR op_le (pv 2) (pv 1) (nomark _)) (pw_or1 (pt_not (pt_val (pe_fn G hr rfl (pa_cons (pv 2) pa_nil))))))) (pss_one (ps_ret pe_bl)) pss_nil)
        (pss_one (ps_set (i := 1) sc_are_levels_right.nd rfl (Or.inl rfl) (pv 2)))))
      (pss_one (ps_ret pe_bl))), ?_⟩
    refine ⟨_, rfl, a, rfl, ⟨_, hS⟩, for_list (K := K) (a := a) (xs := IL (ni ls)) (fun i σ H' => ∃ (v : Option V) (b : Nat), σ = [some (.ref a), some (.int b), v] ∧ Same H H' ∧ levelsP b (ls.drop i) = levelsP 0 ls)
      ⟨none, 0, rfl, Same.refl H, rfl⟩ (fun i σ H' _ ⟨_, _, _, s1, _⟩ => s1.seq hS) ?_ ?_⟩
    · rintro i x σ H1 hx ⟨v, b, rfl, s1, hb⟩
      obtain ⟨n, hn, rfl⟩ := ni_get hx
      rw [levelsP_drop hn] at hb
      refine ⟨_, rfl, _, rfl, _, _, rfl, rfl, _, rfl, ite2 (fun h => ?_) (fun h => ⟨_, rfl, n, rfl, fun H2 s2 => ⟨_, rfl, ite2 (fun h2 => ?_) (fun h2 => ?_)⟩⟩)⟩
      · have h1 := of_decide_eq_true h
        rw [decide_eq_false (by omega)] at hb
        rw [← hb] at q
        exact q _ s1
      · have e : Tilt.isScore n = false := by
          cases z : Tilt.isScore n with
          | false => rfl
          | true =>
            rw [z] at h2
            cases h2
        rw [e, Bool.false_and, Bool.and_false] at hb
        rw [← hb] at q
        exact q _ (s1.trans s2)
      · have e : Tilt.isScore n = true := by
          cases z : Tilt.isScore n with
          | true => rfl
          | false =>
            rw [z] at h2
            exact absurd rfl h2
        have h3 : b < n := by
          rcases Nat.lt_or_ge b n with z | z
          · exact z
          · exact absurd (decide_eq_true (show (n : Int) ≤ (b : Int) by omega)) h
        rw [e, decide_eq_true h3, Bool.true_and, Bool.true_and] at hb
        exact ⟨_, rfl, some (.int n), n, rfl, s1.trans s2, hb⟩
    · rintro σ H1 ⟨v, b, rfl, s1, hb⟩
      rw [List.length_map, ni_length, List.drop_length] at hb
      rw [← hb] at q
      exact q _ s1
/-! ### is_best_right -/
def sp_is_best_right (K : PySem.W.Frag) : Sp := fun vs H Q _ => ∃ (a : Addr) (as : List Addr) (l : Tilt.Best), vs = [.ref a] ∧ SqL K H a (as.map V.ref) ∧ Rows H as (l.map entryNums) ∧ (∀ e ∈ l, e.who.length = 3) ∧ RetV H Q (.bl (bestP (2 ^ 48) l))
theorem sc_is_best_right : FnScope ["entries", "before", "entry", "letter"] ["entries"] (defScope (top 36)) := ⟨rfl, rfl, rfl, by decide +kernel, rfl, by decide +kernel, by decide +kernel⟩
theorem ok_is_best_right {f : Addr} {fd : FuncData} (F : Df K mg "is_best_right" (top 36) f fd) (T : Txt K mg) (G : Fn P w K mg base "is_score" 1 ["number"] sp_is_score) (GL : Fn P w K mg base "is_letter" 1 ["octet"] sp_is_letter) : Fn P w K mg base "is_best_right" 2 ["entries"] (sp_is_best_right K) := by
  refine ⟨f, fd, F.mg_, F.fn.kp, F.fn.binds fun _ _ _ _ _ _ us hl => match us, hl with | [_], _ => rfl, F.fn.ok sc_is_best_right (fun vs H Q E h => ?_) (fun cdv A outer s H vs Q E hr h => ?_)⟩
  · obtain ⟨a, as, l, rfl, _⟩ := h
    rfl
  · obtain ⟨a, as, l, rfl, hS, R, lw, q⟩ := h
    refine ⟨_, pss_cons (ps_set (i := 1) sc_is_best_right.nd rfl (Or.inl rfl) (pe_gi T.SCORE_END))
      (pss_cons (ps_for PassesOwn.never rfl (pi_list (pv 0)) (pg_name (i := 2) sc_is_best_right.nd rfl (Or.inl rfl))
        (pss_cons (ps_if (PW.pt (pw_or (pt_cmpR op_gt (pe_ix ix_list (pv 2) pe_int (fun _ _ => rfl)) (pv 1) (nomark _)) (pw_or1 (pt_not (pt_val (pe_fn G hr rfl (pa_cons (pe_ix ix_list (pv 2) pe_int (fun _ _ => rfl)) pa_nil))))))) (pss_one (ps_ret pe_bl)) pss_nil)
        (pss_cons (ps_if (pt_not (pt_val (pe_callB (cr_all rfl) rfl T.all (by decide +kernel) (pa_cons
            (pe_lc rfl sc_is_best_right.nd (pi_list (pe_slice sl_list (pv 2) (po_some pe_int) po_none)) (blkOk_by (N := ["entries", "before", "entry", "letter"]) (sc := defScope (top 36)) (own := [("letter", 3)]) (by decide +kernel)) (fun _ _ _ _ _ => pg_name (i := 3) sc_is_best_right.nd rfl (Or.inl rfl)) (fun _ _ _ _ _ => pts_nil)
              (fun _ _ _ _ _ => pe_fn GL hr rfl (pa_cons (pv 3) pa_nil))) pa_nil)))) (pss_one (ps_ret pe_bl)) pss_nil)
        (pss_one (ps_set (i := 1) sc_is_best_right.nd rfl (Or.inl rfl) (pe_ix ix_list (pv 2) pe_int (fun _ _ => rfl)))))))
      (pss_one (ps_ret pe_bl))), ?_⟩
    refine ⟨_, rfl, a, rfl, ⟨_, hS⟩, for_list (K := K) (a := a) (xs := as.map V.ref) (fun i σ H' => ∃ (v : Option V) (b : Nat), σ = [some (.ref a), some (.int b), v, none] ∧ Same H H' ∧ bestP b (l.drop i) = bestP (2 ^ 48) l)
      ⟨none, 2 ^ 48, rfl, Same.refl H, rfl⟩ (fun i σ H' _ ⟨_, _, _, s1, _⟩ => s1.seq hS) ?_ ?_⟩
    · rintro i x σ H1 hx ⟨v, b, rfl, s1, hb⟩
      obtain ⟨c, hc, rfl⟩ := ref_get hx
      obtain ⟨en, hen, hca⟩ := R.at_ i c hc
      obtain ⟨e, he, rfl⟩ : ∃ e, l[i]? = some e ∧ en = entryNums e := by
        rw [List.getElem?_map] at hen
        cases z : l[i]? with
        | none =>
          rw [z] at hen
          cases hen
        | some e =>
          rw [z] at hen
          exact ⟨e, rfl, (Option.some.inj hen).symm⟩
      rw [bestP_drop he] at hb
      have h0 : (entryNums e)[0]? = some e.score := rfl
      refine ⟨_, rfl, c, _, _, _, rfl, rfl, SqL.of (s1 _ _ hca), at_of (j := 0) rfl (ni_at h0), _, rfl, _, _, rfl, rfl, _, rfl, ite2 (fun h => ?_) (fun h => ⟨_, rfl, c, _, _, _, rfl, rfl, SqL.of (s1 _ _ hca), at_of (j := 0) rfl (ni_at h0), e.score, rfl, fun H2 s2 => ⟨_, rfl, ite2 (fun h2 => ?_) (fun h2 => ?_)⟩⟩)⟩
      · have h1 := of_decide_eq_true h
        rw [decide_eq_false (by omega)] at hb
        rw [← hb] at q
        exact q _ s1
      · have e0 : Tilt.isScore e.score = false := by
          cases z : Tilt.isScore e.score with
          | false => rfl
          | true =>
            rw [z] at h2
            cases h2
        rw [e0, Bool.false_and, Bool.and_false] at hb
        rw [← hb] at q
        exact q _ (s1.trans s2)
      · have e0 : Tilt.isScore e.score = true := by
          cases z : Tilt.isScore e.score with
          | true => rfl
          | false =>
            rw [z] at h2
            exact absurd rfl h2
        have h3 : e.score ≤ b := by
          rcases Nat.lt_or_ge b e.score with z | z
          · exact absurd (decide_eq_true (show (b : Int) < (e.score : Int) by omega)) h
          · exact z
        rw [e0, decide_eq_true h3, Bool.true_and, Bool.true_and] at hb
        have s12 := s1.trans s2
        refine ⟨_, rfl, _, rfl, c, _, rfl, SqL.of (s12 _ _ hca), fun t ht => ?_⟩
        have ew : cutV (IL (ni (entryNums e))) (some 1) none = IL (bi e.who) := by
          rw [show (1 : Int) = ((1 : Nat) : Int) from rfl, cut_ni_from, bi_nat8]
          rfl
        have ht3 : upd H2 t (.lst (cutV (IL (ni (entryNums e))) (some 1) none)) t = some (.lst (IL (bi e.who))) := by rw [upd_same, ew]
        have s3 : Same H (upd H2 t (.lst (cutV (IL (ni (entryNums e))) (some 1) none))) := same_new s12 ht
        generalize upd H2 t (.lst (cutV (IL (ni (entryNums e))) (some 1) none)) = H3 at ht3 s3 ⊢
        refine ⟨t, rfl, ⟨_, SqL.of ht3⟩, fun D hD => lc_list (K := K) (a := t) (xs := IL (bi e.who)) (fun i H' => Same H3 H' ∧ H' D = some (.lst (((e.who.take i).map letterP).map V.bl)))
          ⟨same_upd (Same.refl H3) hD, upd_same⟩ (fun i H' _ ⟨s4, _⟩ => SqL.of (s4 _ _ ht3)) ?_ ?_⟩
        · rintro j x H4 hx ⟨s4, h4⟩
          obtain ⟨c', hc', rfl⟩ := ib_get hx
          refine ⟨rfl, _, rfl, c', rfl, fun H5 s5 => ⟨_, s5 _ _ h4, ?_, same_upd (s4.trans s5) hD, ?_⟩⟩
          · rw [List.length_map, List.length_map, List.length_take]
            have := lw e (List.mem_of_getElem? he)
            have : sizeLine = 16777216 := rfl
            omega
          · rw [upd_same, take_snoc hc', List.map_append, List.map_append]
            rfl
        · rintro H4 ⟨s4, h4⟩
          rw [List.length_map, bi_length, List.take_length] at h4
          refine ⟨D, _, rfl, SqL.of h4, _, rfl, ?_⟩
          have ea : (e.who.map letterP).all id = e.who.all letterP := by
            rw [List.all_map]
            rfl
          rw [ea]
          refine ite2 (fun h5 => ?_) (fun h5 => ?_)
          · have e5 : e.who.all letterP = false := by
              cases z : e.who.all letterP with
              | false => rfl
              | true =>
                rw [z] at h5
                cases h5
            rw [e5, Bool.false_and] at hb
            rw [← hb] at q
            exact q _ (s3.trans s4)
          · have e5 : e.who.all letterP = true := by
              cases z : e.who.all letterP with
              | true => rfl
              | false =>
                rw [z] at h5
                exact absurd rfl h5
            rw [e5, Bool.true_and] at hb
            exact ⟨_, rfl, c, _, _, _, rfl, rfl, SqL.of ((s3.trans s4) _ _ hca), at_of (j := 0) rfl (ni_at h0), some (.ref c), e.score, rfl, s3.trans s4, hb⟩
    · rintro σ H1 ⟨v, b, rfl, s1, hb⟩
      have el : (as.map V.ref).length = l.length := by
        have := R.len
        rw [List.length_map] at this ⊢
        exact this
      rw [el, List.drop_length] at hb
      rw [← hb] at q
      exact q _ s1
end
end Hw

set_option Elab.async false
set_option linter.all false
set_option maxRecDepth 100000
set_option maxHeartbeats 4000000
namespace Hw
open PySem PySem.Spec PyProof.Rows L2
section
variable {prog : Program} {w : World} {A : Around} {E : Value → Shared → Prop}
/-! ### zip of a list and a tuple: one draw of each -/
theorem draw_tuple {s : Shared} {it t : Addr} {k : Nat} {ys : Array Value} {y : Value} {Q : Value → Shared → Prop} (gi : s.heap.IsTupleIter it t k) (gt : s.heap.IsTuple t ys) (gy : ys[k]? = some y)
    (go : ∀ m, Heap.IsTupleIter m it t (k + 1) → Heap.SameBut it s.heap m → Q y { s with heap := m }) : wpAny (model prog w) A (Builtin.SmallTypes.nextOf (.ref it)) Q E s := by
  have gT := gi.typeIs
  obtain ⟨ob, g1, g2, g3⟩ := gi
  obtain ⟨ot, g4, _, nt, g5⟩ := gt
  unfold Builtin.SmallTypes.nextOf
  refine wpAny_bind (wpAny_callSpecial?_slot (name := Str.ofString "__next__") gT F.slot_tuple_iterator_next (wpAny_call_entry F.slot_tuple_iterator_next gT F.entry_tuple_iterator_next ?_ (F.args_tuple_iterator_next_1 _)))
  show wpAny _ _ (field (Value.ref it) 0 >>= _) _ _ _
  refine wpAny_bind (wpAny_field g1 g3 (x := Value.ref t) rfl ?_)
  show wpAny _ _ (if (Value.ref t == Value.none) = true then _ else _) _ _ _
  rw [if_neg (fun z => Bool.false_ne_true z : ¬ (Value.ref t == Value.none) = true)]
  show wpAny _ _ (field (Value.ref it) 1 >>= _) _ _ _
  refine wpAny_bind (wpAny_field g1 g3 (x := Value.int k 0) rfl ?_)
  show wpAny _ _ (seqItems? (Value.ref t) >>= _) _ _ _
  refine wpAny_bind (wpAny_seqItems g4 g5 ?_)
  simp only [Int.toNat_natCast, gy]
  refine wpAny_bind (wpAny_setField g1 g3 (by simp) (wpAny_pure ⟨y, rfl, wpAny_pure (go _ ⟨_, Heap.get?_update_self _ g1 (Obj.isFreed_of_fields (Obj.data_mapFields g3 _)), (Obj.cls_mapFields ..).trans g2, ?_⟩ (Heap.SameBut.update ..))⟩))
  rw [Obj.data_mapFields g3]
  simp [rawInt]
theorem pair_put {s : Shared} {T : Addr} {a b x : Value} {k : Nat} {Q : Unit → Shared → Prop} (gT : IsPair s.heap T a b)
    (go : ∀ m, Heap.get? m T = some { cls := .type "tuple", data := .seq ((#[a, b] : Array Value).setIfInBounds k x) } → Heap.SameBut T s.heap m → Q () { s with heap := m }) :
    wpAny (model prog w) A (updateSeq T (·.setIfInBounds k x)) Q E s := wpAny_updateSeq_pair gT go
/-- a step of zip where both have an item -/
theorem zip_lt_step {s : Shared} {z TI TO i1 i2 l t : Addr} {k : Nat} {xs ys : Array Value} {x y a b : Value} {Q : Value → Shared → Prop} (D : ZipApart z TI TO i1 i2 l t)
    (gz : IsZip s.heap z TI TO .none) (gI : IsPair s.heap TI (.ref i1) (.ref i2)) (gO : IsPair s.heap TO a b) (g1 : s.heap.IsListIter i1 l k) (g2 : s.heap.IsTupleIter i2 t k) (gl : s.heap.IsList l xs) (gt : s.heap.IsTuple t ys) (gx : xs[k]? = some x) (gy : ys[k]? = some y)
    (go : ∀ m, IsZip m z TI TO (rawInt s.heap.objs.size) → IsPair m TO x y → Heap.IsListIter m i1 l (k + 1) → Heap.IsTupleIter m i2 t (k + 1) → IsPair m s.heap.objs.size x y → m.objs.size = s.heap.objs.size + 1 →
      (∀ c o, c ≠ z → c ≠ TO → c ≠ i1 → c ≠ i2 → s.heap.get? c = some o → m.get? c = some o) → Q (.ref s.heap.objs.size) { s with heap := m }) :
    wpAny (model prog w) A (Builtin.«zip.__next__» ⟨[.ref z], []⟩) (fun fin s' => ∃ v, fin = .done (.ret v) ∧ Q v s') E s := by
  show wpAny _ _ (field (Value.ref z) 2 >>= _) _ _ _
  refine wpAny_bind (wpAny_field gz rfl (x := Value.bool false) rfl ?_)
  show wpAny _ _ (field (Value.ref z) 3 >>= _) _ _ _
  refine wpAny_bind (wpAny_field gz rfl (x := Value.ref TI) rfl ?_)
  refine wpAny_bind (wpAny_seqItems gI rfl ?_)
  show wpAny _ _ (Builtin.SmallTypes.ownedTupleIsFree (Value.ref z) >>= _) _ _ _
  unfold Builtin.SmallTypes.ownedTupleIsFree
  refine wpAny_bind (wpAny_bind (wpAny_field gz rfl (x := Value.none) rfl (wpAny_pure ?_)))
  simp only [if_true]
  refine wpAny_bind (wpAny_rule (wpAny_bind (wpAny_field gz rfl (x := Value.ref TO) rfl (wpAny_bind (wpAny_setField_rec gz (by simp) fun m1 z1 b1 => ?_)))))
  replace z1 : IsZip m1 z TI TO .ellipsis := z1
  refine wpAny_bind ?_
  simp only [List.zipIdx_cons, List.zipIdx_nil, List.forIn_cons, List.forIn_nil]
  -- the list's item
  refine wpAny_bind (wpAny_bind (wpAny_onRaise ?_))
  show wpAny _ _ (Builtin.SmallTypes.nextOf (Value.ref i1) >>= _) _ _ _
  refine wpAny_bind (wpAny_nextOf_list_item (g1.extBut b1.extBut D.i1z) (gl.extBut b1.extBut D.l1z) gx fun m2 j1 b2 => wpAny_pure ?_)
  have o2 : IsPair m2 TO a b := b2.extBut TO _ D.TOi1 (b1.extBut TO _ D.TOz gO)
  refine wpAny_bind (wpAny_seqItems o2 rfl (wpAny_bind (pair_put o2 fun m3 o3 b3 => wpAny_bind (wpAny_letGo (wpAny_pure ?_)))))
  replace o3 : IsPair m3 TO x b := o3
  -- the tuple's item
  refine wpAny_bind (wpAny_bind (wpAny_onRaise ?_))
  show wpAny _ _ (Builtin.SmallTypes.nextOf (Value.ref i2) >>= _) _ _ _
  have g2' : Heap.IsTupleIter m3 i2 t k := ((g2.extBut b1.extBut D.i2z).extBut b2.extBut D.i12.symm).extBut b3.extBut D.TOi2.symm
  have gt' : Heap.IsTuple m3 t ys := ((gt.extBut b1.extBut D.l2z).extBut b2.extBut D.l2i1).extBut b3.extBut D.l2TO
  refine wpAny_bind (draw_tuple g2' gt' gy fun m4 j2 b4 => wpAny_pure ?_)
  have o4 : IsPair m4 TO x b := b4.extBut TO _ D.TOi2 o3
  refine wpAny_bind (wpAny_seqItems o4 rfl (wpAny_bind (pair_put o4 fun m5 o5 b5 => wpAny_bind (wpAny_letGo (wpAny_pure (wpAny_pure ?_))))))
  replace o5 : IsPair m5 TO x y := o5
  refine wpAny_bind (wpAny_seqItems o5 rfl (wpAny_bind (wpAny_newTuple ?_)))
  have sz : m5.objs.size = s.heap.objs.size := b5.1.trans (b4.1.trans (b3.1.trans (b2.1.trans b1.1)))
  have z5 : IsZip m5 z TI TO .ellipsis := b5.extBut z _ D.TOz.symm (b4.extBut z _ D.i2z.symm (b3.extBut z _ D.TOz.symm (b2.extBut z _ D.i1z.symm z1)))
  have kk : ∀ c o, c ≠ z → c ≠ TO → c ≠ i1 → c ≠ i2 → s.heap.get? c = some o → m5.get? c = some o := fun c o c1 c2 c3 c4 e =>
    b5.extBut c o c2 (b4.extBut c o c4 (b3.extBut c o c2 (b2.extBut c o c3 (b1.extBut c o c1 e))))
  have j1' : Heap.IsListIter m5 i1 l (k + 1) := ((j1.extBut b3.extBut D.TOi1.symm).extBut b4.extBut D.i12).extBut b5.extBut D.TOi1.symm
  have j2' : Heap.IsTupleIter m5 i2 t (k + 1) := j2.extBut b5.extBut D.TOi2.symm
  have zlt : z < m5.objs.size := Heap.lt_size z5
  show wpAny _ _ (Builtin.SmallTypes.ownedTupleHandOut (Value.ref z) (Value.ref m5.objs.size) >>= _) _ _ _
  unfold Builtin.SmallTypes.ownedTupleHandOut
  have z6 : IsZip (m5.push { cls := .type "tuple", data := .seq #[x, y] }) z TI TO .ellipsis := Heap.get?_push_of_some _ z5
  refine wpAny_bind (wpAny_bind (wpAny_setField_rec z6 (by simp) fun m7 z7 b7 => wpAny_setField_rec (show IsZip m7 z TI TO (rawInt m5.objs.size) from z7) (by simp) fun m8 z8 b8 => wpAny_pure ⟨_, rfl, ?_⟩))
  replace z8 : IsZip m8 z TI TO (rawInt m5.objs.size) := z8
  have up : ∀ c o, c ≠ z → m5.get? c = some o → m8.get? c = some o := fun c o c1 e => b8.extBut c o c1 (b7.extBut c o c1 (Heap.get?_push_of_some _ e))
  have t8 : IsPair m8 m5.objs.size x y := b8.extBut _ _ (Nat.ne_of_gt zlt) (b7.extBut _ _ (Nat.ne_of_gt zlt) (Heap.get?_push_size _ rfl))
  have s8 : m8.objs.size = m5.objs.size + 1 := by rw [b8.1, b7.1, Heap.size_push]
  show Q (Value.ref m5.objs.size) _
  rw [sz] at z8 t8 s8 ⊢
  exact go m8 z8 (up TO _ D.TOz o5) (j1'.at fun o e => up i1 o D.i1z e) (j2'.at fun o e => up i2 o D.i2z e) t8 s8 fun c o c1 c2 c3 c4 e => up c o c1 (kk c o c1 c2 c3 c4 e)
/-- a step of zip where the list has ended -/
theorem zip_lt_stop {s : Shared} {z TI TO i1 i2 l t : Addr} {k : Nat} {xs : Array Value} {a b : Value} {Q : Fin → Shared → Prop} (gh : A.handled = none) (D : ZipApart z TI TO i1 i2 l t)
    (gz : IsZip s.heap z TI TO .none) (gI : IsPair s.heap TI (.ref i1) (.ref i2)) (gO : IsPair s.heap TO a b) (g1 : s.heap.IsListIter i1 l k) (gl : s.heap.IsList l xs) (gx : xs[k]? = none)
    (go : ∀ m e, (∀ c o, c ≠ z → c ≠ TO → c ≠ i1 → c ≠ i2 → s.heap.get? c = some o → m.get? c = some o) → (∃ o, m.get? e = some o ∧ o.cls = .type "StopIteration") → E (.ref e) { s with heap := m }) :
    wpAny (model prog w) A (Builtin.«zip.__next__» ⟨[.ref z], []⟩) Q E s := by
  show wpAny _ _ (field (Value.ref z) 2 >>= _) _ _ _
  refine wpAny_bind (wpAny_field gz rfl (x := Value.bool false) rfl ?_)
  show wpAny _ _ (field (Value.ref z) 3 >>= _) _ _ _
  refine wpAny_bind (wpAny_field gz rfl (x := Value.ref TI) rfl ?_)
  refine wpAny_bind (wpAny_seqItems gI rfl ?_)
  show wpAny _ _ (Builtin.SmallTypes.ownedTupleIsFree (Value.ref z) >>= _) _ _ _
  unfold Builtin.SmallTypes.ownedTupleIsFree
  refine wpAny_bind (wpAny_bind (wpAny_field gz rfl (x := Value.none) rfl (wpAny_pure ?_)))
  simp only [if_true]
  refine wpAny_bind (wpAny_rule (wpAny_bind (wpAny_field gz rfl (x := Value.ref TO) rfl (wpAny_bind (wpAny_setField_rec gz (by simp) fun m1 z1 b1 => ?_)))))
  replace z1 : IsZip m1 z TI TO .ellipsis := z1
  refine wpAny_bind ?_
  simp only [List.zipIdx_cons, List.zipIdx_nil, List.forIn_cons, List.forIn_nil]
  refine wpAny_bind (wpAny_bind (wpAny_onRaise ?_))
  show wpAny _ _ (Builtin.SmallTypes.nextOf (Value.ref i1) >>= _) _ _ _
  refine wpAny_bind (wpAny_nextOf_list_end gh (g1.extBut b1.extBut D.i1z) (gl.extBut b1.extBut D.l1z) gx fun m2 e b2 he => ?_)
  obtain ⟨oe, e1, e2⟩ := he
  have z2 : IsZip m2 z TI TO .ellipsis := b2 _ _ D.i1z.symm z1
  have ne : e ≠ z := fun q => by
    subst q
    rw [z2] at e1
    cases e1
    simp at e2
  exact wpAny_setField_rec z2 (by simp) fun m3 _ b3 => go m3 e (fun c o c1 _ c3 _ q => b3.extBut c o c1 (b2 c o c3 (b1.extBut c o c1 q))) ⟨oe, b3.extBut e oe ne e1, e2⟩
abbrev lt1 (m : Heap) (l : Addr) : Heap := m.push { cls := .type "list_iterator", data := .fields #[.ref l, .int 0 0] }
abbrev lt2 (m : Heap) (l t : Addr) : Heap := (lt1 m l).push { cls := .type "tuple_iterator", data := .fields #[.ref t, .int 0 0] }
abbrev lt3 (m : Heap) (l t : Addr) : Heap := (lt2 m l t).push { cls := .type "tuple", data := .seq #[.ref m.objs.size, .ref (lt1 m l).objs.size] }
abbrev lt4 (m : Heap) (l t : Addr) : Heap := (lt3 m l t).push { cls := .type "tuple", data := .seq #[.none, .none] }
abbrev lt5 (m : Heap) (l t : Addr) : Heap := (lt4 m l t).push { cls := .type "zip", data := .fields #[.none, .bool false, .bool false, .ref (lt2 m l t).objs.size, .ref (lt3 m l t).objs.size] }
theorem zip_lt_new (l t : Addr) (xs ys : Array Value) :
    Meets (Builtin.«zip.__new__» ⟨[.type "zip", .ref l, .ref t], []⟩) (fun _ R s => s.heap.IsList l xs ∧ s.heap.IsTuple t ys ∧ ∀ m : Heap, IsZip m (s.heap.objs.size + 4) (s.heap.objs.size + 2) (s.heap.objs.size + 3) .none → IsPair m (s.heap.objs.size + 2) (.ref s.heap.objs.size) (.ref (s.heap.objs.size + 1)) →
      IsPair m (s.heap.objs.size + 3) .none .none → Heap.IsListIter m s.heap.objs.size l 0 → Heap.IsTupleIter m (s.heap.objs.size + 1) t 0 → (∀ c o, s.heap.get? c = some o → m.get? c = some o) → R (.ok (.ret (.ref (s.heap.objs.size + 4)))) { s with heap := m }) :=
  .of_wp fun prog w A R s h => by
    obtain ⟨hp, g, d, tk, os⟩ := s
    obtain ⟨gl, gt, go⟩ := h
    have hsub := sub_zip
    have h1 : Heap.IsList (Shared.heap ⟨hp, g, d, tk, os⟩) l xs := gl
    have h2 : Heap.IsTuple (Shared.heap ⟨hp.push { cls := .type "list_iterator", data := .fields #[.ref l, .int 0 0] }, g, d, tk, os⟩) t ys := gt.at fun o e => Heap.get?_push_of_some _ e
    wp_walk using wpAny_pyIter_list h1, wpAny_pyIter_tuple h2
    refine ⟨_, rfl, ?_⟩
    show R (.ok (.ret (.ref (lt4 hp l t).objs.size))) ⟨lt5 hp l t, g, d, tk, os⟩
    have n1 : (lt1 hp l).objs.size = hp.objs.size + 1 := Heap.size_push ..
    have n2 : (lt2 hp l t).objs.size = hp.objs.size + 2 := by rw [Heap.size_push, n1]
    have n3 : (lt3 hp l t).objs.size = hp.objs.size + 3 := by rw [Heap.size_push, n2]
    have n4 : (lt4 hp l t).objs.size = hp.objs.size + 4 := by rw [Heap.size_push, n3]
    have f5 : (lt5 hp l t).get? (lt4 hp l t).objs.size = some _ := Heap.get?_push_size _ rfl
    have f4 : (lt5 hp l t).get? (lt3 hp l t).objs.size = some _ := Heap.get?_push_of_some _ (Heap.get?_push_size _ rfl)
    have f3 : (lt5 hp l t).get? (lt2 hp l t).objs.size = some _ := Heap.get?_push_of_some _ (Heap.get?_push_of_some _ (Heap.get?_push_size _ rfl))
    have f2 : (lt5 hp l t).get? (lt1 hp l).objs.size = some _ := Heap.get?_push_of_some _ (Heap.get?_push_of_some _ (Heap.get?_push_of_some _ (Heap.get?_push_size _ rfl)))
    have f1 : (lt5 hp l t).get? hp.objs.size = some _ := Heap.get?_push_of_some _ (Heap.get?_push_of_some _ (Heap.get?_push_of_some _ (Heap.get?_push_of_some _ (Heap.get?_push_size _ rfl))))
    rw [n4, n2, n3] at f5
    rw [n3] at f4
    rw [n2, n1] at f3
    rw [n1] at f2
    rw [n4]
    exact go _ f5 f3 f4 ⟨_, f1, rfl, rfl⟩ ⟨_, f2, rfl, rfl⟩ fun c o e => Heap.get?_push_of_some _ (Heap.get?_push_of_some _ (Heap.get?_push_of_some _ (Heap.get?_push_of_some _ (Heap.get?_push_of_some _ e))))
theorem call_zip_lt {s : Shared} {l t : Addr} {xs ys : Array Value} {Q : Value → Shared → Prop} (gl : s.heap.IsList l xs) (gt : s.heap.IsTuple t ys)
    (go : ∀ m : Heap, IsZip m (s.heap.objs.size + 4) (s.heap.objs.size + 2) (s.heap.objs.size + 3) .none → IsPair m (s.heap.objs.size + 2) (.ref s.heap.objs.size) (.ref (s.heap.objs.size + 1)) →
      IsPair m (s.heap.objs.size + 3) .none .none → Heap.IsListIter m s.heap.objs.size l 0 → Heap.IsTupleIter m (s.heap.objs.size + 1) t 0 → (∀ c o, s.heap.get? c = some o → m.get? c = some o) → Q (.ref (s.heap.objs.size + 4)) { s with heap := m }) :
    wpAny (model prog w) A (call (.type "zip") [.ref l, .ref t]) Q E s := by
  refine callType_new F.called_zip (by decide) (F.typeCall_zip_2 _ _) (F.newCall_zip_2 _ _) (fun obj => F.args_object_init_3 obj _ _) F.entry_zip_new (zip_lt_new l t xs ys) ⟨gl, gt, fun m f5 f3 f4 f1 f2 kk => ?_⟩
  exact ⟨⟨_, f5, rfl⟩, go m f5 f3 f4 f1 f2 kk⟩
theorem next_zip_lt {s : Shared} {z TI TO i1 i2 l t : Addr} {k : Nat} {xs ys : Array Value} {x y a b : Value} {Q : Option Value → Shared → Prop} (D : ZipApart z TI TO i1 i2 l t)
    (gz : IsZip s.heap z TI TO .none) (gI : IsPair s.heap TI (.ref i1) (.ref i2)) (gO : IsPair s.heap TO a b) (g1 : s.heap.IsListIter i1 l k) (g2 : s.heap.IsTupleIter i2 t k) (gl : s.heap.IsList l xs) (gt : s.heap.IsTuple t ys) (gx : xs[k]? = some x) (gy : ys[k]? = some y)
    (go : ∀ m, IsZip m z TI TO (rawInt s.heap.objs.size) → IsPair m TO x y → Heap.IsListIter m i1 l (k + 1) → Heap.IsTupleIter m i2 t (k + 1) → IsPair m s.heap.objs.size x y → m.objs.size = s.heap.objs.size + 1 →
      (∀ c o, c ≠ z → c ≠ TO → c ≠ i1 → c ≠ i2 → s.heap.get? c = some o → m.get? c = some o) → Q (some (.ref s.heap.objs.size)) { s with heap := m }) :
    wpAny (model prog w) A (pyNext (.ref z)) Q E s := by
  have gT : s.TypeIs (.ref z) "zip" := ⟨_, gz, rfl⟩
  unfold pyNext
  exact wpAny_bind (wpAny_attempt (wpAny_callSpecial?_slot (name := Str.ofString "__next__") gT F.slot_zip_next (wpAny_call_entry F.slot_zip_next gT F.entry_zip_next
    (zip_lt_step D gz gI gO g1 g2 gl gt gx gy fun m a1 a2 a3 a4 a5 a6 a7 => wpAny_pure (go m a1 a2 a3 a4 a5 a6 a7)) (F.args_zip_next_1 _))))
theorem last_zip_lt {s : Shared} {z TI TO i1 i2 l t : Addr} {k : Nat} {xs : Array Value} {a b : Value} {Q : Option Value → Shared → Prop} (gh : A.handled = none) (D : ZipApart z TI TO i1 i2 l t)
    (gz : IsZip s.heap z TI TO .none) (gI : IsPair s.heap TI (.ref i1) (.ref i2)) (gO : IsPair s.heap TO a b) (g1 : s.heap.IsListIter i1 l k) (gl : s.heap.IsList l xs) (gx : xs[k]? = none)
    (go : ∀ m, (∀ c o, c ≠ z → c ≠ TO → c ≠ i1 → c ≠ i2 → s.heap.get? c = some o → m.get? c = some o) → Q none { s with heap := m }) : wpAny (model prog w) A (pyNext (.ref z)) Q E s := by
  have gT : s.TypeIs (.ref z) "zip" := ⟨_, gz, rfl⟩
  unfold pyNext
  refine wpAny_bind (wpAny_attempt (wpAny_callSpecial?_slot (name := Str.ofString "__next__") gT F.slot_zip_next (wpAny_call_entry F.slot_zip_next gT F.entry_zip_next (zip_lt_stop gh D gz gI gO g1 gl gx fun m e kk he => ?_) (F.args_zip_next_1 _))))
  obtain ⟨o, ho, hc⟩ := he
  exact wpAny_bind (wpAny_isInstance (T := "StopIteration") (b := true) ⟨o, ho, hc⟩ isSubtype_stop (wpAny_pure (go _ kk)))
end
/-- the list at a and the tuple at b as they stand at each turn, the items in new pairs; the list is not the longer one -/
def Izt (K : PySem.W.Frag) (a b : Addr) : It :=
  ⟨fun i H => ∃ (xs ys : List V) (x y : V), SqL K H a xs ∧ SqT K H b ys ∧ xs[i]? = some x ∧ ys[i]? = some y,
    fun i H v H' => ∃ T x y, v = .ref T ∧ H T = none ∧ H' = upd H T (.tup [x, y]) ∧ (∀ xs, SqL K H a xs → xs[i]? = some x) ∧ ∀ ys, SqT K H b ys → ys[i]? = some y,
    fun i H => ∃ xs : List V, SqL K H a xs ∧ xs.length ≤ i⟩
theorem turn_zip_lt {P : Program} {w : World} {K : PySem.W.Frag} {elts : List Expr} {kk : Nat} {tpos : Pos} {a b z TI TO i1 i2 : Addr} (D : ZipApart z TI TO i1 i2 a b) :
    Turn P w K (.Tuple elts kk tpos) (Izt K a b) [z, TI, TO, i1, i2] z (fun i h => IsZip h z TI TO .none ∧ IsPair h TI (.ref i1) (.ref i2) ∧ (∃ x y, IsPair h TO x y) ∧ h.IsListIter i1 a i ∧ h.IsTupleIter i2 b i) where
  mem := by simp
  obj := fun i h st c hc => by
    obtain ⟨hz, hTI, ⟨x, y, hTO⟩, ⟨o1, e1, _, d1⟩, ⟨o2, e2, _, d2⟩⟩ := st
    have e' : c = z ∨ c = TI ∨ c = TO ∨ c = i1 ∨ c = i2 := by simpa using hc
    rcases e' with q | q | q | q | q
    · rw [q]; exact ⟨_, hz, fun v q => nomatch q⟩
    · rw [q]; exact ⟨_, hTI, fun v q => nomatch q⟩
    · rw [q]; exact ⟨_, hTO, fun v q => nomatch q⟩
    · rw [q]; exact ⟨o1, e1, fun v q => by rw [d1] at q; cases q⟩
    · rw [q]; exact ⟨o2, e2, fun v q => by rw [d2] at q; cases q⟩
  keep := fun i h h' st k => by
    obtain ⟨hz, hTI, ⟨x, y, hTO⟩, h1, h2⟩ := st
    exact ⟨k z (by simp) _ hz, k TI (by simp) _ hTI, ⟨x, y, k TO (by simp) _ hTO⟩, h1.at fun o q => k i1 (by simp) o q, h2.at fun o q => k i2 (by simp) o q⟩
  item := by
    intro X hP hw hK hc i pins s σ H E I hf st hg
    subst hP hw hK
    obtain ⟨hz, hTI, ⟨x0, y0, hTO⟩, h1, h2⟩ := st
    obtain ⟨xs, ys, x, y, hqx, hqy, hx, hy⟩ := hg
    obtain ⟨its, rv, p, _⟩ := I.list hqx
    obtain ⟨its2, rv2, p2, _⟩ := I.tuple hqy
    obtain ⟨u, hu, ru⟩ := rv.get hx
    obtain ⟨u2, hu2, ru2⟩ := rv2.get hy
    have hzl : z < s.heap.objs.size := Heap.lt_size hz
    refine next_zip_lt D hz hTI hTO h1 h2 p.isList (show s.heap.IsTuple b its2.toArray from p2) (x := u) (y := u2) (by simpa using hu) (by simpa using hu2) fun h' z' TO' h1' h2' hT hsz hk => ?_
    refine ⟨_, rfl, wpAny_letOwnedTupleGo_zip (s := { s with heap := h' }) z' fun h'' z'' sb => ?_⟩
    have hT2 : h''.get? s.heap.objs.size = some { cls := .type "tuple", data := .seq #[u, u2] } := (sb.2 _ (Nat.ne_of_gt hzl)).trans hT
    have new : ObjOk X.prog X.w (upd H s.heap.objs.size (.tup [x, y])) h'' s.heap.objs.size (.tup [x, y]) :=
      ⟨by show 2 ≤ sizeLine; decide, [u, u2], .cons ru (.cons ru2 .nil), ⟨_, hT2, rfl, _, rfl⟩⟩
    have I1 : Inv X pins σ (upd H s.heap.objs.size (.tup [x, y])) { s with heap := h'' } :=
      I.turnedNew (t' := s.toks) (ch := [z, TI, TO, i1, i2]) (fun c o hb q => (sb.2 c (fun q' => hb (by simp [q']))).trans (hk c o (fun q' => hb (by simp [q'])) (fun q' => hb (by simp [q'])) (fun q' => hb (by simp [q'])) (fun q' => hb (by simp [q'])) q)) hf (Nat.le_refl _) new
    refine ⟨.ref s.heap.objs.size, _, I1, rfl, ⟨_, x, y, rfl, I.hok.fresh (Nat.le_refl _), rfl, fun l hl => by rw [I.list_inj hl hqx]; exact hx, fun l hl => by rw [I.tuple_inj hl hqy]; exact hy⟩, ⟨z'', ?_, ⟨u, u2, ?_⟩, ?_, ?_⟩, fun c hcm => ?_⟩
    · exact (sb.2 _ D.TIz).trans (hk _ _ D.TIz D.TITO D.TIi1 D.TIi2 hTI)
    · exact (sb.2 _ D.TOz).trans TO'
    · exact h1'.at fun o q => (sb.2 _ D.i1z).trans q
    · exact h2'.at fun o q => (sb.2 _ D.i2z).trans q
    · have hlt : c < s.heap.objs.size := by
        have e' : c = z ∨ c = TI ∨ c = TO ∨ c = i1 ∨ c = i2 := by simpa using hcm
        rcases e' with q | q | q | q | q
        · rw [q]; exact hzl
        · rw [q]; exact Heap.lt_size hTI
        · rw [q]; exact Heap.lt_size hTO
        · rw [q]; obtain ⟨_, e1, _⟩ := h1; exact Heap.lt_size e1
        · rw [q]; obtain ⟨_, e2, _⟩ := h2; exact Heap.lt_size e2
      rw [upd_ne (Nat.ne_of_lt hlt)]
      exact (hf c hcm).1
  done := by
    intro X hP hw hK hc i pins s σ H E I hf st hg
    subst hP hw hK
    obtain ⟨hz, hTI, ⟨x0, y0, hTO⟩, h1, h2⟩ := st
    obtain ⟨xs, hqx, hend⟩ := hg
    obtain ⟨its, rv, p, _⟩ := I.list hqx
    have l1 := rv.length
    exact last_zip_lt (I.ok.hd hc) D hz hTI hTO h1 p.isList (by simp; omega) fun h' hk => ⟨rfl, I.turnedL (t' := s.toks) (ch := [z, TI, TO, i1, i2]) (fun c o hb q =>
      hk c o (fun q' => hb (by simp [q'])) (fun q' => hb (by simp [q'])) (fun q' => hb (by simp [q'])) (fun q' => hb (by simp [q'])) q) hf⟩
  self := fun A i s Q E st h => wpAny_pyIter_zip st.1 h
def iZlt (K : PySem.W.Frag) (ta : TA) : TI := fun σ H R => ta σ H fun vs H1 => ∃ a b xs ys, vs = [.ref a, .ref b] ∧ SqL K H1 a xs ∧ SqT K H1 b ys ∧ R (Izt K a b) H1
theorem pi_zip_lt {X : Cx} {e e2 : Expr} {ta : TA} {p pos tpos : Pos} {elts : List Expr} {kk : Nat} (hg : Gl X "zip") (hm : X.mg "zip" = none) (ha : PA X [e, e2] ta)
    (hs : starEach [e, e2] X.env = (false, eval e X.env) :: starEach [e2] X.env := by rfl) (hpl : (backTo pos (starEach [e2] X.env)).any (·.1) = false := by rfl) :
    PI X (.Tuple elts kk tpos) (.Call (.Name "zip" p) [e, e2] [] pos) (iZlt X.K ta) := by
  intro pins s σ H R I h
  refine Call_ (ld_blt I hg hm boot_zip5 (PyProof.Rows.callWith_type1 (thn (ha pos pins s σ H _ I h) fun us s1 ⟨vs, H1, I1, r1, q1⟩ => ?_) hs hpl))
  obtain ⟨a, b, xs, ys, ex, hqx, hqy, q⟩ := q1
  subst ex
  cases r1 with
  | cons r rr =>
    cases rr with
    | cons r' rr =>
      cases rr
      cases r
      cases r'
      obtain ⟨its, rv, p1, _⟩ := I1.list hqx
      obtain ⟨its2, rv2, p2, _⟩ := I1.tuple hqy
      have la : a < s1.heap.objs.size := p1.lt
      have lb : b < s1.heap.objs.size := p2.lt
      refine call_zip_lt p1.isList (show s1.heap.IsTuple b its2.toArray from p2) fun h' hz hTI hTO h1 h2 hk => wpAny_pyIter_zip hz ?_
      have I2 : Inv X pins σ H1 { s1 with heap := h' } := I1.kept (t' := s1.toks) hk
      refine ⟨s1.heap.objs.size + 4, [s1.heap.objs.size + 4, s1.heap.objs.size + 2, s1.heap.objs.size + 3, s1.heap.objs.size, s1.heap.objs.size + 1], _, _, H1, rfl, I2, turn_zip_lt (PySem.W.ktu_apart s1.heap.objs.size a b la lb), ⟨hz, hTI, ⟨_, _, hTO⟩, h1, h2⟩, fun c hcm => ?_, q⟩
      have e' : c = s1.heap.objs.size + 4 ∨ c = s1.heap.objs.size + 2 ∨ c = s1.heap.objs.size + 3 ∨ c = s1.heap.objs.size ∨ c = s1.heap.objs.size + 1 := by simpa using hcm
      have hle : s1.heap.objs.size ≤ c := by
        rcases e' with z | z | z | z | z
        · rw [z]; exact Nat.le_add_right _ _
        · rw [z]; exact Nat.le_add_right _ _
        · rw [z]; exact Nat.le_add_right _ _
        · rw [z]; exact Nat.le_refl _
        · rw [z]; exact Nat.le_add_right _ _
      exact I1.fpOk hle (I1.hok.fresh hle)
end Hw

set_option Elab.async false
set_option linter.all false
set_option maxRecDepth 100000
set_option maxHeartbeats 4000000
namespace Hw
open PySem PySem.Spec PyProof.Rows L2
theorem vals_of_get : ∀ (xs : List V) (us : List Value), xs.length = us.length → (∀ (i : Nat) (x : V) (u : Value), xs[i]? = some x → us[i]? = some u → RelV x u) → Vals xs us
  | [], [], _, _ => .nil
  | [], _ :: _, h, _ => by simp at h
  | _ :: _, [], h, _ => by simp at h
  | x :: xs, u :: us, h, f => .cons (f 0 x u rfl rfl) (vals_of_get xs us (by simpa using h) fun i y v hy hv => f (i + 1) y v hy hv)
section
variable {X : Cx}
/-! ### range(a, b) as a value, list of it -/
def rRng : List V → Hp → VK → Prop := fun xs H Q => ∃ i j : Int, xs = [.int i, .int j] ∧ ∀ r, H r = none → Q (.ref r) (upd H r (.rng i j))
theorem call_rng : CallR X (.type "range") rRng := by
  intro pins s σ H xs us Q I r h
  obtain ⟨i, j, rfl, q⟩ := h
  obtain ⟨u1, u2, rfl, r1, r2⟩ := vals2 r
  obtain ⟨t1, rfl⟩ := r1
  obtain ⟨t2, rfl⟩ := r2
  refine call_range_2 ?_
  exact ⟨.ref s.heap.objs.size, _, I.laid (fun b o e => Heap.get?_push_of_some _ e) (Nat.le_refl _) (show ObjOk X.prog X.w _ _ _ (.rng i j) from ⟨_, _, _, Heap.get?_push_size _ rfl⟩), rfl, q _ (I.hok.fresh (Nat.le_refl _))⟩
def rLRng : List V → Hp → VK → Prop := fun xs H Q => ∃ (p : Addr) (lo : Int) (n : Nat), xs = [.ref p] ∧ H p = some (.rng lo (lo + n)) ∧ (-(2 ^ 62) ≤ lo ∧ lo + n < 2 ^ 62) ∧ n ≤ 2 ^ 24 ∧
    ∀ l, H l = none → Q (.ref l) (upd H l (.lst ((List.range n).map fun (i : Nat) => V.int (lo + i))))
theorem call_list_rng (hc : X.calm = true) : CallR X (.type "list") rLRng := by
  intro pins s σ H xs us Q I r h
  obtain ⟨p, lo, n, rfl, hp, ⟨h1, h2⟩, hn, q⟩ := h
  obtain ⟨u, rfl, rx⟩ := vals1 r
  cases rx
  obtain ⟨t, u, v, e⟩ := I.hok p _ hp
  have rs : Builtin.Range.rangeSize lo (lo + n) 1 = (n : Int) := by
    rw [rangeSize_one]
    split <;> omega
  refine call_list_range (I.ok.hd hc) (show IsRange s.heap p lo (lo + n) 1 t u v from e) (small_one h1 (by omega) (by omega) h2) rs hn fun m tk acc c' hk hS hacc => ?_
  have rv : Vals ((List.range n).map fun (i : Nat) => V.int (lo + i)) acc.toList := by
    refine vals_of_get _ _ (by rw [List.length_map, List.length_range, Array.length_toList]; exact hacc.1.symm) fun i x v hx hv => ?_
    have hi : i < n := by
      have := (List.getElem?_eq_some_iff.mp hx).1
      rw [List.length_map, List.length_range] at this
      exact this
    rw [List.getElem?_map, List.getElem?_range hi] at hx
    have ex : V.int (lo + (i : Nat)) = x := Option.some.inj hx
    subst ex
    obtain ⟨tk', rfl⟩ := hacc.2 i v (by simpa using hv)
    exact ⟨tk', by rw [Int.mul_one]⟩
  exact ⟨.ref s.heap.objs.size, _, I.laid (t' := tk) hk (Nat.le_refl _) (show ObjOk X.prog X.w _ m _ (.lst _) from ⟨by rw [List.length_map, List.length_range]; exact hn, acc.toList, c', rv, by simpa using hS⟩), rfl, q _ (I.hok.fresh (Nat.le_refl _))⟩
end
end Hw

set_option Elab.async false
set_option linter.all false
set_option maxRecDepth 100000
set_option maxHeartbeats 4000000
namespace Hw
open PySem PySem.Spec PyProof.Rows L2
theorem for_zlt {K : PySem.W.Frag} {a b : Addr} {xs ys : List V} {g : TG} {tb : TS} {D : Ends} {σ : L2.St} {H : Hp} (Pv : Nat → L2.St → Hp → Prop) (h0 : Pv 0 σ H) (hle : xs.length ≤ ys.length) (hl : ∀ i σ H, i ≤ xs.length → Pv i σ H → SqL K H a xs ∧ SqT K H b ys)
    (hs : ∀ i x y T σ H, xs[i]? = some x → ys[i]? = some y → H T = none → Pv i σ H → g (.ref T) σ (upd H T (.tup [x, y])) fun σ2 H2 => tb { D with nx := Pv (i + 1), ct := Pv (i + 1), bk := D.nx } σ2 H2) (hd : ∀ σ H, Pv xs.length σ H → D.nx σ H) :
    ∃ W : Nat → Nat → L2.St → Hp → Prop, (∃ m, W 0 m σ H) ∧ ∀ i m σ H, W i m σ H →
      ((Izt K a b).stop i H ∧ D.nx σ H) ∨ ((Izt K a b).go i H ∧ ∃ N : L2.St → Hp → Prop, (∀ σ' H', N σ' H' → ∃ m', m' < m ∧ W (i + 1) m' σ' H') ∧ ∀ x H', (Izt K a b).yld i H x H' → g x σ H' fun σ2 H2 => tb { D with nx := N, ct := N, bk := D.nx } σ2 H2) := by
  refine ⟨fun i m σ H => m + i = xs.length ∧ Pv i σ H, ⟨xs.length, rfl, h0⟩, ?_⟩
  rintro i m σ H ⟨hm, p⟩
  obtain ⟨q1, q2⟩ := hl i σ H (by omega) p
  by_cases hlt : i < xs.length
  · refine .inr ⟨⟨xs, ys, xs[i], ys[i], q1, q2, List.getElem?_eq_getElem hlt, List.getElem?_eq_getElem (by omega)⟩, Pv (i + 1), fun σ' H' p' => ⟨m - 1, by omega, by omega, p'⟩, ?_⟩
    rintro v H' ⟨T, x, y, rfl, hT, rfl, e1, e2⟩
    exact hs i x y T σ H (e1 xs q1) (e2 ys q2) hT p
  · have e : i = xs.length := by omega
    subst e
    exact .inl ⟨⟨xs, q1, Nat.le_refl _⟩, hd σ H p⟩
section
variable {P : Program} {w : World} {K : PySem.W.Frag} {mg : Str → Option Value} {base : Heap}
/-! ### is_setup_right -/
def pairs6 (r : Raw) : List (Nat × (Nat × Nat)) := [(r.coins, (1, 9)), (r.balls, (1, 9)), (r.warnings, (0, 9)), (r.players, (1, 4)), (r.gives, (0, 1)), (r.save, (0, 100000))]
theorem setupP_all (r : Raw) : setupP r = (pairs6 r).all inB := by
  unfold setupP pairs6
  show _ = (Tilt.between 1 9 r.coins && (Tilt.between 1 9 r.balls && (Tilt.between 0 9 r.warnings && (Tilt.between 1 4 r.players && (Tilt.between 0 1 r.gives && (Tilt.between 0 100000 r.save && true))))))
  rw [Bool.and_true]
def sp_is_setup_right (K : PySem.W.Frag) : Sp := fun vs H Q _ => ∃ (a : Addr) (r : Raw), vs = [.ref a] ∧ SqL K H a (IL (ni (six r))) ∧ RetV H Q (.bl (setupP r))
theorem sc_is_setup_right : FnScope ["setup", "number", "bounds"] ["setup"] (defScope (top 34)) := ⟨rfl, rfl, rfl, by decide +kernel, rfl, by decide +kernel, by decide +kernel⟩
theorem ok_is_setup_right {f : Addr} {fd : FuncData} (F : Df K mg "is_setup_right" (top 34) f fd) (T : Txt K mg) : Fn P w K mg base "is_setup_right" 1 ["setup"] (sp_is_setup_right K) := by
  refine ⟨f, fd, F.mg_, F.fn.kp, F.fn.binds fun _ _ _ _ _ _ us hl => match us, hl with | [_], _ => rfl, F.fn.ok sc_is_setup_right (fun vs H Q E h => ?_) (fun cdv A outer s H vs Q E hr h => ?_)⟩
  · obtain ⟨a, r, rfl, _⟩ := h
    rfl
  · obtain ⟨a, r, rfl, hS, q⟩ := h
    obtain ⟨B, b0, b1, b2, b3, b4, b5, GB, hB⟩ := T.BOUNDS
    refine ⟨_, pss_cons (ps_for PassesOwn.never rfl (pi_zip_lt rfl T.zip (pa_cons (pv 0) (pa_cons (pe_gt GB) pa_nil))) (pg_tup rfl (pgs_cons (pg_name (i := 1) sc_is_setup_right.nd rfl (Or.inl rfl)) (pgs_cons (pg_name (i := 2) sc_is_setup_right.nd rfl (Or.inl rfl)) pgs_nil)))
        (pss_one (ps_if (PW.pt (pw_or (pt_cmpR op_lt (pv 1) (pe_ix ix_tup (pv 2) pe_int (fun _ _ => rfl)) (nomark _)) (pw_or1 (pt_cmpR op_gt (pv 1) (pe_ix ix_tup (pv 2) pe_int (fun _ _ => rfl)) (nomark _))))) (pss_one (ps_ret pe_bl)) pss_nil)))
      (pss_one (ps_ret pe_bl)), ?_⟩
    have key : ∀ (i : Nat) (x y : V), (IL (ni (six r)))[i]? = some x → ([.ref b0, .ref b1, .ref b2, .ref b3, .ref b4, .ref b5] : List V)[i]? = some y → ∃ p b, (pairs6 r)[i]? = some p ∧ x = .int (p.1 : Nat) ∧ y = .ref b ∧ ∀ H, SqT K H b (IL [(p.2.1 : Nat), (p.2.2 : Nat)]) := fun i x y hx hy => by
      match i, hx, hy with
      | 0, hx, hy => exact ⟨_, b0, rfl, (Option.some.inj hx).symm, (Option.some.inj hy).symm, fun H => (hB H).1⟩
      | 1, hx, hy => exact ⟨_, b1, rfl, (Option.some.inj hx).symm, (Option.some.inj hy).symm, fun H => (hB H).2.1⟩
      | 2, hx, hy => exact ⟨_, b2, rfl, (Option.some.inj hx).symm, (Option.some.inj hy).symm, fun H => (hB H).2.2.1⟩
      | 3, hx, hy => exact ⟨_, b3, rfl, (Option.some.inj hx).symm, (Option.some.inj hy).symm, fun H => (hB H).2.2.2.1⟩
      | 4, hx, hy => exact ⟨_, b4, rfl, (Option.some.inj hx).symm, (Option.some.inj hy).symm, fun H => (hB H).2.2.2.2.1⟩
      | 5, hx, hy => exact ⟨_, b5, rfl, (Option.some.inj hx).symm, (Option.some.inj hy).symm, fun H => (hB H).2.2.2.2.2⟩
      | i + 6, hx, hy => simp at hy
    rw [setupP_all] at q
    refine ⟨_, rfl, a, B, _, _, rfl, hS, GB.2 H, for_zlt (K := K) (a := a) (b := B) (xs := IL (ni (six r))) (ys := [.ref b0, .ref b1, .ref b2, .ref b3, .ref b4, .ref b5]) (fun i σ H' => (∃ v1 v2 : Option V, σ = [some (.ref a), v1, v2]) ∧ Same H H' ∧ ∀ p ∈ (pairs6 r).take i, inB p = true)
      ⟨⟨none, none, rfl⟩, Same.refl H, fun _ h => (nomatch h)⟩ (Nat.le_refl 6) (fun i σ H' _ ⟨_, s1, _⟩ => ⟨s1.seq hS, GB.2 H'⟩) ?_ ?_⟩
    · rintro i x y T' σ H1 hx hy hT ⟨⟨v1, v2, rfl⟩, s1, hp⟩
      obtain ⟨p, b, hpi, rfl, rfl, hb⟩ := key i x y hx hy
      have hin : inB p = (decide (p.2.1 ≤ p.1) && decide (p.1 ≤ p.2.2)) := rfl
      refine ⟨T', _, rfl, SqT.of upd_same, rfl, _, _, rfl, _, _, rfl, rfl, _, rfl, _, rfl, b, _, _, _, rfl, rfl, hb _, at_of (j := 0) rfl rfl, _, _, rfl, rfl, _, rfl, ite2 (fun h => ?_) (fun h => ⟨_, rfl, _, rfl, b, _, _, _, rfl, rfl, hb _, at_of (j := 1) rfl rfl, _, _, rfl, rfl, _, rfl, ite2 (fun h2 => ?_) (fun h2 => ?_)⟩)⟩
      · have h1 := of_decide_eq_true h
        have e : inB p = false := by
          rw [hin, decide_eq_false (by omega)]
          rfl
        rw [all_false inB hpi e] at q
        exact q _ (same_new s1 hT)
      · have h1 := of_decide_eq_true h2
        have e : inB p = false := by
          rw [hin, decide_eq_false (show ¬ p.1 ≤ p.2.2 by omega), Bool.and_false]
        rw [all_false inB hpi e] at q
        exact q _ (same_new s1 hT)
      · refine ⟨⟨_, _, rfl⟩, same_new s1 hT, fun c hc => ?_⟩
        rw [take_snoc hpi] at hc
        rcases List.mem_append.mp hc with z | z
        · exact hp c z
        · rw [List.mem_singleton.mp z, hin, Bool.and_eq_true, decide_eq_true_iff, decide_eq_true_iff]
          constructor
          · rcases Nat.lt_or_ge p.1 p.2.1 with z | z
            · exact absurd (decide_eq_true (show ((p.1 : Nat) : Int) < ((p.2.1 : Nat) : Int) by omega)) h
            · exact z
          · rcases Nat.lt_or_ge p.2.2 p.1 with z | z
            · exact absurd (decide_eq_true (show ((p.2.2 : Nat) : Int) < ((p.1 : Nat) : Int) by omega)) h2
            · exact z
    · rintro σ H1 ⟨⟨v1, v2, rfl⟩, s1, hp⟩
      have e : (pairs6 r).all inB = true := List.all_eq_true.mpr hp
      rw [e] at q
      exact q _ s1
/-! ### is_right -/
def sp_is_right (K : PySem.W.Frag) : Sp := fun vs H Q _ => ∃ (a : Addr) (r : Raw), vs = [.ref a] ∧ Shape r ∧ SqL K H a (IL (ni r.nums)) ∧ RetV H Q (.bl (rightP r))
theorem sc_is_right : FnScope ["content"] ["content"] (defScope (top 37)) := ⟨rfl, rfl, rfl, by decide +kernel, rfl, by decide +kernel, by decide +kernel⟩
theorem ok_is_right {f : Addr} {fd : FuncData} (F : Df K mg "is_right" (top 37) f fd) (T : Txt K mg) (G1 : Fn P w K mg base "is_setup_right" 1 ["setup"] (sp_is_setup_right K)) (G2 : Fn P w K mg base "are_levels_right" 2 ["levels"] (sp_are_levels_right K))
    (G3 : Fn P w K mg base "levels_of" 1 ["content"] (sp_levels_of K)) (G4 : Fn P w K mg base "is_best_right" 2 ["entries"] (sp_is_best_right K)) (G5 : Fn P w K mg base "entries_of" 1 ["content"] (sp_entries_of K)) : Fn P w K mg base "is_right" 3 ["content"] (sp_is_right K) := by
  refine ⟨f, fd, F.mg_, F.fn.kp, F.fn.binds fun _ _ _ _ _ _ us hl => match us, hl with | [_], _ => rfl, F.fn.ok sc_is_right (fun vs H Q E h => ?_) (fun cdv A outer s H vs Q E hr h => ?_)⟩
  · obtain ⟨a, r, rfl, _⟩ := h
    rfl
  · obtain ⟨a, r, rfl, S, hS, q⟩ := h
    refine ⟨_, pss_cons (ps_if (pt_not (pt_val (pe_fn G1 hr rfl (pa_cons (pe_slice sl_list (pv 0) (po_some (pe_gi T.SETUP)) (po_some (pe_gi T.LEVEL_COUNT))) pa_nil)))) (pss_one (ps_ret pe_bl)) pss_nil)
      (pss_one (ps_ret (pe_and (pe_fn G2 hr rfl (pa_cons (pe_fn G3 hr rfl (pa_cons (pv 0) pa_nil)) pa_nil)) (pe_one (pe_fn G4 hr rfl (pa_cons (pe_fn G5 hr rfl (pa_cons (pv 0) pa_nil)) pa_nil)))))), ?_⟩
    refine ⟨_, rfl, _, rfl, _, rfl, a, _, rfl, hS, fun p hp => ⟨p, r, rfl, SqL.of ?_, fun H1 s1 => ⟨_, rfl, ite2 (fun h => ?_) (fun h => ?_)⟩⟩⟩
    · rw [upd_same]
      show some (HO.lst (cutV (IL (ni r.nums)) (some ((8 : Nat) : Int)) (some ((14 : Nat) : Int)))) = _
      rw [cut_ni, nums_six S]
    · have e : setupP r = false := by
        cases z : setupP r with
        | false => rfl
        | true =>
          rw [z] at h
          cases h
      unfold rightP at q
      rw [e] at q
      exact q _ ((same_new (Same.refl H) hp).trans s1)
    · have e : setupP r = true := by
        cases z : setupP r with
        | true => rfl
        | false =>
          rw [z] at h
          exact absurd rfl h
      unfold rightP at q
      rw [e, Bool.true_and] at q
      have s01 := (same_new (o := .lst (cutV (IL (ni r.nums)) (some 8) (some 14))) (Same.refl H) hp).trans s1
      refine ⟨_, rfl, a, r, rfl, S, s01.seq hS, fun H2 p2 s2 _ h2 => ⟨p2, r.levels, rfl, SqL.of h2, fun H3 s3 => ⟨_, rfl, ite2 (fun h4 => ?_) (fun h4 => ?_)⟩⟩⟩
      · rw [show levelsP 0 r.levels = true from h4, Bool.true_and] at q
        refine ⟨_, rfl, a, r, rfl, S, ((s01.trans s2).trans s3).seq hS, fun H4 p4 as s4 _ h5 _ R => ⟨p4, as, r.best, rfl, SqL.of h5, R, S.who, fun H5 s5 => ?_⟩⟩
        exact q _ ((((s01.trans s2).trans s3).trans s4).trans s5)
      · have e4 : levelsP 0 r.levels = false := by
          cases z : levelsP 0 r.levels with
          | false => rfl
          | true => exact absurd z h4
        rw [e4] at q
        exact q _ ((s01.trans s2).trans s3)
end
end Hw

set_option Elab.async false
set_option linter.all false
set_option maxRecDepth 100000
set_option maxHeartbeats 4000000
namespace Hw
open PySem PySem.Spec PyProof.Rows L2
theorem rep0 : ∀ n : Nat, (List.replicate n [V.int 0]).flatten = IL (bi (zeros n))
  | 0 => rfl
  | n + 1 => by
    rw [List.replicate_succ, List.flatten_cons, rep0 n]
    rfl
theorem rep0n : ∀ n : Nat, (List.replicate n [V.int 0]).flatten = IL (ni (List.replicate n 0))
  | 0 => rfl
  | n + 1 => by
    rw [List.replicate_succ, List.flatten_cons, rep0n n]
    rfl
theorem five_len (r : Raw) : (fiveB r).length = 5 := rfl
theorem zeros_len (n : Nat) : (zeros n).length = n := List.length_replicate ..
theorem size_is : sizeLine = 16777216 := rfl
/-- a list that a def fills: all that was there before it stays -/
structure Fills (H0 H : Hp) (o : Addr) (xs : List V) : Prop where
  same : Same H0 H
  new : H0 o = none
  at_ : H o = some (.lst xs)
theorem Fills.more {H0 H H' : Hp} {o : Addr} {xs : List V} (F : Fills H0 H o xs) (s : Same H H') : Fills H0 H' o xs := ⟨F.same.trans s, F.new, s _ _ F.at_⟩
theorem Fills.put {H0 H : Hp} {o : Addr} {xs ys : List V} (F : Fills H0 H o xs) : Fills H0 (upd H o (.lst ys)) o ys := ⟨same_upd F.same F.new, F.new, upd_same⟩
theorem Fills.start {H : Hp} {o : Addr} {xs : List V} (h : H o = none) : Fills H (upd H o (.lst xs)) o xs := ⟨same_upd (Same.refl H) h, h, upd_same⟩
theorem ib_append (a b : Tilt.Bytes) : IL (bi a) ++ IL (bi b) = IL (bi (a ++ b)) := by rw [bi_append, il_append]
theorem in_append (a b : List Nat) : IL (ni a) ++ IL (ni b) = IL (ni (a ++ b)) := by rw [ni_append, il_append]
theorem ib_len (a : Tilt.Bytes) : (IL (bi a)).length = a.length := by rw [List.length_map, bi_length]
theorem in_len (a : List Nat) : (IL (ni a)).length = a.length := by rw [List.length_map, ni_length]
end Hw

set_option Elab.async false
set_option linter.all false
set_option maxRecDepth 100000
set_option maxHeartbeats 4000000
namespace Hw
open PySem PySem.Spec PyProof.Rows L2
section
variable {P : Program} {w : World} {K : PySem.W.Frag} {mg : Str → Option Value} {base : Heap}
/-! ### octets_of_content -/
def sp_octets_of_content (K : PySem.W.Frag) : Sp := fun vs H Q _ => ∃ (a : Addr) (r : Raw), vs = [.ref a] ∧ Shape r ∧ rightP r = true ∧ SqL K H a (IL (ni r.nums)) ∧ RetL H Q (IL (bi r.toC.form))
theorem sc_octets_of_content : FnScope ["content", "levels", "octets", "audit", "level", "entry"] ["content"] (defScope (top 38)) := ⟨rfl, rfl, rfl, by decide +kernel, rfl, by decide +kernel, by decide +kernel⟩
theorem ok_octets_of_content {f : Addr} {fd : FuncData} (F : Df K mg "octets_of_content" (top 38) f fd) (T : Txt K mg) (G1 : Fn P w K mg base "levels_of" 1 ["content"] (sp_levels_of K)) (G2 : Fn P w K mg base "octets_of" 1 ["number", "size"] sp_octets_of)
    (G3 : Fn P w K mg base "entries_of" 1 ["content"] (sp_entries_of K)) : Fn P w K mg base "octets_of_content" 2 ["content"] (sp_octets_of_content K) := by
  refine ⟨f, fd, F.mg_, F.fn.kp, F.fn.binds fun _ _ _ _ _ _ us hl => match us, hl with | [_], _ => rfl, F.fn.ok sc_octets_of_content (fun vs H Q E h => ?_) (fun cdv A outer s H vs Q E hr h => ?_)⟩
  · obtain ⟨a, r, rfl, _⟩ := h
    rfl
  · obtain ⟨a, r, rfl, S, hR, hS, q⟩ := h
    refine ⟨_, pss_cons (ps_set (i := 1) sc_octets_of_content.nd rfl (Or.inl rfl) (pe_fn G1 hr rfl (pa_cons (pv 0) pa_nil)))
      (pss_cons (ps_set (i := 2) sc_octets_of_content.nd rfl (Or.inl rfl) (pe_lst pa_nil))
      (pss_cons (ps_for PassesOwn.never rfl (pi_list (pe_slice sl_list (pv 0) po_none (po_some (pe_gi T.SETUP)))) (pg_name (i := 3) sc_octets_of_content.nd rfl (Or.inl rfl))
        (pss_one (ps_expr (pe_bm PySem.F.plainAttrs_list PySem.F.slot_list_extend PySem.F.type_list_extend mt_extend (pv 2) (pa_cons (pe_fn G2 hr rfl (pa_cons (pv 3) (pa_cons pe_int pa_nil))) pa_nil)))))
      (pss_cons (ps_expr (pe_bm PySem.F.plainAttrs_list PySem.F.slot_list_extend PySem.F.type_list_extend mt_extend (pv 2) (pa_cons (pe_op op_cat (pe_slice sl_list (pv 0) (po_some (pe_gi T.SETUP)) (po_some (pe_gi T.TICKS))) (pe_op op_rep (pe_lst (pa_cons pe_int pa_nil)) pe_int)) pa_nil)))
      (pss_cons (ps_expr (pe_bm PySem.F.plainAttrs_list PySem.F.slot_list_extend PySem.F.type_list_extend mt_extend (pv 2) (pa_cons (pe_op op_cat (pe_fn G2 hr rfl (pa_cons (pe_ix ix_list (pv 0) (pe_gi T.TICKS) (fun _ _ => rfl)) (pa_cons pe_int pa_nil))) (pe_op op_rep (pe_lst (pa_cons pe_int pa_nil)) pe_int)) pa_nil)))
      (pss_cons (ps_for PassesOwn.never rfl (pi_list (pe_op op_cat (pv 1) (pe_op op_rep (pe_lst (pa_cons pe_int pa_nil)) (pe_op op_sub (pe_gi T.MOST_LEVELS) (pe_callB call_len_seq rfl T.len PySem.boot_len (pa_cons (pv 1) pa_nil)))))) (pg_name (i := 4) sc_octets_of_content.nd rfl (Or.inl rfl))
        (pss_one (ps_expr (pe_bm PySem.F.plainAttrs_list PySem.F.slot_list_extend PySem.F.type_list_extend mt_extend (pv 2) (pa_cons (pe_fn G2 hr rfl (pa_cons (pv 4) (pa_cons pe_int pa_nil))) pa_nil)))))
      (pss_cons (ps_for PassesOwn.never rfl (pi_list (pe_fn G3 hr rfl (pa_cons (pv 0) pa_nil))) (pg_name (i := 5) sc_octets_of_content.nd rfl (Or.inl rfl))
        (pss_one (ps_expr (pe_bm PySem.F.plainAttrs_list PySem.F.slot_list_extend PySem.F.type_list_extend mt_extend (pv 2) (pa_cons
          (pe_op op_cat (pe_op op_cat (pe_fn G2 hr rfl (pa_cons (pe_ix ix_list (pv 5) pe_int (fun _ _ => rfl)) (pa_cons pe_int pa_nil))) (pe_slice sl_list (pv 5) (po_some pe_int) po_none)) (pe_op op_rep (pe_lst (pa_cons pe_int pa_nil)) pe_int)) pa_nil)))))
      (pss_one (ps_ret (pv 2))))))))), ?_⟩
    -- levels = levels_of(content); octets = []
    refine ⟨_, rfl, a, r, rfl, S, hS, fun H1 lv s1 nlv hlv => ⟨Nat.zero_le _, fun o ho => ?_⟩⟩
    have hlen := S.lev
    have F0 : Fills H1 (upd H1 o (.lst [])) o [] := Fills.start ho
    have hS1 : SqL K H1 a (IL (ni r.nums)) := s1.seq hS
    generalize upd H1 o (.lst []) = H2 at F0
    -- for audit in content[:SETUP]
    refine ⟨_, rfl, _, rfl, a, _, rfl, F0.same.seq hS1, fun p hp => ⟨p, rfl, ⟨_, SqL.of upd_same⟩, ?_⟩⟩
    have ep : cutV (IL (ni r.nums)) none (some 8) = IL (ni r.audits) := by
      rw [show (8 : Int) = ((8 : Nat) : Int) from rfl, cut_ni_to, nums_aud S]
    rw [ep]
    have F1 : Fills H1 (upd H2 p (.lst (IL (ni r.audits)))) o [] := F0.more (same_new (Same.refl H2) hp)
    have hp1 : upd H2 p (.lst (IL (ni r.audits))) p = some (.lst (IL (ni r.audits))) := upd_same
    have po : p ≠ o := off_new F0.at_ hp
    generalize upd H2 p (.lst (IL (ni r.audits))) = H3 at F1 hp1
    refine for_list (K := K) (a := p) (xs := IL (ni r.audits)) (fun i σ H' => ∃ v3 : Option V, σ = [some (.ref a), some (.ref lv), some (.ref o), v3, none, none] ∧ H' p = some (.lst (IL (ni r.audits))) ∧ Fills H1 H' o (IL (bi ((r.audits.take i).flatMap (Tilt.le 8)))))
      ⟨none, rfl, hp1, F1⟩ (fun i σ H' _ ⟨_, _, e, _⟩ => SqL.of e) ?_ ?_
    · rintro i x σ H4 hx ⟨v3, rfl, hp4, F4⟩
      obtain ⟨n, hn, rfl⟩ := ni_get hx
      refine ⟨_, rfl, .inl ⟨rfl, _, SqL.of F4.at_⟩, _, rfl, n, 8, rfl, Nat.le_refl _, fun H5 c s5 _ hc => ⟨o, c, _, _, rfl, rfl, s5 _ _ F4.at_, hc, ?_, some (.int n), rfl, ?_, ?_⟩⟩
      · rw [ib_len, ib_len, audits_length, List.length_take, le_length, S.aud, size_is]
        omega
      · rw [upd_ne po]
        exact s5 _ _ hp4
      · rw [flat_take_snoc _ hn, ← ib_append]
        exact (F4.more s5).put
    · rintro σ H4 ⟨v3, rfl, _, F4⟩
      rw [in_len, List.take_length] at F4
      have l4 : (r.audits.flatMap (Tilt.le 8)).length = 64 := by rw [audits_length, S.aud]
      -- octets.extend(content[SETUP:TICKS] + [0] * 3)
      refine ⟨_, rfl, .inl ⟨rfl, _, SqL.of F4.at_⟩, _, rfl, _, rfl, _, rfl, a, _, rfl, F4.same.seq hS1, fun c1 h1 => ⟨by decide, fun c2 h2 => ⟨c2, 3, _, rfl, rfl, upd_same, by decide, by decide, by decide, fun c3 h3 => ?_⟩⟩⟩
      have e5 : cutV (IL (ni r.nums)) (some 8) (some 13) = IL (bi (fiveB r)) := by
        show cutV (IL (ni r.nums)) (some ((8 : Nat) : Int)) (some ((13 : Nat) : Int)) = _
        rw [cut_ni, nums_five S, bi_five hR]
      have e6 : (List.replicate (3 : Int).toNat [V.int 0]).flatten = IL (bi (zeros 3)) := rep0 3
      rw [e5] at h2 h3 ⊢
      rw [e6]
      have g1 : Same H4 (upd H4 c1 (.lst (IL (bi (fiveB r))))) := same_new (Same.refl _) h1
      have g2 := same_new (o := .lst [V.int 0]) g1 h2
      have g3 := same_new (o := .lst (IL (bi (zeros 3)))) g2 h3
      have k1 : upd (upd (upd H4 c1 (.lst (IL (bi (fiveB r))))) c2 (.lst [V.int 0])) c3 (.lst (IL (bi (zeros 3)))) c1 = some (.lst (IL (bi (fiveB r)))) := (same_new (same_new (Same.refl _) h2) h3) _ _ upd_same
      refine ⟨c1, c3, _, _, rfl, rfl, k1, upd_same, by rw [ib_len, ib_len, five_len, zeros_len]; decide, fun c4 h4 => ?_⟩
      have g4 := same_new (o := .lst (IL (bi (fiveB r)) ++ IL (bi (zeros 3)))) g3 h4
      refine ⟨o, c4, _, _, rfl, rfl, g4 _ _ F4.at_, upd_same, ?_, ?_⟩
      · rw [List.length_append, ib_len, ib_len, ib_len, l4, five_len, zeros_len]
        decide
      have F5 := (F4.more g4).put (ys := IL (bi (r.audits.flatMap (Tilt.le 8))) ++ (IL (bi (fiveB r)) ++ IL (bi (zeros 3))))
      clear g1 g2 g3 g4 k1
      generalize upd (upd (upd (upd (upd H4 c1 (.lst (IL (bi (fiveB r))))) c2 (.lst [V.int 0])) c3 (.lst (IL (bi (zeros 3))))) c4 (.lst (IL (bi (fiveB r)) ++ IL (bi (zeros 3))))) o (.lst (IL (bi (r.audits.flatMap (Tilt.le 8))) ++ (IL (bi (fiveB r)) ++ IL (bi (zeros 3))))) = H5 at F5
      rw [ib_append, ib_append] at F5
      have l5 : (r.audits.flatMap (Tilt.le 8) ++ (fiveB r ++ zeros 3)).length = 72 := by rw [List.length_append, List.length_append, l4, five_len, zeros_len]
      generalize hB5 : r.audits.flatMap (Tilt.le 8) ++ (fiveB r ++ zeros 3) = B5 at F5 l5
      -- octets.extend(octets_of(content[TICKS], 4) + [0] * 4)
      refine ⟨_, rfl, .inl ⟨rfl, _, SqL.of F5.at_⟩, _, rfl, a, _, _, _, rfl, rfl, F5.same.seq hS1, at_of (j := 13) rfl (ni_at (nums_13 S)), r.save, 4, rfl, by decide, fun H6 d1 s6 _ j1 => ⟨by decide, fun d2 j2 => ⟨d2, 4, _, rfl, rfl, upd_same, by decide, by decide, by decide, fun d3 j3 => ?_⟩⟩⟩
      have e7 : (List.replicate (4 : Int).toNat [V.int 0]).flatten = IL (bi (zeros 4)) := rep0 4
      rw [e7]
      have f2 := same_new (o := .lst [V.int 0]) (Same.refl H6) j2
      have f3 := same_new (o := .lst (IL (bi (zeros 4)))) f2 j3
      refine ⟨d1, d3, _, _, rfl, rfl, f3 _ _ j1, upd_same, by rw [ib_len, ib_len, le_length, zeros_len]; decide, fun d4 j4 => ?_⟩
      have f4 := same_new (o := .lst (IL (bi (Tilt.le 4 r.save)) ++ IL (bi (zeros 4)))) f3 j4
      refine ⟨o, d4, _, _, rfl, rfl, f4 _ _ (s6 _ _ F5.at_), upd_same, ?_, ?_⟩
      · rw [List.length_append, ib_len, ib_len, ib_len, l5, le_length, zeros_len]
        decide
      have F6 := ((F5.more s6).more f4).put (ys := IL (bi B5) ++ (IL (bi (Tilt.le 4 r.save)) ++ IL (bi (zeros 4))))
      clear f2 f3 f4
      generalize upd (upd (upd (upd H6 d2 (.lst [V.int 0])) d3 (.lst (IL (bi (zeros 4))))) d4 (.lst (IL (bi (Tilt.le 4 r.save)) ++ IL (bi (zeros 4))))) o (.lst (IL (bi B5) ++ (IL (bi (Tilt.le 4 r.save)) ++ IL (bi (zeros 4))))) = H7 at F6
      rw [ib_append, ib_append] at F6
      have l6 : (B5 ++ (Tilt.le 4 r.save ++ zeros 4)).length = 80 := by rw [List.length_append, List.length_append, l5, le_length, zeros_len]
      generalize hB6 : B5 ++ (Tilt.le 4 r.save ++ zeros 4) = B6 at F6 l6
      -- for level in levels + [0] * (MOST_LEVELS - len(levels))
      have nl : lv ≠ o := fun z => by
        rw [z, ho] at hlv
        cases hlv
      have hlv7 : H7 lv = some (.lst (IL (ni r.levels))) := F6.same _ _ hlv
      refine ⟨_, rfl, by decide, fun d2 j2 => ⟨_, rfl, lv, _, rfl, .inl (SqL.of (same_new (Same.refl H7) j2 _ _ hlv7)), _, _, rfl, rfl, d2, _, _, rfl, rfl, upd_same, ?_, ?_, ?_, fun d3 j3 => ?_⟩⟩
      · rw [in_len]
        omega
      · rw [in_len]
        omega
      · rw [in_len, size_is]
        show 1 * ((4 : Int) - (r.levels.length : Int)).toNat ≤ _
        omega
      have e8 : (List.replicate ((4 : Int) - (((IL (ni r.levels)).length : Nat) : Int)).toNat [V.int 0]).flatten = IL (ni (List.replicate (4 - r.levels.length) 0)) := by
        rw [in_len]
        have : ((4 : Int) - (r.levels.length : Int)).toNat = 4 - r.levels.length := by omega
        rw [this]
        exact rep0n _
      rw [e8]
      have f2 := same_new (o := .lst [V.int 0]) (Same.refl H7) j2
      have f3 := same_new (o := .lst (IL (ni (List.replicate (4 - r.levels.length) 0)))) f2 j3
      have l8 : (fourL r).length = 4 := by
        unfold fourL
        rw [List.length_append, List.length_replicate]
        omega
      refine ⟨lv, d3, _, _, rfl, rfl, f3 _ _ hlv7, upd_same, by rw [in_len, in_len, List.length_replicate, size_is]; omega, fun d4 j4 => ⟨d4, rfl, ⟨_, SqL.of upd_same⟩, ?_⟩⟩
      have f4 := same_new (o := .lst (IL (ni r.levels) ++ IL (ni (List.replicate (4 - r.levels.length) 0)))) f3 j4
      have F7 := F6.more f4
      have dn : d4 ≠ o := off_new (f3 _ _ F6.at_) j4
      have hd4 : upd (upd (upd H7 d2 (.lst [V.int 0])) d3 (.lst (IL (ni (List.replicate (4 - r.levels.length) 0))))) d4 (.lst (IL (ni r.levels) ++ IL (ni (List.replicate (4 - r.levels.length) 0)))) d4 = some (.lst (IL (ni r.levels) ++ IL (ni (List.replicate (4 - r.levels.length) 0)))) := upd_same
      clear f2 f3 f4
      generalize upd (upd (upd H7 d2 (.lst [V.int 0])) d3 (.lst (IL (ni (List.replicate (4 - r.levels.length) 0))))) d4 (.lst (IL (ni r.levels) ++ IL (ni (List.replicate (4 - r.levels.length) 0)))) = H8 at F7 hd4
      rw [in_append] at hd4
      have hd5 : H8 d4 = some (.lst (IL (ni (fourL r)))) := hd4
      refine for_list (K := K) (a := d4) (xs := IL (ni (fourL r))) (fun i σ H' => ∃ v4 : Option V, σ = [some (.ref a), some (.ref lv), some (.ref o), v3, v4, none] ∧ H' d4 = some (.lst (IL (ni (fourL r)))) ∧ Fills H1 H' o (IL (bi (B6 ++ ((fourL r).take i).flatMap (Tilt.le 8)))))
        ⟨none, rfl, hd5, by rw [List.take_zero, List.flatMap_nil, List.append_nil]; exact F7⟩ (fun i σ H' _ ⟨_, _, e, _⟩ => SqL.of e) ?_ ?_
      · rintro i x σ H9 hx ⟨v4, rfl, hp9, F9⟩
        obtain ⟨n, hn, rfl⟩ := ni_get hx
        refine ⟨_, rfl, .inl ⟨rfl, _, SqL.of F9.at_⟩, _, rfl, n, 8, rfl, Nat.le_refl _, fun Ha c s5 _ hc => ⟨o, c, _, _, rfl, rfl, s5 _ _ F9.at_, hc, ?_, some (.int n), rfl, ?_, ?_⟩⟩
        · rw [ib_len, ib_len, List.length_append, audits_length, List.length_take, le_length, l6, l8, size_is]
          omega
        · rw [upd_ne dn]
          exact s5 _ _ hp9
        · rw [flat_take_snoc _ hn, ← List.append_assoc, ← ib_append (B6 ++ ((fourL r).take i).flatMap (Tilt.le 8))]
          exact (F9.more s5).put
      · rintro σ H9 ⟨v4, rfl, _, F9⟩
        rw [in_len, List.take_length] at F9
        have l9 : (B6 ++ (fourL r).flatMap (Tilt.le 8)).length = 112 := by rw [List.length_append, audits_length, l6, l8]
        generalize hB7 : B6 ++ (fourL r).flatMap (Tilt.le 8) = B7 at F9 l9
        -- for entry in entries_of(content)
        refine ⟨_, rfl, a, r, rfl, S, F9.same.seq hS1, fun Ha pe as sa npe hpe nas R => ⟨pe, rfl, ⟨_, SqL.of hpe⟩, ?_⟩⟩
        have Fa := F9.more sa
        have pn : pe ≠ o := off_new F9.at_ npe
        have an : ∀ c ∈ as, c ≠ o := fun c hc => off_new F9.at_ (nas c hc)
        refine for_list (K := K) (a := pe) (xs := as.map V.ref) (fun i σ H' => ∃ v5 : Option V, σ = [some (.ref a), some (.ref lv), some (.ref o), v3, v4, v5] ∧ H' pe = some (.lst (as.map V.ref)) ∧ Rows H' as (r.best.map entryNums) ∧ Fills H1 H' o (IL (bi (B7 ++ (r.best.take i).flatMap entryB))))
          ⟨none, rfl, hpe, R, by rw [List.take_zero, List.flatMap_nil, List.append_nil]; exact Fa⟩ (fun i σ H' _ ⟨_, _, e, _⟩ => SqL.of e) ?_ ?_
        · rintro i x σ Hb hx ⟨v5, rfl, hpb, Rb, Fb⟩
          obtain ⟨c, hc, rfl⟩ := ref_get hx
          obtain ⟨en, hen, hca⟩ := Rb.at_ i c hc
          obtain ⟨e, he, rfl⟩ : ∃ e, r.best[i]? = some e ∧ en = entryNums e := by
            rw [List.getElem?_map] at hen
            cases z : r.best[i]? with
            | none =>
              rw [z] at hen
              cases hen
            | some e =>
              rw [z] at hen
              exact ⟨e, rfl, (Option.some.inj hen).symm⟩
          have h0 : (entryNums e)[0]? = some e.score := rfl
          have lw := S.who e (List.mem_of_getElem? he)
          have ew : cutV (IL (ni (entryNums e))) (some 1) none = IL (bi e.who) := by
            rw [show (1 : Int) = ((1 : Nat) : Int) from rfl, cut_ni_from, bi_nat8]
            rfl
          refine ⟨_, rfl, .inl ⟨rfl, _, SqL.of Fb.at_⟩, _, rfl, c, _, _, _, rfl, rfl, SqL.of hca, at_of (j := 0) rfl (ni_at h0), e.score, 8, rfl, Nat.le_refl _, fun Hc d1 sc _ hd1 => ⟨_, rfl, _, rfl, c, _, rfl, SqL.of (sc _ _ hca), fun d2 j2 => ?_⟩⟩
          rw [ew]
          have f2 := same_new (o := .lst (IL (bi e.who))) (Same.refl Hc) j2
          refine ⟨d1, d2, _, _, rfl, rfl, f2 _ _ hd1, upd_same, by rw [ib_len, ib_len, le_length, lw]; decide, fun d3 j3 => ⟨by decide, fun d4 j4 => ⟨d4, 5, _, rfl, rfl, upd_same, by decide, by decide, by decide, fun d5 j5 => ?_⟩⟩⟩
          have e7 : (List.replicate (5 : Int).toNat [V.int 0]).flatten = IL (bi (zeros 5)) := rep0 5
          rw [e7]
          have f3 := same_new (o := .lst (IL (bi (Tilt.le 8 e.score)) ++ IL (bi e.who))) f2 j3
          have f4 := same_new (o := .lst [V.int 0]) f3 j4
          have f5 := same_new (o := .lst (IL (bi (zeros 5)))) f4 j5
          refine ⟨d3, d5, _, _, rfl, rfl, (same_new (same_new (Same.refl _) j4) j5) _ _ upd_same, upd_same, by rw [List.length_append, ib_len, ib_len, ib_len, le_length, lw, zeros_len]; decide, fun d6 j6 => ?_⟩
          have f6 := same_new (o := .lst (IL (bi (Tilt.le 8 e.score)) ++ IL (bi e.who) ++ IL (bi (zeros 5)))) f5 j6
          refine ⟨o, d6, _, _, rfl, rfl, f6 _ _ (sc _ _ Fb.at_), upd_same, ?_, some (.ref c), rfl, ?_, ?_, ?_⟩
          · rw [List.length_append, List.length_append, ib_len, ib_len, ib_len, ib_len, List.length_append, flatMap_length entryB 16 (r.best.take i) (fun y hy => by
              unfold entryB
              rw [List.length_append, List.length_append, le_length, S.who y (List.mem_of_mem_take hy), zeros_len]), l9, le_length, lw, zeros_len, List.length_take, S.bst, size_is]
            omega
          · rw [upd_ne pn]
            exact f6 _ _ (sc _ _ hpb)
          · exact Rows.off ((Rb.same sc).same f6) an
          · have eB : IL (bi (B7 ++ (r.best.take (i + 1)).flatMap entryB)) = IL (bi (B7 ++ (r.best.take i).flatMap entryB)) ++ (IL (bi (Tilt.le 8 e.score)) ++ IL (bi e.who) ++ IL (bi (zeros 5))) := by
              rw [flat_take_snoc _ he, ib_append, ib_append, ib_append]
              unfold entryB
              rw [List.append_assoc, List.append_assoc]
            rw [eB]
            exact ((Fb.more sc).more f6).put
        · rintro σ Hb ⟨v5, rfl, _, _, Fb⟩
          have el : (as.map V.ref).length = r.best.length := by
            have := R.len
            rw [List.length_map] at this ⊢
            exact this
          rw [el, List.take_length] at Fb
          refine ⟨_, rfl, ?_⟩
          have ef : B7 ++ r.best.flatMap entryB = r.toC.form := by
            rw [← form_eq (right_bounds hR).2.2.2.2, best_form, ← hB7, ← hB6, ← hB5]
          rw [ef] at Fb
          exact q _ o (s1.trans Fb.same) (s1.free Fb.new) Fb.at_
end
end Hw

set_option Elab.async false
set_option linter.all false
set_option maxRecDepth 100000
set_option maxHeartbeats 4000000
namespace Hw
open PySem PySem.Spec PyProof.Rows L2
section
variable {P : Program} {w : World} {K : PySem.W.Frag} {mg : Str → Option Value} {base : Heap}
/-! ### numbers_of -/
def num8 (b : Tilt.Bytes) (n : Nat) : List Nat := (List.range n).map fun i => Tilt.num ((b.drop (8 * i)).take 8)
theorem num8_succ (b : Tilt.Bytes) (n : Nat) : num8 b (n + 1) = num8 b n ++ [Tilt.num ((b.drop (8 * n)).take 8)] := by
  unfold num8
  rw [List.range_succ, List.map_append]
  rfl
theorem num8_len (b : Tilt.Bytes) (n : Nat) : (num8 b n).length = n := by
  unfold num8
  rw [List.length_map, List.length_range]
def sp_numbers_of (K : PySem.W.Frag) : Sp := fun vs H Q _ => ∃ (a : Addr) (b : Tilt.Bytes) (n : Nat), vs = [.ref a] ∧ SqL K H a (IL (bi b)) ∧ b.length = 8 * n ∧ (n = 4 ∨ n = 8) ∧ RetL H Q (IL (ni (num8 b n)))
theorem sc_numbers_of : FnScope ["octets", "place"] ["octets"] (defScope (top 39)) := ⟨rfl, rfl, rfl, by decide +kernel, rfl, by decide +kernel, by decide +kernel⟩
theorem ok_numbers_of {f : Addr} {fd : FuncData} (F : Df K mg "numbers_of" (top 39) f fd) (T : Txt K mg) (G1 : Fn P w K mg base "number_of" 1 ["octets"] (sp_number_of K)) : Fn P w K mg base "numbers_of" 2 ["octets"] (sp_numbers_of K) := by
  refine ⟨f, fd, F.mg_, F.fn.kp, F.fn.binds fun _ _ _ _ _ _ us hl => match us, hl with | [_], _ => rfl, F.fn.ok sc_numbers_of (fun vs H Q E h => ?_) (fun cdv A outer s H vs Q E hr h => ?_)⟩
  · obtain ⟨a, b, n, rfl, _⟩ := h
    rfl
  · obtain ⟨a, b, n, rfl, hS, hb, hn, q⟩ := h
    refine ⟨_, pss_one (ps_ret (pe_lc rfl sc_numbers_of.nd (pi_range3 rfl T.range (pa_cons pe_int (pa_cons (pe_callB call_len_seq rfl T.len PySem.boot_len (pa_cons (pv 0) pa_nil)) (pa_cons pe_int pa_nil)))) (blkOk_by (N := ["octets", "place"]) (sc := defScope (top 39)) (own := [("place", 1)]) (by decide +kernel))
        (fun _ _ _ _ _ => pg_name (i := 1) sc_numbers_of.nd rfl (Or.inl rfl)) (fun _ _ _ _ _ => pts_nil)
        (fun _ _ _ _ _ => pe_fn G1 hr rfl (pa_cons (pe_slice (sl_lk K) (pv 0) (po_some (pv 1)) (po_some (pe_op op_add (pv 1) pe_int))) pa_nil)))), ?_⟩
    refine ⟨_, rfl, a, _, rfl, .inl hS, 0, _, 8, n, rfl, ?_, fun D hD => lc_steps (lo := 0) (c := 8) (n := n) (fun i H' => Same H H' ∧ H' D = some (.lst (IL (ni (num8 b i))))) ⟨same_upd (Same.refl H) hD, upd_same⟩ ?_ ?_⟩
    · rw [ib_len, hb]
      rcases hn with rfl | rfl
      · exact ⟨by decide, by decide, by decide, by decide⟩
      · exact ⟨by decide, by decide, by decide, by decide⟩
    · rintro i H2 hi ⟨s2, h2⟩
      refine ⟨rfl, _, rfl, _, rfl, _, rfl, _, rfl, _, _, rfl, rfl, _, rfl, a, _, rfl, s2.seq hS, fun c hc => ⟨c, (b.drop (8 * i)).take 8, rfl, SqL.of ?_, fun H3 s3 => ⟨IL (ni (num8 b i)), ?_, ?_, ?_, ?_⟩⟩⟩
      · rw [upd_same]
        have e5 : (0 : Int) + (i : Int) * 8 = ((8 * i : Nat) : Int) := by omega
        have e6 : (0 : Int) + (i : Int) * 8 + 8 = ((8 * i + 8 : Nat) : Int) := by omega
        show some (HO.lst (cutV (IL (bi b)) (some ((0 : Int) + (i : Int) * 8)) (some ((0 : Int) + (i : Int) * 8 + 8)))) = _
        rw [e6, e5, cut_bi, Nat.add_sub_cancel_left]
      · exact s3 _ _ (same_new (Same.refl H2) hc _ _ h2)
      · rw [in_len, num8_len, size_is]
        omega
      · exact same_upd ((same_new s2 hc).trans s3) hD
      · rw [upd_same, num8_succ, ← in_append]
        rfl
    · rintro H2 ⟨s2, h2⟩
      exact q _ D s2 hD h2
/-! ### content_of -/
def sp_content_of (K : PySem.W.Frag) : Sp := fun vs H Q _ => ∃ (a : Addr) (b : Tilt.Bytes), vs = [.ref a] ∧ SqL K H a (IL (bi b)) ∧ b.length = 240 ∧ RetL H Q (IL (ni (rawIn b).nums))
theorem sc_content_of : FnScope ["octets", "levels", "level_count", "content", "place"] ["octets"] (defScope (top 40)) := ⟨rfl, rfl, rfl, by decide +kernel, rfl, by decide +kernel, by decide +kernel⟩
theorem part_len (b : Tilt.Bytes) (p n : Nat) (h : p + n ≤ b.length) : ((b.drop p).take n).length = n := by
  rw [List.length_take, List.length_drop]
  omega
theorem cut_bi' (l : Tilt.Bytes) (i j k : Nat) {x y : Int} (hx : x = (i : Int)) (hy : y = (j : Int)) (hk : j - i = k) : cutV (IL (bi l)) (some x) (some y) = IL (bi ((l.drop i).take k)) := by rw [hx, hy, cut_bi, hk]
theorem ok_content_of {f : Addr} {fd : FuncData} (F : Df K mg "content_of" (top 40) f fd) (T : Txt K mg) (G1 : Fn P w K mg base "number_of" 1 ["octets"] (sp_number_of K)) (G2 : Fn P w K mg base "numbers_of" 2 ["octets"] (sp_numbers_of K)) : Fn P w K mg base "content_of" 3 ["octets"] (sp_content_of K) := by
  refine ⟨f, fd, F.mg_, F.fn.kp, F.fn.binds fun _ _ _ _ _ _ us hl => match us, hl with | [_], _ => rfl, F.fn.ok sc_content_of (fun vs H Q E h => ?_) (fun cdv A outer s H vs Q E hr h => ?_)⟩
  · obtain ⟨a, b, rfl, _⟩ := h
    rfl
  · obtain ⟨a, b, rfl, hS, hb, q⟩ := h
    refine ⟨_, pss_cons (ps_set (i := 1) sc_content_of.nd rfl (Or.inl rfl) (pe_fn G2 hr rfl (pa_cons (pe_slice sl_list (pv 0) (po_some pe_int) (po_some pe_int)) pa_nil)))
      (pss_cons (ps_set (i := 2) sc_content_of.nd rfl (Or.inl rfl) (pe_bm PySem.F.plainAttrs_list PySem.F.slot_list_index PySem.F.type_list_index mt_index (pe_op op_cat (pv 1) (pe_lst (pa_cons pe_int pa_nil))) (pa_cons pe_int pa_nil)))
      (pss_cons (ps_set (i := 3) sc_content_of.nd rfl (Or.inl rfl) (pe_op op_cat (pe_op op_cat (pe_fn G2 hr rfl (pa_cons (pe_slice sl_list (pv 0) po_none (po_some pe_int)) pa_nil)) (pe_slice sl_list (pv 0) (po_some pe_int) (po_some pe_int)))
        (pe_lst (pa_cons (pe_fn G1 hr rfl (pa_cons (pe_slice sl_list (pv 0) (po_some pe_int) (po_some pe_int)) pa_nil)) pa_nil))))
      (pss_cons (ps_expr (pe_bm PySem.F.plainAttrs_list PySem.F.slot_list_extend PySem.F.type_list_extend mt_extend (pv 3) (pa_cons (pe_op op_cat (pe_lst (pa_cons (pv 2) pa_nil)) (pe_slice sl_list (pv 1) po_none (po_some (pv 2)))) pa_nil)))
      (pss_cons (ps_for PassesOwn.never rfl (pi_range3 rfl T.range (pa_cons pe_int (pa_cons pe_int (pa_cons pe_int pa_nil)))) (pg_name (i := 4) sc_content_of.nd rfl (Or.inl rfl))
        (pss_cons (ps_expr (pe_bm PySem.F.plainAttrs_list PySem.F.slot_list_append PySem.F.type_list_append mt_append (pv 3) (pa_cons (pe_fn G1 hr rfl (pa_cons (pe_slice sl_list (pv 0) (po_some (pv 4)) (po_some (pe_op op_add (pv 4) pe_int))) pa_nil)) pa_nil)))
        (pss_one (ps_expr (pe_bm PySem.F.plainAttrs_list PySem.F.slot_list_extend PySem.F.type_list_extend mt_extend (pv 3) (pa_cons (pe_slice sl_list (pv 0) (po_some (pe_op op_add (pv 4) pe_int)) (po_some (pe_op op_add (pv 4) pe_int))) pa_nil))))))
      (pss_one (ps_ret (pv 3))))))), ?_⟩
    -- levels = numbers_of(octets[80:112])
    refine ⟨_, rfl, _, rfl, _, rfl, a, _, rfl, hS, fun c1 h1 => ⟨c1, (b.drop 80).take 32, 4, rfl, SqL.of ?_, part_len b 80 32 (by omega), .inl rfl, fun H1 lv s1 _ hlv => ?_⟩⟩
    · rw [upd_same]
      exact congrArg (fun z => some (HO.lst z)) (cut_bi' b 80 112 32 rfl rfl rfl)
    have s1' : Same H H1 := (same_new (Same.refl H) h1).trans s1
    have e1 : num8 ((b.drop 80).take 32) 4 = (List.range 4).map fun i => Tilt.num ((b.drop (80 + 8 * i)).take 8) := levels4 b
    rw [e1] at hlv
    have eL : (rawIn b).levels = ((List.range 4).map fun i => Tilt.num ((b.drop (80 + 8 * i)).take 8)).takeWhile fun l => l != 0 := rfl
    have l4 : ((List.range 4).map fun i => Tilt.num ((b.drop (80 + 8 * i)).take 8)).length = 4 := by rw [List.length_map, List.length_range]
    generalize ((List.range 4).map fun i => Tilt.num ((b.drop (80 + 8 * i)).take 8)) = L4 at hlv eL l4
    clear s1 h1 e1
    -- level_count = (levels + [0]).index(0)
    refine ⟨_, rfl, by decide, fun c2 h2 => ⟨lv, c2, _, _, rfl, rfl, same_new (Same.refl H1) h2 _ _ hlv, upd_same, by rw [in_len, l4]; decide, fun c3 h3 => ⟨.inl ⟨rfl, _, SqL.of upd_same⟩, c3, IL (ni (L4 ++ [0])), .int 0, (rawIn b).levels.length, .int 0, rfl, rfl, SqL.of ?_, rfl, ?_, ?_, rfl, ?_, ?_⟩⟩⟩
    · rw [upd_same]
      show some (HO.lst (IL (ni L4) ++ IL (ni [0]))) = _
      rw [in_append]
    · rw [List.all_eq_true]
      intro x hx
      obtain ⟨z, _, rfl⟩ := List.mem_map.mp hx
      rfl
    · rw [eL]
      exact ni_at (first0 L4).1
    · intro m z hm hz
      obtain ⟨n, hn, rfl⟩ := ni_get hz
      rw [eL] at hm
      have := (first0 L4).2 m n hm hn
      show ((n : Int) == 0) = false
      rw [beq_eq_false_iff_ne]
      omega
    have s2 : Same H (upd (upd H1 c2 (.lst [V.int 0])) c3 (.lst (IL (ni L4) ++ [V.int 0]))) := same_new (same_new s1' h2) h3
    have hlv2 : upd (upd H1 c2 (.lst [V.int 0])) c3 (.lst (IL (ni L4) ++ [V.int 0])) lv = some (.lst (IL (ni L4))) := same_new (same_new (Same.refl H1) h2) h3 _ _ hlv
    show tSeq _ _ _ _ _
    generalize upd (upd H1 c2 (.lst [V.int 0])) c3 (.lst (IL (ni L4) ++ [V.int 0])) = H2 at s2 hlv2
    clear h2 h3 hlv s1'
    -- content = numbers_of(octets[:64]) + octets[64:69] + [number_of(octets[72:76])]
    refine ⟨_, rfl, _, rfl, a, _, rfl, s2.seq hS, fun c1 h1 => ⟨c1, b.take 64, 8, rfl, SqL.of ?_, by rw [List.length_take]; omega, .inr rfl, fun H3 au s3 _ hau => ?_⟩⟩
    · rw [upd_same, show (64 : Int) = ((64 : Nat) : Int) from rfl, cut_bi_to]
    have e3 : num8 (b.take 64) 8 = (rawIn b).audits := audits8 b
    rw [e3] at hau
    have s3' : Same H2 H3 := (same_new (Same.refl H2) h1).trans s3
    clear s3 h1
    refine ⟨_, rfl, _, rfl, _, rfl, a, _, rfl, (s2.trans s3').seq hS, fun c2 h2 => ?_⟩
    have e4 : cutV (IL (bi b)) (some 64) (some 69) = IL (ni [(rawIn b).coins, (rawIn b).balls, (rawIn b).warnings, (rawIn b).players, (rawIn b).gives]) := by
      exact (cut_bi' b 64 69 5 rfl rfl rfl).trans (by rw [five_at hb])
    rw [e4]
    have l8 : (rawIn b).audits.length = 8 := (rawIn_shape hb).aud
    have hle : (rawIn b).levels.length ≤ 4 := (rawIn_shape hb).lev
    have g2 := same_new (o := .lst (IL (ni [(rawIn b).coins, (rawIn b).balls, (rawIn b).warnings, (rawIn b).players, (rawIn b).gives]))) (Same.refl H3) h2
    refine ⟨au, c2, _, _, rfl, rfl, g2 _ _ hau, upd_same, by rw [in_len, in_len, l8]; exact (by decide : 8 + 5 ≤ sizeLine), fun c4 h4 => ⟨_, rfl, _, rfl, _, rfl, a, IL (bi b), rfl, ?_, fun c5 h5 => ⟨c5, (b.drop 72).take 4, rfl, SqL.of ?_, fun H4 s4 => ⟨(by show 1 ≤ sizeLine; decide), fun c6 h6 => ⟨c4, c6, IL (ni (rawIn b).audits) ++ IL (ni [(rawIn b).coins, (rawIn b).balls, (rawIn b).warnings, (rawIn b).players, (rawIn b).gives]), _, rfl, rfl, ?_, upd_same, ?_, fun co hco => ?_⟩⟩⟩⟩⟩
    · exact ((s2.trans s3').trans (same_new g2 h4)).seq hS
    · rw [upd_same]
      exact congrArg (fun z => some (HO.lst z)) (cut_bi' b 72 76 4 rfl rfl rfl)
    · exact same_new (Same.refl H4) h6 _ _ (s4 _ _ (same_new (Same.refl _) h5 _ _ upd_same))
    · rw [List.length_append, in_len, in_len, l8]
      exact (by decide : 8 + 5 + 1 ≤ sizeLine)
    have g6 : Same H2 (upd H4 c6 (.lst [V.int ((Tilt.num ((b.drop 72).take 4) : Nat) : Int)])) := same_new ((s3'.trans ((same_new (same_new g2 h4) h5))).trans s4) h6
    have F0 : Fills H2 (upd (upd H4 c6 (.lst [V.int ((Tilt.num ((b.drop 72).take 4) : Nat) : Int)])) co (.lst (IL (ni (rawIn b).audits) ++ IL (ni [(rawIn b).coins, (rawIn b).balls, (rawIn b).warnings, (rawIn b).players, (rawIn b).gives]) ++ [V.int ((Tilt.num ((b.drop 72).take 4) : Nat) : Int)]))) co (IL (ni ((rawIn b).audits ++ six (rawIn b)))) := by
      refine ⟨same_new g6 hco, g6.free hco, ?_⟩
      rw [upd_same]
      show some (HO.lst (IL (ni (rawIn b).audits) ++ IL (ni [(rawIn b).coins, (rawIn b).balls, (rawIn b).warnings, (rawIn b).players, (rawIn b).gives]) ++ IL (ni [Tilt.num ((b.drop 72).take 4)]))) = _
      rw [in_append, in_append, List.append_assoc]
      rfl
    show tSeq _ _ _ _ _
    generalize upd (upd H4 c6 (.lst [V.int ((Tilt.num ((b.drop 72).take 4) : Nat) : Int)])) co (.lst (IL (ni (rawIn b).audits) ++ IL (ni [(rawIn b).coins, (rawIn b).balls, (rawIn b).warnings, (rawIn b).players, (rawIn b).gives]) ++ [V.int ((Tilt.num ((b.drop 72).take 4) : Nat) : Int)])) = H5 at F0
    clear g2 h2 h4 h5 h6 g6 hco s4 s3' hau
    -- content.extend([level_count] + levels[:level_count])
    refine ⟨_, rfl, .inl ⟨rfl, _, SqL.of F0.at_⟩, _, rfl, (by show 1 ≤ sizeLine; decide), fun d1 j1 => ⟨_, rfl, _, rfl, _, rfl, lv, _, rfl, SqL.of (same_new (Same.refl H5) j1 _ _ (F0.same _ _ hlv2)), fun d2 j2 => ?_⟩⟩
    have e5 : cutV (IL (ni L4)) none (some (((rawIn b).levels.length : Nat) : Int)) = IL (ni (rawIn b).levels) := by
      rw [cut_ni_to, eL, take_tw]
    rw [e5]
    have g2 := same_new (o := .lst (IL (ni (rawIn b).levels))) (same_new (o := .lst [V.int (((rawIn b).levels.length : Nat) : Int)]) (Same.refl H5) j1) j2
    refine ⟨d1, d2, _, _, rfl, rfl, same_new (Same.refl _) j2 _ _ upd_same, upd_same, ?_, fun d3 j3 => ?_⟩
    · rw [in_len, size_is]
      show 1 + _ ≤ _
      omega
    have g3 := same_new (o := .lst ([V.int (((rawIn b).levels.length : Nat) : Int)] ++ IL (ni (rawIn b).levels))) g2 j3
    refine ⟨co, d3, _, _, rfl, rfl, g3 _ _ F0.at_, upd_same, ?_, ?_⟩
    · rw [in_len, List.length_append, List.length_append, in_len, l8, size_is]
      show 8 + 6 + (1 + _) ≤ _
      omega
    have F1 := (F0.more g3).put (ys := IL (ni ((rawIn b).audits ++ six (rawIn b))) ++ ([V.int (((rawIn b).levels.length : Nat) : Int)] ++ IL (ni (rawIn b).levels)))
    generalize upd (upd (upd (upd H5 d1 (.lst [V.int (((rawIn b).levels.length : Nat) : Int)])) d2 (.lst (IL (ni (rawIn b).levels)))) d3 (.lst ([V.int (((rawIn b).levels.length : Nat) : Int)] ++ IL (ni (rawIn b).levels)))) co (.lst (IL (ni ((rawIn b).audits ++ six (rawIn b))) ++ ([V.int (((rawIn b).levels.length : Nat) : Int)] ++ IL (ni (rawIn b).levels)))) = H6 at F1
    have e6 : IL (ni ((rawIn b).audits ++ six (rawIn b))) ++ ([V.int (((rawIn b).levels.length : Nat) : Int)] ++ IL (ni (rawIn b).levels)) = IL (ni ((rawIn b).audits ++ six (rawIn b) ++ ((rawIn b).levels.length :: (rawIn b).levels))) := by
      show _ ++ IL (ni ((rawIn b).levels.length :: (rawIn b).levels)) = _
      rw [in_append]
    rw [e6] at F1
    have lh : ((rawIn b).audits ++ six (rawIn b) ++ ((rawIn b).levels.length :: (rawIn b).levels)).length ≤ 19 := by
      rw [List.length_append, List.length_append, List.length_cons, l8]
      show 8 + 6 + _ ≤ _
      omega
    generalize hh : (rawIn b).audits ++ six (rawIn b) ++ ((rawIn b).levels.length :: (rawIn b).levels) = hd at F1 lh
    clear g2 g3 j1 j2 j3
    have lb := (rawIn_shape hb).bst
    -- for place in range(112, 240, 16)
    refine ⟨112, 240, 16, 8, rfl, ⟨by decide, by decide, by decide, by decide⟩, for_rangeC (lo := 112) (c := 16) (n := 8) (fun i σ H' => ∃ v4 : Option V, σ = [some (.ref a), some (.ref lv), some (.int ((rawIn b).levels.length : Nat)), some (.ref co), v4] ∧ Fills H2 H' co (IL (ni (hd ++ ((rawIn b).best.take i).flatMap entryNums))))
      ⟨none, rfl, by rw [List.take_zero, List.flatMap_nil, List.append_nil]; exact F1⟩ ?_ ?_⟩
    · rintro i σ H7 hi ⟨v4, rfl, F7⟩
      have lt : (((rawIn b).best.take i).flatMap entryNums).length ≤ 32 := by
        rw [flatMap_length entryNums 4 _ (fun e he => by
          unfold entryNums Tilt.nat8
          rw [List.length_cons, List.length_map, (rawIn_shape hb).who e (List.mem_of_mem_take he)]), List.length_take]
        omega
      have ei : (112 : Int) + (i : Int) * 16 = ((112 + 16 * i : Nat) : Int) := by omega
      have ei8 : (112 : Int) + (i : Int) * 16 + 8 = ((112 + 16 * i + 8 : Nat) : Int) := by omega
      have ei11 : (112 : Int) + (i : Int) * 16 + 11 = ((112 + 16 * i + 11 : Nat) : Int) := by omega
      refine ⟨_, rfl, .inl ⟨rfl, _, SqL.of F7.at_⟩, _, rfl, _, rfl, _, rfl, _, rfl, _, _, rfl, rfl, _, rfl, a, _, rfl, (s2.trans F7.same).seq hS, fun c1 h1 => ⟨c1, (b.drop (112 + 16 * i)).take 8, rfl, SqL.of ?_, fun H8 s8 => ⟨co, _, _, rfl, rfl, s8 _ _ (same_new (Same.refl H7) h1 _ _ F7.at_), ?_, ?_⟩⟩⟩
      · rw [upd_same]
        exact congrArg (fun z => some (HO.lst z)) (cut_bi' b (112 + 16 * i) (112 + 16 * i + 8) 8 ei ei8 (by omega))
      · rw [in_len, List.length_append, size_is]
        omega
      have F8 := (F7.more ((same_new (o := .lst (cutV (IL (bi b)) (some ((112 : Int) + (i : Int) * 16)) (some ((112 : Int) + (i : Int) * 16 + 8)))) (Same.refl H7) h1).trans s8)).put (ys := IL (ni (hd ++ ((rawIn b).best.take i).flatMap entryNums)) ++ [V.int ((Tilt.num ((b.drop (112 + 16 * i)).take 8) : Nat) : Int)])
      clear h1 s8
      generalize upd H8 co (.lst (IL (ni (hd ++ ((rawIn b).best.take i).flatMap entryNums)) ++ [V.int ((Tilt.num ((b.drop (112 + 16 * i)).take 8) : Nat) : Int)])) = H9 at F8
      refine ⟨_, rfl, .inl ⟨rfl, _, SqL.of F8.at_⟩, _, rfl, _, rfl, _, _, rfl, rfl, _, rfl, _, rfl, _, _, rfl, rfl, _, rfl, a, _, rfl, (s2.trans F8.same).seq hS, fun c2 h2 => ⟨co, c2, _, _, rfl, rfl, same_new (Same.refl H9) h2 _ _ F8.at_, upd_same, ?_, some (.int ((112 : Int) + (i : Int) * 16)), rfl, ?_⟩⟩
      · have := cutV_length (IL (bi b)) (some ((112 : Int) + (i : Int) * 16 + 8)) (some ((112 : Int) + (i : Int) * 16 + 11))
        rw [ib_len] at this
        rw [List.length_append, in_len, List.length_append, size_is]
        show _ + 1 + (cutV (IL (bi b)) (some ((112 : Int) + (i : Int) * 16 + 8)) (some ((112 : Int) + (i : Int) * 16 + 11))).length ≤ _
        omega
      · have eB : IL (ni (hd ++ ((rawIn b).best.take (i + 1)).flatMap entryNums)) = IL (ni (hd ++ ((rawIn b).best.take i).flatMap entryNums)) ++ [V.int ((Tilt.num ((b.drop (112 + 16 * i)).take 8) : Nat) : Int)] ++ cutV (IL (bi b)) (some ((112 : Int) + (i : Int) * 16 + 8)) (some ((112 : Int) + (i : Int) * 16 + 11)) := by
          rw [cut_bi' b (112 + 16 * i + 8) (112 + 16 * i + 11) 3 ei8 ei11 (by omega), bi_nat8, flat_take_snoc _ (best_at hi)]
          show _ = IL (ni (hd ++ ((rawIn b).best.take i).flatMap entryNums)) ++ IL (ni [Tilt.num ((b.drop (112 + 16 * i)).take 8)]) ++ _
          rw [in_append, in_append, List.append_assoc, List.append_assoc]
          rfl
        rw [eB]
        exact (F8.more (same_new (Same.refl H9) h2)).put
    · rintro σ H7 ⟨v4, rfl, F7⟩
      rw [List.take_of_length_le (by omega)] at F7
      have en : hd ++ (rawIn b).best.flatMap entryNums = (rawIn b).nums := by
        unfold Raw.nums
        rw [← hh, List.append_assoc, List.append_assoc]
        rfl
      rw [en] at F7
      exact ⟨_, rfl, q _ co (s2.trans F7.same) (s2.free F7.new) F7.at_⟩
end
end Hw

set_option Elab.async false
set_option linter.all false
set_option maxRecDepth 100000
set_option maxHeartbeats 4000000
namespace Hw
open PySem PySem.Spec PyProof.Rows L2
/-! ### two lists of ints compared -/
theorem eqvAll_ints : ∀ l l' : List Int, PyData.eqvAll (l.map PyData.int) (l'.map PyData.int) = decide (l = l')
  | [], [] => rfl
  | [], _ :: _ => rfl
  | _ :: _, [] => rfl
  | x :: l, y :: l' => by
    show (PyData.eqv (.int x) (.int y) && PyData.eqvAll (l.map PyData.int) (l'.map PyData.int)) = _
    rw [eqvAll_ints l l']
    have e : PyData.eqv (.int x) (.int y) = decide (x = y) := by
      show (x == y) = decide (x = y)
      rw [Bool.eq_iff_iff, beq_iff_eq, decide_eq_true_iff]
    rw [e, Bool.eq_iff_iff, Bool.and_eq_true, decide_eq_true_iff, decide_eq_true_iff, decide_eq_true_iff]
    constructor
    · rintro ⟨h1, h2⟩
      rw [h1, h2]
    · intro h
      injection h with h1 h2
      exact ⟨h1, h2⟩
theorem lay_ints : ∀ l : List Int, PyData.canLayAll0 (l.map PyData.int) = true
  | [] => rfl
  | x :: l => by
    show (PyData.canLay0 (.int x) && PyData.canLayAll0 (l.map PyData.int)) = true
    rw [lay_ints l]
    rfl
theorem depth_ints : ∀ l : List Int, PyData.depthAll (l.map PyData.int) = 0
  | [] => rfl
  | x :: l => by
    show max (PyData.depth (.int x)) (PyData.depthAll (l.map PyData.int)) = 0
    rw [depth_ints l]
    rfl
theorem shaped_ints (l : List Int) : SeqAt.shaped (.list (l.map PyData.int)) = true := by
  unfold SeqAt.shaped
  show (PyData.canLayAll0 (l.map PyData.int) && decide (PyData.depthAll (l.map PyData.int) + 1 ≤ 64)) = true
  rw [lay_ints, depth_ints]
  rfl
theorem dp_ints {K : PySem.W.Frag} {H : Hp} : ∀ l : List Int, DpAll K H (IL l) (l.map PyData.int)
  | [] => .nil
  | x :: l => .cons (.int x) (dp_ints l)
theorem bi_inj : ∀ {a b : Tilt.Bytes}, bi a = bi b → a = b
  | [], [], _ => rfl
  | [], _ :: _, h => by cases h
  | _ :: _, [], h => by cases h
  | x :: a, y :: b, h => by
    have h1 : ((x.toNat : Nat) : Int) :: bi a = ((y.toNat : Nat) : Int) :: bi b := h
    injection h1 with e1 e2
    have e3 : x = y := UInt8.toNat_inj.mp (by omega)
    rw [e3, bi_inj e2]
theorem bi_dec (a b : Tilt.Bytes) : decide (bi a = bi b) = decide (a = b) := by
  rw [Bool.eq_iff_iff, decide_eq_true_iff, decide_eq_true_iff]
  exact ⟨bi_inj, fun h => by rw [h]⟩
section
variable {P : Program} {w : World} {K : PySem.W.Frag} {mg : Str → Option Value} {base : Heap}
/-! ### new_half -/
def sp_new_half (K : PySem.W.Frag) : Sp := fun vs H Q _ => ∃ (n : Nat) (a : Addr) (r : Raw), vs = [.int n, .ref a] ∧ Shape r ∧ rightP r = true ∧ SqL K H a (IL (ni r.nums)) ∧ RetL H Q (IL (bi (Tilt.halfOf n r.toC)))
theorem sc_new_half : FnScope ["number", "content", "summed", "crc"] ["number", "content"] (defScope (top 41)) := ⟨rfl, rfl, rfl, by decide +kernel, rfl, by decide +kernel, by decide +kernel⟩
theorem ok_new_half {f : Addr} {fd : FuncData} (F : Df K mg "new_half" (top 41) f fd) (T : Txt K mg) (G1 : Fn P w K mg base "octets_of" 1 ["number", "size"] sp_octets_of) (G2 : Fn P w K mg base "octets_of_content" 2 ["content"] (sp_octets_of_content K)) (G3 : Fn P w K mg base "crc_of" 1 ["octets"] (sp_crc_of K)) :
    Fn P w K mg base "new_half" 3 ["number", "content"] (sp_new_half K) := by
  refine ⟨f, fd, F.mg_, F.fn.kp, F.fn.binds fun _ _ _ _ _ _ us hl => match us, hl with | [_, _], _ => rfl, F.fn.ok sc_new_half (fun vs H Q E h => ?_) (fun cdv A outer s H vs Q E hr h => ?_)⟩
  · obtain ⟨n, a, r, rfl, _⟩ := h
    rfl
  · obtain ⟨n, a, r, rfl, S, hR, hS, q⟩ := h
    obtain ⟨M, GM⟩ := T.MARK
    refine ⟨_, pss_cons (ps_set (i := 2) sc_new_half.nd rfl (Or.inl rfl) (pe_op op_cat (pe_op op_cat (pe_callTy call_list_of rfl T.list (by decide +kernel) (pa_cons (pe_gt GM) pa_nil)) (pe_fn G1 hr rfl (pa_cons (pv 0) (pa_cons pe_int pa_nil)))) (pe_fn G2 hr rfl (pa_cons (pv 1) pa_nil))))
      (pss_cons (ps_set (i := 3) sc_new_half.nd rfl (Or.inl rfl) (pe_fn G3 hr rfl (pa_cons (pv 2) pa_nil)))
      (pss_one (ps_ret (pe_op op_cat (pe_op op_cat (pv 2) (pe_fn G1 hr rfl (pa_cons (pv 3) (pa_cons pe_int pa_nil)))) (pe_fn G1 hr rfl (pa_cons (pe_op op_xor (pv 3) (pe_gi T.ALL_BITS)) (pa_cons pe_int pa_nil))))))), ?_⟩
    have eM : IL [84, 76, 75, 49] = IL (bi Tilt.MARK) := rfl
    have lM : Tilt.MARK.length = 4 := rfl
    have lf : r.toC.form.length = 240 := form_length S
    refine ⟨M, _, rfl, .inr (GM.2 H), fun c1 h1 => ⟨_, rfl, n, 4, rfl, by decide, fun H1 c2 s1 _ h2 => ⟨c1, c2, IL (bi Tilt.MARK), _, rfl, rfl, s1 _ _ upd_same, h2, by rw [ib_len, ib_len, le_length]; decide, fun c3 h3 => ?_⟩⟩⟩
    have g1 : Same H H1 := (same_new (Same.refl H) h1).trans s1
    rw [ib_append]
    have g3 := same_new (o := .lst (IL (bi (Tilt.MARK ++ Tilt.le 4 n)))) g1 h3
    have k3 : upd H1 c3 (.lst (IL (bi (Tilt.MARK ++ Tilt.le 4 n)))) c3 = some (.lst (IL (bi (Tilt.MARK ++ Tilt.le 4 n)))) := upd_same
    generalize upd H1 c3 (.lst (IL (bi (Tilt.MARK ++ Tilt.le 4 n)))) = H2 at g3 k3
    refine ⟨_, rfl, a, r, rfl, S, hR, g3.seq hS, fun H3 c4 s3 _ h4 => ⟨c3, c4, _, _, rfl, rfl, s3 _ _ k3, h4, ?_, fun su h5 => ?_⟩⟩
    · rw [ib_len, ib_len, List.length_append, le_length, lf]
      decide
    rw [ib_append]
    have l5 : (Tilt.MARK ++ Tilt.le 4 n ++ r.toC.form).length = 248 := by rw [List.length_append, List.length_append, le_length, lf]; rfl
    have eq := halfOf_eq n r.toC
    have g5 := same_new (o := .lst (IL (bi (Tilt.MARK ++ Tilt.le 4 n ++ r.toC.form)))) (g3.trans s3) h5
    have k5 : upd H3 su (.lst (IL (bi (Tilt.MARK ++ Tilt.le 4 n ++ r.toC.form)))) su = some (.lst (IL (bi (Tilt.MARK ++ Tilt.le 4 n ++ r.toC.form)))) := upd_same
    show tSeq _ _ _ _ _
    generalize upd H3 su (.lst (IL (bi (Tilt.MARK ++ Tilt.le 4 n ++ r.toC.form)))) = H4 at g5 k5
    generalize Tilt.MARK ++ Tilt.le 4 n ++ r.toC.form = B at k5 l5 eq
    clear h1 s1 h2 h3 g1 g3 k3 s3 h4 h5
    refine ⟨_, rfl, su, B, rfl, SqL.of k5, fun H5 s5 => ⟨_, rfl, _, rfl, Tilt.crc B, 4, rfl, by decide, fun H6 c6 s6 _ h6 => ⟨su, c6, _, _, rfl, rfl, s6 _ _ (s5 _ _ k5), h6, by rw [ib_len, ib_len, le_length, l5]; decide, fun c7 h7 => ?_⟩⟩⟩
    rw [ib_append]
    have g7 := same_new (o := .lst (IL (bi (B ++ Tilt.le 4 (Tilt.crc B))))) ((g5.trans s5).trans s6) h7
    have k7 : upd H6 c7 (.lst (IL (bi (B ++ Tilt.le 4 (Tilt.crc B))))) c7 = some (.lst (IL (bi (B ++ Tilt.le 4 (Tilt.crc B))))) := upd_same
    generalize upd H6 c7 (.lst (IL (bi (B ++ Tilt.le 4 (Tilt.crc B))))) = H7 at g7 k7
    have ex : Builtin.bitXor ((Tilt.crc B : Nat) : Int) 4294967295 = ((Nat.xor (Tilt.crc B) Tilt.ONES : Nat) : Int) := xor_nat (Tilt.crc B) 4294967295
    refine ⟨_, rfl, _, _, rfl, rfl, Nat.xor (Tilt.crc B) Tilt.ONES, 4, ?_, by decide, fun H8 c8 s8 _ h8 => ⟨c7, c8, _, _, rfl, rfl, s8 _ _ k7, h8, by rw [ib_len, ib_len, List.length_append, le_length, le_length, l5]; decide, fun c9 h9 => ?_⟩⟩
    · show [V.int (Builtin.bitXor ((Tilt.crc B : Nat) : Int) 4294967295), V.int 4] = _
      rw [ex]
      rfl
    · rw [ib_append, ← eq]
      exact retL_upd q (g7.trans s8) h9
/-! ### half_at, number_in, content_in, number_behind -/
def sp_half_at (K : PySem.W.Frag) : Sp := fun vs H Q _ => ∃ (a : Addr) (m : Tilt.Bytes) (h : Nat), vs = [.ref a, .int h] ∧ h ≤ 1 ∧ SqL K H a (IL (bi m)) ∧ RetL H Q (IL (bi (Tilt.half m h)))
theorem sc_half_at : FnScope ["octets", "half"] ["octets", "half"] (defScope (top 42)) := ⟨rfl, rfl, rfl, by decide +kernel, rfl, by decide +kernel, by decide +kernel⟩
theorem ok_half_at {f : Addr} {fd : FuncData} (F : Df K mg "half_at" (top 42) f fd) (T : Txt K mg) : Fn P w K mg base "half_at" 1 ["octets", "half"] (sp_half_at K) := by
  refine ⟨f, fd, F.mg_, F.fn.kp, F.fn.binds fun _ _ _ _ _ _ us hl => match us, hl with | [_, _], _ => rfl, F.fn.ok sc_half_at (fun vs H Q E h => ?_) (fun cdv A outer s H vs Q E hr h => ?_)⟩
  · obtain ⟨a, m, h, rfl, _⟩ := h
    rfl
  · obtain ⟨a, m, h, rfl, hh, hS, q⟩ := h
    refine ⟨_, pss_one (ps_ret (pe_slice sl_list (pv 0) (po_some (pe_op op_mul (pv 1) (pe_gi T.HALF_SIZE))) (po_some (pe_op op_mul (pe_op op_add (pv 1) pe_int) (pe_gi T.HALF_SIZE))))), ?_⟩
    refine ⟨_, rfl, _, rfl, _, _, rfl, rfl, .inr ⟨by decide, by decide⟩, _, rfl, _, rfl, _, _, rfl, rfl, _, _, rfl, rfl, .inr ⟨by decide, by decide⟩, _, rfl, a, _, rfl, hS, fun p hp => ?_⟩
    have e : cutV (IL (bi m)) (some ((h : Int) * 256)) (some (((h : Int) + 1) * 256)) = IL (bi (Tilt.half m h)) := by
      rw [cut_bi' m (256 * h) (256 * h + 256) 256 (by omega) (by omega) (by omega)]
      rfl
    show Q (.ref p) (upd H p (.lst (cutV (IL (bi m)) (some ((h : Int) * 256)) (some (((h : Int) + 1) * 256)))))
    rw [e]
    exact retL_upd q (Same.refl H) hp
def sp_number_in (K : PySem.W.Frag) : Sp := fun vs H Q _ => ∃ (a : Addr) (b : Tilt.Bytes), vs = [.ref a] ∧ SqL K H a (IL (bi b)) ∧ RetV H Q (.int (numIn b))
theorem sc_number_in : FnScope ["half_octets"] ["half_octets"] (defScope (top 43)) := ⟨rfl, rfl, rfl, by decide +kernel, rfl, by decide +kernel, by decide +kernel⟩
theorem ok_number_in {f : Addr} {fd : FuncData} (F : Df K mg "number_in" (top 43) f fd) (T : Txt K mg) (G1 : Fn P w K mg base "number_of" 1 ["octets"] (sp_number_of K)) : Fn P w K mg base "number_in" 2 ["half_octets"] (sp_number_in K) := by
  refine ⟨f, fd, F.mg_, F.fn.kp, F.fn.binds fun _ _ _ _ _ _ us hl => match us, hl with | [_], _ => rfl, F.fn.ok sc_number_in (fun vs H Q E h => ?_) (fun cdv A outer s H vs Q E hr h => ?_)⟩
  · obtain ⟨a, b, rfl, _⟩ := h
    rfl
  · obtain ⟨a, b, rfl, hS, q⟩ := h
    refine ⟨_, pss_one (ps_ret (pe_fn G1 hr rfl (pa_cons (pe_slice sl_list (pv 0) (po_some pe_int) (po_some pe_int)) pa_nil))), ?_⟩
    refine ⟨_, rfl, _, rfl, _, rfl, a, _, rfl, hS, fun p hp => ⟨p, (b.drop 4).take 4, rfl, SqL.of ?_, fun H1 s1 => q _ ((same_new (Same.refl H) hp).trans s1)⟩⟩
    rw [upd_same]
    exact congrArg (fun z => some (HO.lst z)) (cut_bi' b 4 8 4 rfl rfl rfl)
def sp_content_in (K : PySem.W.Frag) : Sp := fun vs H Q _ => ∃ (a : Addr) (b : Tilt.Bytes), vs = [.ref a] ∧ SqL K H a (IL (bi b)) ∧ b.length = 256 ∧ RetL H Q (IL (ni (rawOf b).nums))
theorem sc_content_in : FnScope ["half_octets"] ["half_octets"] (defScope (top 44)) := ⟨rfl, rfl, rfl, by decide +kernel, rfl, by decide +kernel, by decide +kernel⟩
theorem ok_content_in {f : Addr} {fd : FuncData} (F : Df K mg "content_in" (top 44) f fd) (T : Txt K mg) (G1 : Fn P w K mg base "content_of" 3 ["octets"] (sp_content_of K)) : Fn P w K mg base "content_in" 4 ["half_octets"] (sp_content_in K) := by
  refine ⟨f, fd, F.mg_, F.fn.kp, F.fn.binds fun _ _ _ _ _ _ us hl => match us, hl with | [_], _ => rfl, F.fn.ok sc_content_in (fun vs H Q E h => ?_) (fun cdv A outer s H vs Q E hr h => ?_)⟩
  · obtain ⟨a, b, rfl, _⟩ := h
    rfl
  · obtain ⟨a, b, rfl, hS, hb, q⟩ := h
    refine ⟨_, pss_one (ps_ret (pe_fn G1 hr rfl (pa_cons (pe_slice sl_list (pv 0) (po_some pe_int) (po_some pe_int)) pa_nil))), ?_⟩
    refine ⟨_, rfl, _, rfl, _, rfl, a, _, rfl, hS, fun p hp => ⟨p, (b.drop 8).take 240, rfl, SqL.of ?_, part_len b 8 240 (by omega), fun H1 c s1 n1 h1 => q _ c ((same_new (Same.refl H) hp).trans s1) ((same_new (Same.refl H) hp).free n1) h1⟩⟩
    rw [upd_same]
    exact congrArg (fun z => some (HO.lst z)) (cut_bi' b 8 248 240 rfl rfl rfl)
def sp_number_behind (K : PySem.W.Frag) : Sp := fun vs H Q _ => ∃ (a : Addr) (b : Tilt.Bytes), vs = [.ref a] ∧ SqL K H a (IL (bi b)) ∧ RetV H Q (.int ((numIn b + 1) % 2 ^ 32 : Nat))
theorem sc_number_behind : FnScope ["half_octets"] ["half_octets"] (defScope (top 46)) := ⟨rfl, rfl, rfl, by decide +kernel, rfl, by decide +kernel, by decide +kernel⟩
theorem ok_number_behind {f : Addr} {fd : FuncData} (F : Df K mg "number_behind" (top 46) f fd) (T : Txt K mg) (G1 : Fn P w K mg base "number_in" 2 ["half_octets"] (sp_number_in K)) : Fn P w K mg base "number_behind" 3 ["half_octets"] (sp_number_behind K) := by
  refine ⟨f, fd, F.mg_, F.fn.kp, F.fn.binds fun _ _ _ _ _ _ us hl => match us, hl with | [_], _ => rfl, F.fn.ok sc_number_behind (fun vs H Q E h => ?_) (fun cdv A outer s H vs Q E hr h => ?_)⟩
  · obtain ⟨a, b, rfl, _⟩ := h
    rfl
  · obtain ⟨a, b, rfl, hS, q⟩ := h
    refine ⟨_, pss_one (ps_ret (pe_op op_mod (pe_op op_add (pe_fn G1 hr rfl (pa_cons (pv 0) pa_nil)) pe_int) (pe_gi T.NUMBER_END))), ?_⟩
    refine ⟨_, rfl, a, b, rfl, hS, fun H1 s1 => ⟨_, _, rfl, rfl, _, _, rfl, rfl, (by show (0 : Int) < 4294967296; decide), ?_⟩⟩
    have e : ((numIn b : Nat) : Int) + 1 = ((numIn b + 1 : Nat) : Int) := by omega
    show Q (V.int ((((numIn b : Nat) : Int) + 1) % 4294967296)) H1
    have e2 : (((numIn b : Nat) : Int) + 1) % 4294967296 = (((numIn b + 1) % 2 ^ 32 : Nat) : Int) := by
      rw [e]
      rfl
    rw [e2]
    exact q _ s1
/-! ### is_whole -/
def sp_is_whole (K : PySem.W.Frag) : Sp := fun vs H Q _ => ∃ (a : Addr) (b : Tilt.Bytes), vs = [.ref a] ∧ SqL K H a (IL (bi b)) ∧ b.length = 256 ∧ RetV H Q (.bl (wholeP b))
theorem sc_is_whole : FnScope ["half_octets", "content"] ["half_octets"] (defScope (top 45)) := ⟨rfl, rfl, rfl, by decide +kernel, rfl, by decide +kernel, by decide +kernel⟩
theorem ok_is_whole {f : Addr} {fd : FuncData} (F : Df K mg "is_whole" (top 45) f fd) (T : Txt K mg) (G1 : Fn P w K mg base "content_in" 4 ["half_octets"] (sp_content_in K)) (G2 : Fn P w K mg base "is_right" 3 ["content"] (sp_is_right K)) (G3 : Fn P w K mg base "new_half" 3 ["number", "content"] (sp_new_half K))
    (G4 : Fn P w K mg base "number_in" 2 ["half_octets"] (sp_number_in K)) : Fn P w K mg base "is_whole" 5 ["half_octets"] (sp_is_whole K) := by
  refine ⟨f, fd, F.mg_, F.fn.kp, F.fn.binds fun _ _ _ _ _ _ us hl => match us, hl with | [_], _ => rfl, F.fn.ok sc_is_whole (fun vs H Q E h => ?_) (fun cdv A outer s H vs Q E hr h => ?_)⟩
  · obtain ⟨a, b, rfl, _⟩ := h
    rfl
  · obtain ⟨a, b, rfl, hS, hb, q⟩ := h
    refine ⟨_, pss_cons (ps_set (i := 1) sc_is_whole.nd rfl (Or.inl rfl) (pe_fn G1 hr rfl (pa_cons (pv 0) pa_nil)))
      (pss_cons (ps_if (pt_not (pt_val (pe_fn G2 hr rfl (pa_cons (pv 1) pa_nil)))) (pss_one (ps_ret pe_bl)) pss_nil)
      (pss_one (ps_ret (pe_cmpR (op_eqD hr.units) (pv 0) (pe_fn G3 hr rfl (pa_cons (pe_fn G4 hr rfl (pa_cons (pv 0) pa_nil)) (pa_cons (pv 1) pa_nil))) (nomark _))))), ?_⟩
    have S : Shape (rawOf b) := rawIn_shape (part_len b 8 240 (by omega))
    have ew : wholeP b = (rightP (rawOf b) && decide (b = Tilt.halfOf (numIn b) (rawOf b).toC)) := rfl
    rw [ew] at q
    refine ⟨_, rfl, a, b, rfl, hS, hb, fun H1 c s1 _ hc => ⟨_, rfl, c, rawOf b, rfl, S, SqL.of hc, fun H2 s2 => ⟨_, rfl, ite2 (fun h => ?_) (fun h => ?_)⟩⟩⟩
    · have e : rightP (rawOf b) = false := by
        cases z : rightP (rawOf b) with
        | false => rfl
        | true =>
          rw [z] at h
          cases h
      rw [e] at q
      exact q _ (s1.trans s2)
    · have e : rightP (rawOf b) = true := by
        cases z : rightP (rawOf b) with
        | true => rfl
        | false =>
          rw [z] at h
          exact absurd rfl h
      rw [e, Bool.true_and] at q
      refine ⟨_, rfl, _, rfl, a, b, rfl, (s1.trans s2).seq hS, fun H3 s3 => ⟨_, rfl, numIn b, c, rawOf b, rfl, S, e, SqL.of ((s2.trans s3) _ _ hc), fun H4 p s4 _ hp => ?_⟩⟩
      have s04 := ((s1.trans s2).trans s3).trans s4
      refine ⟨.list ((bi b).map PyData.int), .list ((bi (Tilt.halfOf (numIn b) (rawOf b).toC)).map PyData.int), .lst (s04.seq hS) (dp_ints _), .lst (SqL.of hp) (dp_ints _), shaped_ints _, shaped_ints _, ?_⟩
      have ee : PyData.eqv (.list ((bi b).map PyData.int)) (.list ((bi (Tilt.halfOf (numIn b) (rawOf b).toC)).map PyData.int)) = decide (b = Tilt.halfOf (numIn b) (rawOf b).toC) := by
        show PyData.eqvAll _ _ = _
        rw [eqvAll_ints, bi_dec]
      rw [ee]
      exact q _ s04
end
end Hw

set_option Elab.async false
set_option linter.all false
set_option maxRecDepth 100000
set_option maxHeartbeats 4000000
namespace Hw
open PySem PySem.Spec PyProof.Rows L2
section
variable {P : Program} {w : World} {K : PySem.W.Frag} {mg : Str → Option Value} {base : Heap}
/-! ### half_read -/
def readV (m : Tilt.Bytes) : V := match readP m with
  | some h => .int (h : Nat)
  | none => .non
def wl (m : Tilt.Bytes) (i : Nat) : List Nat := (List.range i).filter fun h => wholeP (Tilt.half m h)
theorem wl_succ (m : Tilt.Bytes) (i : Nat) : wl m (i + 1) = wl m i ++ (if wholeP (Tilt.half m i) = true then [i] else []) := by
  unfold wl
  rw [List.range_succ, List.filter_append, List.filter_cons, List.filter_nil]
theorem wl_len (m : Tilt.Bytes) (i : Nat) : (wl m i).length ≤ i := by
  unfold wl
  have := List.length_filter_le (fun h => wholeP (Tilt.half m h)) (List.range i)
  rw [List.length_range] at this
  exact this
def sp_half_read (K : PySem.W.Frag) : Sp := fun vs H Q _ => ∃ (a : Addr) (m : Tilt.Bytes), vs = [.ref a] ∧ SqL K H a (IL (bi m)) ∧ m.length = 512 ∧ RetV H Q (readV m)
theorem sc_half_read : FnScope ["octets", "whole", "half"] ["octets"] (defScope (top 47)) := ⟨rfl, rfl, rfl, by decide +kernel, rfl, by decide +kernel, by decide +kernel⟩
theorem ok_half_read {f : Addr} {fd : FuncData} (F : Df K mg "half_read" (top 47) f fd) (T : Txt K mg) (G1 : Fn P w K mg base "is_whole" 5 ["half_octets"] (sp_is_whole K)) (G2 : Fn P w K mg base "half_at" 1 ["octets", "half"] (sp_half_at K)) (G3 : Fn P w K mg base "number_in" 2 ["half_octets"] (sp_number_in K))
    (G4 : Fn P w K mg base "number_behind" 3 ["half_octets"] (sp_number_behind K)) : Fn P w K mg base "half_read" 6 ["octets"] (sp_half_read K) := by
  refine ⟨f, fd, F.mg_, F.fn.kp, F.fn.binds fun _ _ _ _ _ _ us hl => match us, hl with | [_], _ => rfl, F.fn.ok sc_half_read (fun vs H Q E h => ?_) (fun cdv A outer s H vs Q E hr h => ?_)⟩
  · obtain ⟨a, m, rfl, _⟩ := h
    rfl
  · obtain ⟨a, m, rfl, hS, hm, q⟩ := h
    refine ⟨_, pss_cons (ps_setLc (i := 1) rfl sc_half_read.nd rfl rfl (sw_true rfl rfl rfl rfl) (pi_tup (pe_tup (pa_cons pe_int (pa_cons pe_int pa_nil)))) (blkOk_by (N := ["octets", "whole", "half"]) (sc := defScope (top 47)) (own := [("half", 2)]) (by decide +kernel))
        (fun _ _ _ _ _ => pg_name (i := 2) sc_half_read.nd rfl (Or.inl rfl)) (fun _ _ _ _ _ => pts_one (pt_val (pe_fn G1 hr rfl (pa_cons (pe_fn G2 hr rfl (pa_cons (pv 0) (pa_cons (pv 2) pa_nil))) pa_nil)))) (fun _ _ _ _ _ => pv 2))
      (pss_cons (ps_if (pt_cmpR op_eq (pe_callB call_len_seq rfl T.len PySem.boot_len (pa_cons (pv 1) pa_nil)) pe_int (nomark _)) (pss_one (ps_ret pe_non)) pss_nil)
      (pss_cons (ps_if (pt_cmpR op_eq (pe_callB call_len_seq rfl T.len PySem.boot_len (pa_cons (pv 1) pa_nil)) pe_int (nomark _)) (pss_one (ps_ret (pe_ix ix_list (pv 1) pe_int (fun _ _ => rfl)))) pss_nil)
      (pss_cons (ps_if (pt_cmpR op_eq (pe_fn G3 hr rfl (pa_cons (pe_fn G2 hr rfl (pa_cons (pv 0) (pa_cons pe_int pa_nil))) pa_nil)) (pe_fn G4 hr rfl (pa_cons (pe_fn G2 hr rfl (pa_cons (pv 0) (pa_cons pe_int pa_nil))) pa_nil)) (nomark _)) (pss_one (ps_ret pe_int)) pss_nil)
      (pss_one (ps_ret pe_int))))), ?_⟩
    refine ⟨by decide, fun t ht => ⟨t, rfl, ⟨_, SqT.of upd_same⟩, ?_⟩⟩
    have s1 : Same H (upd H t (.tup [V.int 0, V.int 1])) := same_new (Same.refl H) ht
    have k1 : upd H t (.tup [V.int 0, V.int 1]) t = some (.tup [V.int 0, V.int 1]) := upd_same
    generalize upd H t (.tup [V.int 0, V.int 1]) = H1 at s1 k1
    refine fun D hD => lc_tup (K := K) (a := t) (xs := [V.int 0, V.int 1]) (fun i H' => Same H1 H' ∧ H' D = some (.lst (IL (ni (wl m i))))) ⟨same_upd (Same.refl H1) hD, upd_same⟩ (fun i H' _ ⟨s2, _⟩ => SqT.of (s2 _ _ k1)) ?_ ?_
    · rintro i x H2 hx ⟨s2, h2⟩
      obtain ⟨hi, rfl⟩ : i ≤ 1 ∧ x = V.int (i : Nat) := by
        match i, hx with
        | 0, hx => exact ⟨by decide, (Option.some.inj hx).symm⟩
        | 1, hx => exact ⟨by decide, (Option.some.inj hx).symm⟩
        | i + 2, hx => simp at hx
      have e := wl_succ m i
      refine ⟨rfl, _, rfl, _, rfl, a, m, i, rfl, hi, (s1.trans s2).seq hS, fun H3 p s3 _ h3 => ⟨p, Tilt.half m i, rfl, SqL.of h3, half_len hm hi, fun H4 s4 => ⟨_, rfl, ite2 (fun h => ?_) (fun h => ?_)⟩⟩⟩
      · rw [if_pos h] at e
        refine ⟨_, rfl, IL (ni (wl m i)), s4 _ _ (s3 _ _ h2), ?_, same_upd ((s2.trans s3).trans s4) hD, ?_⟩
        · have := wl_len m i
          rw [in_len, size_is]
          omega
        · rw [upd_same, e, ← in_append]
          rfl
      · rw [if_neg h, List.append_nil] at e
        rw [e]
        exact ⟨(s2.trans s3).trans s4, s4 _ _ (s3 _ _ h2)⟩
    · rintro H2 ⟨s2, h2⟩
      have s02 := s1.trans s2
      have h2 : H2 D = some (.lst (IL (ni (wl m 2)))) := h2
      have ew : wl m 2 = (if wholeP (Tilt.half m 0) = true then [0] else []) ++ (if wholeP (Tilt.half m 1) = true then [1] else []) := by
        rw [wl_succ, wl_succ]
        rfl
      by_cases h0 : wholeP (Tilt.half m 0) = true
      · by_cases h1 : wholeP (Tilt.half m 1) = true
        · rw [if_pos h0, if_pos h1] at ew
          rw [ew] at h2
          refine ⟨_, rfl, D, _, rfl, .inl (SqL.of h2), rfl, _, rfl, ite2 (fun h => absurd h (by decide)) (fun _ => ⟨_, rfl, D, _, rfl, .inl (SqL.of h2), rfl, _, rfl, ite2 (fun h => absurd h (by decide)) (fun _ => ?_)⟩)⟩
          refine ⟨_, rfl, a, m, 1, rfl, Nat.le_refl _, s02.seq hS, fun H3 p3 s3 _ h3 => ⟨p3, Tilt.half m 1, rfl, SqL.of h3, fun H4 s4 => ⟨_, rfl, a, m, 0, rfl, Nat.zero_le _, ((s02.trans s3).trans s4).seq hS, fun H5 p5 s5 _ h5 => ⟨p5, Tilt.half m 0, rfl, SqL.of h5, fun H6 s6 => ⟨rfl, _, rfl, ite2 (fun h => ?_) (fun h => ?_)⟩⟩⟩⟩⟩
          · have hn : V.int ((numIn (Tilt.half m 1) : Nat) : Int) = V.int (((numIn (Tilt.half m 0) + 1) % 2 ^ 32 : Nat) : Int) := of_decide_eq_true h
            injection hn with hn
            have e : readV m = V.int 1 := by
              unfold readV readP
              rw [if_pos h0, if_pos h1, if_pos (Int.ofNat_inj.mp hn)]
              rfl
            rw [e] at q
            exact q _ ((((s02.trans s3).trans s4).trans s5).trans s6)
          · have e : readV m = V.int 0 := by
              unfold readV readP
              rw [if_pos h0, if_pos h1, if_neg (fun z => h (decide_eq_true (by rw [z])))]
              rfl
            rw [e] at q
            exact q _ ((((s02.trans s3).trans s4).trans s5).trans s6)
        · rw [if_pos h0, if_neg h1] at ew
          rw [ew] at h2
          have e : readV m = V.int 0 := by
            unfold readV readP
            rw [if_pos h0, if_neg h1]
            rfl
          rw [e] at q
          exact ⟨_, rfl, D, _, rfl, .inl (SqL.of h2), rfl, _, rfl, ite2 (fun h => absurd h (by decide)) (fun _ => ⟨_, rfl, D, _, rfl, .inl (SqL.of h2), rfl, _, rfl, ite2 (fun _ => ⟨_, rfl, D, _, _, _, rfl, rfl, SqL.of h2, at_of (j := 0) rfl rfl, q _ s02⟩) (fun h => absurd (by decide) h)⟩)⟩
      · by_cases h1 : wholeP (Tilt.half m 1) = true
        · rw [if_neg h0, if_pos h1] at ew
          rw [ew] at h2
          have e : readV m = V.int 1 := by
            unfold readV readP
            rw [if_neg h0, if_pos h1]
            rfl
          rw [e] at q
          exact ⟨_, rfl, D, _, rfl, .inl (SqL.of h2), rfl, _, rfl, ite2 (fun h => absurd h (by decide)) (fun _ => ⟨_, rfl, D, _, rfl, .inl (SqL.of h2), rfl, _, rfl, ite2 (fun _ => ⟨_, rfl, D, _, _, _, rfl, rfl, SqL.of h2, at_of (j := 0) rfl rfl, q _ s02⟩) (fun h => absurd (by decide) h)⟩)⟩
        · rw [if_neg h0, if_neg h1] at ew
          rw [ew] at h2
          have e : readV m = V.non := by
            unfold readV readP
            rw [if_neg h0, if_neg h1]
          rw [e] at q
          exact ⟨_, rfl, D, _, rfl, .inl (SqL.of h2), rfl, _, rfl, ite2 (fun _ => q _ s02) (fun h => absurd (by decide) h)⟩
end
end Hw

set_option Elab.async false
set_option linter.all false
set_option maxRecDepth 100000
set_option maxHeartbeats 4000000
namespace Hw
open PySem PySem.Spec PyProof.Rows L2
/-! ### a list of writes -/
def wT (x : Nat × UInt8) : List V := [.int (x.1 : Nat), .int (x.2.toNat : Nat)]
structure Tups (H : Hp) (ts : List Addr) (ws : List (Nat × UInt8)) : Prop where
  len : ts.length = ws.length
  at_ : ∀ (i : Nat) (t : Addr), ts[i]? = some t → ∃ x, ws[i]? = some x ∧ H t = some (.tup (wT x))
theorem Tups.nil (H : Hp) : Tups H [] [] := ⟨rfl, fun i a h => by simp at h⟩
theorem Tups.same {H H' : Hp} {ts : List Addr} {ws : List (Nat × UInt8)} (R : Tups H ts ws) (s : Same H H') : Tups H' ts ws := ⟨R.len, fun i a h => by
  obtain ⟨l, h1, h2⟩ := R.at_ i a h
  exact ⟨l, h1, s _ _ h2⟩⟩
theorem Tups.keeps {H H' : Hp} {ts : List Addr} {ws : List (Nat × UInt8)} (R : Tups H ts ws) (s : ∀ a xs, H a = some (.tup xs) → H' a = some (.tup xs)) : Tups H' ts ws := ⟨R.len, fun i a h => by
  obtain ⟨l, h1, h2⟩ := R.at_ i a h
  exact ⟨l, h1, s _ _ h2⟩⟩
theorem Tups.off {H : Hp} {ts : List Addr} {ws : List (Nat × UInt8)} {o : Addr} {xs : List V} {u : HO} (R : Tups H ts ws) (ho : H o = some (.lst xs)) : Tups (upd H o u) ts ws := R.keeps fun a ys h => by
  rw [upd_ne (ne_of h ho (by intro z; cases z))]
  exact h
theorem Tups.snoc {H : Hp} {ts : List Addr} {ws : List (Nat × UInt8)} {t : Addr} {x : Nat × UInt8} (R : Tups H ts ws) (h : H t = some (.tup (wT x))) : Tups H (ts ++ [t]) (ws ++ [x]) := by
  refine ⟨by rw [List.length_append, List.length_append, R.len]; rfl, fun i b hb => ?_⟩
  rcases Nat.lt_or_ge i ts.length with q | q
  · rw [List.getElem?_append_left q] at hb
    obtain ⟨l', h1, h2⟩ := R.at_ i b hb
    exact ⟨l', by rw [List.getElem?_append_left (by rw [← R.len]; exact q)]; exact h1, h2⟩
  · rw [List.getElem?_append_right q] at hb
    have e : i - ts.length = 0 := by
      have := List.getElem?_eq_some_iff.mp hb
      obtain ⟨z, _⟩ := this
      simp at z
      omega
    rw [e] at hb
    have e2 : t = b := Option.some.inj hb
    subst e2
    refine ⟨x, ?_, h⟩
    rw [List.getElem?_append_right (by rw [← R.len]; exact q), ← R.len, e]
    rfl
theorem Tups.take {H : Hp} {ts : List Addr} {ws : List (Nat × UInt8)} (R : Tups H ts ws) (k : Nat) : Tups H (ts.take k) (ws.take k) := by
  refine ⟨by rw [List.length_take, List.length_take, R.len], fun i t h => ?_⟩
  have hi : i < k := by
    have := (List.getElem?_eq_some_iff.mp h).1
    rw [List.length_take] at this
    omega
  rw [List.getElem?_take_of_lt hi] at h ⊢
  exact R.at_ i t h
def RetT (H : Hp) (Q : VK) (ws : List (Nat × UInt8)) : Prop := ∀ (H' : Hp) (p : Addr) (ts : List Addr), Same H H' → H p = none → H' p = some (.lst (ts.map V.ref)) → Tups H' ts ws → Q (.ref p) H'
theorem places_il : ((List.range 252).map fun (i : Nat) => V.int (4 + (i : Int))) ++ [V.int 1, V.int 2, V.int 3, V.int 0] = IL (ni places) := by
  unfold places
  rw [← in_append]
  have e : ((List.range 252).map fun (i : Nat) => V.int (4 + (i : Int))) = IL (ni ((List.range 252).map fun i => 4 + i)) := by
    unfold ni IL
    rw [List.map_map, List.map_map]
    refine List.map_congr_left fun i _ => ?_
    show V.int (4 + (i : Int)) = V.int ((4 + i : Nat) : Int)
    congr 1
  rw [e]
  rfl
theorem places_len : places.length = 256 := by
  unfold places
  rw [List.length_append, List.length_map, List.length_range]
  rfl
theorem getD_at {b : Tilt.Bytes} {i : Nat} (h : i < b.length) : b[i]? = some (b.getD i 0) := by
  rw [List.getD_eq_getElem?_getD, List.getElem?_eq_getElem h]
  rfl
section
variable {P : Program} {w : World} {K : PySem.W.Frag} {mg : Str → Option Value} {base : Heap}
/-! ### writes_over -/
theorem wo_rest {H H2 : Hp} {Q : VK} {a b o : Addr} {new : Tilt.Bytes} {c : UInt8} {ts : List Addr} (hB : SqL K H b (IL (bi new))) (lb : new.length = 256) (q : RetT H Q (writesP c new)) (F2 : Fills H H2 o (ts.map V.ref)) (R2 : Tups H2 ts (if c = 0x54 then [(0, 0)] else [])) (l2 : ts.length ≤ 1) :
    tSeq (tFor (iList K (tOp rCat (tCB rLRng (tCons (tCB rRng (tCons (tC (V.int 4)) (tCons (tC (V.int 256)) tNil))) tNil)) (tLst (tCons (tC (V.int 1)) (tCons (tC (V.int 2)) (tCons (tC (V.int 3)) (tCons (tC (V.int 0)) tNil))))))) (gName 3)
      (tDrop (tBM K "list" rAppend (tVar 2) (tCons (tTup (tCons (tVar 3) (tCons (tOp (rIxL K) (tVar 1) (tVar 3)) tNil))) tNil)))) (tRet (tVar 2)) { nx := fun _ H' => Q V.non H', rt := Q } [some (.ref a), some (.ref b), some (.ref o), none] H2 := by
  refine ⟨_, _, rfl, fun rg hrg => ⟨rg, 4, 252, rfl, upd_same, ⟨by decide, by decide⟩, by decide, fun l1 h1 => ⟨by decide, fun l3 h3 => ⟨l1, l3, _, _, rfl, rfl, same_new (Same.refl _) h3 _ _ upd_same, upd_same, ?_, fun pl hpl => ⟨pl, rfl, ⟨_, SqL.of upd_same⟩, ?_⟩⟩⟩⟩⟩
  · rw [List.length_map, List.length_range]
    decide
  have g1 := same_new (o := .lst [V.int 1, V.int 2, V.int 3, V.int 0]) (same_new (o := .lst ((List.range 252).map fun (i : Nat) => V.int (4 + (i : Int)))) (same_new (o := .rng 4 256) (Same.refl H2) hrg) h1) h3
  have g2 := same_new (o := .lst (((List.range 252).map fun (i : Nat) => V.int (4 + (i : Int))) ++ [V.int 1, V.int 2, V.int 3, V.int 0])) g1 hpl
  have F3 := F2.more g2
  have R3 := R2.same g2
  have po : pl ≠ o := off_new (g1 _ _ F2.at_) hpl
  have kp : upd (upd (upd (upd H2 rg (.rng 4 256)) l1 (.lst ((List.range 252).map fun (i : Nat) => V.int (4 + (i : Int))))) l3 (.lst [V.int 1, V.int 2, V.int 3, V.int 0])) pl (.lst (((List.range 252).map fun (i : Nat) => V.int (4 + (i : Int))) ++ [V.int 1, V.int 2, V.int 3, V.int 0])) pl = some (.lst (IL (ni places))) := by rw [upd_same, places_il]
  clear g1 g2
  generalize upd (upd (upd (upd H2 rg (.rng 4 256)) l1 (.lst ((List.range 252).map fun (i : Nat) => V.int (4 + (i : Int))))) l3 (.lst [V.int 1, V.int 2, V.int 3, V.int 0])) pl (.lst (((List.range 252).map fun (i : Nat) => V.int (4 + (i : Int))) ++ [V.int 1, V.int 2, V.int 3, V.int 0])) = H3 at F3 R3 kp
  refine for_list (K := K) (a := pl) (xs := IL (ni places)) (fun i σ H' => ∃ (v : Option V) (ts : List Addr), σ = [some (.ref a), some (.ref b), some (.ref o), v] ∧ H' pl = some (.lst (IL (ni places))) ∧ Fills H H' o (ts.map V.ref) ∧ Tups H' ts ((if c = 0x54 then [(0, 0)] else []) ++ (places.take i).map fun i => (i, new.getD i 0)) ∧ ts.length ≤ i + 1)
    ⟨none, ts, rfl, kp, F3, by rw [List.take_zero, List.map_nil, List.append_nil]; exact R3, l2⟩ (fun i σ H' _ ⟨_, _, _, e, _⟩ => SqL.of e) ?_ ?_
  · rintro i x σ H4 hx ⟨v, ts', rfl, kp4, F4, R4, l4⟩
    obtain ⟨n, hn, rfl⟩ := ni_get hx
    have hi : i < 256 := by
      have := (List.getElem?_eq_some_iff.mp hn).1
      rw [places_len] at this
      exact this
    have hlt : n < 256 := places_lt n (List.mem_of_getElem? hn)
    refine ⟨_, rfl, .inl ⟨rfl, _, SqL.of F4.at_⟩, _, rfl, _, rfl, _, rfl, b, _, _, _, rfl, rfl, F4.same.seq hB, at_of (j := n) rfl (bi_at (getD_at (by omega))), (by show 2 ≤ sizeLine; decide), fun t ht => ⟨o, _, _, rfl, rfl, same_new (Same.refl H4) ht _ _ F4.at_, ?_, some (.int n), ts' ++ [t], rfl, ?_, ?_, ?_, ?_⟩⟩
    · rw [List.length_map, size_is]
      omega
    · rw [upd_ne po]
      exact same_new (Same.refl H4) ht _ _ kp4
    · rw [List.map_append]
      exact (F4.more (same_new (Same.refl H4) ht)).put
    · rw [take_snoc hn, List.map_append, ← List.append_assoc]
      exact ((R4.same (same_new (Same.refl H4) ht)).snoc (x := (n, new.getD n 0)) upd_same).off (same_new (Same.refl H4) ht _ _ F4.at_)
    · rw [List.length_append]
      show _ + 1 ≤ _
      omega
  · rintro σ H4 ⟨v, ts', rfl, _, F4, R4, _⟩
    rw [in_len, List.take_length] at R4
    exact ⟨_, rfl, q _ o ts' F4.same F4.new F4.at_ R4⟩
def sp_writes_over (K : PySem.W.Frag) : Sp := fun vs H Q _ => ∃ (a b : Addr) (old new : Tilt.Bytes), vs = [.ref a, .ref b] ∧ SqL K H a (IL (bi old)) ∧ SqL K H b (IL (bi new)) ∧ old.length = 256 ∧ new.length = 256 ∧ RetT H Q (writesP (old.getD 0 0) new)
theorem sc_writes_over : FnScope ["old", "new", "writes", "place"] ["old", "new"] (defScope (top 48)) := ⟨rfl, rfl, rfl, by decide +kernel, rfl, by decide +kernel, by decide +kernel⟩
theorem ok_writes_over {f : Addr} {fd : FuncData} (F : Df K mg "writes_over" (top 48) f fd) (T : Txt K mg) : Fn P w K mg base "writes_over" 1 ["old", "new"] (sp_writes_over K) := by
  refine ⟨f, fd, F.mg_, F.fn.kp, F.fn.binds fun _ _ _ _ _ _ us hl => match us, hl with | [_, _], _ => rfl, F.fn.ok sc_writes_over (fun vs H Q E h => ?_) (fun cdv A outer s H vs Q E hr h => ?_)⟩
  · obtain ⟨a, b, old, new, rfl, _⟩ := h
    rfl
  · obtain ⟨a, b, old, new, rfl, hA, hB, la, lb, q⟩ := h
    obtain ⟨M, GM⟩ := T.MARK
    refine ⟨_, pss_cons (ps_set (i := 2) sc_writes_over.nd rfl (Or.inl rfl) (pe_lst pa_nil))
      (pss_cons (ps_if (pt_cmpR op_eq (pe_ix ix_list (pv 0) pe_int (fun _ _ => rfl)) (pe_ix ix_tup (pe_gt GM) pe_int (fun _ _ => rfl)) (nomark _))
        (pss_one (ps_expr (pe_bm PySem.F.plainAttrs_list PySem.F.slot_list_append PySem.F.type_list_append mt_append (pv 2) (pa_cons (pe_tup (pa_cons pe_int (pa_cons pe_int pa_nil))) pa_nil)))) pss_nil)
      (pss_cons (ps_for PassesOwn.never rfl (pi_list (pe_op op_cat (pe_callTy (call_list_rng rfl) rfl T.list (by decide +kernel) (pa_cons (pe_callTy call_rng rfl T.range (by decide +kernel) (pa_cons pe_int (pa_cons (pe_gi T.HALF_SIZE) pa_nil))) pa_nil)) (pe_lst (pa_cons pe_int (pa_cons pe_int (pa_cons pe_int (pa_cons pe_int pa_nil))))))) (pg_name (i := 3) sc_writes_over.nd rfl (Or.inl rfl))
        (pss_one (ps_expr (pe_bm PySem.F.plainAttrs_list PySem.F.slot_list_append PySem.F.type_list_append mt_append (pv 2) (pa_cons (pe_tup (pa_cons (pv 3) (pa_cons (pe_ix ix_list (pv 1) (pv 3) (fun _ _ => rfl)) pa_nil))) pa_nil)))))
      (pss_one (ps_ret (pv 2))))), ?_⟩
    refine ⟨Nat.zero_le _, fun o ho => ?_⟩
    have F0 : Fills H (upd H o (.lst [])) o (([] : List Addr).map V.ref) := Fills.start ho
    have R0 : Tups (upd H o (.lst [])) [] [] := Tups.nil _
    generalize upd H o (.lst []) = H1 at F0 R0
    have h0 := getD_at (b := old) (i := 0) (by omega)
    generalize hc : old.getD 0 0 = c at h0 q
    refine ⟨_, rfl, a, _, _, _, rfl, rfl, F0.same.seq hA, at_of (j := 0) rfl (bi_at h0), M, _, _, _, rfl, rfl, GM.2 _, at_of (j := 0) rfl rfl, rfl, _, rfl, ite2 (fun h => ?_) (fun h => ?_)⟩
    · have e1 : V.int ((c.toNat : Nat) : Int) = V.int 84 := of_decide_eq_true h
      injection e1 with e1
      have ec : c = 0x54 := UInt8.toNat_inj.mp (show c.toNat = 84 by omega)
      refine ⟨_, rfl, .inl ⟨rfl, _, SqL.of F0.at_⟩, by decide, fun t ht => ⟨o, _, _, rfl, rfl, same_new (Same.refl H1) ht _ _ F0.at_, by decide, ?_⟩⟩
      have F1 := F0.more (same_new (o := .tup [V.int 0, V.int 0]) (Same.refl H1) ht)
      have F2 := F1.put (ys := ([] ++ [t]).map V.ref)
      have R2 : Tups (upd (upd H1 t (.tup [V.int 0, V.int 0])) o (.lst (([] ++ [t]).map V.ref))) ([] ++ [t]) [(0, 0)] := ((R0.same (same_new (Same.refl H1) ht)).snoc (x := (0, 0)) upd_same).off F1.at_
      have ep : (if c = 0x54 then [((0 : Nat), (0 : UInt8))] else []) = [(0, 0)] := if_pos ec
      rw [← ep] at R2
      exact wo_rest hB lb q F2 R2 (Nat.le_refl _)
    · have ec : ¬ c = 0x54 := fun z => h (by rw [z]; rfl)
      have ep : (if c = 0x54 then [((0 : Nat), (0 : UInt8))] else []) = [] := if_neg ec
      rw [← ep] at R0
      exact wo_rest hB lb q F0 R0 (Nat.zero_le _)
end
end Hw

set_option Elab.async false
set_option linter.all false
set_option maxRecDepth 100000
set_option maxHeartbeats 4000000
namespace Hw
open PySem PySem.Spec PyProof.Rows L2
section
variable {P : Program} {w : World} {K : PySem.W.Frag} {mg : Str → Option Value} {base : Heap}
/-! ### writes_until_cut -/
def cutW (ws : List (Nat × UInt8)) (k : Nat) (x : UInt8) : List (Nat × UInt8) := ws.take k ++ (match ws[k]? with
  | some y => [(y.1, x)]
  | none => [])
def sp_writes_until_cut (K : PySem.W.Frag) : Sp := fun vs H Q _ => ∃ (p : Addr) (ts : List Addr) (ws : List (Nat × UInt8)) (k : Nat) (x : UInt8), vs = [.ref p, .int k, .int (x.toNat : Nat)] ∧ SqL K H p (ts.map V.ref) ∧ Tups H ts ws ∧ ws.length ≤ 257 ∧ RetT H Q (cutW ws k x)
theorem sc_writes_until_cut : FnScope ["writes", "k", "x", "done"] ["writes", "k", "x"] (defScope (top 49)) := ⟨rfl, rfl, rfl, by decide +kernel, rfl, by decide +kernel, by decide +kernel⟩
theorem ok_writes_until_cut {f : Addr} {fd : FuncData} (F : Df K mg "writes_until_cut" (top 49) f fd) (T : Txt K mg) : Fn P w K mg base "writes_until_cut" 1 ["writes", "k", "x"] (sp_writes_until_cut K) := by
  refine ⟨f, fd, F.mg_, F.fn.kp, F.fn.binds fun _ _ _ _ _ _ us hl => match us, hl with | [_, _, _], _ => rfl, F.fn.ok sc_writes_until_cut (fun vs H Q E h => ?_) (fun cdv A outer s H vs Q E hr h => ?_)⟩
  · obtain ⟨p, ts, ws, k, x, rfl, _⟩ := h
    rfl
  · obtain ⟨p, ts, ws, k, x, rfl, hS, R, lw, q⟩ := h
    refine ⟨_, pss_cons (ps_set (i := 3) sc_writes_until_cut.nd rfl (Or.inl rfl) (pe_slice sl_list (pv 0) po_none (po_some (pv 1))))
      (pss_cons (ps_if (pt_cmpR op_lt (pv 1) (pe_callB call_len_seq rfl T.len PySem.boot_len (pa_cons (pv 0) pa_nil)) (nomark _))
        (pss_one (ps_expr (pe_bm PySem.F.plainAttrs_list PySem.F.slot_list_append PySem.F.type_list_append mt_append (pv 3) (pa_cons (pe_tup (pa_cons (pe_ix ix_tup (pe_ix ix_list (pv 0) (pv 1) (fun _ _ => rfl)) pe_int (fun _ _ => rfl)) (pa_cons (pv 2) pa_nil))) pa_nil)))) pss_nil)
      (pss_one (ps_ret (pv 3)))), ?_⟩
    have hlen := R.len
    refine ⟨_, rfl, _, rfl, _, rfl, p, _, rfl, hS, fun o ho => ?_⟩
    have e1 : cutV (ts.map V.ref) none (some (k : Int)) = (ts.take k).map V.ref := by rw [cutV_to, List.map_take]
    rw [e1]
    have F0 : Fills H (upd H o (.lst ((ts.take k).map V.ref))) o ((ts.take k).map V.ref) := Fills.start ho
    have R0 : Tups (upd H o (.lst ((ts.take k).map V.ref))) ts ws := R.same F0.same
    show tSeq _ _ _ _ _
    generalize upd H o (.lst ((ts.take k).map V.ref)) = H1 at F0 R0
    refine ⟨_, rfl, _, rfl, p, _, rfl, .inl (F0.same.seq hS), _, _, rfl, rfl, _, rfl, ite2 (fun h => ?_) (fun h => ?_)⟩
    · have hk : k < ts.length := by
        have := of_decide_eq_true h
        rw [List.length_map] at this
        omega
      obtain ⟨t, ht⟩ : ∃ t, ts[k]? = some t := ⟨_, List.getElem?_eq_getElem hk⟩
      obtain ⟨y, hy, hty⟩ := R0.at_ k t ht
      have ec : cutW ws k x = ws.take k ++ [(y.1, x)] := by
        unfold cutW
        rw [hy]
      rw [ec] at q
      refine ⟨_, rfl, .inl ⟨rfl, _, SqL.of F0.at_⟩, _, rfl, _, rfl, p, _, _, _, rfl, rfl, F0.same.seq hS, at_of (j := k) rfl (by rw [List.getElem?_map, ht]; rfl), t, _, _, _, rfl, rfl, SqT.of hty, at_of (j := 0) rfl rfl, _, rfl, (by show 2 ≤ sizeLine; decide), fun n hn => ⟨o, _, _, rfl, rfl, same_new (Same.refl H1) hn _ _ F0.at_, ?_, ?_⟩⟩
      · rw [List.length_map, List.length_take, size_is]
        omega
      · refine ⟨_, rfl, ?_⟩
        have g := same_new (o := .tup [V.int (y.1 : Nat), V.int (x.toNat : Nat)]) (Same.refl H1) hn
        have F2 := (F0.more g).put (ys := (ts.take k).map V.ref ++ [V.ref n])
        refine q _ o (ts.take k ++ [n]) F2.same F2.new (by rw [List.map_append]; exact F2.at_) ?_
        exact ((((R0.take k).same g).snoc (x := (y.1, x)) upd_same).off (g _ _ F0.at_))
    · have hk : ts.length ≤ k := by
        rcases Nat.lt_or_ge k ts.length with z | z
        · exact absurd (decide_eq_true (show (k : Int) < (((ts.map V.ref).length : Nat) : Int) by rw [List.length_map]; omega)) h
        · exact z
      have ec : cutW ws k x = ws.take k := by
        unfold cutW
        rw [List.getElem?_eq_none (by omega), List.append_nil]
      rw [ec] at q
      exact ⟨_, rfl, q _ o (ts.take k) F0.same F0.new F0.at_ (R0.take k)⟩
/-! ### the class Plan -/
def pf (h : Nat) (p : Addr) : List (Str × V) := [("half", .int (h : Nat)), ("writes", .ref p)]
structure PlanT (K : PySem.W.Frag) (mg : Str → Option Value) (C : Addr) : Prop where
  cl : Cls K C
  nH : NoAttr K C "half"
  nW : NoAttr K C "writes"
  mgC : mg "Plan" = some (.ref C)
def wsOf (m : Tilt.Bytes) (r : Raw) : List (Nat × UInt8) := writesP ((Tilt.half m (targetP m).1).getD 0 0) (Tilt.halfOf (targetP m).2 r.toC)
def spPlan (K : PySem.W.Frag) (C : Addr) : Sp := fun vs H Q _ => ∃ (p a c dx : Addr) (m : Tilt.Bytes) (r : Raw), vs = [.ref p, .ref a, .ref c] ∧ H p = some (.ins C dx []) ∧ SqL K H a (IL (bi m)) ∧ m.length = 512 ∧ Shape r ∧ rightP r = true ∧ SqL K H c (IL (ni r.nums)) ∧
  ∀ (H' : Hp) (o : Addr) (ts : List Addr), H' p = some (.ins C dx (pf (targetP m).1 o)) → H' o = some (.lst (ts.map V.ref)) → H o = none → Tups H' ts (wsOf m r) → (∀ b u, H b = some u → b ≠ p → H' b = some u) → Q .non H'
theorem sc_plan_init : FnScope ["self", "octets", "content", "read", "number"] ["self", "octets", "content"] (defScope (inClass (top 50) 0)) := ⟨rfl, rfl, rfl, by decide +kernel, rfl, by decide +kernel, by decide +kernel⟩
theorem seq_off {K : PySem.W.Frag} {H : Hp} {a p : Addr} {xs : List V} {C dx : Addr} {fs : List (Str × V)} {u : HO} (h : SqL K H a xs) (hp : H p = some (.ins C dx fs)) : SqL K (upd H p u) a xs := by
  rcases h with (h | ⟨o, h⟩) | h
  · exact .inl (.inl (by rw [upd_ne (ne_of h hp (by intro z; cases z))]; exact h))
  · exact .inl (.inr ⟨o, by rw [upd_ne (ne_of h hp (by intro z; cases z))]; exact h⟩)
  · exact .inr h
theorem plan_rest {H0 H : Hp} {Q : VK} {p a c dx C : Addr} {m : Tilt.Bytes} {r : Raw} {rv hv nv : V} (PT : PlanT K mg C) (eh : hv = V.int ((targetP m).1 : Nat)) (en : nv = V.int ((targetP m).2 : Nat)) (hp : H p = some (.ins C dx [("half", hv)])) (hA : SqL K H a (IL (bi m))) (hm : m.length = 512) (S : Shape r) (hR : rightP r = true) (hC : SqL K H c (IL (ni r.nums)))
    (s0 : ∀ b u, H0 b = some u → b ≠ p → H b = some u) (n0 : ∀ b, H b = none → H0 b = none)
    (q : ∀ (H' : Hp) (o : Addr) (ts : List Addr), H' p = some (.ins C dx (pf (targetP m).1 o)) → H' o = some (.lst (ts.map V.ref)) → H0 o = none → Tups H' ts (wsOf m r) → (∀ b u, H0 b = some u → b ≠ p → H' b = some u) → Q .non H') :
    sFld K (tVar 0) (tCall (sp_writes_over K) [] E0 (tCons (tCall (sp_half_at K) [] E0 (tCons (tVar 1) (tCons (tFld K (tVar 0) "half") tNil))) (tCons (tCall (sp_new_half K) [] E0 (tCons (tVar 4) (tCons (tVar 2) tNil))) tNil))) "writes"
      { nx := fun _ H' => Q V.non H', rt := Q } [some (.ref p), some (.ref a), some (.ref c), some rv, some nv] H := by
  subst eh en
  have ht := targetP_le m
  refine ⟨_, rfl, _, rfl, p, C, dx, _, _, rfl, hp, PT.cl, PT.nH, rfl, a, m, (targetP m).1, rfl, ht, hA, fun H1 o1 s1 _ h1 => ⟨_, rfl, _, rfl, (targetP m).2, c, r, rfl, S, hR, s1.seq hC, fun H2 o2 s2 _ h2 => ⟨o1, o2, _, _, rfl, SqL.of (s2 _ _ h1), SqL.of h2, half_len hm ht, half_length _ (form_length S), fun H3 o ts s3 n3 h3 R3 => ?_⟩⟩⟩
  have s13 := (s1.trans s2).trans s3
  have hp3 := s13 _ _ hp
  have no : o ≠ p := ne_of h3 hp3 (by intro z; cases z)
  refine ⟨_, rfl, p, C, dx, _, rfl, hp3, PT.cl, PT.nW, (by show 1 < 1000; decide), ?_⟩
  refine q _ o ts upd_same ?_ (n0 o ((s1.trans s2).free n3)) ?_ ?_
  · rw [upd_ne no]
    exact h3
  · exact R3.keeps fun b xs hb => by
      rw [upd_ne (ne_of hb hp3 (by intro z; cases z))]
      exact hb
  · intro b u hb hne
    rw [upd_ne hne]
    exact s13 _ _ (s0 b u hb hne)
theorem ok_plan_init {f C : Addr} {fd : FuncData} (F : Fun K "__init__" "Plan.__init__" (inClass (top 50) 0) f fd) (T : Txt K mg) (PT : PlanT K mg C) (G1 : Fn P w K mg base "half_read" 6 ["octets"] (sp_half_read K)) (G2 : Fn P w K mg base "number_behind" 3 ["half_octets"] (sp_number_behind K)) (G3 : Fn P w K mg base "half_at" 1 ["octets", "half"] (sp_half_at K))
    (G4 : Fn P w K mg base "writes_over" 1 ["old", "new"] (sp_writes_over K)) (G5 : Fn P w K mg base "new_half" 3 ["number", "content"] (sp_new_half K)) : FnOk P w K mg base CX0 7 f fd ["self", "octets", "content"] (spPlan K C) := by
  refine F.ok sc_plan_init (fun vs H Q E h => ?_) (fun cdv A outer s H vs Q E hr h => ?_)
  · obtain ⟨p, a, c, dx, m, r, rfl, _⟩ := h
    rfl
  · obtain ⟨p, a, c, dx, m, r, rfl, hp, hA, hm, S, hR, hC, q⟩ := h
    refine ⟨_, pss_cons (ps_set (i := 3) sc_plan_init.nd rfl (Or.inl rfl) (pe_fn G1 hr rfl (pa_cons (pv 1) pa_nil)))
      (pss_cons (ps_fld (pv 0) (pe_ifExp (pt_cmp (pc_isN (pv 3))) pe_int (pe_op op_sub pe_int (pv 3))) rfl)
      (pss_cons (ps_set (i := 4) sc_plan_init.nd rfl (Or.inl rfl) (pe_ifExp (pt_cmp (pc_isN (pv 3))) pe_int (pe_fn G2 hr rfl (pa_cons (pe_fn G3 hr rfl (pa_cons (pv 1) (pa_cons (pv 3) pa_nil))) pa_nil))))
      (pss_one (ps_fld (pv 0) (pe_fn G4 hr rfl (pa_cons (pe_fn G3 hr rfl (pa_cons (pv 1) (pa_cons (pe_fld (pv 0) rfl) pa_nil))) (pa_cons (pe_fn G5 hr rfl (pa_cons (pv 4) (pa_cons (pv 2) pa_nil))) pa_nil))) rfl)))), ?_⟩
    refine ⟨_, rfl, a, m, rfl, hA, hm, fun H1 s1 => ?_⟩
    have hp1 := s1 _ _ hp
    cases er : readP m with
    | none =>
      have ev : readV m = V.non := by
        unfold readV
        rw [er]
      have et : targetP m = (0, 0) := by
        unfold targetP
        rw [er]
      rw [ev]
      refine ⟨_, rfl, _, rfl, ite2 (fun _ => ⟨_, rfl, p, C, dx, _, rfl, hp1, PT.cl, PT.nH, (by show 0 < 1000; decide), _, rfl, _, rfl, ite2 (fun _ => ?_) (fun h => absurd (by decide) h)⟩) (fun h => absurd (by decide) h)⟩
      refine plan_rest (m := m) (r := r) (H0 := H) PT (by rw [et]; rfl) (by rw [et]; rfl) upd_same (seq_off (s1.seq hA) hp1) hm S hR (seq_off (s1.seq hC) hp1) ?_ ?_ q
      · intro b u hb hne
        rw [upd_ne hne]
        exact s1 _ _ hb
      · intro b hb
        by_cases z : b = p
        · rw [z, upd_same] at hb
          cases hb
        · rw [upd_ne z] at hb
          exact s1.free hb
    | some h =>
      have ev : readV m = V.int (h : Nat) := by
        unfold readV
        rw [er]
      have et : targetP m = (1 - h, (numIn (Tilt.half m h) + 1) % 2 ^ 32) := by
        unfold targetP
        rw [er]
      have hle := (readP_le er).1
      rw [ev]
      refine ⟨_, rfl, _, rfl, ite2 (fun z => absurd (of_decide_eq_true z) (by intro y; cases y)) (fun _ => ⟨_, rfl, _, _, rfl, rfl, _, rfl, p, C, dx, _, rfl, hp1, PT.cl, PT.nH, (by show 0 < 1000; decide), _, rfl, _, rfl, ite2 (fun z => absurd (of_decide_eq_true z) (by intro y; cases y)) (fun _ => ?_)⟩)⟩
      refine ⟨_, rfl, _, rfl, a, m, h, rfl, hle, seq_off (s1.seq hA) hp1, fun H2 o2 s2 _ h2 => ⟨o2, Tilt.half m h, rfl, SqL.of h2, fun H3 s3 => ?_⟩⟩
      have s23 := s2.trans s3
      refine plan_rest (m := m) (r := r) (H0 := H) PT ?_ (by rw [et]) (s23 _ _ upd_same) (s23.seq (seq_off (s1.seq hA) hp1)) hm S hR (s23.seq (seq_off (s1.seq hC) hp1)) ?_ ?_ q
      · rw [et]
        show V.int (1 - (h : Int)) = V.int ((1 - h : Nat) : Int)
        congr 1
        omega
      · intro b u hb hne
        refine s23 _ _ ?_
        rw [upd_ne hne]
        exact s1 _ _ hb
      · intro b hb
        have hb := s23.free hb
        by_cases z : b = p
        · rw [z, upd_same] at hb
          cases hb
        · rw [upd_ne z] at hb
          exact s1.free hb
end
end Hw

set_option Elab.async false
set_option linter.all false
set_option maxRecDepth 100000
set_option maxHeartbeats 4000000
namespace Hw
open PySem PySem.Spec PyProof.Rows L2
/-! ### the class Memory -/
def mf (l : Addr) : List (Str × V) := [("octets", .ref l)]
structure MemT (K : PySem.W.Frag) (mg : Str → Option Value) (C : Addr) : Prop where
  cl : Cls K C
  nO : NoAttr K C "octets"
  mgC : mg "Memory" = some (.ref C)
/-- a Memory at p, its bytes m in the list at l -/
structure MemAt (C : Addr) (H : Hp) (p dx l : Addr) (m : Tilt.Bytes) : Prop where
  ins : H p = some (.ins C dx (mf l))
  lst : H l = some (.lst (IL (bi m)))
  len : m.length = 512
/-- a method of C -/
structure Mt (P : Program) (w : World) (K : PySem.W.Frag) (mg : Str → Option Value) (base : Heap) (C : Addr) (x : Str) (k : Nat) (ps : List Str) (sp : Sp) : Prop where
  ex : ∃ f fd, Meth K C x f ∧ Binds K fd ps [] ∧ FnOk P w K mg base CX0 k f fd ps sp
structure Md (K : PySem.W.Frag) (C : Addr) (x qual : Str) (st : Stmt) (f : Addr) (fd : FuncData) : Prop where
  fn : Fun K x qual st f fd
  mt : Meth K C x f
theorem MemAt.same {C : Addr} {H H' : Hp} {p dx l : Addr} {m : Tilt.Bytes} (M : MemAt C H p dx l m) (s : Same H H') : MemAt C H' p dx l m := ⟨s _ _ M.ins, s _ _ M.lst, M.len⟩
/-- what a method leaves: the Memory with m', a list of answers -/
def RetM (C p l : Addr) (H : Hp) (Q : VK) (m' : Tilt.Bytes) (ans : List Int) : Prop :=
  ∀ (H' : Hp) (q dx' l' : Addr), MemAt C H' p dx' l' m' → H' q = some (.lst (IL ans)) → (l' = l ∨ H l' = none) → (∀ b u, H b = some u → b ≠ p → b ≠ l → H' b = some u) → Q (.ref q) H'
theorem retM_same {C p dx l : Addr} {H H' : Hp} {Q : VK} {m : Tilt.Bytes} {ans : List Int} {q : Addr} (k : RetM C p l H Q m ans) (M : MemAt C H p dx l m) (s : Same H H') (hq : H' q = some (.lst (IL ans))) : Q (.ref q) H' :=
  k H' q dx l (M.same s) hq (.inl rfl) fun b u e _ _ => s b u e
section
variable {P : Program} {w : World} {K : PySem.W.Frag} {mg : Str → Option Value} {base : Heap}
/-! ### Memory.__init__ -/
def spMem (C : Addr) : Sp := fun vs H Q _ => ∃ (p dx : Addr), vs = [.ref p] ∧ H p = some (.ins C dx []) ∧ ∀ (H' : Hp) (l : Addr), MemAt C H' p dx l TiltKeepCalls.start → H l = none → (∀ b u, H b = some u → b ≠ p → H' b = some u) → Q .non H'
theorem sc_mem_init : FnScope ["self"] ["self"] (defScope (inClass (top 51) 0)) := ⟨rfl, rfl, rfl, by decide +kernel, rfl, by decide +kernel, by decide +kernel⟩
theorem ok_mem_init {f C : Addr} {fd : FuncData} (F : Fun K "__init__" "Memory.__init__" (inClass (top 51) 0) f fd) (T : Txt K mg) (MT : MemT K mg C) : FnOk P w K mg base CX0 1 f fd ["self"] (spMem C) := by
  refine F.ok sc_mem_init (fun vs H Q E h => ?_) (fun cdv A outer s H vs Q E hr h => ?_)
  · obtain ⟨p, dx, rfl, _⟩ := h
    rfl
  · obtain ⟨p, dx, rfl, hp, q⟩ := h
    refine ⟨_, pss_one (ps_fld (pv 0) (pe_op op_rep (pe_lst (pa_cons pe_int pa_nil)) (pe_gi T.MEMORY_SIZE)) rfl), ?_⟩
    refine ⟨by decide, fun c1 h1 => ⟨c1, 512, _, rfl, rfl, upd_same, by decide, by decide, by decide, fun l hl => ?_⟩⟩
    have e : (List.replicate (512 : Int).toNat [V.int 0]).flatten = IL (bi TiltKeepCalls.start) := rep0 512
    rw [e]
    have g := same_new (o := .lst (IL (bi TiltKeepCalls.start))) (same_new (o := .lst [V.int 0]) (Same.refl H) h1) hl
    have hp2 := g _ _ hp
    have kl : upd (upd H c1 (.lst [V.int 0])) l (.lst (IL (bi TiltKeepCalls.start))) l = some (.lst (IL (bi TiltKeepCalls.start))) := upd_same
    have nl : H l = none := (same_new (o := .lst [V.int 0]) (Same.refl H) h1).free hl
    generalize upd (upd H c1 (.lst [V.int 0])) l (.lst (IL (bi TiltKeepCalls.start))) = H1 at g hp2 kl
    refine ⟨_, rfl, p, C, dx, _, rfl, hp2, MT.cl, MT.nO, (by show 0 < 1000; decide), ?_⟩
    refine q _ l ⟨upd_same, ?_, List.length_replicate ..⟩ nl ?_
    · rw [upd_ne (ne_of kl hp2 (by intro z; cases z))]
      exact kl
    · intro b u hb hne
      rw [upd_ne hne]
      exact g _ _ hb
/-! ### load -/
def spLoad (K : PySem.W.Frag) (C : Addr) : Sp := fun vs H Q _ => ∃ (p dx l a : Addr) (m b : Tilt.Bytes), vs = [.ref p, .ref a] ∧ MemAt C H p dx l m ∧ SqL K H a (IL (bi b)) ∧ RetM C p l H Q (if b.length = 512 then b else m) (if b.length = 512 then [0] else [-1])
theorem sc_load : FnScope ["self", "octets"] ["self", "octets"] (defScope (inClass (top 51) 1)) := ⟨rfl, rfl, rfl, by decide +kernel, rfl, by decide +kernel, by decide +kernel⟩
theorem ok_load {f C : Addr} {fd : FuncData} (F : Md K C "load" "Memory.load" (inClass (top 51) 1) f fd) (T : Txt K mg) (MT : MemT K mg C) : Mt P w K mg base C "load" 1 ["self", "octets"] (spLoad K C) := by
  refine ⟨f, fd, F.mt, F.fn.binds fun _ _ _ _ _ _ us hl => match us, hl with | [_, _], _ => rfl, F.fn.ok sc_load (fun vs H Q E h => ?_) (fun cdv A outer s H vs Q E hr h => ?_)⟩
  · obtain ⟨p, dx, l, a, m, b, rfl, _⟩ := h
    rfl
  · obtain ⟨p, dx, l, a, m, b, rfl, M, hA, q⟩ := h
    refine ⟨_, pss_cons (ps_if (pt_cmpR op_ne (pe_callB call_len_seq rfl T.len PySem.boot_len (pa_cons (pv 1) pa_nil)) (pe_gi T.MEMORY_SIZE) (nomark _)) (pss_one (ps_ret (pe_lst (pa_cons (pe_gi T.NOT_512) pa_nil)))) pss_nil)
      (pss_cons (ps_fld (pv 0) (pe_callTy call_list_of rfl T.list (by decide +kernel) (pa_cons (pv 1) pa_nil)) rfl)
      (pss_one (ps_ret (pe_lst (pa_cons (pe_gi T.DONE) pa_nil))))), ?_⟩
    refine ⟨_, rfl, a, _, rfl, .inl hA, rfl, _, rfl, ite2 (fun h => ?_) (fun h => ?_)⟩
    · have hne : ¬ b.length = 512 := fun z => by
        have e : V.int (((IL (bi b)).length : Nat) : Int) = V.int 512 := by rw [ib_len, z]; rfl
        rw [decide_eq_true e] at h
        cases h
      rw [if_neg hne, if_neg hne] at q
      exact ⟨by decide, fun o ho => retM_same q M (same_new (Same.refl H) ho) upd_same⟩
    · have he : b.length = 512 := by
        by_cases z : b.length = 512
        · exact z
        · refine absurd ?_ h
          have e : ¬ V.int (((IL (bi b)).length : Nat) : Int) = V.int 512 := fun y => by
            injection y with y
            rw [ib_len] at y
            omega
          rw [decide_eq_false e]
          rfl
      rw [if_pos he, if_pos he] at q
      refine ⟨_, rfl, a, _, rfl, .inl hA, fun l' hl' => ⟨_, rfl, p, C, dx, _, rfl, same_new (Same.refl H) hl' _ _ M.ins, MT.cl, MT.nO, (by show 1 < 1000; decide), by decide, fun o ho => ?_⟩⟩
      have g1 := same_new (o := .lst (IL (bi b))) (Same.refl H) hl'
      have hp1 := g1 _ _ M.ins
      have nl : l' ≠ p := Ne.symm (ne_of_none M.ins hl')
      have np : p ≠ o := fun z => by
        rw [← z, upd_same] at ho
        cases ho
      have no : l' ≠ o := fun z => by
        rw [← z, upd_ne nl, upd_same] at ho
        cases ho
      refine q _ o dx l' ⟨?_, ?_, he⟩ upd_same (.inr hl') ?_
      · rw [upd_ne np, upd_same]
        rfl
      · rw [upd_ne no, upd_ne nl, upd_same]
      · intro b' u hb hnp _
        have nb : b' ≠ o := fun z => by
          rw [← z, upd_ne hnp, upd_ne (ne_of_none hb hl'), hb] at ho
          cases ho
        rw [upd_ne nb, upd_ne hnp]
        exact g1 _ _ hb
/-! ### bytes_of -/
def spBytes (C : Addr) : Sp := fun vs H Q _ => ∃ (p dx l : Addr) (m : Tilt.Bytes), vs = [.ref p] ∧ MemAt C H p dx l m ∧ RetM C p l H Q m (0 :: bi m)
theorem sc_bytes_of : FnScope ["self"] ["self"] (defScope (inClass (top 51) 6)) := ⟨rfl, rfl, rfl, by decide +kernel, rfl, by decide +kernel, by decide +kernel⟩
theorem ok_bytes_of {f C : Addr} {fd : FuncData} (F : Md K C "bytes_of" "Memory.bytes_of" (inClass (top 51) 6) f fd) (T : Txt K mg) (MT : MemT K mg C) : Mt P w K mg base C "bytes_of" 1 ["self"] (spBytes C) := by
  refine ⟨f, fd, F.mt, F.fn.binds fun _ _ _ _ _ _ us hl => match us, hl with | [_], _ => rfl, F.fn.ok sc_bytes_of (fun vs H Q E h => ?_) (fun cdv A outer s H vs Q E hr h => ?_)⟩
  · obtain ⟨p, dx, l, m, rfl, _⟩ := h
    rfl
  · obtain ⟨p, dx, l, m, rfl, M, q⟩ := h
    refine ⟨_, pss_one (ps_ret (pe_op op_cat (pe_lst (pa_cons (pe_gi T.DONE) pa_nil)) (pe_fld (pv 0) rfl))), ?_⟩
    refine ⟨by decide, fun c1 h1 => ?_⟩
    have g1 := same_new (o := .lst [V.int 0]) (Same.refl H) h1
    refine ⟨_, rfl, p, C, dx, _, _, rfl, g1 _ _ M.ins, MT.cl, MT.nO, rfl, c1, l, _, _, rfl, rfl, upd_same, g1 _ _ M.lst, ?_, fun o ho => ?_⟩
    · rw [ib_len, M.len]
      decide
    · exact retM_same q M (same_new g1 ho) upd_same
/-! ### write -/
def spWrite (C : Addr) : Sp := fun vs H Q _ => ∃ (p dx l a : Addr) (m : Tilt.Bytes) (h : Nat) (ts : List Addr) (ws : List (Nat × UInt8)), vs = [.ref p, .int (h : Nat), .ref a] ∧ MemAt C H p dx l m ∧ h ≤ 1 ∧ H a = some (.lst (ts.map V.ref)) ∧ Tups H ts ws ∧ (∀ x ∈ ws, x.1 < 256) ∧
  ∀ H' : Hp, MemAt C H' p dx l (Tilt.written m h ws) → (∀ b u, H b = some u → b ≠ l → H' b = some u) → Q .non H'
theorem sc_write : FnScope ["self", "half", "writes", "place", "octet"] ["self", "half", "writes"] (defScope (inClass (top 51) 7)) := ⟨rfl, rfl, rfl, by decide +kernel, rfl, by decide +kernel, by decide +kernel⟩
theorem ok_write {f C : Addr} {fd : FuncData} (F : Md K C "write" "Memory.write" (inClass (top 51) 7) f fd) (T : Txt K mg) (MT : MemT K mg C) : Mt P w K mg base C "write" 1 ["self", "half", "writes"] (spWrite C) := by
  refine ⟨f, fd, F.mt, F.fn.binds fun _ _ _ _ _ _ us hl => match us, hl with | [_, _, _], _ => rfl, F.fn.ok sc_write (fun vs H Q E h => ?_) (fun cdv A outer s H vs Q E hr h => ?_)⟩
  · obtain ⟨p, dx, l, a, m, h, ts, ws, rfl, _⟩ := h
    rfl
  · obtain ⟨p, dx, l, a, m, h, ts, ws, rfl, M, hh, hA, R, hw, q⟩ := h
    refine ⟨_, pss_one (ps_for PassesOwn.never rfl (pi_list (pv 2)) (pg_tup rfl (pgs_cons (pg_name (i := 3) sc_write.nd rfl (Or.inl rfl)) (pgs_cons (pg_name (i := 4) sc_write.nd rfl (Or.inl rfl)) pgs_nil)))
      (pss_one (ps_asg (pv 4) (pg_sub (pe_fld (pv 0) rfl) (pe_op op_add (pe_op op_mul (pv 1) (pe_gi T.HALF_SIZE)) (pv 3)) set_list)))), ?_⟩
    have nal : a ≠ l := ne_of hA M.lst (fun z => by
      injection z with z
      have hm := M.len
      match m, hm, ts, z with
      | x :: m', _, [], z => cases z
      | x :: m', _, t :: ts', z =>
        have z1 : V.ref t :: ts'.map V.ref = V.int ((x.toNat : Nat) : Int) :: IL (bi m') := z
        injection z1 with z2
        cases z2)
    have npl : p ≠ l := ne_of M.ins M.lst (by intro z; cases z)
    have hlen := R.len
    refine ⟨_, rfl, a, rfl, ⟨_, SqL.of hA⟩, for_list (K := K) (a := a) (xs := ts.map V.ref) (fun i σ H' => ∃ v3 v4 : Option V, σ = [some (.ref p), some (.int (h : Nat)), some (.ref a), v3, v4] ∧ MemAt C H' p dx l (Tilt.written m h (ws.take i)) ∧ ∀ b u, H b = some u → b ≠ l → H' b = some u)
      ⟨none, none, rfl, M, fun _ _ e _ => e⟩ (fun i σ H' _ ⟨_, _, _, _, e⟩ => SqL.of (e _ _ hA nal)) ?_ ?_⟩
    · rintro i x σ H1 hx ⟨v3, v4, rfl, M1, k1⟩
      obtain ⟨t, ht, rfl⟩ := ref_get hx
      obtain ⟨y, hy, hty⟩ := R.at_ i t ht
      have hy256 := hw y (List.mem_of_getElem? hy)
      have hty1 := k1 _ _ hty (ne_of hty M.lst (by intro z; cases z))
      have li := M1.len
      refine ⟨t, _, rfl, SqT.of hty1, rfl, _, _, rfl, _, _, rfl, rfl, _, rfl, _, rfl, p, C, dx, _, _, rfl, M1.ins, MT.cl, MT.nO, rfl, _, rfl, _, _, rfl, rfl, .inr ⟨by decide, by decide⟩, _, rfl, _, _, rfl, rfl, l, _, _, 256 * h + y.1, rfl, rfl, M1.lst, ?_, some (.int (y.1 : Nat)), some (.int (y.2.toNat : Nat)), rfl, ⟨?_, ?_, ?_⟩, ?_⟩
      · rw [ib_len]
        unfold ixN
        rw [li, if_pos (by omega), if_pos (by omega)]
        congr 1
        omega
      · rw [upd_ne npl]
        exact M1.ins
      · rw [upd_same, written_take hy, bi_set]
        show some (HO.lst ((List.map V.int (bi _)).set (256 * h + y.1) (V.int _))) = some (HO.lst (List.map V.int _))
        rw [List.map_set]
      · rw [written_length]
        exact M.len
      · intro b u hb hne
        rw [upd_ne hne]
        exact k1 b u hb hne
    · rintro σ H1 ⟨v3, v4, rfl, M1, k1⟩
      rw [List.length_map, hlen, List.take_length] at M1
      exact q _ M1 k1
end
end Hw

set_option Elab.async false
set_option linter.all false
set_option maxRecDepth 100000
set_option maxHeartbeats 4000000
namespace Hw
open PySem PySem.Spec PyProof.Rows L2
section
variable {P : Program} {w : World} {K : PySem.W.Frag} {mg : Str → Option Value} {base : Heap}
/-! ### read -/
def readA (m : Tilt.Bytes) : List Int := match readP m with
  | some h => 0 :: (h : Int) :: ni (rawOf (Tilt.half m h)).nums
  | none => [-4]
def spRead (C : Addr) : Sp := fun vs H Q _ => ∃ (p dx l : Addr) (m : Tilt.Bytes), vs = [.ref p] ∧ MemAt C H p dx l m ∧ RetM C p l H Q m (readA m)
theorem sc_read : FnScope ["self", "half"] ["self"] (defScope (inClass (top 51) 2)) := ⟨rfl, rfl, rfl, by decide +kernel, rfl, by decide +kernel, by decide +kernel⟩
theorem ok_read {f C : Addr} {fd : FuncData} (F : Md K C "read" "Memory.read" (inClass (top 51) 2) f fd) (T : Txt K mg) (MT : MemT K mg C) (G1 : Fn P w K mg base "half_read" 6 ["octets"] (sp_half_read K)) (G2 : Fn P w K mg base "content_in" 4 ["half_octets"] (sp_content_in K)) (G3 : Fn P w K mg base "half_at" 1 ["octets", "half"] (sp_half_at K)) :
    Mt P w K mg base C "read" 7 ["self"] (spRead C) := by
  refine ⟨f, fd, F.mt, F.fn.binds fun _ _ _ _ _ _ us hl => match us, hl with | [_], _ => rfl, F.fn.ok sc_read (fun vs H Q E h => ?_) (fun cdv A outer s H vs Q E hr h => ?_)⟩
  · obtain ⟨p, dx, l, m, rfl, _⟩ := h
    rfl
  · obtain ⟨p, dx, l, m, rfl, M, q⟩ := h
    refine ⟨_, pss_cons (ps_set (i := 1) sc_read.nd rfl (Or.inl rfl) (pe_fn G1 hr rfl (pa_cons (pe_fld (pv 0) rfl) pa_nil)))
      (pss_cons (ps_if (pt_cmp (pc_isN (pv 1))) (pss_one (ps_ret (pe_lst (pa_cons (pe_gi T.NOTHING) pa_nil)))) pss_nil)
      (pss_one (ps_ret (pe_op op_cat (pe_lst (pa_cons (pe_gi T.DONE) (pa_cons (pv 1) pa_nil))) (pe_fn G2 hr rfl (pa_cons (pe_fn G3 hr rfl (pa_cons (pe_fld (pv 0) rfl) (pa_cons (pv 1) pa_nil))) pa_nil)))))), ?_⟩
    refine ⟨_, rfl, p, C, dx, _, _, rfl, M.ins, MT.cl, MT.nO, rfl, l, m, rfl, SqL.of M.lst, M.len, fun H1 s1 => ?_⟩
    cases er : readP m with
    | none =>
      have ev : readV m = V.non := by
        unfold readV
        rw [er]
      have ea : readA m = [-4] := by
        unfold readA
        rw [er]
      rw [ev]
      rw [ea] at q
      exact ⟨_, rfl, _, rfl, ite2 (fun _ => ⟨by decide, fun o ho => retM_same q M (same_new s1 ho) upd_same⟩) (fun h => absurd (by decide) h)⟩
    | some h =>
      have ev : readV m = V.int (h : Nat) := by
        unfold readV
        rw [er]
      have ea : readA m = 0 :: (h : Int) :: ni (rawOf (Tilt.half m h)).nums := by
        unfold readA
        rw [er]
      have hle := (readP_le er).1
      have hl := half_len M.len hle
      rw [ev]
      rw [ea] at q
      refine ⟨_, rfl, _, rfl, ite2 (fun z => absurd (of_decide_eq_true z) (by intro y; cases y)) (fun _ => ⟨_, rfl, (by show 2 ≤ sizeLine; decide), fun c1 h1 => ?_⟩)⟩
      have g1 := same_new (o := .lst [V.int 0, V.int (h : Nat)]) s1 h1
      have k1 : upd H1 c1 (.lst [V.int 0, V.int (h : Nat)]) c1 = some (.lst [V.int 0, V.int (h : Nat)]) := upd_same
      generalize upd H1 c1 (.lst [V.int 0, V.int (h : Nat)]) = H2 at g1 k1
      refine ⟨_, rfl, p, C, dx, _, _, rfl, g1 _ _ M.ins, MT.cl, MT.nO, rfl, _, rfl, l, m, h, rfl, hle, SqL.of (g1 _ _ M.lst), fun H3 c3 s3 _ h3 => ⟨c3, Tilt.half m h, rfl, SqL.of h3, hl, fun H4 c4 s4 _ h4 => ⟨c1, c4, _, _, rfl, rfl, (s3.trans s4) _ _ k1, h4, ?_, fun o ho => ?_⟩⟩⟩
      · have S : Shape (rawOf (Tilt.half m h)) := rawIn_shape (part_len _ 8 240 (by omega))
        have := nums_length S
        have := S.lev
        rw [in_len, size_is]
        show 2 + _ ≤ _
        omega
      · exact retM_same q M (same_new (g1.trans (s3.trans s4)) ho) upd_same
/-! ### plan -/
def planA (m : Tilt.Bytes) (r : Raw) : List Int := if rightP r = true then 0 :: ((targetP m).1 : Int) :: ni (TiltKeepCalls.writeNums (wsOf m r)) else [-8]
def spPlanM (K : PySem.W.Frag) (C : Addr) : Sp := fun vs H Q _ => ∃ (p dx l a : Addr) (m : Tilt.Bytes) (r : Raw), vs = [.ref p, .ref a] ∧ MemAt C H p dx l m ∧ Shape r ∧ SqL K H a (IL (ni r.nums)) ∧ RetM C p l H Q m (planA m r)
theorem wsOf_len (m : Tilt.Bytes) (r : Raw) : (wsOf m r).length ≤ 257 := writesP_length _ _
theorem wsOf_lt (m : Tilt.Bytes) (r : Raw) : ∀ x ∈ wsOf m r, x.1 < 256 := writesP_lt
theorem wn_snoc {ws : List (Nat × UInt8)} {i : Nat} {y : Nat × UInt8} (h : ws[i]? = some y) : TiltKeepCalls.writeNums (ws.take (i + 1)) = TiltKeepCalls.writeNums (ws.take i) ++ [y.1, y.2.toNat] := by
  unfold TiltKeepCalls.writeNums
  rw [flat_take_snoc _ h]
theorem wn_len (ws : List (Nat × UInt8)) : (TiltKeepCalls.writeNums ws).length = 2 * ws.length := by
  unfold TiltKeepCalls.writeNums
  exact flatMap_length _ 2 ws fun _ _ => rfl
/-- a new instance is made: all that was tracked is as it was -/
theorem made_same {H : Hp} {x dx C : Addr} (nx : H x = Option.none) (nd : H dx = Option.none) : Same H (upd (upd H dx (.own x)) x (.ins C dx [])) := fun b o e => by
  rw [upd_ne (ne_of_none e nx), upd_ne (ne_of_none e nd)]
  exact e
theorem sc_plan : FnScope ["self", "content", "planned", "answer", "place", "octet"] ["self", "content"] (defScope (inClass (top 51) 3)) := ⟨rfl, rfl, rfl, by decide +kernel, rfl, by decide +kernel, by decide +kernel⟩
theorem ok_plan {f C CP fP : Addr} {fd fdP : FuncData} (F : Md K C "plan" "Memory.plan" (inClass (top 51) 3) f fd) (T : Txt K mg) (MT : MemT K mg C) (PT : PlanT K mg CP) (MP : Mk K CP fP) (bP : Binds K fdP ["self", "octets", "content"] [])
    (GP : FnOk P w K mg base CX0 7 fP fdP ["self", "octets", "content"] (spPlan K CP)) (G1 : Fn P w K mg base "is_right" 3 ["content"] (sp_is_right K)) : Mt P w K mg base C "plan" 9 ["self", "content"] (spPlanM K C) := by
  refine ⟨f, fd, F.mt, F.fn.binds fun _ _ _ _ _ _ us hl => match us, hl with | [_, _], _ => rfl, F.fn.ok sc_plan (fun vs H Q E h => ?_) (fun cdv A outer s H vs Q E hr h => ?_)⟩
  · obtain ⟨p, dx, l, a, m, r, rfl, _⟩ := h
    rfl
  · obtain ⟨p, dx, l, a, m, r, rfl, M, S, hA, q⟩ := h
    refine ⟨_, pss_cons (ps_if (pt_not (pt_val (pe_fn G1 hr rfl (pa_cons (pv 1) pa_nil)))) (pss_one (ps_ret (pe_lst (pa_cons (pe_gi T.NOT_RIGHT) pa_nil)))) pss_nil)
      (pss_cons (ps_set (i := 2) sc_plan.nd rfl (Or.inl rfl) (pe_make MP GP hr rfl PT.mgC bP .nil pass0 (pa_cons (pe_fld (pv 0) rfl) (pa_cons (pv 1) pa_nil))))
      (pss_cons (ps_set (i := 3) sc_plan.nd rfl (Or.inl rfl) (pe_lst (pa_cons (pe_gi T.DONE) (pa_cons (pe_fld (pv 2) rfl) pa_nil))))
      (pss_cons (ps_for PassesOwn.never rfl (pi_list (pe_fld (pv 2) rfl)) (pg_tup rfl (pgs_cons (pg_name (i := 4) sc_plan.nd rfl (Or.inl rfl)) (pgs_cons (pg_name (i := 5) sc_plan.nd rfl (Or.inl rfl)) pgs_nil)))
        (pss_one (ps_expr (pe_bm PySem.F.plainAttrs_list PySem.F.slot_list_extend PySem.F.type_list_extend mt_extend (pv 3) (pa_cons (pe_lst (pa_cons (pv 4) (pa_cons (pv 5) pa_nil))) pa_nil)))))
      (pss_one (ps_ret (pv 3)))))), ?_⟩
    refine ⟨_, rfl, a, r, rfl, S, hA, fun H1 s1 => ⟨_, rfl, ite2 (fun h => ?_) (fun h => ?_)⟩⟩
    · have e : ¬ rightP r = true := fun z => by
        rw [z] at h
        cases h
      unfold planA at q
      rw [if_neg e] at q
      exact ⟨by decide, fun o ho => retM_same q M (same_new s1 ho) upd_same⟩
    · have e : rightP r = true := by
        cases z : rightP r with
        | true => rfl
        | false =>
          rw [z] at h
          exact absurd rfl h
      unfold planA at q
      rw [if_pos e] at q
      refine ⟨_, rfl, p, C, dx, _, _, rfl, s1 _ _ M.ins, MT.cl, MT.nO, rfl, _, rfl, fun x dxx nx nd nex => ?_⟩
      have g2 : Same H1 _ := made_same (C := CP) nx nd
      have g12 := s1.trans g2
      refine ⟨x, l, a, dxx, m, r, rfl, upd_same, SqL.of (g12 _ _ M.lst), M.len, S, e, g12.seq hA, fun H3 o ts hx ho no R k3 => ⟨rfl, ?_⟩⟩
      have s3 : Same H H3 := fun b u hb => k3 b u (g12 b u hb) (ne_of_none (s1 _ _ hb) nx)
      have nx0 : H x = none := s1.free nx
      have lw := wsOf_len m r
      have hlen := R.len
      refine ⟨_, rfl, x, CP, dxx, _, _, rfl, hx, PT.cl, PT.nH, rfl, (by show 2 ≤ sizeLine; decide), fun an han => ?_⟩
      have g4 := same_new (o := .lst [V.int 0, V.int ((targetP m).1 : Nat)]) (Same.refl H3) han
      have hx4 := g4 _ _ hx
      have ho4 := g4 _ _ ho
      have R4 := R.same g4
      have F4 : Fills H (upd H3 an (.lst [V.int 0, V.int ((targetP m).1 : Nat)])) an (IL (0 :: ((targetP m).1 : Int) :: ni (TiltKeepCalls.writeNums ((wsOf m r).take 0)))) := ⟨s3.trans g4, s3.free han, upd_same⟩
      have noa : o ≠ an := ne_of_none ho han
      have nxa : x ≠ an := ne_of_none hx han
      show tSeq _ _ _ _ _
      generalize upd H3 an (.lst [V.int 0, V.int ((targetP m).1 : Nat)]) = H4 at hx4 ho4 R4 F4
      refine ⟨_, rfl, x, CP, dxx, _, _, rfl, hx4, PT.cl, PT.nW, rfl, o, rfl, ⟨_, SqL.of ho4⟩, for_list (K := K) (a := o) (xs := ts.map V.ref) (fun i σ H' => ∃ v4 v5 : Option V, σ = [some (.ref p), some (.ref a), some (.ref x), some (.ref an), v4, v5] ∧ H' o = some (.lst (ts.map V.ref)) ∧ Tups H' ts (wsOf m r) ∧ Fills H H' an (IL (0 :: ((targetP m).1 : Int) :: ni (TiltKeepCalls.writeNums ((wsOf m r).take i)))))
        ⟨none, none, rfl, ho4, R4, F4⟩ (fun i σ H' _ ⟨_, _, _, e, _⟩ => SqL.of e) ?_ ?_⟩
      · rintro i v σ H5 hv ⟨v4, v5, rfl, ho5, R5, F5⟩
        obtain ⟨t, ht, rfl⟩ := ref_get hv
        obtain ⟨y, hy, hty⟩ := R5.at_ i t ht
        refine ⟨t, _, rfl, SqT.of hty, rfl, _, _, rfl, _, _, rfl, rfl, _, rfl, .inl ⟨rfl, _, SqL.of F5.at_⟩, _, rfl, _, rfl, (by show 2 ≤ sizeLine; decide), fun n hn => ⟨an, n, _, _, rfl, rfl, same_new (Same.refl H5) hn _ _ F5.at_, upd_same, ?_, some (.int (y.1 : Nat)), some (.int (y.2.toNat : Nat)), rfl, ?_, ?_, ?_⟩⟩
        · rw [List.length_map, List.length_cons, List.length_cons, ni_length, wn_len, List.length_take, size_is]
          show _ + 2 ≤ _
          omega
        · rw [upd_ne noa]
          exact same_new (Same.refl H5) hn _ _ ho5
        · exact (R5.same (same_new (Same.refl H5) hn)).off (same_new (Same.refl H5) hn _ _ F5.at_)
        · rw [wn_snoc hy, ni_append]
          have eA : IL (0 :: ((targetP m).1 : Int) :: (ni (TiltKeepCalls.writeNums ((wsOf m r).take i)) ++ ni [y.1, y.2.toNat])) = IL (0 :: ((targetP m).1 : Int) :: ni (TiltKeepCalls.writeNums ((wsOf m r).take i))) ++ [V.int (y.1 : Nat), V.int (y.2.toNat : Nat)] := by
            show IL ((0 :: ((targetP m).1 : Int) :: ni (TiltKeepCalls.writeNums ((wsOf m r).take i))) ++ ni [y.1, y.2.toNat]) = _
            rw [il_append]
            rfl
          rw [eA]
          exact (F5.more (same_new (Same.refl H5) hn)).put
      · rintro σ H5 ⟨v4, v5, rfl, _, _, F5⟩
        rw [List.length_map, hlen, List.take_length] at F5
        exact ⟨_, rfl, retM_same q M F5.same F5.at_⟩
/-! ### save -/
def saveM (m : Tilt.Bytes) (r : Raw) : Tilt.Bytes := if rightP r = true then Tilt.written m (targetP m).1 (wsOf m r) else m
def saveA (m : Tilt.Bytes) (r : Raw) : List Int := if rightP r = true then [0, ((targetP m).1 : Int)] else [-8]
def spSave (K : PySem.W.Frag) (C : Addr) : Sp := fun vs H Q _ => ∃ (p dx l a : Addr) (m : Tilt.Bytes) (r : Raw), vs = [.ref p, .ref a] ∧ MemAt C H p dx l m ∧ Shape r ∧ SqL K H a (IL (ni r.nums)) ∧ RetM C p l H Q (saveM m r) (saveA m r)
theorem sc_save : FnScope ["self", "content", "planned"] ["self", "content"] (defScope (inClass (top 51) 4)) := ⟨rfl, rfl, rfl, by decide +kernel, rfl, by decide +kernel, by decide +kernel⟩
theorem ok_save {f C CP fP : Addr} {fd fdP : FuncData} (F : Md K C "save" "Memory.save" (inClass (top 51) 4) f fd) (T : Txt K mg) (MT : MemT K mg C) (PT : PlanT K mg CP) (MP : Mk K CP fP) (bP : Binds K fdP ["self", "octets", "content"] [])
    (GP : FnOk P w K mg base CX0 7 fP fdP ["self", "octets", "content"] (spPlan K CP)) (G1 : Fn P w K mg base "is_right" 3 ["content"] (sp_is_right K)) (GW : Mt P w K mg base C "write" 1 ["self", "half", "writes"] (spWrite C)) : Mt P w K mg base C "save" 9 ["self", "content"] (spSave K C) := by
  obtain ⟨fW, fdW, mW, bW, GW⟩ := GW.ex
  refine ⟨f, fd, F.mt, F.fn.binds fun _ _ _ _ _ _ us hl => match us, hl with | [_, _], _ => rfl, F.fn.ok sc_save (fun vs H Q E h => ?_) (fun cdv A outer s H vs Q E hr h => ?_)⟩
  · obtain ⟨p, dx, l, a, m, r, rfl, _⟩ := h
    rfl
  · obtain ⟨p, dx, l, a, m, r, rfl, M, S, hA, q⟩ := h
    refine ⟨_, pss_cons (ps_if (pt_not (pt_val (pe_fn G1 hr rfl (pa_cons (pv 1) pa_nil)))) (pss_one (ps_ret (pe_lst (pa_cons (pe_gi T.NOT_RIGHT) pa_nil)))) pss_nil)
      (pss_cons (ps_set (i := 2) sc_save.nd rfl (Or.inl rfl) (pe_make MP GP hr rfl PT.mgC bP .nil pass0 (pa_cons (pe_fld (pv 0) rfl) (pa_cons (pv 1) pa_nil))))
      (pss_cons (ps_expr (pe_meth (pv 0) MT.cl mW GW (hr.mono (by decide)) bW .nil pass0 (pa_cons (pe_fld (pv 2) rfl) (pa_cons (pe_fld (pv 2) rfl) pa_nil))))
      (pss_one (ps_ret (pe_lst (pa_cons (pe_gi T.DONE) (pa_cons (pe_fld (pv 2) rfl) pa_nil))))))), ?_⟩
    refine ⟨_, rfl, a, r, rfl, S, hA, fun H1 s1 => ⟨_, rfl, ite2 (fun h => ?_) (fun h => ?_)⟩⟩
    · have e : ¬ rightP r = true := fun z => by
        rw [z] at h
        cases h
      unfold saveM saveA at q
      rw [if_neg e, if_neg e] at q
      exact ⟨by decide, fun o ho => retM_same q M (same_new s1 ho) upd_same⟩
    · have e : rightP r = true := by
        cases z : rightP r with
        | true => rfl
        | false =>
          rw [z] at h
          exact absurd rfl h
      unfold saveM saveA at q
      rw [if_pos e, if_pos e] at q
      refine ⟨_, rfl, p, C, dx, _, _, rfl, s1 _ _ M.ins, MT.cl, MT.nO, rfl, _, rfl, fun x dxx nx nd nex => ?_⟩
      have g2 : Same H1 _ := made_same (C := CP) nx nd
      have g12 := s1.trans g2
      refine ⟨x, l, a, dxx, m, r, rfl, upd_same, SqL.of (g12 _ _ M.lst), M.len, S, e, g12.seq hA, fun H3 o ts hx ho no R k3 => ⟨rfl, ?_⟩⟩
      have s3 : Same H H3 := fun b u hb => k3 b u (g12 b u hb) (ne_of_none (s1 _ _ hb) nx)
      have M3 := M.same s3
      refine ⟨_, rfl, p, dx, _, rfl, M3.ins, by rfl, _, rfl, x, CP, dxx, _, _, rfl, hx, PT.cl, PT.nH, rfl, _, rfl, x, CP, dxx, _, _, rfl, hx, PT.cl, PT.nW, rfl, p, dx, l, o, m, (targetP m).1, ts, _, rfl, M3, targetP_le m, ho, R, wsOf_lt m r, fun H4 M4 k4 => ?_⟩
      have hx4 := k4 _ _ hx (ne_of hx M3.lst (by intro z; cases z))
      refine ⟨_, rfl, x, CP, dxx, _, _, rfl, hx4, PT.cl, PT.nH, rfl, (by show 2 ≤ sizeLine; decide), fun o' ho' => ?_⟩
      refine q _ o' dx l (M4.same (same_new (Same.refl H4) ho')) upd_same (.inl rfl) fun b u hb _ hbl => ?_
      exact same_new (Same.refl H4) ho' _ _ (k4 _ _ (s3 _ _ hb) hbl)
/-! ### cut -/
def cutM (m : Tilt.Bytes) (r : Raw) (k : Nat) (x : UInt8) : Tilt.Bytes := if rightP r = true then Tilt.written m (targetP m).1 (cutW (wsOf m r) k x) else m
def spCut (K : PySem.W.Frag) (C : Addr) : Sp := fun vs H Q _ => ∃ (p dx l a : Addr) (m : Tilt.Bytes) (r : Raw) (k : Nat) (x : UInt8), vs = [.ref p, .ref a, .int (k : Nat), .int (x.toNat : Nat)] ∧ MemAt C H p dx l m ∧ Shape r ∧ SqL K H a (IL (ni r.nums)) ∧ RetM C p l H Q (cutM m r k x) (saveA m r)
theorem sc_cut : FnScope ["self", "content", "k", "x", "planned"] ["self", "content", "k", "x"] (defScope (inClass (top 51) 5)) := ⟨rfl, rfl, rfl, by decide +kernel, rfl, by decide +kernel, by decide +kernel⟩
theorem cutW_lt {ws : List (Nat × UInt8)} {k : Nat} {x : UInt8} (h : ∀ y ∈ ws, y.1 < 256) : ∀ y ∈ cutW ws k x, y.1 < 256 := by
  intro y hy
  unfold cutW at hy
  rcases List.mem_append.mp hy with z | z
  · exact h y (List.mem_of_mem_take z)
  · cases e : ws[k]? with
    | none =>
      rw [e] at z
      cases z
    | some u =>
      rw [e] at z
      have z1 : y ∈ [(u.1, x)] := z
      rw [List.mem_singleton.mp z1]
      exact h u (List.mem_of_getElem? e)
theorem ok_cut {f C CP fP : Addr} {fd fdP : FuncData} (F : Md K C "cut" "Memory.cut" (inClass (top 51) 5) f fd) (T : Txt K mg) (MT : MemT K mg C) (PT : PlanT K mg CP) (MP : Mk K CP fP) (bP : Binds K fdP ["self", "octets", "content"] [])
    (GP : FnOk P w K mg base CX0 7 fP fdP ["self", "octets", "content"] (spPlan K CP)) (G1 : Fn P w K mg base "is_right" 3 ["content"] (sp_is_right K)) (GW : Mt P w K mg base C "write" 1 ["self", "half", "writes"] (spWrite C)) (G2 : Fn P w K mg base "writes_until_cut" 1 ["writes", "k", "x"] (sp_writes_until_cut K)) : Mt P w K mg base C "cut" 9 ["self", "content", "k", "x"] (spCut K C) := by
  obtain ⟨fW, fdW, mW, bW, GW⟩ := GW.ex
  refine ⟨f, fd, F.mt, F.fn.binds fun _ _ _ _ _ _ us hl => match us, hl with | [_, _, _, _], _ => rfl, F.fn.ok sc_cut (fun vs H Q E h => ?_) (fun cdv A outer s H vs Q E hr h => ?_)⟩
  · obtain ⟨p, dx, l, a, m, r, k, x, rfl, _⟩ := h
    rfl
  · obtain ⟨p, dx, l, a, m, r, k, y, rfl, M, S, hA, q⟩ := h
    refine ⟨_, pss_cons (ps_if (pt_not (pt_val (pe_fn G1 hr rfl (pa_cons (pv 1) pa_nil)))) (pss_one (ps_ret (pe_lst (pa_cons (pe_gi T.NOT_RIGHT) pa_nil)))) pss_nil)
      (pss_cons (ps_set (i := 4) sc_cut.nd rfl (Or.inl rfl) (pe_make MP GP hr rfl PT.mgC bP .nil pass0 (pa_cons (pe_fld (pv 0) rfl) (pa_cons (pv 1) pa_nil))))
      (pss_cons (ps_expr (pe_meth (pv 0) MT.cl mW GW (hr.mono (by decide)) bW .nil pass0 (pa_cons (pe_fld (pv 4) rfl) (pa_cons (pe_fn G2 hr rfl (pa_cons (pe_fld (pv 4) rfl) (pa_cons (pv 2) (pa_cons (pv 3) pa_nil)))) pa_nil))))
      (pss_one (ps_ret (pe_lst (pa_cons (pe_gi T.DONE) (pa_cons (pe_fld (pv 4) rfl) pa_nil))))))), ?_⟩
    refine ⟨_, rfl, a, r, rfl, S, hA, fun H1 s1 => ⟨_, rfl, ite2 (fun h => ?_) (fun h => ?_)⟩⟩
    · have e : ¬ rightP r = true := fun z => by
        rw [z] at h
        cases h
      unfold cutM saveA at q
      rw [if_neg e, if_neg e] at q
      exact ⟨by decide, fun o ho => retM_same q M (same_new s1 ho) upd_same⟩
    · have e : rightP r = true := by
        cases z : rightP r with
        | true => rfl
        | false =>
          rw [z] at h
          exact absurd rfl h
      unfold cutM saveA at q
      rw [if_pos e, if_pos e] at q
      refine ⟨_, rfl, p, C, dx, _, _, rfl, s1 _ _ M.ins, MT.cl, MT.nO, rfl, _, rfl, fun x dxx nx nd nex => ?_⟩
      have g2 : Same H1 _ := made_same (C := CP) nx nd
      have g12 := s1.trans g2
      refine ⟨x, l, a, dxx, m, r, rfl, upd_same, SqL.of (g12 _ _ M.lst), M.len, S, e, g12.seq hA, fun H3 o ts hx ho no R k3 => ⟨rfl, ?_⟩⟩
      have s3 : Same H H3 := fun b u hb => k3 b u (g12 b u hb) (ne_of_none (s1 _ _ hb) nx)
      have M3 := M.same s3
      refine ⟨_, rfl, p, dx, _, rfl, M3.ins, by rfl, _, rfl, x, CP, dxx, _, _, rfl, hx, PT.cl, PT.nH, rfl, _, rfl, x, CP, dxx, _, _, rfl, hx, PT.cl, PT.nW, rfl, _, rfl, _, rfl, o, ts, _, k, y, rfl, SqL.of ho, R, wsOf_len m r, fun H3' o3 ts3 s3' _ ho3 R3 => ?_⟩
      have M3' := M3.same s3'
      have hx3 := s3' _ _ hx
      refine ⟨p, dx, l, o3, m, (targetP m).1, ts3, _, rfl, M3', targetP_le m, ho3, R3, cutW_lt (wsOf_lt m r), fun H4 M4 k4 => ?_⟩
      have hx4 := k4 _ _ hx3 (ne_of hx3 M3'.lst (by intro z; cases z))
      refine ⟨_, rfl, x, CP, dxx, _, _, rfl, hx4, PT.cl, PT.nH, rfl, (by show 2 ≤ sizeLine; decide), fun o' ho' => ?_⟩
      refine q _ o' dx l (M4.same (same_new (Same.refl H4) ho')) upd_same (.inl rfl) fun b u hb _ hbl => ?_
      exact same_new (Same.refl H4) ho' _ _ (k4 _ _ (s3' _ _ (s3 _ _ hb)) hbl)
end
end Hw

set_option Elab.async false
set_option linter.all false
set_option maxRecDepth 100000
set_option maxHeartbeats 4000000
namespace Hw
/-! ### what each call does, as the program does it -/
theorem step_of {m : Tilt.Bytes} {c : KeepNeutral.Call} {x : TiltKeepCalls.Call} (h : KeepNeutral.callOf c = some x) : KeepNeutral.step m c = ((TiltKeepCalls.step m x).1, (TiltKeepCalls.step m x).2.code :: (TiltKeepCalls.step m x).2.nums) := by
  unfold KeepNeutral.step
  rw [h]
theorem step_load (m : Tilt.Bytes) (z : List Int) : KeepNeutral.step m [[1], z] = (if (KeepNeutral.text z).length = 512 then KeepNeutral.text z else m, if (KeepNeutral.text z).length = 512 then [0] else [-1]) := by
  rw [step_of (x := .load (KeepNeutral.text z)) rfl]
  have e : TiltKeepCalls.step m (.load (KeepNeutral.text z)) = if (KeepNeutral.text z).length = 512 then (KeepNeutral.text z, Tilt.says 0) else (m, Tilt.says (-1)) := rfl
  rw [e]
  by_cases h : (KeepNeutral.text z).length = 512
  · rw [if_pos h, if_pos h, if_pos h]
    rfl
  · rw [if_neg h, if_neg h, if_neg h]
    rfl
theorem step_read {m : Tilt.Bytes} (hm : m.length = 512) : KeepNeutral.step m [[2]] = (m, readA m) := by
  rw [step_of (x := .read) rfl]
  have e : TiltKeepCalls.step m .read = (m, match Tilt.readMem m with
    | some r => Tilt.tells (r.1 :: TiltKeepCalls.contentNums r.2.2)
    | none => Tilt.says (-4)) := rfl
  rw [e, readMem_eq hm]
  unfold readA
  cases er : readP m with
  | none => rfl
  | some h =>
    obtain ⟨h1, h2⟩ := readP_le er
    have g := whole_gives (half_len hm h1) h2
    show (m, (0 : Int) :: ni (h :: TiltKeepCalls.contentNums (rawOf (Tilt.half m h)).toC)) = (m, 0 :: (h : Int) :: ni (rawOf (Tilt.half m h)).nums)
    rw [nums_eq g]
    rfl
theorem plan_ws {m : Tilt.Bytes} (hm : m.length = 512) (r : Raw) : Tilt.plan m r.toC = wsOf m r := plan_eq hm r.toC
theorem step_plan {m : Tilt.Bytes} (hm : m.length = 512) {z : List Int} {r : Raw} (h : KeepNeutral.contentOf z = some r.toC) (hr : r.toC.right = rightP r) : KeepNeutral.step m [[3], z] = (m, planA m r) := by
  rw [step_of (x := .plan r.toC) (by show (KeepNeutral.contentOf z).map _ = _; rw [h]; rfl)]
  have e : TiltKeepCalls.step m (.plan r.toC) = (m, if r.toC.right = false then Tilt.says (-8) else Tilt.tells ((Tilt.target m).1 :: TiltKeepCalls.writeNums (Tilt.plan m r.toC))) := rfl
  rw [e, hr, plan_ws hm, target_eq hm]
  unfold planA
  cases rightP r with
  | true => rfl
  | false => rfl
theorem step_save {m : Tilt.Bytes} (hm : m.length = 512) {z : List Int} {r : Raw} (h : KeepNeutral.contentOf z = some r.toC) (hr : r.toC.right = rightP r) : KeepNeutral.step m [[4], z] = (saveM m r, saveA m r) := by
  rw [step_of (x := .save r.toC) (by show (KeepNeutral.contentOf z).map _ = _; rw [h]; rfl)]
  have e : TiltKeepCalls.step m (.save r.toC) = if r.toC.right = false then (m, Tilt.says (-8)) else (Tilt.written m (Tilt.target m).1 (Tilt.plan m r.toC), Tilt.tells [(Tilt.target m).1]) := rfl
  rw [e, hr, plan_ws hm, target_eq hm]
  unfold saveM saveA
  cases rightP r with
  | true => rfl
  | false => rfl
theorem cut_eq {m : Tilt.Bytes} (hm : m.length = 512) (r : Raw) (k : Nat) (x : UInt8) : Tilt.cut m r.toC k x = Tilt.written m (targetP m).1 (cutW (wsOf m r) k x) := by
  unfold Tilt.cut cutW
  rw [plan_ws hm, target_eq hm]
  cases (wsOf m r)[k]? with
  | none =>
    rw [List.append_nil]
  | some y =>
    show Tilt.put (Tilt.written m (targetP m).1 ((wsOf m r).take k)) (targetP m).1 (y.1, x) = Tilt.written m (targetP m).1 ((wsOf m r).take k ++ [(y.1, x)])
    unfold Tilt.written
    rw [List.foldl_append]
    rfl
theorem step_cut {m : Tilt.Bytes} (hm : m.length = 512) {z : List Int} {r : Raw} (k x : Int) (h : KeepNeutral.contentOf z = some r.toC) (hr : r.toC.right = rightP r) : KeepNeutral.step m [[5, k, x], z] = (cutM m r k.toNat (UInt8.ofNat x.toNat), saveA m r) := by
  rw [step_of (x := .cut r.toC k.toNat x.toNat) (by show (KeepNeutral.contentOf z).map _ = _; rw [h]; rfl)]
  have e : TiltKeepCalls.step m (.cut r.toC k.toNat x.toNat) = if r.toC.right = false then (m, Tilt.says (-8)) else (Tilt.cut m r.toC k.toNat (UInt8.ofNat x.toNat), Tilt.tells [(Tilt.target m).1]) := rfl
  rw [e, hr, cut_eq hm, target_eq hm]
  unfold cutM saveA
  cases rightP r with
  | true => rfl
  | false => rfl
theorem step_bytes (m : Tilt.Bytes) : KeepNeutral.step m [[6]] = (m, 0 :: bi m) := by
  rw [step_of (x := .bytes) rfl, bi_nat8]
  rfl
theorem step_crc (m : Tilt.Bytes) (z : List Int) : KeepNeutral.step m [[7], z] = (m, [0, (Tilt.crc (KeepNeutral.text z) : Int)]) := by
  rw [step_of (x := .crc (KeepNeutral.text z)) rfl]
  rfl
/-! ### the calls that may be asked, one by one -/
inductive Asks : KeepNeutral.Call → Prop
  | load (z : List Int) : bi (KeepNeutral.text z) = z → Asks [[1], z]
  | read : Asks [[2]]
  | plan (z : List Int) (r : Raw) : Shape r → z = ni r.nums → KeepNeutral.contentOf z = some r.toC → r.toC.right = rightP r → Asks [[3], z]
  | save (z : List Int) (r : Raw) : Shape r → z = ni r.nums → KeepNeutral.contentOf z = some r.toC → r.toC.right = rightP r → Asks [[4], z]
  | cut (k x : Int) (z : List Int) (r : Raw) : 0 ≤ k → 0 ≤ x → x < 256 → Shape r → z = ni r.nums → KeepNeutral.contentOf z = some r.toC → r.toC.right = rightP r → Asks [[5, k, x], z]
  | bytes : Asks [[6]]
  | crc (z : List Int) : bi (KeepNeutral.text z) = z → Asks [[7], z]
theorem asks_of : ∀ {c : KeepNeutral.Call}, KeepNeutral.asked1 c = true → Asks c := fun {c} h => by
  unfold KeepNeutral.asked1 at h
  split at h
  · exact .load _ (text_bi h)
  · exact .read
  · obtain ⟨r, S, e, _, h1, h2⟩ := content_row h
    exact .plan _ r S e h1 h2
  · obtain ⟨r, S, e, _, h1, h2⟩ := content_row h
    exact .save _ r S e h1 h2
  · rw [Bool.and_eq_true, Bool.and_eq_true] at h
    obtain ⟨h0, h1, h2⟩ := h
    obtain ⟨r, S, e, _, h3, h4⟩ := content_row h2
    unfold KeepNeutral.whole32 at h0
    unfold KeepNeutral.natural at h1
    rw [Bool.and_eq_true, decide_eq_true_iff, decide_eq_true_iff] at h0 h1
    exact .cut _ _ _ r h0.1 h1.1 h1.2 S e h3 h4
  · exact .bytes
  · exact .crc _ (text_bi h)
  · cases h
theorem planA_len (m : Tilt.Bytes) (r : Raw) : (planA m r).length ≤ 600 := by
  unfold planA
  split
  · have := wsOf_len m r
    rw [List.length_cons, List.length_cons, ni_length, wn_len]
    omega
  · decide
theorem saveA_len (m : Tilt.Bytes) (r : Raw) : (saveA m r).length ≤ 600 := by
  unfold saveA
  split
  · show 2 ≤ 600
    decide
  · decide
theorem readA_len {m : Tilt.Bytes} (hm : m.length = 512) : (readA m).length ≤ 600 := by
  unfold readA
  cases er : readP m with
  | none => exact (by decide : 1 ≤ 600)
  | some h =>
    obtain ⟨h1, _⟩ := readP_le er
    have hl := half_len hm h1
    have S : Shape (rawOf (Tilt.half m h)) := rawIn_shape (part_len _ 8 240 (by omega))
    have := nums_length S
    have := S.lev
    show (0 :: (h : Int) :: ni (rawOf (Tilt.half m h)).nums).length ≤ 600
    rw [List.length_cons, List.length_cons, ni_length]
    omega
theorem step_ok {m : Tilt.Bytes} (hm : m.length = 512) {c : KeepNeutral.Call} (h : Asks c) : (KeepNeutral.step m c).1.length = 512 ∧ (KeepNeutral.step m c).2.length ≤ 600 := by
  cases h with
  | load z hz =>
    rw [step_load]
    by_cases e : (KeepNeutral.text z).length = 512
    · rw [if_pos e, if_pos e]
      exact ⟨e, (by decide : 1 ≤ 600)⟩
    · rw [if_neg e, if_neg e]
      exact ⟨hm, (by decide : 1 ≤ 600)⟩
  | read =>
    rw [step_read hm]
    exact ⟨hm, readA_len hm⟩
  | plan z r S e h1 h2 =>
    rw [step_plan hm h1 h2]
    exact ⟨hm, planA_len m r⟩
  | save z r S e h1 h2 =>
    rw [step_save hm h1 h2]
    refine ⟨?_, saveA_len m r⟩
    show (saveM m r).length = 512
    unfold saveM
    split
    · rw [written_length]
      exact hm
    · exact hm
  | cut k x z r _ _ _ S e h1 h2 =>
    rw [step_cut hm k x h1 h2]
    refine ⟨?_, saveA_len m r⟩
    show (cutM m r _ _).length = 512
    unfold cutM
    split
    · rw [written_length]
      exact hm
    · exact hm
  | bytes =>
    rw [step_bytes]
    refine ⟨hm, ?_⟩
    show (0 :: bi m).length ≤ 600
    rw [List.length_cons, bi_length, hm]
    decide
  | crc z hz =>
    rw [step_crc]
    exact ⟨hm, by show 2 ≤ 600; decide⟩
/-! ### calls one behind another -/
def stAfter (s : Tilt.Bytes) (cs : List KeepNeutral.Call) : Tilt.Bytes := cs.foldl (fun s c => (KeepNeutral.step s c).1) s
theorem stAfter_snoc (s : Tilt.Bytes) (cs : List KeepNeutral.Call) (c : KeepNeutral.Call) : stAfter s (cs ++ [c]) = (KeepNeutral.step (stAfter s cs) c).1 := by
  unfold stAfter
  rw [List.foldl_append]
  rfl
theorem played_snoc : ∀ (cs : List KeepNeutral.Call) (s : Tilt.Bytes) (c : KeepNeutral.Call), PyFlat.played KeepNeutral.step s (cs ++ [c]) = PyFlat.played KeepNeutral.step s cs ++ [(KeepNeutral.step (stAfter s cs) c).2]
  | [], s, c => rfl
  | d :: cs, s, c => by
    show (KeepNeutral.step s d).2 :: PyFlat.played KeepNeutral.step (KeepNeutral.step s d).1 (cs ++ [c]) = (KeepNeutral.step s d).2 :: (PyFlat.played KeepNeutral.step (KeepNeutral.step s d).1 cs ++ _)
    rw [played_snoc cs]
    rfl
theorem told_snoc (l : List (List Int)) (a : List Int) : PyFlat.told (l ++ [a]) = PyFlat.told l ++ ((a.length : Int) :: a) := by
  unfold PyFlat.told
  rw [List.flatMap_append]
  simp
theorem put_append : ∀ (a b : List KeepNeutral.Call), PyFlat.put (a ++ b) = PyFlat.put a ++ PyFlat.put b
  | [], _ => rfl
  | c :: a, b => by
    show PyFlat.put1 c ++ PyFlat.put (a ++ b) = PyFlat.put1 c ++ PyFlat.put a ++ PyFlat.put b
    rw [put_append a b, List.append_assoc]
end Hw

set_option Elab.async false
set_option linter.all false
set_option maxRecDepth 100000
set_option maxHeartbeats 4000000
namespace Hw
open PySem PySem.Spec PyProof.Rows L2
theorem at_pre {pre r : List Int} {j : Nat} {z : Int} (h : r[j]? = some z) : (IL (pre ++ r))[pre.length + j]? = some (V.int z) := by
  refine il_at ?_
  rw [List.getElem?_append_right (Nat.le_add_right _ _), Nat.add_sub_cancel_left]
  exact h
theorem put_row (h z : List Int) : PyFlat.put1 [h, z] = h ++ ((z.length : Int) :: z) := by
  show h ++ (((z.length : Int) :: z) ++ []) = _
  rw [List.append_nil]
theorem put_one (h : List Int) : PyFlat.put1 [h] = h := by
  show h ++ [] = h
  rw [List.append_nil]
section
variable {P : Program} {w : World} {K : PySem.W.Frag} {mg : Str → Option Value} {base : Heap}
/-! ### call_size -/
def sp_call_size (K : PySem.W.Frag) : Sp := fun vs H Q _ => ∃ (a : Addr) (pre post : List Int) (c : KeepNeutral.Call), vs = [.ref a, .int (pre.length : Nat)] ∧ Asks c ∧ SqL K H a (IL (pre ++ (PyFlat.put1 c ++ post))) ∧ RetV H Q (.int ((PyFlat.put1 c).length : Nat))
theorem sc_call_size : FnScope ["calls", "place"] ["calls", "place"] (defScope (top 52)) := ⟨rfl, rfl, rfl, by decide +kernel, rfl, by decide +kernel, by decide +kernel⟩
theorem ok_call_size {f : Addr} {fd : FuncData} (F : Df K mg "call_size" (top 52) f fd) (T : Txt K mg) : Fn P w K mg base "call_size" 1 ["calls", "place"] (sp_call_size K) := by
  refine ⟨f, fd, F.mg_, F.fn.kp, F.fn.binds fun _ _ _ _ _ _ us hl => match us, hl with | [_, _], _ => rfl, F.fn.ok sc_call_size (fun vs H Q E h => ?_) (fun cdv A outer s H vs Q E hr h => ?_)⟩
  · obtain ⟨a, pre, post, c, rfl, _⟩ := h
    rfl
  · obtain ⟨a, pre, post, c, rfl, hc, hS, q⟩ := h
    refine ⟨_, pss_cons (ps_if (pt_cmpR op_in_seq (pe_ix ix_list (pv 0) (pv 1) (fun _ _ => rfl)) (pe_tup (pa_cons (pe_gi T.READ) (pa_cons (pe_gi T.BYTES_OF) pa_nil))) (by rfl)) (pss_one (ps_ret pe_int)) pss_nil)
      (pss_cons (ps_if (pt_cmpR op_in_seq (pe_ix ix_list (pv 0) (pv 1) (fun _ _ => rfl)) (pe_tup (pa_cons (pe_gi T.LOAD) (pa_cons (pe_gi T.PLAN) (pa_cons (pe_gi T.SAVE) (pa_cons (pe_gi T.CRC) pa_nil))))) (by rfl)) (pss_one (ps_ret (pe_op op_add pe_int (pe_ix ix_list (pv 0) (pe_op op_add (pv 1) pe_int) (fun _ _ => rfl))))) pss_nil)
      (pss_cons (ps_if (pt_cmpR op_eq (pe_ix ix_list (pv 0) (pv 1) (fun _ _ => rfl)) (pe_gi T.CUT) (nomark _)) (pss_one (ps_ret (pe_op op_add pe_int (pe_ix ix_list (pv 0) (pe_op op_add (pv 1) pe_int) (fun _ _ => rfl))))) pss_nil)
      (pss_one ps_never))), ?_⟩
    cases hc with
    | load z hz =>
      rw [put_row] at hS q
      have h0 := at_pre (pre := pre) (r := [1] ++ ((z.length : Int) :: z) ++ post) (j := 0) rfl
      have h1 := at_pre (pre := pre) (r := [1] ++ ((z.length : Int) :: z) ++ post) (j := 1) rfl
      refine ⟨_, rfl, _, rfl, a, _, _, _, rfl, rfl, hS, at_of (j := pre.length + 0) rfl h0, (by show 2 ≤ sizeLine; decide), fun t ht => ⟨t, _, rfl, .inr (SqT.of upd_same), rfl, rfl, _, rfl, ite2 (fun h => absurd h (by decide)) (fun _ => ?_)⟩⟩
      have g1 := same_new (o := .tup [V.int 2, V.int 6]) (Same.refl H) ht
      refine ⟨_, rfl, _, rfl, a, _, _, _, rfl, rfl, g1.seq hS, at_of (j := pre.length + 0) rfl h0, (by show 4 ≤ sizeLine; decide), fun t2 ht2 => ⟨t2, _, rfl, .inr (SqT.of upd_same), rfl, rfl, _, rfl, ite2 (fun _ => ?_) (fun h => absurd (by decide) h)⟩⟩
      have g2 := same_new (o := .tup [V.int 1, V.int 3, V.int 4, V.int 7]) g1 ht2
      refine ⟨_, rfl, _, rfl, _, _, rfl, rfl, a, _, _, _, rfl, rfl, g2.seq hS, at_of (j := pre.length + 1) (by omega) h1, _, _, rfl, rfl, ?_⟩
      have e : (2 : Int) + (z.length : Int) = ((([1] ++ ((z.length : Int) :: z) : List Int).length : Nat) : Int) := by
        rw [List.length_append, List.length_cons]
        show (2 : Int) + _ = ((1 + (_ + 1) : Nat) : Int)
        omega
      show Q (V.int ((2 : Int) + (z.length : Int))) _
      rw [e]
      exact q _ g2
    | read =>
      rw [put_one] at hS q
      have h0 := at_pre (pre := pre) (r := [2] ++ post) (j := 0) rfl
      refine ⟨_, rfl, _, rfl, a, _, _, _, rfl, rfl, hS, at_of (j := pre.length + 0) rfl h0, (by show 2 ≤ sizeLine; decide), fun t ht => ⟨t, _, rfl, .inr (SqT.of upd_same), rfl, rfl, _, rfl, ite2 (fun _ => ?_) (fun h => absurd (by decide) h)⟩⟩
      exact q _ (same_new (Same.refl H) ht)
    | plan z r S ez e1 e2 =>
      rw [put_row] at hS q
      have h0 := at_pre (pre := pre) (r := [3] ++ ((z.length : Int) :: z) ++ post) (j := 0) rfl
      have h1 := at_pre (pre := pre) (r := [3] ++ ((z.length : Int) :: z) ++ post) (j := 1) rfl
      refine ⟨_, rfl, _, rfl, a, _, _, _, rfl, rfl, hS, at_of (j := pre.length + 0) rfl h0, (by show 2 ≤ sizeLine; decide), fun t ht => ⟨t, _, rfl, .inr (SqT.of upd_same), rfl, rfl, _, rfl, ite2 (fun h => absurd h (by decide)) (fun _ => ?_)⟩⟩
      have g1 := same_new (o := .tup [V.int 2, V.int 6]) (Same.refl H) ht
      refine ⟨_, rfl, _, rfl, a, _, _, _, rfl, rfl, g1.seq hS, at_of (j := pre.length + 0) rfl h0, (by show 4 ≤ sizeLine; decide), fun t2 ht2 => ⟨t2, _, rfl, .inr (SqT.of upd_same), rfl, rfl, _, rfl, ite2 (fun _ => ?_) (fun h => absurd (by decide) h)⟩⟩
      have g2 := same_new (o := .tup [V.int 1, V.int 3, V.int 4, V.int 7]) g1 ht2
      refine ⟨_, rfl, _, rfl, _, _, rfl, rfl, a, _, _, _, rfl, rfl, g2.seq hS, at_of (j := pre.length + 1) (by omega) h1, _, _, rfl, rfl, ?_⟩
      have e : (2 : Int) + (z.length : Int) = ((([3] ++ ((z.length : Int) :: z) : List Int).length : Nat) : Int) := by
        rw [List.length_append, List.length_cons]
        show (2 : Int) + _ = ((1 + (_ + 1) : Nat) : Int)
        omega
      show Q (V.int ((2 : Int) + (z.length : Int))) _
      rw [e]
      exact q _ g2
    | save z r S ez e1 e2 =>
      rw [put_row] at hS q
      have h0 := at_pre (pre := pre) (r := [4] ++ ((z.length : Int) :: z) ++ post) (j := 0) rfl
      have h1 := at_pre (pre := pre) (r := [4] ++ ((z.length : Int) :: z) ++ post) (j := 1) rfl
      refine ⟨_, rfl, _, rfl, a, _, _, _, rfl, rfl, hS, at_of (j := pre.length + 0) rfl h0, (by show 2 ≤ sizeLine; decide), fun t ht => ⟨t, _, rfl, .inr (SqT.of upd_same), rfl, rfl, _, rfl, ite2 (fun h => absurd h (by decide)) (fun _ => ?_)⟩⟩
      have g1 := same_new (o := .tup [V.int 2, V.int 6]) (Same.refl H) ht
      refine ⟨_, rfl, _, rfl, a, _, _, _, rfl, rfl, g1.seq hS, at_of (j := pre.length + 0) rfl h0, (by show 4 ≤ sizeLine; decide), fun t2 ht2 => ⟨t2, _, rfl, .inr (SqT.of upd_same), rfl, rfl, _, rfl, ite2 (fun _ => ?_) (fun h => absurd (by decide) h)⟩⟩
      have g2 := same_new (o := .tup [V.int 1, V.int 3, V.int 4, V.int 7]) g1 ht2
      refine ⟨_, rfl, _, rfl, _, _, rfl, rfl, a, _, _, _, rfl, rfl, g2.seq hS, at_of (j := pre.length + 1) (by omega) h1, _, _, rfl, rfl, ?_⟩
      have e : (2 : Int) + (z.length : Int) = ((([4] ++ ((z.length : Int) :: z) : List Int).length : Nat) : Int) := by
        rw [List.length_append, List.length_cons]
        show (2 : Int) + _ = ((1 + (_ + 1) : Nat) : Int)
        omega
      show Q (V.int ((2 : Int) + (z.length : Int))) _
      rw [e]
      exact q _ g2
    | cut k x z r k0 x0 x1 S ez h1 h2 =>
      rw [put_row] at hS q
      have h0 := at_pre (pre := pre) (r := [5, k, x] ++ ((z.length : Int) :: z) ++ post) (j := 0) rfl
      have h3 := at_pre (pre := pre) (r := [5, k, x] ++ ((z.length : Int) :: z) ++ post) (j := 3) rfl
      refine ⟨_, rfl, _, rfl, a, _, _, _, rfl, rfl, hS, at_of (j := pre.length + 0) rfl h0, (by show 2 ≤ sizeLine; decide), fun t ht => ⟨t, _, rfl, .inr (SqT.of upd_same), rfl, rfl, _, rfl, ite2 (fun h => absurd h (by decide)) (fun _ => ?_)⟩⟩
      have g1 := same_new (o := .tup [V.int 2, V.int 6]) (Same.refl H) ht
      refine ⟨_, rfl, _, rfl, a, _, _, _, rfl, rfl, g1.seq hS, at_of (j := pre.length + 0) rfl h0, (by show 4 ≤ sizeLine; decide), fun t2 ht2 => ⟨t2, _, rfl, .inr (SqT.of upd_same), rfl, rfl, _, rfl, ite2 (fun h => absurd h (by decide)) (fun _ => ?_)⟩⟩
      have g2 := same_new (o := .tup [V.int 1, V.int 3, V.int 4, V.int 7]) g1 ht2
      refine ⟨_, rfl, _, rfl, a, _, _, _, rfl, rfl, g2.seq hS, at_of (j := pre.length + 0) rfl h0, rfl, _, rfl, ite2 (fun _ => ?_) (fun h => absurd (by decide) h)⟩
      refine ⟨_, rfl, _, rfl, _, _, rfl, rfl, a, _, _, _, rfl, rfl, g2.seq hS, at_of (j := pre.length + 3) (by omega) h3, _, _, rfl, rfl, ?_⟩
      have e : (4 : Int) + (z.length : Int) = ((([5, k, x] ++ ((z.length : Int) :: z) : List Int).length : Nat) : Int) := by
        rw [List.length_append, List.length_cons]
        show (4 : Int) + _ = ((3 + (_ + 1) : Nat) : Int)
        omega
      show Q (V.int ((4 : Int) + (z.length : Int))) _
      rw [e]
      exact q _ g2
    | bytes =>
      rw [put_one] at hS q
      have h0 := at_pre (pre := pre) (r := [6] ++ post) (j := 0) rfl
      refine ⟨_, rfl, _, rfl, a, _, _, _, rfl, rfl, hS, at_of (j := pre.length + 0) rfl h0, (by show 2 ≤ sizeLine; decide), fun t ht => ⟨t, _, rfl, .inr (SqT.of upd_same), rfl, rfl, _, rfl, ite2 (fun _ => ?_) (fun h => absurd (by decide) h)⟩⟩
      exact q _ (same_new (Same.refl H) ht)
    | crc z hz =>
      rw [put_row] at hS q
      have h0 := at_pre (pre := pre) (r := [7] ++ ((z.length : Int) :: z) ++ post) (j := 0) rfl
      have h1 := at_pre (pre := pre) (r := [7] ++ ((z.length : Int) :: z) ++ post) (j := 1) rfl
      refine ⟨_, rfl, _, rfl, a, _, _, _, rfl, rfl, hS, at_of (j := pre.length + 0) rfl h0, (by show 2 ≤ sizeLine; decide), fun t ht => ⟨t, _, rfl, .inr (SqT.of upd_same), rfl, rfl, _, rfl, ite2 (fun h => absurd h (by decide)) (fun _ => ?_)⟩⟩
      have g1 := same_new (o := .tup [V.int 2, V.int 6]) (Same.refl H) ht
      refine ⟨_, rfl, _, rfl, a, _, _, _, rfl, rfl, g1.seq hS, at_of (j := pre.length + 0) rfl h0, (by show 4 ≤ sizeLine; decide), fun t2 ht2 => ⟨t2, _, rfl, .inr (SqT.of upd_same), rfl, rfl, _, rfl, ite2 (fun _ => ?_) (fun h => absurd (by decide) h)⟩⟩
      have g2 := same_new (o := .tup [V.int 1, V.int 3, V.int 4, V.int 7]) g1 ht2
      refine ⟨_, rfl, _, rfl, _, _, rfl, rfl, a, _, _, _, rfl, rfl, g2.seq hS, at_of (j := pre.length + 1) (by omega) h1, _, _, rfl, rfl, ?_⟩
      have e : (2 : Int) + (z.length : Int) = ((([7] ++ ((z.length : Int) :: z) : List Int).length : Nat) : Int) := by
        rw [List.length_append, List.length_cons]
        show (2 : Int) + _ = ((1 + (_ + 1) : Nat) : Int)
        omega
      show Q (V.int ((2 : Int) + (z.length : Int))) _
      rw [e]
      exact q _ g2
end
end Hw

set_option Elab.async false
set_option linter.all false
set_option maxRecDepth 100000
set_option maxHeartbeats 4000000
namespace Hw
open PySem PySem.Spec PyProof.Rows L2
theorem RetM.later {C p l : Addr} {H H1 : Hp} {Q : VK} {m : Tilt.Bytes} {ans : List Int} (k : RetM C p l H Q m ans) (s : Same H H1) : RetM C p l H1 Q m ans := fun H' q dx' l' M hq hl hk =>
  k H' q dx' l' M hq (hl.imp id fun z => s.free z) fun b u e h1 h2 => hk b u (s b u e) h1 h2
theorem cut_from_int (l : List Int) (i : Nat) : cutV (IL l) (some (i : Int)) none = IL (l.drop i) := by rw [cutV_from, il_from]
section
variable {P : Program} {w : World} {K : PySem.W.Frag} {mg : Str → Option Value} {base : Heap}
/-! ### answer_to -/
def sp_answer_to (K : PySem.W.Frag) (C : Addr) : Sp := fun vs H Q _ => ∃ (a p dx l : Addr) (m : Tilt.Bytes) (c : KeepNeutral.Call), vs = [.ref a, .ref p] ∧ Asks c ∧ SqL K H a (IL (PyFlat.put1 c)) ∧ MemAt C H p dx l m ∧ RetM C p l H Q (KeepNeutral.step m c).1 (KeepNeutral.step m c).2
theorem sc_answer_to : FnScope ["call", "memory"] ["call", "memory"] (defScope (top 53)) := ⟨rfl, rfl, rfl, by decide +kernel, rfl, by decide +kernel, by decide +kernel⟩
theorem ok_answer_to {f C : Addr} {fd : FuncData} (F : Df K mg "answer_to" (top 53) f fd) (T : Txt K mg) (MT : MemT K mg C) (N1 : Mt P w K mg base C "load" 1 ["self", "octets"] (spLoad K C)) (N2 : Mt P w K mg base C "read" 7 ["self"] (spRead C)) (N3 : Mt P w K mg base C "plan" 9 ["self", "content"] (spPlanM K C))
    (N4 : Mt P w K mg base C "save" 9 ["self", "content"] (spSave K C)) (N5 : Mt P w K mg base C "cut" 9 ["self", "content", "k", "x"] (spCut K C)) (N6 : Mt P w K mg base C "bytes_of" 1 ["self"] (spBytes C)) (GC : Fn P w K mg base "crc_of" 1 ["octets"] (sp_crc_of K)) : Fn P w K mg base "answer_to" 10 ["call", "memory"] (sp_answer_to K C) := by
  obtain ⟨f1, d1, m1, b1, G1⟩ := N1.ex
  obtain ⟨f2, d2, m2, b2, G2⟩ := N2.ex
  obtain ⟨f3, d3, m3, b3, G3⟩ := N3.ex
  obtain ⟨f4, d4, m4, b4, G4⟩ := N4.ex
  obtain ⟨f5, d5, m5, b5, G5⟩ := N5.ex
  obtain ⟨f6, d6, m6, b6, G6⟩ := N6.ex
  refine ⟨f, fd, F.mg_, F.fn.kp, F.fn.binds fun _ _ _ _ _ _ us hl => match us, hl with | [_, _], _ => rfl, F.fn.ok sc_answer_to (fun vs H Q E h => ?_) (fun cdv A outer s H vs Q E hr h => ?_)⟩
  · obtain ⟨a, p, dx, l, m, c, rfl, _⟩ := h
    rfl
  · obtain ⟨a, p, dx, l, m, c, rfl, hc, hS, M, q⟩ := h
    refine ⟨_, pss_cons (ps_if (pt_cmpR op_eq (pe_ix ix_list (pv 0) pe_int (fun _ _ => rfl)) (pe_gi T.LOAD) (nomark _)) (pss_one (ps_ret (pe_meth (pv 1) MT.cl m1 G1 (hr.mono (by decide)) b1 .nil pass0 (pa_cons (pe_slice sl_list (pv 0) (po_some pe_int) po_none) pa_nil)))) pss_nil)
      (pss_cons (ps_if (pt_cmpR op_eq (pe_ix ix_list (pv 0) pe_int (fun _ _ => rfl)) (pe_gi T.READ) (nomark _)) (pss_one (ps_ret (pe_meth0 (pv 1) MT.cl m2 G2 (hr.mono (by decide)) b2 .nil pass0))) pss_nil)
      (pss_cons (ps_if (pt_cmpR op_eq (pe_ix ix_list (pv 0) pe_int (fun _ _ => rfl)) (pe_gi T.PLAN) (nomark _)) (pss_one (ps_ret (pe_meth (pv 1) MT.cl m3 G3 (hr.mono (by decide)) b3 .nil pass0 (pa_cons (pe_slice sl_list (pv 0) (po_some pe_int) po_none) pa_nil)))) pss_nil)
      (pss_cons (ps_if (pt_cmpR op_eq (pe_ix ix_list (pv 0) pe_int (fun _ _ => rfl)) (pe_gi T.SAVE) (nomark _)) (pss_one (ps_ret (pe_meth (pv 1) MT.cl m4 G4 (hr.mono (by decide)) b4 .nil pass0 (pa_cons (pe_slice sl_list (pv 0) (po_some pe_int) po_none) pa_nil)))) pss_nil)
      (pss_cons (ps_if (pt_cmpR op_eq (pe_ix ix_list (pv 0) pe_int (fun _ _ => rfl)) (pe_gi T.CUT) (nomark _)) (pss_one (ps_ret (pe_meth (pv 1) MT.cl m5 G5 (hr.mono (by decide)) b5 .nil pass0 (pa_cons (pe_slice sl_list (pv 0) (po_some pe_int) po_none) (pa_cons (pe_ix ix_list (pv 0) pe_int (fun _ _ => rfl)) (pa_cons (pe_ix ix_list (pv 0) pe_int (fun _ _ => rfl)) pa_nil)))))) pss_nil)
      (pss_cons (ps_if (pt_cmpR op_eq (pe_ix ix_list (pv 0) pe_int (fun _ _ => rfl)) (pe_gi T.BYTES_OF) (nomark _)) (pss_one (ps_ret (pe_meth0 (pv 1) MT.cl m6 G6 (hr.mono (by decide)) b6 .nil pass0))) pss_nil)
      (pss_one (ps_ret (pe_lst (pa_cons (pe_gi T.DONE) (pa_cons (pe_fn GC hr rfl (pa_cons (pe_slice sl_list (pv 0) (po_some pe_int) po_none) pa_nil)) pa_nil)))))))))), ?_⟩
    cases hc with
    | load z hz =>
      rw [put_row] at hS
      rw [step_load] at q
      have h0 := at_pre (pre := []) (r := [1] ++ ((z.length : Int) :: z)) (j := 0) rfl
      refine ⟨_, rfl, a, _, _, _, rfl, rfl, hS, at_of (j := 0) rfl h0, rfl, _, rfl, ite2 (fun _ => ?_) (fun h => absurd (by decide) h)⟩
      refine ⟨_, rfl, p, dx, _, rfl, M.ins, by rfl, _, rfl, _, rfl, a, _, rfl, hS, fun b hb => ?_⟩
      have g := same_new (o := .lst (cutV (IL ([1] ++ ((z.length : Int) :: z))) (some 2) none)) (Same.refl H) hb
      refine ⟨p, dx, l, b, m, KeepNeutral.text z, rfl, M.same g, SqL.of ?_, q.later g⟩
      rw [upd_same, hz]
      exact congrArg (fun y => some (HO.lst y)) (cut_from_int _ 2)
    | read =>
      rw [put_one] at hS
      rw [step_read M.len] at q
      have h0 := at_pre (pre := []) (r := [2]) (j := 0) rfl
      refine ⟨_, rfl, a, _, _, _, rfl, rfl, hS, at_of (j := 0) rfl h0, rfl, _, rfl, ite2 (fun h => absurd h (by decide)) (fun _ => ?_)⟩
      refine ⟨_, rfl, a, _, _, _, rfl, rfl, hS, at_of (j := 0) rfl h0, rfl, _, rfl, ite2 (fun _ => ?_) (fun h => absurd (by decide) h)⟩
      exact ⟨_, rfl, p, dx, _, rfl, M.ins, by rfl, p, dx, l, m, rfl, M, q⟩
    | plan z r S ez e1 e2 =>
      rw [put_row] at hS
      rw [step_plan M.len e1 e2] at q
      have h0 := at_pre (pre := []) (r := [3] ++ ((z.length : Int) :: z)) (j := 0) rfl
      refine ⟨_, rfl, a, _, _, _, rfl, rfl, hS, at_of (j := 0) rfl h0, rfl, _, rfl, ite2 (fun h => absurd h (by decide)) (fun _ => ?_)⟩
      refine ⟨_, rfl, a, _, _, _, rfl, rfl, hS, at_of (j := 0) rfl h0, rfl, _, rfl, ite2 (fun h => absurd h (by decide)) (fun _ => ?_)⟩
      refine ⟨_, rfl, a, _, _, _, rfl, rfl, hS, at_of (j := 0) rfl h0, rfl, _, rfl, ite2 (fun _ => ?_) (fun h => absurd (by decide) h)⟩
      refine ⟨_, rfl, p, dx, _, rfl, M.ins, by rfl, _, rfl, _, rfl, a, _, rfl, hS, fun b hb => ?_⟩
      have g := same_new (o := .lst (cutV (IL ([3] ++ ((z.length : Int) :: z))) (some 2) none)) (Same.refl H) hb
      refine ⟨p, dx, l, b, m, r, rfl, M.same g, S, SqL.of ?_, q.later g⟩
      rw [upd_same, ← ez]
      exact congrArg (fun y => some (HO.lst y)) (cut_from_int _ 2)
    | save z r S ez e1 e2 =>
      rw [put_row] at hS
      rw [step_save M.len e1 e2] at q
      have h0 := at_pre (pre := []) (r := [4] ++ ((z.length : Int) :: z)) (j := 0) rfl
      refine ⟨_, rfl, a, _, _, _, rfl, rfl, hS, at_of (j := 0) rfl h0, rfl, _, rfl, ite2 (fun h => absurd h (by decide)) (fun _ => ?_)⟩
      refine ⟨_, rfl, a, _, _, _, rfl, rfl, hS, at_of (j := 0) rfl h0, rfl, _, rfl, ite2 (fun h => absurd h (by decide)) (fun _ => ?_)⟩
      refine ⟨_, rfl, a, _, _, _, rfl, rfl, hS, at_of (j := 0) rfl h0, rfl, _, rfl, ite2 (fun h => absurd h (by decide)) (fun _ => ?_)⟩
      refine ⟨_, rfl, a, _, _, _, rfl, rfl, hS, at_of (j := 0) rfl h0, rfl, _, rfl, ite2 (fun _ => ?_) (fun h => absurd (by decide) h)⟩
      refine ⟨_, rfl, p, dx, _, rfl, M.ins, by rfl, _, rfl, _, rfl, a, _, rfl, hS, fun b hb => ?_⟩
      have g := same_new (o := .lst (cutV (IL ([4] ++ ((z.length : Int) :: z))) (some 2) none)) (Same.refl H) hb
      refine ⟨p, dx, l, b, m, r, rfl, M.same g, S, SqL.of ?_, q.later g⟩
      rw [upd_same, ← ez]
      exact congrArg (fun y => some (HO.lst y)) (cut_from_int _ 2)
    | cut k x z r k0 x0 x1 S ez e1 e2 =>
      rw [put_row] at hS
      rw [step_cut M.len k x e1 e2] at q
      have h0 := at_pre (pre := []) (r := [5, k, x] ++ ((z.length : Int) :: z)) (j := 0) rfl
      refine ⟨_, rfl, a, _, _, _, rfl, rfl, hS, at_of (j := 0) rfl h0, rfl, _, rfl, ite2 (fun h => absurd h (by decide)) (fun _ => ?_)⟩
      refine ⟨_, rfl, a, _, _, _, rfl, rfl, hS, at_of (j := 0) rfl h0, rfl, _, rfl, ite2 (fun h => absurd h (by decide)) (fun _ => ?_)⟩
      refine ⟨_, rfl, a, _, _, _, rfl, rfl, hS, at_of (j := 0) rfl h0, rfl, _, rfl, ite2 (fun h => absurd h (by decide)) (fun _ => ?_)⟩
      refine ⟨_, rfl, a, _, _, _, rfl, rfl, hS, at_of (j := 0) rfl h0, rfl, _, rfl, ite2 (fun h => absurd h (by decide)) (fun _ => ?_)⟩
      refine ⟨_, rfl, a, _, _, _, rfl, rfl, hS, at_of (j := 0) rfl h0, rfl, _, rfl, ite2 (fun _ => ?_) (fun h => absurd (by decide) h)⟩
      have hk := at_pre (pre := []) (r := [5, k, x] ++ ((z.length : Int) :: z)) (j := 1) rfl
      have hx := at_pre (pre := []) (r := [5, k, x] ++ ((z.length : Int) :: z)) (j := 2) rfl
      refine ⟨_, rfl, p, dx, _, rfl, M.ins, by rfl, _, rfl, _, rfl, a, _, rfl, hS, fun b hb => ?_⟩
      have g := same_new (o := .lst (cutV (IL ([5, k, x] ++ ((z.length : Int) :: z))) (some 4) none)) (Same.refl H) hb
      refine ⟨_, rfl, a, _, _, _, rfl, rfl, g.seq hS, at_of (j := 1) rfl hk, _, rfl, a, _, _, _, rfl, rfl, g.seq hS, at_of (j := 2) rfl hx, p, dx, l, b, m, r, k.toNat, UInt8.ofNat x.toNat, ?_, M.same g, S, SqL.of ?_, q.later g⟩
      · have ek : ((k.toNat : Nat) : Int) = k := by omega
        have ex : (((UInt8.ofNat x.toNat).toNat : Nat) : Int) = x := by
          rw [UInt8.toNat_ofNat']
          show ((x.toNat % 256 : Nat) : Int) = x
          omega
        rw [ek, ex]
        rfl
      · rw [upd_same, ← ez]
        exact congrArg (fun y => some (HO.lst y)) (cut_from_int _ 4)
    | bytes =>
      rw [put_one] at hS
      rw [step_bytes] at q
      have h0 := at_pre (pre := []) (r := [6]) (j := 0) rfl
      refine ⟨_, rfl, a, _, _, _, rfl, rfl, hS, at_of (j := 0) rfl h0, rfl, _, rfl, ite2 (fun h => absurd h (by decide)) (fun _ => ?_)⟩
      refine ⟨_, rfl, a, _, _, _, rfl, rfl, hS, at_of (j := 0) rfl h0, rfl, _, rfl, ite2 (fun h => absurd h (by decide)) (fun _ => ?_)⟩
      refine ⟨_, rfl, a, _, _, _, rfl, rfl, hS, at_of (j := 0) rfl h0, rfl, _, rfl, ite2 (fun h => absurd h (by decide)) (fun _ => ?_)⟩
      refine ⟨_, rfl, a, _, _, _, rfl, rfl, hS, at_of (j := 0) rfl h0, rfl, _, rfl, ite2 (fun h => absurd h (by decide)) (fun _ => ?_)⟩
      refine ⟨_, rfl, a, _, _, _, rfl, rfl, hS, at_of (j := 0) rfl h0, rfl, _, rfl, ite2 (fun h => absurd h (by decide)) (fun _ => ?_)⟩
      refine ⟨_, rfl, a, _, _, _, rfl, rfl, hS, at_of (j := 0) rfl h0, rfl, _, rfl, ite2 (fun _ => ?_) (fun h => absurd (by decide) h)⟩
      exact ⟨_, rfl, p, dx, _, rfl, M.ins, by rfl, p, dx, l, m, rfl, M, q⟩
    | crc z hz =>
      rw [put_row] at hS
      rw [step_crc] at q
      have h0 := at_pre (pre := []) (r := [7] ++ ((z.length : Int) :: z)) (j := 0) rfl
      refine ⟨_, rfl, a, _, _, _, rfl, rfl, hS, at_of (j := 0) rfl h0, rfl, _, rfl, ite2 (fun h => absurd h (by decide)) (fun _ => ?_)⟩
      refine ⟨_, rfl, a, _, _, _, rfl, rfl, hS, at_of (j := 0) rfl h0, rfl, _, rfl, ite2 (fun h => absurd h (by decide)) (fun _ => ?_)⟩
      refine ⟨_, rfl, a, _, _, _, rfl, rfl, hS, at_of (j := 0) rfl h0, rfl, _, rfl, ite2 (fun h => absurd h (by decide)) (fun _ => ?_)⟩
      refine ⟨_, rfl, a, _, _, _, rfl, rfl, hS, at_of (j := 0) rfl h0, rfl, _, rfl, ite2 (fun h => absurd h (by decide)) (fun _ => ?_)⟩
      refine ⟨_, rfl, a, _, _, _, rfl, rfl, hS, at_of (j := 0) rfl h0, rfl, _, rfl, ite2 (fun h => absurd h (by decide)) (fun _ => ?_)⟩
      refine ⟨_, rfl, a, _, _, _, rfl, rfl, hS, at_of (j := 0) rfl h0, rfl, _, rfl, ite2 (fun h => absurd h (by decide)) (fun _ => ?_)⟩
      refine ⟨_, rfl, _, rfl, a, _, rfl, hS, fun b hb => ?_⟩
      have g := same_new (o := .lst (cutV (IL ([7] ++ ((z.length : Int) :: z))) (some 2) none)) (Same.refl H) hb
      refine ⟨b, KeepNeutral.text z, rfl, SqL.of ?_, fun H2 s2 => ⟨(by show 2 ≤ sizeLine; decide), fun o ho => ?_⟩⟩
      · rw [upd_same, hz]
        exact congrArg (fun y => some (HO.lst y)) (cut_from_int _ 2)
      · exact retM_same q M (same_new (g.trans s2) ho) upd_same
end
end Hw

set_option Elab.async false
set_option linter.all false
set_option maxRecDepth 100000
set_option maxHeartbeats 4000000
namespace Hw
open PySem PySem.Spec PyProof.Rows L2
theorem put1_pos {c : KeepNeutral.Call} (h : Asks c) : 1 ≤ (PyFlat.put1 c).length := by
  cases h with
  | load z hz => rw [put_row]; simp
  | read => decide
  | plan z r S e h1 h2 => rw [put_row]; simp
  | save z r S e h1 h2 => rw [put_row]; simp
  | cut k x z r _ _ _ S e h1 h2 => rw [put_row]; simp
  | bytes => decide
  | crc z hz => rw [put_row]; simp
theorem cut_int (l : List Int) (i j k : Nat) {x y : Int} (hx : x = (i : Int)) (hy : y = (j : Int)) (hk : j - i = k) : cutV (IL l) (some x) (some y) = IL ((l.drop i).take k) := by rw [hx, hy, cutV_nat, hk, il_part]
/-- what holds when so many calls are still to come -/
structure Turns (C : Addr) (H : Hp) (a p t : Addr) (cs : List KeepNeutral.Call) (n : Nat) (σ : L2.St) (H' : Hp) (dn rest : List KeepNeutral.Call) (v4 v5 : Option V) (dx l : Addr) : Prop where
  all : cs = dn ++ rest
  left : rest.length = n
  st : σ = [some (.ref a), some (.ref p), some (.ref t), some (.int ((PyFlat.put dn).length : Nat)), v4, v5]
  mem : MemAt C H' p dx l (stAfter KeepNeutral.start dn)
  tld : H' t = some (.lst (IL (PyFlat.told (PyFlat.played KeepNeutral.step KeepNeutral.start dn))))
  same : Same H H'
  tl : t ≠ l
  pn : H p = none
  ln : H l = none
  tn : H t = none
  few : (PyFlat.told (PyFlat.played KeepNeutral.step KeepNeutral.start dn)).length ≤ 601 * dn.length
section
variable {P : Program} {w : World} {K : PySem.W.Frag} {mg : Str → Option Value} {base : Heap}
def spAns (K : PySem.W.Frag) : Sp := fun vs H Q _ => ∃ (a : Addr) (l : List Int), vs = [.ref a] ∧ SqL K H a (IL l) ∧ PyWqaqch.answers_asked l = true ∧ ∀ (H' : Hp) (p : Addr), H' p = some (.lst (IL (PyWqaqch.answers l))) → Q (.ref p) H'
theorem sc_answers : FnScope ["calls", "memory", "told", "place", "size", "answer"] ["calls"] (defScope (top 54)) := ⟨rfl, rfl, rfl, by decide +kernel, rfl, by decide +kernel, by decide +kernel⟩
theorem ok_answers {f C fM : Addr} {fd fdM : FuncData} (F : Df K mg "answers" (top 54) f fd) (T : Txt K mg) (MT : MemT K mg C) (MM : Mk K C fM) (bM : Binds K fdM ["self"] []) (GM : FnOk P w K mg base CX0 1 fM fdM ["self"] (spMem C))
    (G1 : Fn P w K mg base "call_size" 1 ["calls", "place"] (sp_call_size K)) (G2 : Fn P w K mg base "answer_to" 10 ["call", "memory"] (sp_answer_to K C)) : FnOk P w K mg base CX0 11 f fd ["calls"] (spAns K) := by
  refine F.fn.ok sc_answers (fun vs H Q E h => ?_) (fun cdv A outer s H vs Q E hr h => ?_)
  · obtain ⟨a, l, rfl, _⟩ := h
    rfl
  · obtain ⟨a, l, rfl, hS, hask, q⟩ := h
    obtain ⟨cs, rfl, hcs, h300, hans⟩ := asked_of hask
    rw [hans] at q
    have hr2 : Room 2 _ := hr.mono (by decide)
    refine ⟨_, pss_cons (ps_set (i := 1) sc_answers.nd rfl (Or.inl rfl) (pe_make0 MM GM hr2 rfl MT.mgC bM .nil pass0))
      (pss_cons (ps_set (i := 2) sc_answers.nd rfl (Or.inl rfl) (pe_lst pa_nil))
      (pss_cons (ps_set (i := 3) sc_answers.nd rfl (Or.inl rfl) pe_int)
      (pss_cons (ps_while PassesOwn.never (pt_cmpR op_lt (pv 3) (pe_callB call_len_seq rfl T.len PySem.boot_len (pa_cons (pv 0) pa_nil)) (nomark _))
        (pss_cons (ps_set (i := 4) sc_answers.nd rfl (Or.inl rfl) (pe_fn G1 hr rfl (pa_cons (pv 0) (pa_cons (pv 3) pa_nil))))
        (pss_cons (ps_set (i := 5) sc_answers.nd rfl (Or.inl rfl) (pe_fn G2 hr rfl (pa_cons (pe_slice sl_list (pv 0) (po_some (pv 3)) (po_some (pe_op op_add (pv 3) (pv 4)))) (pa_cons (pv 1) pa_nil))))
        (pss_cons (ps_expr (pe_bm PySem.F.plainAttrs_list PySem.F.slot_list_extend PySem.F.type_list_extend mt_extend (pv 2) (pa_cons (pe_op op_cat (pe_lst (pa_cons (pe_callB call_len_seq rfl T.len PySem.boot_len (pa_cons (pv 5) pa_nil)) pa_nil)) (pv 5)) pa_nil)))
        (pss_one (ps_set (i := 3) sc_answers.nd rfl (Or.inl rfl) (pe_op op_add (pv 3) (pv 4))))))))
      (pss_one (ps_ret (pv 2)))))), ?_⟩
    -- memory = Memory(); told = []; place = 0
    intro p dxp np nd nex
    refine ⟨p, dxp, rfl, upd_same, fun H1 lm M1 nl k1 => ⟨rfl, ?_⟩⟩
    have s1 : Same H H1 := Same.made np nd k1
    have nl0 : H lm = none := by
      have g : Same H (upd (upd H dxp (.own p)) p (.ins C dxp [])) := made_same np nd
      exact g.free nl
    refine ⟨Nat.zero_le _, fun t ht => ?_⟩
    have g2 := same_new (o := .lst []) (Same.refl H1) ht
    have W0 : Turns C H a p t cs cs.length [some (.ref a), some (.ref p), some (.ref t), some (.int 0), none, none] (upd H1 t (.lst [])) [] cs none none dxp lm :=
      ⟨rfl, rfl, rfl, M1.same g2, upd_same, s1.trans g2, Ne.symm (ne_of_none M1.lst ht), np, nl0, s1.free ht, Nat.zero_le _⟩
    refine ⟨fun n σ H' => ∃ dn rest v4 v5 dx l, Turns C H a p t cs n σ H' dn rest v4 v5 dx l, ⟨_, _, _, _, _, _, _, W0⟩, ?_⟩
    rintro n σ H2 ⟨dn, rest, v4, v5, dx, l, W⟩
    obtain ⟨ecs, rfl, rfl, M, ht2, s2, tl, pn, ln, tn, few⟩ := W
    refine ⟨_, rfl, _, rfl, a, _, rfl, .inl (s2.seq hS), _, _, rfl, rfl, _, rfl, ite2 (fun h => ?_) (fun h => ?_)⟩
    · have hlt := of_decide_eq_true h
      rw [ecs, put_append, List.length_map, List.length_append] at hlt
      cases rest with
      | nil =>
        have : (PyFlat.put ([] : List KeepNeutral.Call)).length = 0 := rfl
        omega
      | cons c rest =>
        have hc : Asks c := asks_of (hcs c (by rw [ecs]; exact List.mem_append.mpr (.inr List.mem_cons_self)))
        have el : PyFlat.put cs = PyFlat.put dn ++ (PyFlat.put1 c ++ PyFlat.put rest) := by
          rw [ecs, put_append]
          rfl
        rw [el] at hS
        have lm := M.len
        obtain ⟨ok1, ok2⟩ := step_ok lm hc
        refine ⟨fun σ' H' => ∃ dn rest' v4 v5 dx l, Turns C H a p t cs rest.length σ' H' dn rest' v4 v5 dx l, fun σ' H' h' => ⟨rest.length, Nat.lt_succ_self _, h'⟩, ?_⟩
        -- size = call_size(calls, place)
        refine ⟨_, rfl, _, rfl, a, PyFlat.put dn, PyFlat.put rest, c, rfl, hc, s2.seq hS, fun H3 s3 => ?_⟩
        have s23 := s2.trans s3
        -- answer = answer_to(calls[place:place + size], memory)
        refine ⟨_, rfl, _, rfl, _, rfl, _, rfl, _, rfl, _, _, rfl, rfl, _, rfl, a, _, rfl, s23.seq hS, fun sl hsl => ?_⟩
        have ec : cutV (IL (PyFlat.put dn ++ (PyFlat.put1 c ++ PyFlat.put rest))) (some (((PyFlat.put dn).length : Nat) : Int)) (some ((((PyFlat.put dn).length : Nat) : Int) + (((PyFlat.put1 c).length : Nat) : Int))) = IL (PyFlat.put1 c) := by
          rw [cut_int _ (PyFlat.put dn).length ((PyFlat.put dn).length + (PyFlat.put1 c).length) (PyFlat.put1 c).length rfl (by omega) (by omega), List.drop_left, List.take_left]
        have g4 := same_new (o := .lst (cutV (IL (PyFlat.put dn ++ (PyFlat.put1 c ++ PyFlat.put rest))) (some (((PyFlat.put dn).length : Nat) : Int)) (some ((((PyFlat.put dn).length : Nat) : Int) + (((PyFlat.put1 c).length : Nat) : Int))))) (Same.refl H3) hsl
        have s34 := s3.trans g4
        have M4 := M.same s34
        have h300' : dn.length + 1 ≤ 300 := by
          rw [ecs, List.length_append, List.length_cons] at h300
          omega
        refine ⟨_, rfl, sl, p, dx, l, _, c, rfl, hc, SqL.of (by rw [upd_same, ec]), M4, fun H5 an dx5 l5 M5 han hl5 k5 => ?_⟩
        have ntp : t ≠ p := ne_of ht2 M.ins (by intro z; cases z)
        have ht5 := k5 _ _ (s34 _ _ ht2) ntp tl
        have tl5 : t ≠ l5 := by
          rcases hl5 with z | z
          · rw [z]
            exact tl
          · exact ne_of_none (s34 _ _ ht2) z
        have ln5 : H l5 = none := by
          rcases hl5 with z | z
          · rw [z]
            exact ln
          · exact (s2.trans s34).free z
        have s5 : Same H H5 := fun b u hb => k5 b u ((s2.trans s34) b u hb) (ne_of_none hb pn) (ne_of_none hb ln)
        -- told.extend([len(answer)] + answer)
        have la : (IL (KeepNeutral.step (stAfter KeepNeutral.start dn) c).2).length = (KeepNeutral.step (stAfter KeepNeutral.start dn) c).2.length := List.length_map ..
        have e9 := played_snoc dn KeepNeutral.start c
        have e8 := stAfter_snoc KeepNeutral.start dn c
        rw [← e8] at M5
        generalize (KeepNeutral.step (stAfter KeepNeutral.start dn) c).2 = ans at han la ok2 e9
        refine ⟨_, rfl, .inl ⟨rfl, _, SqL.of ht5⟩, _, rfl, an, _, rfl, .inl (SqL.of han), (by show 1 ≤ sizeLine; decide), fun c1 h1 => ?_⟩
        have f1 := same_new (o := .lst [V.int (((IL ans).length : Nat) : Int)]) (Same.refl H5) h1
        refine ⟨_, rfl, c1, an, _, _, rfl, rfl, upd_same, f1 _ _ han, ?_, fun c2 h2 => ?_⟩
        · rw [la, size_is]
          show 1 + _ ≤ _
          omega
        have f2 := same_new (o := .lst ([V.int (((IL ans).length : Nat) : Int)] ++ IL ans)) f1 h2
        have et : PyFlat.told (PyFlat.played KeepNeutral.step KeepNeutral.start (dn ++ [c])) = PyFlat.told (PyFlat.played KeepNeutral.step KeepNeutral.start dn) ++ ((ans.length : Int) :: ans) := by rw [e9, told_snoc]
        refine ⟨t, c2, _, _, rfl, rfl, f2 _ _ ht5, upd_same, ?_, ?_⟩
        · rw [List.length_append, la, List.length_map, size_is]
          show _ + (1 + _) ≤ _
          omega
        -- place = place + size
        refine ⟨_, rfl, _, rfl, _, _, rfl, rfl, dn ++ [c], rest, some (.int ((PyFlat.put1 c).length : Nat)), some (.ref an), dx5, l5, ⟨?_, rfl, ?_, ?_, ?_, ?_, tl5, pn, ln5, tn, ?_⟩⟩
        · rw [ecs, List.append_assoc]
          rfl
        · have ep : (((PyFlat.put dn).length : Nat) : Int) + (((PyFlat.put1 c).length : Nat) : Int) = (((PyFlat.put (dn ++ [c])).length : Nat) : Int) := by
            rw [put_append, List.length_append]
            show _ = (((PyFlat.put dn).length + (PyFlat.put1 c ++ []).length : Nat) : Int)
            rw [List.append_nil]
            omega
          rw [← ep]
          rfl
        · have M6 := M5.same f2
          have tp : t ≠ p := ne_of ht5 M5.ins (by intro z; cases z)
          exact ⟨by rw [upd_ne (Ne.symm tp)]; exact M6.ins, by rw [upd_ne (Ne.symm tl5)]; exact M6.lst, M6.len⟩
        · rw [upd_same, et, il_append, la]
          rfl
        · exact same_upd (s5.trans f2) tn
        · rw [et, List.length_append, List.length_cons, List.length_append]
          show _ + (_ + 1) ≤ 601 * (_ + 1)
          omega
    · have hge : ¬ ((PyFlat.put dn).length < (PyFlat.put (dn ++ rest)).length) := fun z => h (decide_eq_true (by rw [List.length_map, ecs]; omega))
      cases rest with
      | nil =>
        rw [List.append_nil] at ecs
        rw [ecs] at q
        exact ⟨_, rfl, q _ t ht2⟩
      | cons c rest =>
        have hc : Asks c := asks_of (hcs c (by rw [ecs]; exact List.mem_append.mpr (.inr List.mem_cons_self)))
        have := put1_pos hc
        refine absurd ?_ hge
        rw [put_append, List.length_append]
        show _ < _ + (PyFlat.put1 c ++ PyFlat.put rest).length
        rw [List.length_append]
        omega
end
end Hw

set_option Elab.async false
set_option linter.all false
set_option maxRecDepth 100000
set_option maxHeartbeats 4000000
namespace Hw
open PySem PySem.Spec PyProof.Rows L2
/-! ### the whole program, from what its top has written -/
structure Defs (K : PySem.W.Frag) (mg : Str → Option Value) : Prop where
  octets_of : ∃ f fd, Df K mg "octets_of" (top 27) f fd
  number_of : ∃ f fd, Df K mg "number_of" (top 28) f fd
  crc_of : ∃ f fd, Df K mg "crc_of" (top 29) f fd
  is_score : ∃ f fd, Df K mg "is_score" (top 30) f fd
  is_letter : ∃ f fd, Df K mg "is_letter" (top 31) f fd
  levels_of : ∃ f fd, Df K mg "levels_of" (top 32) f fd
  entries_of : ∃ f fd, Df K mg "entries_of" (top 33) f fd
  is_setup_right : ∃ f fd, Df K mg "is_setup_right" (top 34) f fd
  are_levels_right : ∃ f fd, Df K mg "are_levels_right" (top 35) f fd
  is_best_right : ∃ f fd, Df K mg "is_best_right" (top 36) f fd
  is_right : ∃ f fd, Df K mg "is_right" (top 37) f fd
  octets_of_content : ∃ f fd, Df K mg "octets_of_content" (top 38) f fd
  numbers_of : ∃ f fd, Df K mg "numbers_of" (top 39) f fd
  content_of : ∃ f fd, Df K mg "content_of" (top 40) f fd
  new_half : ∃ f fd, Df K mg "new_half" (top 41) f fd
  half_at : ∃ f fd, Df K mg "half_at" (top 42) f fd
  number_in : ∃ f fd, Df K mg "number_in" (top 43) f fd
  content_in : ∃ f fd, Df K mg "content_in" (top 44) f fd
  is_whole : ∃ f fd, Df K mg "is_whole" (top 45) f fd
  number_behind : ∃ f fd, Df K mg "number_behind" (top 46) f fd
  half_read : ∃ f fd, Df K mg "half_read" (top 47) f fd
  writes_over : ∃ f fd, Df K mg "writes_over" (top 48) f fd
  writes_until_cut : ∃ f fd, Df K mg "writes_until_cut" (top 49) f fd
  call_size : ∃ f fd, Df K mg "call_size" (top 52) f fd
  answer_to : ∃ f fd, Df K mg "answer_to" (top 53) f fd
  plan : ∃ C f fd, PlanT K mg C ∧ Mk K C f ∧ Fun K "__init__" "Plan.__init__" (inClass (top 50) 0) f fd
  mem : ∃ C, MemT K mg C ∧ (∃ f fd, Mk K C f ∧ Fun K "__init__" "Memory.__init__" (inClass (top 51) 0) f fd) ∧ (∃ f fd, Md K C "load" "Memory.load" (inClass (top 51) 1) f fd) ∧ (∃ f fd, Md K C "read" "Memory.read" (inClass (top 51) 2) f fd) ∧ (∃ f fd, Md K C "plan" "Memory.plan" (inClass (top 51) 3) f fd) ∧ (∃ f fd, Md K C "save" "Memory.save" (inClass (top 51) 4) f fd) ∧ (∃ f fd, Md K C "cut" "Memory.cut" (inClass (top 51) 5) f fd) ∧ (∃ f fd, Md K C "bytes_of" "Memory.bytes_of" (inClass (top 51) 6) f fd) ∧ (∃ f fd, Md K C "write" "Memory.write" (inClass (top 51) 7) f fd)
theorem df_mk {K : PySem.W.Frag} {h : Heap} {mg : Str → Option Value} {x : Str} {st : Stmt} {f : Addr} {od an : Option Addr} {sl : Array (Option Value)} {oc kV dc pm cd ct : Value} (X : K.In h) (G : h.Ns mainGlobals mg)
    (a : PySem.W.nsIn K mainGlobals x = some (some (.ref f))) (l : K.lookup f = some ⟨oc, od, .func (PySem.W.fnOf x x (defArgs st) (defBody st) (defScope st) .none kV dc pm an cd ct), sl⟩) (c : PySem.W.codeIn K cd x = true) (k : PySem.W.keepIn K (.ref f) = true) : ∃ f fd, Df K mg x st f fd :=
  ⟨f, _, fun_mk (st := st) l c k, PySem.W.mg_of X G a⟩
theorem md_mk {K : PySem.W.Frag} {x qual : Str} {st : Stmt} {C f : Addr} {od an : Option Addr} {sl : Array (Option Value)} {oc kV dc pm cd ct : Value}
    (a : PySem.W.findIn K (.ref C) x = some (some (.ref f))) (i : PySem.W.isFn K (.ref f) = true) (l : K.lookup f = some ⟨oc, od, .func (PySem.W.fnOf x qual (defArgs st) (defBody st) (defScope st) .none kV dc pm an cd ct), sl⟩) (c : PySem.W.codeIn K cd qual = true) (k : PySem.W.keepIn K (.ref f) = true) : ∃ f fd, Md K C x qual st f fd :=
  ⟨f, _, fun_mk (st := st) l c k, a, i, k⟩
theorem init_mk {K : PySem.W.Frag} {qual : Str} {st : Stmt} {C f : Addr} {od an : Option Addr} {sl : Array (Option Value)} {oc kV dc pm cd ct : Value} (mk : PySem.W.makesIn K C = true) (kc : PySem.W.keepIn K (.ref C) = true)
    (a : PySem.W.findIn K (.ref C) "__init__" = some (some (.ref f))) (i : PySem.W.isFn K (.ref f) = true) (l : K.lookup f = some ⟨oc, od, .func (PySem.W.fnOf "__init__" qual (defArgs st) (defBody st) (defScope st) .none kV dc pm an cd ct), sl⟩) (c : PySem.W.codeIn K cd qual = true) (k : PySem.W.keepIn K (.ref f) = true) :
    ∃ f fd, Mk K C f ∧ Fun K "__init__" qual st f fd := ⟨f, _, ⟨mk, a, i, kc⟩, fun_mk (st := st) l c k⟩
theorem gi_mk {K : PySem.W.Frag} {h : Heap} {mg : Str → Option Value} {x : Str} {i : Int} {t : Tok} (X : K.In h) (G : h.Ns mainGlobals mg) (a : PySem.W.nsIn K mainGlobals x = some (some (.int i t))) : GI mg x i := ⟨t, PySem.W.mg_of X G a⟩
theorem tup_mk {K : PySem.W.Frag} {a n : Nat} {od : Option Addr} {its : Array Value} {sl : Array (Option Value)} (xs : List V) (l : K.lookup a = some ⟨.type "tuple", od, .seq its n, sl⟩) (z : its.size ≤ sizeLine) (v : Vals xs its.toList) : ∀ H, SqT K H a xs := fun H =>
  .inr ⟨_, its, n, l, rfl, rfl, z, v⟩
theorem bounds_mk {K : PySem.W.Frag} {mg : Str → Option Value} {a b0 b1 b2 b3 b4 b5 n n0 n1 n2 n3 n4 n5 : Nat} {od od0 od1 od2 od3 od4 od5 : Option Addr} {i0 i1 i2 i3 i4 i5 : Array Value} {sl sl0 sl1 sl2 sl3 sl4 sl5 : Array (Option Value)} (m : mg "SETUP_BOUNDS" = some (.ref a))
    (l : K.lookup a = some ⟨.type "tuple", od, .seq #[.ref b0, .ref b1, .ref b2, .ref b3, .ref b4, .ref b5] n, sl⟩) (z : (#[.ref b0, .ref b1, .ref b2, .ref b3, .ref b4, .ref b5] : Array Value).size ≤ sizeLine)
    (l0 : K.lookup b0 = some ⟨.type "tuple", od0, .seq i0 n0, sl0⟩) (z0 : i0.size ≤ sizeLine) (v0 : Vals (IL [1, 9]) i0.toList)
    (l1 : K.lookup b1 = some ⟨.type "tuple", od1, .seq i1 n1, sl1⟩) (z1 : i1.size ≤ sizeLine) (v1 : Vals (IL [1, 9]) i1.toList)
    (l2 : K.lookup b2 = some ⟨.type "tuple", od2, .seq i2 n2, sl2⟩) (z2 : i2.size ≤ sizeLine) (v2 : Vals (IL [0, 9]) i2.toList)
    (l3 : K.lookup b3 = some ⟨.type "tuple", od3, .seq i3 n3, sl3⟩) (z3 : i3.size ≤ sizeLine) (v3 : Vals (IL [1, 4]) i3.toList)
    (l4 : K.lookup b4 = some ⟨.type "tuple", od4, .seq i4 n4, sl4⟩) (z4 : i4.size ≤ sizeLine) (v4 : Vals (IL [0, 1]) i4.toList)
    (l5 : K.lookup b5 = some ⟨.type "tuple", od5, .seq i5 n5, sl5⟩) (z5 : i5.size ≤ sizeLine) (v5 : Vals (IL [0, 100000]) i5.toList) :
    ∃ a b0 b1 b2 b3 b4 b5, GT K mg "SETUP_BOUNDS" a [.ref b0, .ref b1, .ref b2, .ref b3, .ref b4, .ref b5] ∧ ∀ H, SqT K H b0 (IL [1, 9]) ∧ SqT K H b1 (IL [1, 9]) ∧ SqT K H b2 (IL [0, 9]) ∧ SqT K H b3 (IL [1, 4]) ∧ SqT K H b4 (IL [0, 1]) ∧ SqT K H b5 (IL [0, 100000]) :=
  ⟨a, b0, b1, b2, b3, b4, b5, ⟨m, tup_mk _ l z (.cons rfl (.cons rfl (.cons rfl (.cons rfl (.cons rfl (.cons rfl .nil))))))⟩, fun H => ⟨tup_mk _ l0 z0 v0 H, tup_mk _ l1 z1 v1 H, tup_mk _ l2 z2 v2 H, tup_mk _ l3 z3 v3 H, tup_mk _ l4 z4 v4 H, tup_mk _ l5 z5 v5 H⟩⟩
theorem planc_mk {K : PySem.W.Frag} {h : Heap} {mg : Str → Option Value} {st : Stmt} {C f : Addr} {od an : Option Addr} {sl : Array (Option Value)} {oc kV dc pm cd ct : Value} (X : K.In h) (G : h.Ns mainGlobals mg) (aC : PySem.W.nsIn K mainGlobals "Plan" = some (some (.ref C)))
    (pg : PySem.W.plainGet K C Str.empty = true) (hd : PySem.W.hasDictIn K C = true) (po : PySem.W.plainOver K C = true) (sa : PySem.W.findIn K (.ref C) "__setattr__" = some (some (.builtin "object.__setattr__"))) (n1 : PySem.W.findIn K (.ref C) "half" = some none) (n2 : PySem.W.findIn K (.ref C) "writes" = some none)
    (mk : PySem.W.makesIn K C = true) (kc : PySem.W.keepIn K (.ref C) = true) (a : PySem.W.findIn K (.ref C) "__init__" = some (some (.ref f))) (i : PySem.W.isFn K (.ref f) = true) (l : K.lookup f = some ⟨oc, od, .func (PySem.W.fnOf "__init__" "Plan.__init__" (defArgs st) (defBody st) (defScope st) .none kV dc pm an cd ct), sl⟩) (c : PySem.W.codeIn K cd "Plan.__init__" = true) (k : PySem.W.keepIn K (.ref f) = true) :
    ∃ C f fd, PlanT K mg C ∧ Mk K C f ∧ Fun K "__init__" "Plan.__init__" st f fd := ⟨C, f, _, ⟨⟨pg, hd, po, sa⟩, n1, n2, PySem.W.mg_of X G aC⟩, ⟨mk, a, i, kc⟩, fun_mk (st := st) l c k⟩
theorem memt_mk {K : PySem.W.Frag} {h : Heap} {mg : Str → Option Value} {C : Addr} (X : K.In h) (G : h.Ns mainGlobals mg) (aC : PySem.W.nsIn K mainGlobals "Memory" = some (some (.ref C)))
    (pg : PySem.W.plainGet K C Str.empty = true) (hd : PySem.W.hasDictIn K C = true) (po : PySem.W.plainOver K C = true) (sa : PySem.W.findIn K (.ref C) "__setattr__" = some (some (.builtin "object.__setattr__"))) (n1 : PySem.W.findIn K (.ref C) "octets" = some none) : MemT K mg C := ⟨⟨pg, hd, po, sa⟩, n1, PySem.W.mg_of X G aC⟩
section
variable {P : Program} {w : World} {K : PySem.W.Frag} {mg : Str → Option Value} {base : Heap}
theorem whole_ok {f : Addr} {fd : FuncData} (T : Txt K mg) (D : Defs K mg) (F : Df K mg "answers" (top 54) f fd) : FnOk P w K mg base CX0 11 f fd ["calls"] (spAns K) := by
  obtain ⟨_, _, F1⟩ := D.octets_of
  obtain ⟨_, _, F2⟩ := D.number_of
  obtain ⟨_, _, F3⟩ := D.crc_of
  obtain ⟨_, _, F4⟩ := D.is_score
  obtain ⟨_, _, F5⟩ := D.is_letter
  obtain ⟨_, _, F6⟩ := D.levels_of
  obtain ⟨_, _, F7⟩ := D.entries_of
  obtain ⟨_, _, F8⟩ := D.is_setup_right
  obtain ⟨_, _, F9⟩ := D.are_levels_right
  obtain ⟨_, _, F10⟩ := D.is_best_right
  obtain ⟨_, _, F11⟩ := D.is_right
  obtain ⟨_, _, F12⟩ := D.octets_of_content
  obtain ⟨_, _, F13⟩ := D.numbers_of
  obtain ⟨_, _, F14⟩ := D.content_of
  obtain ⟨_, _, F15⟩ := D.new_half
  obtain ⟨_, _, F16⟩ := D.half_at
  obtain ⟨_, _, F17⟩ := D.number_in
  obtain ⟨_, _, F18⟩ := D.content_in
  obtain ⟨_, _, F19⟩ := D.is_whole
  obtain ⟨_, _, F20⟩ := D.number_behind
  obtain ⟨_, _, F21⟩ := D.half_read
  obtain ⟨_, _, F22⟩ := D.writes_over
  obtain ⟨_, _, F23⟩ := D.writes_until_cut
  obtain ⟨_, _, F24⟩ := D.call_size
  obtain ⟨_, _, F25⟩ := D.answer_to
  obtain ⟨CP, _, _, PT, MP, FP⟩ := D.plan
  obtain ⟨C, MT, ⟨_, _, MM, FM⟩, ⟨_, _, M1⟩, ⟨_, _, M2⟩, ⟨_, _, M3⟩, ⟨_, _, M4⟩, ⟨_, _, M5⟩, ⟨_, _, M6⟩, ⟨_, _, M7⟩⟩ := D.mem
  have G1 : Fn P w K mg base _ _ _ _ := ok_octets_of F1 T
  have G2 : Fn P w K mg base _ _ _ _ := ok_number_of F2 T
  have G3 : Fn P w K mg base _ _ _ _ := ok_crc_of F3 T
  have G4 : Fn P w K mg base _ _ _ _ := ok_is_score F4 T
  have G5 : Fn P w K mg base _ _ _ _ := ok_is_letter F5 T
  have G6 : Fn P w K mg base _ _ _ _ := ok_levels_of F6 T
  have G7 : Fn P w K mg base _ _ _ _ := ok_entries_of F7 T
  have G8 : Fn P w K mg base _ _ _ _ := ok_is_setup_right F8 T
  have G9 := ok_are_levels_right F9 T G4
  have G10 := ok_is_best_right F10 T G4 G5
  have G11 := ok_is_right F11 T G8 G9 G6 G10 G7
  have G12 := ok_octets_of_content F12 T G6 G1 G7
  have G13 := ok_numbers_of F13 T G2
  have G14 := ok_content_of F14 T G2 G13
  have G15 := ok_new_half F15 T G1 G12 G3
  have G16 : Fn P w K mg base _ _ _ _ := ok_half_at F16 T
  have G17 := ok_number_in F17 T G2
  have G18 := ok_content_in F18 T G14
  have G19 := ok_is_whole F19 T G18 G11 G15 G17
  have G20 := ok_number_behind F20 T G17
  have G21 := ok_half_read F21 T G19 G16 G17 G20
  have G22 : Fn P w K mg base _ _ _ _ := ok_writes_over F22 T
  have G23 : Fn P w K mg base _ _ _ _ := ok_writes_until_cut F23 T
  have G24 : Fn P w K mg base _ _ _ _ := ok_call_size F24 T
  have GP := ok_plan_init FP T PT G21 G20 G16 G22 G15
  have bP := FP.binds (ps := ["self", "octets", "content"]) fun _ _ _ _ _ _ us hl => match us, hl with | [_, _, _], _ => rfl
  have GM : FnOk P w K mg base CX0 1 _ _ ["self"] (spMem C) := ok_mem_init FM T MT
  have bM := FM.binds (ps := ["self"]) fun _ _ _ _ _ _ us hl => match us, hl with | [_], _ => rfl
  have N1 : Mt P w K mg base C _ _ _ _ := ok_load M1 T MT
  have N2 := ok_read M2 T MT G21 G18 G16
  have N7 : Mt P w K mg base C _ _ _ _ := ok_write M7 T MT
  have N3 := ok_plan M3 T MT PT MP bP GP G11
  have N4 := ok_save M4 T MT PT MP bP GP G11 N7
  have N5 := ok_cut M5 T MT PT MP bP GP G11 N7 G23
  have N6 : Mt P w K mg base C _ _ _ _ := ok_bytes_of M6 T MT
  have G25 := ok_answer_to F25 T MT N1 N2 N3 N4 N5 N6 G3
  exact ok_answers F T MT MM bM GM G24 G25
end
theorem ans_mk {P : Program} {w : World} {K : PySem.W.Frag} {h : Heap} {mg : Str → Option Value} {fa f : Addr} {od an : Option Addr} {sl : Array (Option Value)} {oc kV dc pm cd ct : Value} (X : K.In h) (G : h.Ns mainGlobals mg) (hfa : mg "answers" = some (.ref fa)) (T : Txt K mg) (D : Defs K mg)
    (a : PySem.W.nsIn K mainGlobals "answers" = some (some (.ref f))) (l : K.lookup f = some ⟨oc, od, .func (PySem.W.fnOf "answers" "answers" (defArgs (top 54)) (defBody (top 54)) (defScope (top 54)) .none kV dc pm an cd ct), sl⟩) (c : PySem.W.codeIn K cd "answers" = true) (k : PySem.W.keepIn K (.ref f) = true) :
    ∃ fd : FuncData, (∀ (s : Shared) (us : List Value), us.length = (["calls"] : List Str).length → BindsTo s fd ⟨us, []⟩ ((["calls"] : List Str).zip us)) ∧ ∀ base : Heap, K.In base → base.Ns mainGlobals mg → FnOk P w K mg base CX0 11 fa fd ["calls"] (spAns K) := by
  have e := hfa.symm.trans (PySem.W.mg_of X G a)
  cases e
  exact ⟨_, fun s us hu => match us, hu with | [_], _ => .of_eq rfl, fun base _ _ => whole_ok T D ⟨fun_mk (st := top 54) l c k, hfa⟩⟩
end Hw

set_option Elab.async false
set_option linter.all false
open PySem PySem.W PyProof.Rows
set_option maxRecDepth 100000 in
set_option maxHeartbeats 0 in
theorem PySem.Challenge.cw_halfwhole_s01_answers_holds : PySem.Challenge.rw_halfwhole_s01_answers.Holds := by
  w_on; k_headS; (case hw => exact ⟨[.list [.int 2]], by decide +kernel, by decide +kernel⟩)
  k_fillS
  refine L2.walk_specK (r := PySem.Challenge.rw_halfwhole_s01_answers) (k := 11) (CX := L2.CX0) (ps := ["calls"]) (sp := Hw.spAns) (by decide +kernel) rfl rfl ⟨rfl, by decide, by decide⟩ (fun w h Y => PySem.W.kIn_of Y) ?F ?S (fun _ _ _ _ z => z)
  case F =>
    intro w mg fa h Y KX G hmg
    have i_LOAD : Hw.GI mg "LOAD" 1 := by
      refine' Hw.gi_mk KX G ?a
      (case a => k_is)
    have i_READ : Hw.GI mg "READ" 2 := by
      refine' Hw.gi_mk KX G ?a
      (case a => k_is)
    have i_PLAN : Hw.GI mg "PLAN" 3 := by
      refine' Hw.gi_mk KX G ?a
      (case a => k_is)
    have i_SAVE : Hw.GI mg "SAVE" 4 := by
      refine' Hw.gi_mk KX G ?a
      (case a => k_is)
    have i_CUT : Hw.GI mg "CUT" 5 := by
      refine' Hw.gi_mk KX G ?a
      (case a => k_is)
    have i_BYTES_OF : Hw.GI mg "BYTES_OF" 6 := by
      refine' Hw.gi_mk KX G ?a
      (case a => k_is)
    have i_CRC : Hw.GI mg "CRC" 7 := by
      refine' Hw.gi_mk KX G ?a
      (case a => k_is)
    have i_DONE : Hw.GI mg "DONE" 0 := by
      refine' Hw.gi_mk KX G ?a
      (case a => k_is)
    have i_NOT_512 : Hw.GI mg "NOT_512" (-1) := by
      refine' Hw.gi_mk KX G ?a
      (case a => k_is)
    have i_NOTHING : Hw.GI mg "NOTHING" (-4) := by
      refine' Hw.gi_mk KX G ?a
      (case a => k_is)
    have i_NOT_RIGHT : Hw.GI mg "NOT_RIGHT" (-8) := by
      refine' Hw.gi_mk KX G ?a
      (case a => k_is)
    have i_MEMORY_SIZE : Hw.GI mg "MEMORY_SIZE" 512 := by
      refine' Hw.gi_mk KX G ?a
      (case a => k_is)
    have i_HALF_SIZE : Hw.GI mg "HALF_SIZE" 256 := by
      refine' Hw.gi_mk KX G ?a
      (case a => k_is)
    have i_NUMBER_END : Hw.GI mg "NUMBER_END" 4294967296 := by
      refine' Hw.gi_mk KX G ?a
      (case a => k_is)
    have i_ALL_BITS : Hw.GI mg "ALL_BITS" 4294967295 := by
      refine' Hw.gi_mk KX G ?a
      (case a => k_is)
    have i_POLYNOMIAL : Hw.GI mg "POLYNOMIAL" 2197175160 := by
      refine' Hw.gi_mk KX G ?a
      (case a => k_is)
    have i_SCORE_END : Hw.GI mg "SCORE_END" 281474976710656 := by
      refine' Hw.gi_mk KX G ?a
      (case a => k_is)
    have i_SCORE_DIGITS : Hw.GI mg "SCORE_DIGITS" 12 := by
      refine' Hw.gi_mk KX G ?a
      (case a => k_is)
    have i_MOST_LEVELS : Hw.GI mg "MOST_LEVELS" 4 := by
      refine' Hw.gi_mk KX G ?a
      (case a => k_is)
    have i_SETUP : Hw.GI mg "SETUP" 8 := by
      refine' Hw.gi_mk KX G ?a
      (case a => k_is)
    have i_TICKS : Hw.GI mg "TICKS" 13 := by
      refine' Hw.gi_mk KX G ?a
      (case a => k_is)
    have i_LEVEL_COUNT : Hw.GI mg "LEVEL_COUNT" 14 := by
      refine' Hw.gi_mk KX G ?a
      (case a => k_is)
    have i_LEVELS : Hw.GI mg "LEVELS" 15 := by
      refine' Hw.gi_mk KX G ?a
      (case a => k_is)
    have n_range : mg "range" = none := by
      refine' PySem.W.mg_none_of KX G ?a
      (case a => k_is)
    have n_len : mg "len" = none := by
      refine' PySem.W.mg_none_of KX G ?a
      (case a => k_is)
    have n_all : mg "all" = none := by
      refine' PySem.W.mg_none_of KX G ?a
      (case a => k_is)
    have n_list : mg "list" = none := by
      refine' PySem.W.mg_none_of KX G ?a
      (case a => k_is)
    have n_reversed : mg "reversed" = none := by
      refine' PySem.W.mg_none_of KX G ?a
      (case a => k_is)
    have n_zip : mg "zip" = none := by
      refine' PySem.W.mg_none_of KX G ?a
      (case a => k_is)
    have t_MARK : ∃ a, Hw.GT (L2.KOf KX) mg "MARK" a (Hw.IL [84, 76, 75, 49]) := by
      dsimp only [L2.KOf]
      refine' ⟨_, PySem.W.mg_of KX G ?a, Hw.tup_mk _ ?l ?z ?v⟩
      (case a => k_is); (case l => k_is)
      (case z => decide)
      (case v => exact .cons ⟨_, rfl⟩ (.cons ⟨_, rfl⟩ (.cons ⟨_, rfl⟩ (.cons ⟨_, rfl⟩ .nil))))
    have t_BOUNDS : ∃ a b0 b1 b2 b3 b4 b5, Hw.GT (L2.KOf KX) mg "SETUP_BOUNDS" a [.ref b0, .ref b1, .ref b2, .ref b3, .ref b4, .ref b5] ∧ ∀ H, L2.SqT (L2.KOf KX) H b0 (Hw.IL [1, 9]) ∧ L2.SqT (L2.KOf KX) H b1 (Hw.IL [1, 9]) ∧ L2.SqT (L2.KOf KX) H b2 (Hw.IL [0, 9]) ∧ L2.SqT (L2.KOf KX) H b3 (Hw.IL [1, 4]) ∧ L2.SqT (L2.KOf KX) H b4 (Hw.IL [0, 1]) ∧ L2.SqT (L2.KOf KX) H b5 (Hw.IL [0, 100000]) := by
      dsimp only [L2.KOf]
      refine' Hw.bounds_mk (PySem.W.mg_of KX G ?a) ?l ?z ?l0 ?z0 ?v0 ?l1 ?z1 ?v1 ?l2 ?z2 ?v2 ?l3 ?z3 ?v3 ?l4 ?z4 ?v4 ?l5 ?z5 ?v5
      (case a => k_is); (case l => k_is); (case z => decide)
      (case l0 => k_is); (case z0 => decide); (case v0 => exact .cons ⟨_, rfl⟩ (.cons ⟨_, rfl⟩ .nil))
      (case l1 => k_is); (case z1 => decide); (case v1 => exact .cons ⟨_, rfl⟩ (.cons ⟨_, rfl⟩ .nil))
      (case l2 => k_is); (case z2 => decide); (case v2 => exact .cons ⟨_, rfl⟩ (.cons ⟨_, rfl⟩ .nil))
      (case l3 => k_is); (case z3 => decide); (case v3 => exact .cons ⟨_, rfl⟩ (.cons ⟨_, rfl⟩ .nil))
      (case l4 => k_is); (case z4 => decide); (case v4 => exact .cons ⟨_, rfl⟩ (.cons ⟨_, rfl⟩ .nil))
      (case l5 => k_is); (case z5 => decide); (case v5 => exact .cons ⟨_, rfl⟩ (.cons ⟨_, rfl⟩ .nil))
    have T : Hw.Txt (L2.KOf KX) mg := ⟨i_LOAD, i_READ, i_PLAN, i_SAVE, i_CUT, i_BYTES_OF, i_CRC, i_DONE, i_NOT_512, i_NOTHING, i_NOT_RIGHT, i_MEMORY_SIZE, i_HALF_SIZE, i_NUMBER_END, i_ALL_BITS, i_POLYNOMIAL, i_SCORE_END, i_SCORE_DIGITS, i_MOST_LEVELS, i_SETUP, i_TICKS, i_LEVEL_COUNT, i_LEVELS, t_MARK, t_BOUNDS, n_range, n_len, n_all, n_list, n_reversed, n_zip⟩
    have d_octets_of : ∃ f fd, Hw.Df (L2.KOf KX) mg "octets_of" (Hw.top 27) f fd := by
      dsimp only [L2.KOf]
      refine' Hw.df_mk KX G ?a ?l ?c ?k
      (case a => k_is); (case l => k_is); (case c => k_is); (case k => k_is)
    have d_number_of : ∃ f fd, Hw.Df (L2.KOf KX) mg "number_of" (Hw.top 28) f fd := by
      dsimp only [L2.KOf]
      refine' Hw.df_mk KX G ?a ?l ?c ?k
      (case a => k_is); (case l => k_is); (case c => k_is); (case k => k_is)
    have d_crc_of : ∃ f fd, Hw.Df (L2.KOf KX) mg "crc_of" (Hw.top 29) f fd := by
      dsimp only [L2.KOf]
      refine' Hw.df_mk KX G ?a ?l ?c ?k
      (case a => k_is); (case l => k_is); (case c => k_is); (case k => k_is)
    have d_is_score : ∃ f fd, Hw.Df (L2.KOf KX) mg "is_score" (Hw.top 30) f fd := by
      dsimp only [L2.KOf]
      refine' Hw.df_mk KX G ?a ?l ?c ?k
      (case a => k_is); (case l => k_is); (case c => k_is); (case k => k_is)
    have d_is_letter : ∃ f fd, Hw.Df (L2.KOf KX) mg "is_letter" (Hw.top 31) f fd := by
      dsimp only [L2.KOf]
      refine' Hw.df_mk KX G ?a ?l ?c ?k
      (case a => k_is); (case l => k_is); (case c => k_is); (case k => k_is)
    have d_levels_of : ∃ f fd, Hw.Df (L2.KOf KX) mg "levels_of" (Hw.top 32) f fd := by
      dsimp only [L2.KOf]
      refine' Hw.df_mk KX G ?a ?l ?c ?k
      (case a => k_is); (case l => k_is); (case c => k_is); (case k => k_is)
    have d_entries_of : ∃ f fd, Hw.Df (L2.KOf KX) mg "entries_of" (Hw.top 33) f fd := by
      dsimp only [L2.KOf]
      refine' Hw.df_mk KX G ?a ?l ?c ?k
      (case a => k_is); (case l => k_is); (case c => k_is); (case k => k_is)
    have d_is_setup_right : ∃ f fd, Hw.Df (L2.KOf KX) mg "is_setup_right" (Hw.top 34) f fd := by
      dsimp only [L2.KOf]
      refine' Hw.df_mk KX G ?a ?l ?c ?k
      (case a => k_is); (case l => k_is); (case c => k_is); (case k => k_is)
    have d_are_levels_right : ∃ f fd, Hw.Df (L2.KOf KX) mg "are_levels_right" (Hw.top 35) f fd := by
      dsimp only [L2.KOf]
      refine' Hw.df_mk KX G ?a ?l ?c ?k
      (case a => k_is); (case l => k_is); (case c => k_is); (case k => k_is)
    have d_is_best_right : ∃ f fd, Hw.Df (L2.KOf KX) mg "is_best_right" (Hw.top 36) f fd := by
      dsimp only [L2.KOf]
      refine' Hw.df_mk KX G ?a ?l ?c ?k
      (case a => k_is); (case l => k_is); (case c => k_is); (case k => k_is)
    have d_is_right : ∃ f fd, Hw.Df (L2.KOf KX) mg "is_right" (Hw.top 37) f fd := by
      dsimp only [L2.KOf]
      refine' Hw.df_mk KX G ?a ?l ?c ?k
      (case a => k_is); (case l => k_is); (case c => k_is); (case k => k_is)
    have d_octets_of_content : ∃ f fd, Hw.Df (L2.KOf KX) mg "octets_of_content" (Hw.top 38) f fd := by
      dsimp only [L2.KOf]
      refine' Hw.df_mk KX G ?a ?l ?c ?k
      (case a => k_is); (case l => k_is); (case c => k_is); (case k => k_is)
    have d_numbers_of : ∃ f fd, Hw.Df (L2.KOf KX) mg "numbers_of" (Hw.top 39) f fd := by
      dsimp only [L2.KOf]
      refine' Hw.df_mk KX G ?a ?l ?c ?k
      (case a => k_is); (case l => k_is); (case c => k_is); (case k => k_is)
    have d_content_of : ∃ f fd, Hw.Df (L2.KOf KX) mg "content_of" (Hw.top 40) f fd := by
      dsimp only [L2.KOf]
      refine' Hw.df_mk KX G ?a ?l ?c ?k
      (case a => k_is); (case l => k_is); (case c => k_is); (case k => k_is)
    have d_new_half : ∃ f fd, Hw.Df (L2.KOf KX) mg "new_half" (Hw.top 41) f fd := by
      dsimp only [L2.KOf]
      refine' Hw.df_mk KX G ?a ?l ?c ?k
      (case a => k_is); (case l => k_is); (case c => k_is); (case k => k_is)
    have d_half_at : ∃ f fd, Hw.Df (L2.KOf KX) mg "half_at" (Hw.top 42) f fd := by
      dsimp only [L2.KOf]
      refine' Hw.df_mk KX G ?a ?l ?c ?k
      (case a => k_is); (case l => k_is); (case c => k_is); (case k => k_is)
    have d_number_in : ∃ f fd, Hw.Df (L2.KOf KX) mg "number_in" (Hw.top 43) f fd := by
      dsimp only [L2.KOf]
      refine' Hw.df_mk KX G ?a ?l ?c ?k
      (case a => k_is); (case l => k_is); (case c => k_is); (case k => k_is)
    have d_content_in : ∃ f fd, Hw.Df (L2.KOf KX) mg "content_in" (Hw.top 44) f fd := by
      dsimp only [L2.KOf]
      refine' Hw.df_mk KX G ?a ?l ?c ?k
      (case a => k_is); (case l => k_is); (case c => k_is); (case k => k_is)
    have d_is_whole : ∃ f fd, Hw.Df (L2.KOf KX) mg "is_whole" (Hw.top 45) f fd := by
      dsimp only [L2.KOf]
      refine' Hw.df_mk KX G ?a ?l ?c ?k
      (case a => k_is); (case l => k_is); (case c => k_is); (case k => k_is)
    have d_number_behind : ∃ f fd, Hw.Df (L2.KOf KX) mg "number_behind" (Hw.top 46) f fd := by
      dsimp only [L2.KOf]
      refine' Hw.df_mk KX G ?a ?l ?c ?k
      (case a => k_is); (case l => k_is); (case c => k_is); (case k => k_is)
    have d_half_read : ∃ f fd, Hw.Df (L2.KOf KX) mg "half_read" (Hw.top 47) f fd := by
      dsimp only [L2.KOf]
      refine' Hw.df_mk KX G ?a ?l ?c ?k
      (case a => k_is); (case l => k_is); (case c => k_is); (case k => k_is)
    have d_writes_over : ∃ f fd, Hw.Df (L2.KOf KX) mg "writes_over" (Hw.top 48) f fd := by
      dsimp only [L2.KOf]
      refine' Hw.df_mk KX G ?a ?l ?c ?k
      (case a => k_is); (case l => k_is); (case c => k_is); (case k => k_is)
    have d_writes_until_cut : ∃ f fd, Hw.Df (L2.KOf KX) mg "writes_until_cut" (Hw.top 49) f fd := by
      dsimp only [L2.KOf]
      refine' Hw.df_mk KX G ?a ?l ?c ?k
      (case a => k_is); (case l => k_is); (case c => k_is); (case k => k_is)
    have d_call_size : ∃ f fd, Hw.Df (L2.KOf KX) mg "call_size" (Hw.top 52) f fd := by
      dsimp only [L2.KOf]
      refine' Hw.df_mk KX G ?a ?l ?c ?k
      (case a => k_is); (case l => k_is); (case c => k_is); (case k => k_is)
    have d_answer_to : ∃ f fd, Hw.Df (L2.KOf KX) mg "answer_to" (Hw.top 53) f fd := by
      dsimp only [L2.KOf]
      refine' Hw.df_mk KX G ?a ?l ?c ?k
      (case a => k_is); (case l => k_is); (case c => k_is); (case k => k_is)
    have d_Plan : ∃ C f fd, Hw.PlanT (L2.KOf KX) mg C ∧ L2.Mk (L2.KOf KX) C f ∧ L2.Fun (L2.KOf KX) "__init__" "Plan.__init__" (L2.inClass (Hw.top 50) 0) f fd := by
      dsimp only [L2.KOf]
      refine' Hw.planc_mk KX G ?aC ?pg ?hd ?po ?sa ?n1 ?n2 ?mk ?kc ?a ?i ?l ?c ?k
      (case aC => k_is); (case pg => k_is); (case hd => k_is); (case po => k_is); (case sa => k_is); (case n1 => k_is); (case n2 => k_is); (case mk => k_is); (case kc => k_is); (case a => k_is); (case i => k_is); (case l => k_is); (case c => k_is); (case k => k_is)
    have d_Mem : ∃ C, Hw.MemT (L2.KOf KX) mg C ∧ (∃ f fd, L2.Mk (L2.KOf KX) C f ∧ L2.Fun (L2.KOf KX) "__init__" "Memory.__init__" (L2.inClass (Hw.top 51) 0) f fd) ∧ (∃ f fd, Hw.Md (L2.KOf KX) C "load" "Memory.load" (L2.inClass (Hw.top 51) 1) f fd) ∧ (∃ f fd, Hw.Md (L2.KOf KX) C "read" "Memory.read" (L2.inClass (Hw.top 51) 2) f fd) ∧ (∃ f fd, Hw.Md (L2.KOf KX) C "plan" "Memory.plan" (L2.inClass (Hw.top 51) 3) f fd) ∧ (∃ f fd, Hw.Md (L2.KOf KX) C "save" "Memory.save" (L2.inClass (Hw.top 51) 4) f fd) ∧ (∃ f fd, Hw.Md (L2.KOf KX) C "cut" "Memory.cut" (L2.inClass (Hw.top 51) 5) f fd) ∧ (∃ f fd, Hw.Md (L2.KOf KX) C "bytes_of" "Memory.bytes_of" (L2.inClass (Hw.top 51) 6) f fd) ∧ (∃ f fd, Hw.Md (L2.KOf KX) C "write" "Memory.write" (L2.inClass (Hw.top 51) 7) f fd) := by
      dsimp only [L2.KOf]
      refine' ⟨_, Hw.memt_mk KX G ?aC ?pg ?hd ?po ?sa ?n1, Hw.init_mk ?mk ?kc ?a ?i ?l ?c ?k, Hw.md_mk ?a1 ?i1 ?l1 ?c1 ?k1, Hw.md_mk ?a2 ?i2 ?l2 ?c2 ?k2, Hw.md_mk ?a3 ?i3 ?l3 ?c3 ?k3, Hw.md_mk ?a4 ?i4 ?l4 ?c4 ?k4, Hw.md_mk ?a5 ?i5 ?l5 ?c5 ?k5, Hw.md_mk ?a6 ?i6 ?l6 ?c6 ?k6, Hw.md_mk ?a7 ?i7 ?l7 ?c7 ?k7⟩
      (case aC => k_is); (case pg => k_is); (case hd => k_is); (case po => k_is); (case sa => k_is); (case n1 => k_is); (case mk => k_is); (case kc => k_is); (case a => k_is); (case i => k_is); (case l => k_is); (case c => k_is); (case k => k_is)
      (case a1 => k_is); (case i1 => k_is); (case l1 => k_is); (case c1 => k_is); (case k1 => k_is)
      (case a2 => k_is); (case i2 => k_is); (case l2 => k_is); (case c2 => k_is); (case k2 => k_is)
      (case a3 => k_is); (case i3 => k_is); (case l3 => k_is); (case c3 => k_is); (case k3 => k_is)
      (case a4 => k_is); (case i4 => k_is); (case l4 => k_is); (case c4 => k_is); (case k4 => k_is)
      (case a5 => k_is); (case i5 => k_is); (case l5 => k_is); (case c5 => k_is); (case k5 => k_is)
      (case a6 => k_is); (case i6 => k_is); (case l6 => k_is); (case c6 => k_is); (case k6 => k_is)
      (case a7 => k_is); (case i7 => k_is); (case l7 => k_is); (case c7 => k_is); (case k7 => k_is)
    have D : Hw.Defs (L2.KOf KX) mg := ⟨d_octets_of, d_number_of, d_crc_of, d_is_score, d_is_letter, d_levels_of, d_entries_of, d_is_setup_right, d_are_levels_right, d_is_best_right, d_is_right, d_octets_of_content, d_numbers_of, d_content_of, d_new_half, d_half_at, d_number_in, d_content_in, d_is_whole, d_number_behind, d_half_read, d_writes_over, d_writes_until_cut, d_call_size, d_answer_to, d_Plan, d_Mem⟩
    refine' Hw.ans_mk KX G hmg T D ?a ?l ?c ?k
    (case a => k_is); (case l => k_is); (case c => k_is); (case k => k_is)
  case S =>
    intro K H xs a hO hwi hask hx
    cases hx with
    | cons h1 h2 =>
      cases h2
      cases h1 with
      | lst hs ha =>
        have e := L2.ints_dw a.1 _ ha
        subst e
        exact ⟨_, a.1, rfl, hs, hask, fun H' p hp => .lst (L2.SqL.of hp) (L2.dw_ints _)⟩
#print axioms PySem.Challenge.cw_halfwhole_s01_answers_holds
