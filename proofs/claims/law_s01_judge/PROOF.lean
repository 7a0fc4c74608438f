import PyProof.Rows.All
import Wide.All
import OpenK.AllK
import Wide.FinOn
import PyProof.EqAt
import PyProof.EqKinds
import PyProof.TupleCall
import KE.BitLaws
import Open.SpecLaws
import KE.OsHead
import KE.OsGo
import PySem.Challenge.RW_signsearch_s01_judge
set_option Elab.async false
set_option linter.all false
set_option maxRecDepth 100000
namespace L2
open PySem PySem.Spec PyProof.Rows
/-- a key: an int or a str -/
abbrev Key := Sum Int Str
def keyIs : Key → Value → Bool
  | .inl k, v => Value.isInt k v
  | .inr x, v => Value.isStrOf x v
def keyH (w : World) : Key → Int
  | .inl k => hashInt k
  | .inr x => hashStr w x
theorem keyIs_shape : ∀ {k : Key} {v : Value}, keyIs k v = true → (∃ i t, k = Sum.inl i ∧ v = Value.int i t) ∨ (∃ x t, k = Sum.inr x ∧ v = Value.str x t)
  | .inl i, v, h => by
    obtain ⟨t, e⟩ := Value.isInt_shape (k := i) (v := v) h
    exact .inl ⟨i, t, rfl, e⟩
  | .inr x, v, h => by
    obtain ⟨t, e⟩ := Value.isStrOf_shape (x := x) (v := v) h
    exact .inr ⟨x, t, rfl, e⟩
theorem key_ll (a b : Int) : decide ((Sum.inl a : Key) = Sum.inl b) = (a == b) := by
  by_cases e : a = b
  · subst e; simp
  · have h : ¬ (Sum.inl a : Key) = Sum.inl b := fun q => e (Sum.inl.inj q)
    rw [decide_eq_false h]
    exact (beq_eq_false_iff_ne.mpr e).symm
theorem key_rr (a b : Str) : decide ((Sum.inr a : Key) = Sum.inr b) = decide (a = b) := by
  by_cases e : a = b
  · subst e; simp
  · have h : ¬ (Sum.inr a : Key) = Sum.inr b := fun q => e (Sum.inr.inj q)
    rw [decide_eq_false h, decide_eq_false e]
theorem key_lr (a : Int) (b : Str) : decide ((Sum.inl a : Key) = Sum.inr b) = false := decide_eq_false (fun q => nomatch q)
theorem key_rl (a : Str) (b : Int) : decide ((Sum.inr a : Key) = Sum.inl b) = false := decide_eq_false (fun q => nomatch q)
def mixKind (prog : Program) (w : World) : PySem.KeyKind prog w Key where
  is := keyIs
  hash := keyH w
  inj := fun v a b ha hb => by
    rcases keyIs_shape ha with ⟨i, t, rfl, rfl⟩ | ⟨x, t, rfl, rfl⟩
    · rcases keyIs_shape hb with ⟨j, u, rfl, e⟩ | ⟨y, u, rfl, e⟩
      · injection e with e1 _; rw [e1]
      · exact nomatch e
    · rcases keyIs_shape hb with ⟨j, u, rfl, e⟩ | ⟨y, u, rfl, e⟩
      · exact nomatch e
      · injection e with e1 _; rw [e1]
  byValue := fun k v h => by
    rcases keyIs_shape h with ⟨i, t, rfl, rfl⟩ | ⟨x, t, rfl, rfl⟩ <;> rfl
  pyHash := fun hv h => by
    rcases keyIs_shape hv with ⟨i, t, rfl, rfl⟩ | ⟨x, t, rfl, rfl⟩
    · exact wpAny_pyHash_int h
    · exact wpAny_pyHash_str h
  eqBool := fun hu hv h => by
    rcases keyIs_shape hu with ⟨i, t, rfl, rfl⟩ | ⟨x, t, rfl, rfl⟩
    · rcases keyIs_shape hv with ⟨j, u, rfl, rfl⟩ | ⟨y, u, rfl, rfl⟩
      · rw [key_ll] at h; exact wpAny_eqBool_int h
      · rw [key_lr] at h; exact SeqAt.EqAt.int_str i t y u _ _ _ _ h
    · rcases keyIs_shape hv with ⟨j, u, rfl, rfl⟩ | ⟨y, u, rfl, rfl⟩
      · rw [key_rl] at h; exact SeqAt.EqAt.str_int x t j u _ _ _ _ h
      · rw [key_rr] at h; exact wpAny_eqBool_str h
  «strs» := fun k x t v h => by
    rcases keyIs_shape h with ⟨i, u, rfl, e⟩ | ⟨y, u, rfl, e⟩
    · exact nomatch e
    · injection e with e1 _
      subst e1
      cases v <;> rfl
end L2
namespace L2
open PySem PySem.Spec PyProof.Rows
/-- a value, without the heap -/
inductive V where
  | non | bl (b : Bool) | int (i : Int) | str (x : Str) | byt (b : Array UInt8) | flt (b : UInt64) | ref (a : Addr) | ty (n : String)
  deriving DecidableEq
def RelV : V → Value → Prop
  | .non, u => u = Value.none
  | .bl b, u => u = Value.bool b
  | .int i, u => ∃ t, u = Value.int i t
  | .str x, u => ∃ t, u = Value.str x t
  | .byt b, u => ∃ t, u = Value.bytes b t
  | .flt b, u => ∃ t, u = Value.float b t
  | .ref a, u => u = Value.ref a
  | .ty n, u => u = Value.type n
abbrev Vals : List V → List Value → Prop := Paired RelV
theorem Vals.length {xs : List V} {us : List Value} (r : Vals xs us) : xs.length = us.length := Paired.length r
theorem Vals.get : ∀ {xs : List V} {us : List Value} {i : Nat} {x : V}, Vals xs us → xs[i]? = some x → ∃ u, us[i]? = some u ∧ RelV x u
  | _, _, _, _, .nil, e => by simp at e
  | _, _, 0, _, .cons r _, e => by simp at e; subst e; exact ⟨_, rfl, r⟩
  | _, _, i + 1, x, .cons _ t, e => by
    obtain ⟨u, h1, h2⟩ := Vals.get (i := i) (x := x) t (by simpa using e)
    exact ⟨u, by simpa using h1, h2⟩
theorem Vals.append : ∀ {xs ys : List V} {us ws : List Value}, Vals xs us → Vals ys ws → Vals (xs ++ ys) (us ++ ws)
  | _, _, _, _, .nil, s => s
  | _, _, _, _, .cons r t, s => .cons r (Vals.append t s)
def RelO : Option V → Option Value → Prop
  | some v, some u => RelV v u
  | none, none => True
  | _, _ => False
def KV {κ : Type} : List (κ × V) → List (κ × Value) → Prop := Paired fun (p : κ × V) (q : κ × Value) => p.1 = q.1 ∧ RelV p.2 q.2
/-- a key of a dict (00_mix): an int or a text -/
def kV : Key → V
  | .inl i => .int i
  | .inr x => .str x
/-- what stands at a tracked address -/
inductive HO where
  /-- a list -/
  | lst (xs : List V)
  /-- a tuple (never changes) -/
  | tup (xs : List V)
  /-- a dict whose keys are ints and texts; one whose keys are tuples of ints and texts (the empty one is both) -/
  | dK (kvs : List (Key × V)) | dT (kvs : List (List Key × V))
  /-- a set of ints: its members, its size -/
  | set (S : Int → Bool) (n : Nat)
  /-- an instance of the class at C, its dict at dx, its attributes -/
  | ins (C dx : Addr) (fs : List (Str × V))
  /-- the dict of the instance at x -/
  | own (x : Addr)
  /-- the dict of an exception -/
  | xd (fs : List (Str × V))
  /-- a bound method, f of x -/
  | met (f x : Addr)
  /-- a range object lo, lo + 1, .. below hi -/
  | rng (lo hi : Int)
  /-- a thing that is known to the object (the script; a dict while a loop walks it): read, never written while it is so -/
  | frz (o : Obj) (u : HO)
  /-- a code object's table -/
  | tbl (ps : Array Value)
  /-- any other thing, by what is true of its one object (a def of one's own: SetO a S n := HO.ext fun h => ..) -/
  | ext (φ : Heap → Prop)
abbrev Hp := Addr → Option HO
def upd (H : Hp) (a : Addr) (o : HO) : Hp := fun b => if b = a then some o else H b
theorem upd_same {H : Hp} {a : Addr} {o : HO} : upd H a o a = some o := by unfold upd; rw [if_pos rfl]
theorem upd_ne {H : Hp} {a b : Addr} {o : HO} (h : b ≠ a) : upd H a o b = H b := by unfold upd; rw [if_neg h]
/-- two objects of different content stand apart -/
theorem ne_of {H : Hp} {a b : Addr} {o u : HO} (h : H a = some o) (h' : H b = some u) (d : o ≠ u) : a ≠ b := by
  intro e; subst e; rw [h] at h'; exact d (Option.some.inj h')
theorem ne_of_none {H : Hp} {a b : Addr} {o : HO} (h : H a = some o) (h' : H b = none) : a ≠ b := by
  intro e; subst e; rw [h] at h'; cases h'
section
variable (P : Program) (w : World)
def ObjOk (H : Hp) (h : Heap) (a : Addr) : HO → Prop
  | .lst xs => xs.length ≤ sizeLine ∧ ∃ (its : List Value) (n : Nat), Vals xs its ∧ h.get? a = some { cls := .type "list", data := .seq its.toArray n }
  | .tup xs => xs.length ≤ sizeLine ∧ ∃ its : List Value, Vals xs its ∧ IsTup h a its.toArray
  | .dK kvs => kvs.length ≤ sizeLine ∧ (a == sysModules) = false ∧ ∃ vs, KV kvs vs ∧ h.DictOf (mixKind P w) a vs
  | .dT kvs => kvs.length ≤ sizeLine ∧ (a == sysModules) = false ∧ ∃ xs : List (List Key × Addr × Value),
      Paired (fun (p : List Key × V) (q : List Key × Addr × Value) => p.1 = q.1 ∧ H q.2.1 = some (.tup (p.1.map kV)) ∧ RelV p.2 q.2.2) kvs xs ∧
      ∃ o es ep, h.get? a = some o ∧ o.ExactDict ∧ o.data = .dict es ep ∧ es.toList = xs.map (entryOfKey (tupleKind (mixKind P w))) ∧ (xs.map (·.1)).Nodup
  | .set S n => h.SetOf (intKind P w) a S n
  | .ins C dx fs => H dx = some (.own a) ∧ fs.length ≤ 1000 ∧ dx ≠ a ∧ h.get? a = some (PySem.W.instObj C dx) ∧
      ∃ mA, h.Ns1 dx mA ∧ (∀ f, RelO (fs.lookup f) (mA f)) ∧ PySem.Within mA (fs.map (·.1))
  | .own _ => ∃ o, h.get? a = some o
  | .xd fs => ∃ mA, h.Ns1 a mA ∧ ∀ f, RelO (fs.lookup f) (mA f)
  | .rng lo hi => ∃ t u v, h.get? a = some { cls := .type "range", data := .fields #[.int lo t, .int hi u, .int 1 v] }
  | .frz o u => h.get? a = some o ∧ ObjOk H h a u
  | .tbl ps => h.get? a = some { cls := .none, data := .fields ps }
  | .met f x => h.get? a = some (PySem.W.methodObj (.ref f) (.ref x))
  | .ext φ => φ h ∧ (∃ o, h.get? a = some o) ∧ ∀ h1 h2 : Heap, φ h1 → (∀ o, h1.get? a = some o → h2.get? a = some o) → φ h2
/-- the abstract heap is held -/
def HOk (H : Hp) (h : Heap) : Prop := ∀ a o, H a = some o → ObjOk P w H h a o
end
section
variable {P : Program} {w : World} {H H' : Hp} {h h' : Heap} {a : Addr} {o : HO}
theorem ObjOk.lt (x : ObjOk P w H h a o) : a < h.objs.size := by
  cases o with
  | lst xs => obtain ⟨_, _, _, _, e⟩ := x; exact Heap.lt_size e
  | tup xs => obtain ⟨_, _, _, p⟩ := x; exact p.lt
  | dK kvs => obtain ⟨_, _, _, _, o, _, _, e, _⟩ := x; exact Heap.lt_size e
  | dT kvs => obtain ⟨_, _, _, _, o, _, _, e, _⟩ := x; exact Heap.lt_size e
  | set S n => obtain ⟨o, _, _, _, e, _⟩ := x; exact Heap.lt_size e
  | ins C dx fs => obtain ⟨_, _, _, e, _⟩ := x; exact Heap.lt_size e
  | own y => obtain ⟨_, e⟩ := x; exact Heap.lt_size e
  | xd fs => obtain ⟨_, ⟨_, _, _, e, _⟩, _⟩ := x; exact Heap.lt_size e
  | rng lo hi => obtain ⟨_, _, _, e⟩ := x; exact Heap.lt_size e
  | frz ob u => obtain ⟨e, _⟩ := x; exact Heap.lt_size e
  | tbl ps => exact Heap.lt_size (show h.get? a = some _ from x)
  | met f y => exact Heap.lt_size (show h.get? a = some _ from x)
  | ext φ => obtain ⟨_, ⟨_, e⟩, _⟩ := x; exact Heap.lt_size e
theorem Paired.mapP {α β : Type} {F G : α → β → Prop} : ∀ {l₁ : List α} {l₂ : List β}, Paired F l₁ l₂ → (∀ a b, F a b → G a b) → Paired G l₁ l₂
  | _, _, .nil, _ => .nil
  | _, _, .cons r t, f => .cons (f _ _ r) (Paired.mapP t f)
/-- what an object's description leans on: its own object, its own dict, the tuples -/
theorem ObjOk.stay (x : ObjOk P w H h a o) (k : ∀ b u, (b = a ∨ H b = some (.own a)) → h.get? b = some u → h'.get? b = some u)
    (ho : ∀ b, H b = some (.own a) → H' b = some (.own a)) (ht : ∀ b xs, H b = some (.tup xs) → H' b = some (.tup xs)) : ObjOk P w H' h' a o := by
  induction o with
  | lst xs => obtain ⟨z, its, n, r, e⟩ := x; exact ⟨z, its, n, r, k _ _ (.inl rfl) e⟩
  | tup xs => obtain ⟨z, its, r, ob, e, c⟩ := x; exact ⟨z, its, r, ob, k _ _ (.inl rfl) e, c⟩
  | dK kvs => obtain ⟨z, y, vs, r, ob, es, ep, e, c⟩ := x; exact ⟨z, y, vs, r, ob, es, ep, k _ _ (.inl rfl) e, c⟩
  | dT kvs =>
    obtain ⟨z, y, xs, r, ob, es, ep, e, c⟩ := x
    exact ⟨z, y, xs, Paired.mapP r fun p q z => ⟨z.1, ht _ _ z.2.1, z.2.2⟩, ob, es, ep, k _ _ (.inl rfl) e, c⟩
  | set S n => obtain ⟨ob, es, ep, t, e, c⟩ := x; exact ⟨ob, es, ep, t, k _ _ (.inl rfl) e, c⟩
  | ins C dx fs =>
    obtain ⟨d, z, ne, e, mA, ⟨od, es, ep, e2, c⟩, r⟩ := x
    exact ⟨ho _ d, z, ne, k _ _ (.inl rfl) e, mA, ⟨od, es, ep, k _ _ (.inr d) e2, c⟩, r⟩
  | own y => obtain ⟨ob, e⟩ := x; exact ⟨ob, k _ _ (.inl rfl) e⟩
  | xd fs => obtain ⟨mA, ⟨od, es, ep, e, c⟩, r⟩ := x; exact ⟨mA, ⟨od, es, ep, k _ _ (.inl rfl) e, c⟩, r⟩
  | rng lo hi => obtain ⟨t, u, v, e⟩ := x; exact ⟨t, u, v, k _ _ (.inl rfl) e⟩
  | frz ob u ih => obtain ⟨e, q⟩ := x; exact ⟨k _ _ (.inl rfl) e, ih q⟩
  | tbl ps =>
    have e : h.get? a = some { cls := .none, data := .fields ps } := x
    show h'.get? a = some { cls := .none, data := .fields ps }
    exact k a _ (.inl rfl) e
  | met f y =>
    have e : h.get? a = some (PySem.W.methodObj (.ref f) (.ref y)) := x
    show h'.get? a = some (PySem.W.methodObj (.ref f) (.ref y))
    exact k a _ (.inl rfl) e
  | ext φ => obtain ⟨p, ⟨o, e⟩, st⟩ := x; exact ⟨st _ _ p fun o q => k _ _ (.inl rfl) q, ⟨o, k _ _ (.inl rfl) e⟩, st⟩
theorem HOk.lt (x : HOk P w H h) (e : H a = some o) : a < h.objs.size := (x a o e).lt
theorem HOk.fresh (x : HOk P w H h) (e : h.objs.size ≤ a) : H a = none := by
  cases q : H a with
  | none => rfl
  | some u => exact absurd (Nat.lt_of_lt_of_le (x.lt q) e) (Nat.lt_irrefl _)
/-- every object of the heap is kept -/
theorem HOk.kept (x : HOk P w H h) (k : ∀ b u, h.get? b = some u → h'.get? b = some u) : HOk P w H h' := fun a o e =>
  (x a o e).stay (fun b u _ q => k b u q) (fun _ q => q) fun _ _ q => q
/-- a new object is laid and tracked -/
theorem HOk.laid (x : HOk P w H h) (k : ∀ b u, h.get? b = some u → h'.get? b = some u) (hp : h.objs.size ≤ a) (new : ObjOk P w (upd H a o) h' a o) : HOk P w (upd H a o) h' := fun b u e => by
  have hn := x.fresh hp
  by_cases hb : b = a
  · subst hb; rw [upd_same] at e; cases e; exact new
  · rw [upd_ne hb] at e
    exact (x b u e).stay (fun c v _ q => k c v q) (fun c q => by rw [upd_ne (ne_of_none q hn)]; exact q) fun c xs q => by rw [upd_ne (ne_of_none q hn)]; exact q
end
/-- what may be read as u: it is u, or a known u -/
def Rd (H : Hp) (a : Addr) (u : HO) : Prop := H a = some u ∨ ∃ o, H a = some (.frz o u)
theorem Rd.ok {P : Program} {w : World} {H : Hp} {h : Heap} {a : Addr} {u : HO} (r : Rd H a u) (x : HOk P w H h) : ObjOk P w H h a u := by
  rcases r with r | ⟨o, r⟩
  · exact x a u r
  · obtain ⟨_, q⟩ := x a _ r
    exact q
/-- what may be written -/
def Mut : Option HO → Prop
  | some (.lst _) => True
  | some (.dK _) => True
  | some (.dT _) => True
  | some (.set _ _) => True
  | some (.ins _ _ _) => True
  | some (.ext _) => True
  | _ => False
section
variable {P : Program} {w : World} {H : Hp} {h h' : Heap} {x e : Addr} {o' : HO}
/-- the object at e is changed: x itself, or the dict of the instance x -/
theorem HOk.write (ok : HOk P w H h) (mu : Mut (H x)) (he : e = x ∨ H e = some (.own x)) (k : ∀ b u, b ≠ e → h.get? b = some u → h'.get? b = some u) (heo : ∃ u, h'.get? e = some u)
    (new : ObjOk P w (upd H x o') h' x o') : HOk P w (upd H x o') h' := fun b u q => by
  have nown : ∀ c y, H c = some (.own y) → c ≠ x := fun c y r z => by subst z; rw [r] at mu; exact mu
  have ntup : ∀ c xs, H c = some (.tup xs) → c ≠ x := fun c xs r z => by subst z; rw [r] at mu; exact mu
  by_cases hb : b = x
  · subst hb; rw [upd_same] at q; cases q; exact new
  · rw [upd_ne hb] at q
    by_cases hbe : b = e
    · have q' : H b = some (.own x) := by
        rcases he with z | z
        · exact absurd (hbe.trans z) hb
        · rw [hbe]; exact z
      rw [q] at q'; cases q'
      obtain ⟨v, hv⟩ := heo
      exact ⟨v, by rw [hbe]; exact hv⟩
    · refine (ok b u q).stay (fun c v hc r => k c v ?_ r) (fun c r => by rw [upd_ne (nown c b r)]; exact r) fun c xs r => by rw [upd_ne (ntup c xs r)]; exact r
      rcases hc with rfl | hc
      · exact hbe
      · rintro rfl
        rcases he with z | z
        · exact nown c b hc z
        · rw [hc] at z; cases z; exact hb rfl
end
structure Un (fs ex : List Addr) (H H' : Hp) (h h' : Heap) : Prop where
  keep : ∀ b o, h.get? b = some o → H b = none → b ∉ fs → b ∉ ex → h'.get? b = some o
  slot : ∀ b o, h.get? b = some o → H b = none → b ∈ fs → b ∉ ex → ∃ sl, h'.get? b = some { o with slots := sl }
  free : ∀ b o, h.get? b = some o → H b = none → b ∉ ex → H' b = none
  there : ∀ b o, h.get? b = some o → b ∉ ex → ∃ o', h'.get? b = some o'
  tups : ∀ b xs, H b = some (.tup xs) → H' b = some (.tup xs)
  frzs : ∀ b o u, H b = some (.frz o u) → H' b = some (.frz o u)
  tbls : ∀ b ps, H b = some (.tbl ps) → ∃ more, H' b = some (.tbl (ps ++ more))
section
variable {fs fs' ex ex' : List Addr} {H H1 H2 : Hp} {h h1 h2 h' : Heap} {a x e : Addr} {o : HO}
theorem Un.any (u : Un fs ex H H1 h h1) {b : Addr} {ob : Obj} (q : h.get? b = some ob) (n : H b = none) (hx : b ∉ ex) : ∃ sl, h1.get? b = some { ob with slots := sl } := by
  by_cases hb : b ∈ fs
  · exact u.slot b ob q n hb hx
  · exact ⟨ob.slots, u.keep b ob q n hb hx⟩
theorem Un.kept (k : ∀ b u, h.get? b = some u → h'.get? b = some u) : Un fs ex H H h h' :=
  ⟨fun b ob q _ _ _ => k b ob q, fun b ob q _ _ _ => ⟨ob.slots, k b ob q⟩, fun _ _ _ n _ => n, fun b ob q _ => ⟨ob, k b ob q⟩, fun _ _ q => q, fun _ _ _ q => q, fun _ ps q => ⟨#[], by rw [q]; simp⟩⟩
theorem Un.refl : Un fs ex H H h h := Un.kept fun _ _ q => q
theorem Un.laid (k : ∀ b u, h.get? b = some u → h'.get? b = some u) (hp : h.objs.size ≤ a) (hn : H a = none) : Un fs ex H (upd H a o) h h' where
  keep := fun b u q _ _ _ => k b u q
  slot := fun b u q _ _ _ => ⟨u.slots, k b u q⟩
  free := fun b u q n _ => by rw [upd_ne (Nat.ne_of_lt (Nat.lt_of_lt_of_le (Heap.lt_size q) hp))]; exact n
  there := fun b u q _ => ⟨u, k b u q⟩
  tups := fun b xs q => by rw [upd_ne (ne_of_none q hn)]; exact q
  frzs := fun b u xs q => by rw [upd_ne (ne_of_none q hn)]; exact q
  tbls := fun b ps q => ⟨#[], by rw [upd_ne (ne_of_none q hn), q]; simp⟩
theorem Un.write (mu : Mut (H x)) (he : e = x ∨ H e = some (.own x)) (k : ∀ b u, b ≠ e → h.get? b = some u → h'.get? b = some u) (heo : ∃ u, h'.get? e = some u) : Un fs ex H (upd H x o) h h' := by
  have hx : ∀ b, H b = none → b ≠ x := fun b n z => by subst z; rw [n] at mu; exact mu
  have hb : ∀ b, H b = none → b ≠ e := fun b n z => by
    subst z
    rcases he with r | r
    · exact hx b n r
    · rw [n] at r; cases r
  have hm : ∀ b u, H b = some u → ¬ Mut (some u) → b ≠ x := fun b u q nm z => by subst z; rw [q] at mu; exact nm mu
  refine ⟨fun b u q n _ _ => k b u (hb b n) q, fun b u q n _ _ => ⟨u.slots, k b u (hb b n) q⟩, fun b u q n _ => by rw [upd_ne (hx b n)]; exact n, fun b u q _ => ?_,
    fun b xs q => by rw [upd_ne (hm b _ q fun z => z)]; exact q, fun b u xs q => by rw [upd_ne (hm b _ q fun z => z)]; exact q, fun b ps q => ⟨#[], by rw [upd_ne (hm b _ q fun z => z), q]; simp⟩⟩
  by_cases hbe : b = e
  · subst hbe; exact heo
  · exact ⟨u, k b u hbe q⟩
end
def trk (h : Heap) (H : Hp) : List Addr := (List.range h.objs.size).filter fun a => (H a).isSome
def hidT (h : Heap) (H : Hp) : Heap := PySem.W.hideAll h (trk h H)
theorem hidT_size (h : Heap) (H : Hp) : (hidT h H).objs.size = h.objs.size := PySem.W.hideAll_size _ _
theorem hidT_get {h : Heap} {H : Hp} {b : Addr} {o : Obj} (e : h.get? b = some o) (n : H b = none) : (hidT h H).get? b = some o :=
  PySem.W.hideAll_get _ e fun hm => by
    have q : (H b).isSome = true := (List.mem_filter.mp hm).2
    rw [n] at q; simp at q
theorem of_hidT {h : Heap} {H : Hp} {b : Addr} {o : Obj} (e : (hidT h H).get? b = some o) : h.get? b = some o ∧ H b = none := by
  have e' : h.get? b = some o := PySem.W.of_hideAll (trk h H) e
  refine ⟨e', ?_⟩
  cases q : H b with
  | none => rfl
  | some x =>
    have hm : b ∈ trk h H := List.mem_filter.mpr ⟨List.mem_range.mpr (Heap.lt_size e'), by simp [q]⟩
    have z : (hidT h H).get? b = none := PySem.W.hideAll_none (trk h H) hm
    rw [z] at e; cases e
end L2
namespace L2
open PySem PySem.Spec PyProof.Rows
/-- the module's facts, over the base: the heap at the law's entry without what is tracked there -/
structure Mod (K : PySem.W.Frag) (mg : Str → Option Value) (base : Heap) : Prop where
  kin : K.In base
  glob : base.Ns mainGlobals mg
  blt : ∃ mb, base.Ns builtinsNs mb ∧ ∀ x : Str, x ≠ "__name__" → mb x = bootBuiltins x
  nolimit : base.NoLimit
/-- the context: a def's body (or a comprehension's block) running. base: fixed through the whole law; s₀, H₀: the entry; outer: the frames whose slots others may change (a def's callers); stack: all frames that run;
   ex: iterators that were made ahead of the entry and are walked here (a comprehension's); fn: the names whose cells were made at the entry (a def: all; a comprehension's block: its own); calm: not within an except suite; pn: pins that every state bears; xe: what is wanted of an exception that leaves the code -/
structure Cx where
  prog : Program
  w : World
  K : PySem.W.Frag
  mg : Str → Option Value
  base : Heap
  A : Around
  N : List Str
  s_0 : Shared
  H_0 : Hp
  env : Env
  outer : List Env
  stack : List Env
  ex : List Addr
  fn : Str → Bool
  calm : Bool
  pn : List (Addr × Obj)
  xe : Value → Shared → Prop
/-- the callers' frames -/
def frs (l : List Env) : List Addr := l.filterMap (·.frame)
abbrev Cx.fs (X : Cx) : List Addr := frs X.outer
def Vis (sc : Scope) (x : Str) : Prop := sc.names.lookup x = some .local ∨ sc.names.lookup x = some .cell ∨ sc.names.lookup x = some .free
def Loc (sc : Scope) (x : Str) : Prop := sc.names.lookup x = some .local ∨ sc.names.lookup x = some .cell
def Look (env : Env) (h : Heap) (m : Str → Option Value) (x : Str) (u : Value) : Prop :=
  (env.kindOf x = some .local ∧ m x = some u) ∨ ((env.kindOf x = some .cell ∨ env.kindOf x = some .free) ∧ ∃ c, env.cells.lookup x = some c ∧ h.IsCell c (some u))
structure Cx.Ok (X : Cx) : Prop where
  mod : Mod X.K X.mg X.base
  kind : X.env.scope.kind = .function
  glob : X.env.globals = mainGlobals
  blt : X.env.builtins = builtinsNs
  above : X.s_0.heap.objs.size ≤ X.env.locals
  inj : ∀ x y c, X.env.cells.lookup x = some c → X.env.cells.lookup y = some c → x = y
  has : ∀ x, (X.env.kindOf x = some .cell ∨ X.env.kindOf x = some .free) → ∃ c, X.env.cells.lookup x = some c
  cab : ∀ x c, X.fn x = true → X.env.cells.lookup x = some c → X.s_0.heap.objs.size ≤ c
  hd : X.calm = true → X.A.handled = none
  frames : X.A.frames = some X.stack
  stk : X.stack = X.outer ∨ (X.stack = X.env :: X.outer ∧ X.env.frame = some X.env.locals)
  exf : ∀ b ∈ X.ex, b ≠ X.env.locals ∧ ∀ x c, X.env.cells.lookup x = some c → c ≠ b
  bs : ∀ b o, X.base.get? b = some o → X.s_0.heap.get? b = some o ∧ X.H_0 b = none
  bsz : X.base.objs.size ≤ X.s_0.heap.objs.size
  noex : ∀ b o, X.base.get? b = some o → b ∉ X.ex
  exfs : ∀ b ∈ X.ex, b ∉ X.fs
  funs : X.s_0.heap.FunFrames X.base X.outer
  frf : ∀ b ∈ X.fs, X.H_0 b = none
structure Inv (X : Cx) (pins : List (Addr × Obj)) (σ : List (Option V)) (H : Hp) (s : Shared) : Prop where
  ok : X.Ok
  os : s.os = X.s_0.os
  bare : AllBare s.gens
  base : Un X.fs X.ex X.H_0 H X.s_0.heap s.heap
  loc : ∃ m, s.heap.Ns X.env.locals m ∧ ∀ (i : Nat) (x : Str) (v : V), X.N[i]? = some x → σ[i]? = some (some v) → Vis X.env.scope x → ∃ u, RelV v u ∧ Look X.env s.heap m x u
  cell : ∀ x c, X.env.cells.lookup x = some c → ∃ v, s.heap.IsCell c v
  free : H X.env.locals = none
  freeC : ∀ x c, X.env.cells.lookup x = some c → H c = none
  pin : ∀ p ∈ X.pn ++ pins, s.heap.get? p.1 = some p.2 ∧ H p.1 = none ∧ p.1 ≠ X.env.locals ∧ p.1 ∉ X.fs ∧ ∀ v, p.2.data ≠ .cell v
  hok : HOk X.prog X.w H s.heap
  len : σ.length = X.N.length
section
variable {X : Cx} {pins : List (Addr × Obj)} {σ : List (Option V)} {H H' : Hp} {s : Shared} {h' : Heap}
theorem Cx.Ok.nofr (ok : X.Ok) {b : Addr} {o : Obj} (e : X.base.get? b = some o) : b ∉ X.fs := fun hb => by
  have := (ok.funs.mem hb).1
  rw [e] at this; cases this
theorem Inv.bs (I : Inv X pins σ H s) : ∀ b o, X.base.get? b = some o → s.heap.get? b = some o ∧ H b = none := fun b o e =>
  ⟨I.base.keep b o (I.ok.bs b o e).1 (I.ok.bs b o e).2 (I.ok.nofr e) (I.ok.noex b o e), I.base.free b o (I.ok.bs b o e).1 (I.ok.bs b o e).2 (I.ok.noex b o e)⟩
theorem Inv.bk (I : Inv X pins σ H s) : ∀ b o, X.base.get? b = some o → s.heap.get? b = some o := fun b o e => (I.bs b o e).1
theorem Inv.mod (I : Inv X pins σ H s) : Mod X.K X.mg X.base := I.ok.mod
theorem Inv.kIn (I : Inv X pins σ H s) : X.K.In s.heap := I.ok.mod.kin.keeps I.bk
theorem Inv.lt (I : Inv X pins σ H s) : X.env.locals < s.heap.objs.size := let ⟨_, hn, _⟩ := I.loc; hn.lt
theorem Inv.sz (I : Inv X pins σ H s) : X.s_0.heap.objs.size ≤ s.heap.objs.size := Nat.le_trans I.ok.above (Nat.le_of_lt I.lt)
theorem Inv.cne (I : Inv X pins σ H s) : ∀ x c, X.env.cells.lookup x = some c → c ≠ X.env.locals := fun x c e z => by
  obtain ⟨v, o, ho, hd⟩ := I.cell x c e
  obtain ⟨m, ⟨o', es, ep, ho', hd', _⟩, _⟩ := I.loc
  rw [z, ho'] at ho; cases ho; rw [hd'] at hd; cases hd
theorem Inv.funs (I : Inv X pins σ H s) : s.heap.FunFrames X.base X.outer := by
  have all : ∀ (l : List Env), (∀ b ∈ frs l, b ∈ X.fs) → X.s_0.heap.FunFrames X.base l → s.heap.FunFrames X.base l := by
    intro l
    induction l with
    | nil => intro _ _; trivial
    | cons env r ih =>
      intro hs hl
      obtain ⟨hk, ⟨L, o, hf, hn, ho, hd⟩, hr⟩ := hl
      have hL : L ∈ X.fs := hs L (by unfold frs; rw [List.filterMap_cons, hf]; exact List.mem_cons_self)
      obtain ⟨sl, e⟩ := I.base.slot L o ho (I.ok.frf L hL) hL fun z => I.ok.exfs L z hL
      exact ⟨hk, ⟨L, _, hf, hn, e, hd⟩, ih (fun b hb => hs b (by unfold frs; rw [List.filterMap_cons, hf]; exact List.mem_cons_of_mem _ hb)) hr⟩
  exact all X.outer (fun _ hb => hb) I.ok.funs
/-- the frames that run, for a call -/
theorem Inv.stack (I : Inv X pins σ H s) : s.heap.FunFrames X.base X.stack := by
  rcases I.ok.stk with e | ⟨e, hf⟩
  · rw [e]; exact I.funs
  · rw [e]
    obtain ⟨m, hn, _⟩ := I.loc
    refine .cons (by rw [I.ok.kind]; decide) hf hn ?_ I.funs
    exact Heap.get?_none_of_le (Nat.le_trans I.ok.bsz I.ok.above)
theorem Inv.stkSub (I : Inv X pins σ H s) : ∀ b ∈ frs X.stack, b ∈ X.env.locals :: X.fs := fun b hb => by
  rcases I.ok.stk with e | ⟨e, hf⟩
  · rw [e] at hb; exact List.mem_cons_of_mem _ hb
  · rw [e] at hb
    unfold frs at hb
    rw [List.filterMap_cons, hf] at hb
    exact hb
theorem Inv.stkFree (I : Inv X pins σ H s) : ∀ b ∈ frs X.stack, H b = none := fun b hb => by
  rcases List.mem_cons.mp (I.stkSub b hb) with e | hb
  · rw [e]; exact I.free
  · obtain ⟨_, o, ho, _⟩ := I.ok.funs.mem hb
    exact I.base.free b o ho (I.ok.frf b hb) fun z => I.ok.exfs b z hb
/-- THE STEP: the untracked objects but the frame and the records at ch are kept (the callers' frames up to slots), the frame's map is kept, the new abstract heap is held -/
theorem Inv.step {g' : Array GenState} {t' : Nat} {d' : Drawn} {ch : List Addr} (I : Inv X pins σ H s)
    (hch : ∀ b ∈ ch, (b ∈ X.ex ∨ X.s_0.heap.objs.size ≤ b) ∧ b ≠ X.env.locals ∧ (∀ x c, X.env.cells.lookup x = some c → c ≠ b) ∧ ∀ p ∈ X.pn ++ pins, p.1 ≠ b)
    (keep : ∀ b o, b ≠ X.env.locals → b ∉ X.fs → b ∉ ch → s.heap.get? b = some o → H b = none → h'.get? b = some o)
    (slot : ∀ b o, b ≠ X.env.locals → b ∈ X.fs → b ∉ ch → s.heap.get? b = some o → H b = none → ∃ sl, h'.get? b = some { o with slots := sl }) (free : ∀ b o, b ∉ ch → s.heap.get? b = some o → H b = none → H' b = none)
    (there : ∀ b o, b ∉ ch → s.heap.get? b = some o → ∃ o', h'.get? b = some o')
    (tups : ∀ b xs, H b = some (.tup xs) → H' b = some (.tup xs)) (frzs : ∀ b o u, H b = some (.frz o u) → H' b = some (.frz o u)) (tbls : ∀ b ps, H b = some (.tbl ps) → ∃ more, H' b = some (.tbl (ps ++ more)))
    (ns : ∀ m, s.heap.Ns X.env.locals m → h'.Ns X.env.locals m) (hok : HOk X.prog X.w H' h') (hg : AllBare g') :
    Inv X pins σ H' { s with heap := h', gens := g', drawn := d', toks := t' } := by
  have neL : ∀ b o, X.s_0.heap.get? b = some o → b ≠ X.env.locals := fun b o e => Nat.ne_of_lt (Nat.lt_of_lt_of_le (Heap.lt_size e) I.ok.above)
  have neC : ∀ b o, X.s_0.heap.get? b = some o → b ∉ X.ex → b ∉ ch := fun b o e hx hb => by
    rcases (hch b hb).1 with z | z
    · exact hx z
    · exact absurd (Nat.lt_of_lt_of_le (Heap.lt_size e) z) (Nat.lt_irrefl _)
  have cellK : ∀ x c, X.env.cells.lookup x = some c → ∀ v, s.heap.IsCell c v → h'.IsCell c v := fun x c e v ⟨o, ho, hd⟩ => by
    have nch : c ∉ ch := fun z => (hch c z).2.2.1 x c e rfl
    by_cases hc : c ∈ X.fs
    · obtain ⟨sl, q⟩ := slot c o (I.cne x c e) hc nch ho (I.freeC x c e)
      exact ⟨_, q, hd⟩
    · exact ⟨o, keep c o (I.cne x c e) hc nch ho (I.freeC x c e), hd⟩
  refine ⟨I.ok, I.os, hg, ⟨fun b o e n hb hx => ?_, fun b o e n hb hx => ?_, fun b o e n hx => ?_, fun b o e hx => ?_, fun b xs e => tups b xs (I.base.tups b xs e), fun b o xs e => frzs b o xs (I.base.frzs b o xs e), fun b ps e => ?_⟩, ?_, fun x c e => ?_, ?_, fun x c e => ?_, fun p hp => ?_, hok, I.len⟩
  · exact keep b o (neL b o e) hb (neC b o e hx) (I.base.keep b o e n hb hx) (I.base.free b o e n hx)
  · obtain ⟨sl, e1⟩ := I.base.slot b o e n hb hx
    obtain ⟨sl', e2⟩ := slot b _ (neL b o e) hb (neC b o e hx) e1 (I.base.free b o e n hx)
    exact ⟨sl', e2⟩
  · obtain ⟨o', e1⟩ := I.base.there b o e hx
    exact free b o' (neC b o e hx) e1 (I.base.free b o e n hx)
  · obtain ⟨o', e1⟩ := I.base.there b o e hx
    exact there b o' (neC b o e hx) e1
  · obtain ⟨m1, e1⟩ := I.base.tbls b ps e
    obtain ⟨m2, e2⟩ := tbls b _ e1
    exact ⟨m1 ++ m2, by rw [e2, Array.append_assoc]⟩
  · obtain ⟨m, hn, hl⟩ := I.loc
    refine ⟨m, ns m hn, fun i x v e1 e2 e3 => ?_⟩
    obtain ⟨u, r, l⟩ := hl i x v e1 e2 e3
    refine ⟨u, r, ?_⟩
    rcases l with l | ⟨k, c, e, z⟩
    · exact .inl l
    · exact .inr ⟨k, c, e, cellK x c e _ z⟩
  · obtain ⟨v, z⟩ := I.cell x c e
    exact ⟨v, cellK x c e v z⟩
  · obtain ⟨m, ⟨o, _, _, ho, _⟩, _⟩ := I.loc
    exact free _ o (fun z => (hch _ z).2.1 rfl) ho I.free
  · obtain ⟨v, o, ho, hd⟩ := I.cell x c e
    exact free c o (fun z => (hch c z).2.2.1 x c e rfl) ho (I.freeC x c e)
  · obtain ⟨e, n, ne, nf, d⟩ := I.pin p hp
    have nch : p.1 ∉ ch := fun z => (hch p.1 z).2.2.2 p hp rfl
    exact ⟨keep p.1 p.2 ne nf nch e n, free p.1 p.2 nch e n, ne, nf, d⟩
/-- .. where the frame's own object is kept too -/
theorem Inv.un {t' : Nat} (I : Inv X pins σ H s) (u : Un X.fs [] H H' s.heap h') (hok : HOk X.prog X.w H' h') : Inv X pins σ H' { s with heap := h', toks := t' } := by
  obtain ⟨m, ⟨o, es, ep, ho, r⟩, _⟩ := id I.loc
  obtain ⟨sl, hL⟩ := u.any ho I.free (by simp)
  exact I.step (g' := s.gens) (d' := s.drawn) (ch := []) (fun _ z => nomatch z) (fun b o _ hb _ e n => u.keep b o e n hb (by simp)) (fun b o _ hb _ e n => u.slot b o e n hb (by simp)) (fun b o _ e n => u.free b o e n (by simp)) (fun b o _ e => u.there b o e (by simp)) u.tups u.frzs u.tbls (fun m' hm => by
    obtain ⟨o', es', ep', ho', r'⟩ := hm
    rw [ho] at ho'; cases ho'
    exact ⟨_, es', ep', hL, r'⟩) hok I.bare
/-- behind a call (or a comprehension's block): the slots of this frame may have changed too, the records at ch may have turned -/
theorem Inv.call {g' : Array GenState} {t' : Nat} {d' : Drawn} {ch : List Addr} (I : Inv X pins σ H s) (u : Un (frs X.stack) ch H H' s.heap h') (hok : HOk X.prog X.w H' h') (hg : AllBare g')
    (hch : ∀ b ∈ ch, (b ∈ X.ex ∨ X.s_0.heap.objs.size ≤ b) ∧ b ≠ X.env.locals ∧ (∀ x c, X.env.cells.lookup x = some c → c ≠ b) ∧ ∀ p ∈ X.pn ++ pins, p.1 ≠ b) :
    Inv X pins σ H' { s with heap := h', gens := g', drawn := d', toks := t' } := by
  obtain ⟨m, ⟨o, es, ep, ho, r⟩, _⟩ := id I.loc
  obtain ⟨sl, hL⟩ := u.any ho I.free fun z => (hch _ z).2.1 rfl
  exact I.step (ch := ch) hch (fun b o hL hb hc e n => u.keep b o e n (fun z => (List.mem_cons.mp (I.stkSub b z)).elim hL hb) hc) (fun b o _ _ hc e n => u.any e n hc) (fun b o hc e n => u.free b o e n hc) (fun b o hc e => u.there b o e hc) u.tups u.frzs u.tbls (fun m' hm => by
    obtain ⟨o', es', ep', ho', r'⟩ := hm
    rw [ho] at ho'; cases ho'
    exact ⟨_, es', ep', hL, r'⟩) hok hg
theorem Inv.tok (I : Inv X pins σ H s) (t : Nat) : Inv X pins σ H { s with toks := t } := I.un (h' := s.heap) (t' := t) Un.refl I.hok
/-- a new object laid and tracked -/
theorem Inv.laid {a : Addr} {o : HO} {t' : Nat} (I : Inv X pins σ H s) (k : ∀ b u, s.heap.get? b = some u → h'.get? b = some u) (hp : s.heap.objs.size ≤ a) (new : ObjOk X.prog X.w (upd H a o) h' a o) :
    Inv X pins σ (upd H a o) { s with heap := h', toks := t' } := I.un (Un.laid k hp (I.hok.fresh hp)) (I.hok.laid k hp new)
/-- an object written -/
theorem Inv.write {x e : Addr} {o : HO} {t' : Nat} (I : Inv X pins σ H s) (mu : Mut (H x)) (he : e = x ∨ H e = some (.own x)) (k : ∀ b u, b ≠ e → s.heap.get? b = some u → h'.get? b = some u) (heo : ∃ u, h'.get? e = some u)
    (new : ObjOk X.prog X.w (upd H x o) h' x o) : Inv X pins σ (upd H x o) { s with heap := h', toks := t' } := I.un (Un.write mu he k heo) (I.hok.write mu he k heo new)
theorem nodup_ix {N : List Str} (hN : N.Nodup) {i j : Nat} {x : Str} (a : N[i]? = some x) (b : N[j]? = some x) : i = j := by
  obtain ⟨h1, e1⟩ := List.getElem?_eq_some_iff.mp a
  obtain ⟨h2, e2⟩ := List.getElem?_eq_some_iff.mp b
  exact (List.getElem_inj hN).mp (e1.trans e2.symm)
/-- a name is stored; what changed -/
theorem store_ok2 {M : Model} {A : Around} {E : Value → Shared → Prop} {i : Nat} {x : Str} {v : V} {u : Value} {Q : Unit → Shared → Prop} (I : Inv X pins σ H s) (hN : X.N.Nodup) (hi : X.N[i]? = some x) (hx : Loc X.env.scope x) (r : RelV v u)
    (h : ∀ s', Inv X pins (σ.set i (some v)) H s' → (∃ a, Heap.SameBut a s.heap s'.heap ∧ (a = X.env.locals ∨ X.env.cells.lookup x = some a)) → Q () s') (hf : X.fn x = true ∨ X.env.scope.names.lookup x = some .local := by first | exact .inl rfl | exact .inr rfl | assumption) : wpAny M A (storeName X.env x u) Q E s := by
  obtain ⟨m, hn, hl⟩ := id I.loc
  have hcls : (X.env.scope.kind == .class || (X.env.scope.kind == .module && X.env.locals != X.env.globals)) = false := by rw [I.ok.kind]; rfl
  have hiσ : i < σ.length := by rw [I.len]; exact (List.getElem?_eq_some_iff.mp hi).1
  have cne := I.cne
  have tracked : ∀ {a : Addr} {h' : Heap}, (∃ o, s.heap.get? a = some o ∧ H a = none) → Heap.SameBut a s.heap h' → HOk X.prog X.w H h' := fun {a h'} ha hs b ob e => by
    obtain ⟨_, _, hfree⟩ := ha
    refine (I.hok b ob e).stay (fun c w' hc q => (hs.2 c ?_).trans q) (fun _ q => q) fun _ _ q => q
    rintro rfl
    rcases hc with rfl | hc
    · rw [hfree] at e; cases e
    · rw [hfree] at hc; cases hc
  rcases hx with hk | hk
  · refine wpAny_storeName_local hk hn (fun h' hn' hs => ?_) hcls
    obtain ⟨oL, _, _, hoL, _⟩ := id hn
    refine h _ ⟨I.ok, I.os, I.bare, ⟨fun b o e n hb hx => ?_, fun b o e n hb hx => ?_, I.base.free, fun b o e hx => ?_, I.base.tups, I.base.frzs, I.base.tbls⟩, ⟨_, hn', fun j y v' e1 e2 e3 => ?_⟩, fun y c e => ?_, I.free, I.freeC, fun p hp => ?_, tracked ⟨oL, hoL, I.free⟩ hs, by simpa using I.len⟩ ⟨_, hs, .inl rfl⟩
    · exact (hs.2 b (Nat.ne_of_lt (Nat.lt_of_lt_of_le (Heap.lt_size e) I.ok.above))).trans (I.base.keep b o e n hb hx)
    · obtain ⟨sl, e1⟩ := I.base.slot b o e n hb hx
      exact ⟨sl, (hs.2 b (Nat.ne_of_lt (Nat.lt_of_lt_of_le (Heap.lt_size e) I.ok.above))).trans e1⟩
    · obtain ⟨o', e1⟩ := I.base.there b o e hx
      exact ⟨o', (hs.2 b (Nat.ne_of_lt (Nat.lt_of_lt_of_le (Heap.lt_size e) I.ok.above))).trans e1⟩
    · by_cases hj : j = i
      · subst hj
        rw [hi] at e1; cases e1
        rw [List.getElem?_set_self hiσ] at e2
        cases e2
        exact ⟨u, r, .inl ⟨hk, by simp⟩⟩
      · rw [List.getElem?_set_ne (Ne.symm hj)] at e2
        obtain ⟨u', r', q⟩ := hl j y v' e1 e2 e3
        refine ⟨u', r', ?_⟩
        rcases q with ⟨k, e⟩ | ⟨k, c, e, z⟩
        · refine .inl ⟨k, ?_⟩
          have : y ≠ x := fun e => hj (nodup_ix hN e1 (e ▸ hi))
          simp [this, e]
        · exact .inr ⟨k, c, e, z.sameBut hs (cne y c e)⟩
    · obtain ⟨w', z⟩ := I.cell y c e
      exact ⟨w', z.sameBut hs (cne y c e)⟩
    · obtain ⟨e, n, ne, nf, d⟩ := I.pin p hp
      exact ⟨(hs.2 p.1 ne).trans e, n, ne, nf, d⟩
  · have hfn : X.fn x = true := by
      rcases hf with z | z
      · exact z
      · rw [z] at hk; cases hk
    obtain ⟨c, hc⟩ := I.ok.has x (.inl hk)
    obtain ⟨w', z⟩ := I.cell x c hc
    refine wpAny_storeName_cell I.ok.kind hk hc z (fun h' hc' hs => ?_)
    obtain ⟨oc, hoc, hocd⟩ := id z
    refine h { s with heap := h' } ⟨I.ok, I.os, I.bare, ⟨fun b o e n hb hx => ?_, fun b o e n hb hx => ?_, I.base.free, fun b o e hx => ?_, I.base.tups, I.base.frzs, I.base.tbls⟩, ⟨m, hn.sameBut hs (Ne.symm (cne x c hc)), fun j y v' e1 e2 e3 => ?_⟩, fun y c' e => ?_, I.free, I.freeC, fun p hp => ?_, tracked ⟨oc, hoc, I.freeC x c hc⟩ hs, by simpa using I.len⟩ ⟨c, hs, .inr hc⟩
    · exact (hs.2 b (Nat.ne_of_lt (Nat.lt_of_lt_of_le (Heap.lt_size e) (I.ok.cab x c hfn hc)))).trans (I.base.keep b o e n hb hx)
    · obtain ⟨sl, e1⟩ := I.base.slot b o e n hb hx
      exact ⟨sl, (hs.2 b (Nat.ne_of_lt (Nat.lt_of_lt_of_le (Heap.lt_size e) (I.ok.cab x c hfn hc)))).trans e1⟩
    · obtain ⟨o', e1⟩ := I.base.there b o e hx
      exact ⟨o', (hs.2 b (Nat.ne_of_lt (Nat.lt_of_lt_of_le (Heap.lt_size e) (I.ok.cab x c hfn hc)))).trans e1⟩
    · by_cases hj : j = i
      · subst hj
        rw [hi] at e1; cases e1
        rw [List.getElem?_set_self hiσ] at e2
        cases e2
        exact ⟨u, r, .inr ⟨.inl hk, c, hc, hc'⟩⟩
      · rw [List.getElem?_set_ne (Ne.symm hj)] at e2
        obtain ⟨u', r', q⟩ := hl j y v' e1 e2 e3
        refine ⟨u', r', ?_⟩
        rcases q with q | ⟨k, c', e, z'⟩
        · exact .inl q
        · refine .inr ⟨k, c', e, z'.sameBut hs ?_⟩
          rintro rfl
          exact hj (nodup_ix hN e1 (I.ok.inj _ _ _ e hc ▸ hi))
    · by_cases hcc : c' = c
      · subst hcc; exact ⟨_, hc'⟩
      · obtain ⟨w2, z2⟩ := I.cell y c' e
        exact ⟨w2, z2.sameBut hs hcc⟩
    · obtain ⟨e, n, ne, nf, d⟩ := I.pin p hp
      refine ⟨(hs.2 p.1 ?_).trans e, n, ne, nf, d⟩
      intro q
      rw [q, hoc] at e
      have q' : oc = p.2 := Option.some.inj e
      exact d w' (by rw [← q']; exact hocd)
theorem store_ok {M : Model} {A : Around} {E : Value → Shared → Prop} {i : Nat} {x : Str} {v : V} {u : Value} {Q : Unit → Shared → Prop} (I : Inv X pins σ H s) (hN : X.N.Nodup) (hi : X.N[i]? = some x) (hx : Loc X.env.scope x) (r : RelV v u)
    (h : ∀ s', Inv X pins (σ.set i (some v)) H s' → Q () s') (hf : X.fn x = true ∨ X.env.scope.names.lookup x = some .local := by first | exact .inl rfl | exact .inr rfl | assumption) : wpAny M A (storeName X.env x u) Q E s :=
  store_ok2 I hN hi hx r (fun s' I' _ => h s' I') hf
end
/-- an exception: its class, its own dict's address (where it has one), the abstract heap behind it -/
abbrev XK := Value → Option Addr → Hp → Prop
abbrev St := List (Option V)
abbrev VK := V → Hp → Prop
/-- an expression's reading; a test's; an argument list's -/
abbrev TE := St → Hp → VK → Prop
abbrev TT := St → Hp → (Bool → Hp → Prop) → Prop
abbrev TA := St → Hp → (List V → Hp → Prop) → Prop
/-- what is wanted behind a statement -/
structure Ends where
  nx : St → Hp → Prop
  rt : VK
  bk : St → Hp → Prop := fun _ _ => False
  ct : St → Hp → Prop := fun _ _ => False
abbrev TS := Ends → St → Hp → Prop
def EP (X : Cx) (pins : List (Addr × Obj)) (σ : St) (Q : VK) (u : Value) (s' : Shared) : Prop := ∃ v H', Inv X pins σ H' s' ∧ RelV v u ∧ Q v H'
def TP (X : Cx) (pins : List (Addr × Obj)) (σ : St) (Q : Bool → Hp → Prop) (b : Bool) (s' : Shared) : Prop := ∃ H', Inv X pins σ H' s' ∧ Q b H'
def AP (X : Cx) (pins : List (Addr × Obj)) (σ : St) (Q : List V → Hp → Prop) (us : List Value) (s' : Shared) : Prop := ∃ vs H', Inv X pins σ H' s' ∧ Vals vs us ∧ Q vs H'
def SP (X : Cx) (pins : List (Addr × Obj)) (D : Ends) (f : Flow) (s' : Shared) : Prop :=
  match f with
  | .next => ∃ σ' H', Inv X pins σ' H' s' ∧ D.nx σ' H'
  | .brk => ∃ σ' H', Inv X pins σ' H' s' ∧ D.bk σ' H'
  | .cont => ∃ σ' H', Inv X pins σ' H' s' ∧ D.ct σ' H'
  | .ret u => ∃ v σ' H', Inv X pins σ' H' s' ∧ RelV v u ∧ D.rt v H'
def PE (X : Cx) (e : Expr) (t : TE) : Prop :=
  ∀ (pins : List (Addr × Obj)) (s : Shared) (σ : St) (H : Hp) (Q : VK), Inv X pins σ H s → t σ H Q → wpAny (model X.prog X.w) X.A (eval e X.env) (EP X pins σ Q) X.xe s
def PT (X : Cx) (e : Expr) (t : TT) : Prop :=
  ∀ (pins : List (Addr × Obj)) (s : Shared) (σ : St) (H : Hp) (Q : Bool → Hp → Prop), Inv X pins σ H s → t σ H Q → wpAny (model X.prog X.w) X.A (isTrue e X.env (eval e X.env)) (TP X pins σ Q) X.xe s
/-- a test whatever its 'whole' is (and, or) -/
def PW (X : Cx) (e : Expr) (t : TT) : Prop :=
  ∀ (whole : Sem Value) (pins : List (Addr × Obj)) (s : Shared) (σ : St) (H : Hp) (Q : Bool → Hp → Prop), Inv X pins σ H s → t σ H Q → wpAny (model X.prog X.w) X.A (isTrue e X.env whole) (TP X pins σ Q) X.xe s
theorem PW.pt {X : Cx} {e : Expr} {t : TT} (h : PW X e t) : PT X e t := h _
/-- an argument list (no star), from the left -/
def PA (X : Cx) (es : List Expr) (t : TA) : Prop :=
  ∀ (pos : Pos) (pins : List (Addr × Obj)) (s : Shared) (σ : St) (H : Hp) (Q : List V → Hp → Prop), Inv X pins σ H s → t σ H Q → wpAny (model X.prog X.w) X.A (spliced (backTo pos (starEach es X.env))) (AP X pins σ Q) X.xe s
def PS (X : Cx) (st : Stmt) (t : TS) : Prop :=
  ∀ (pins : List (Addr × Obj)) (s : Shared) (σ : St) (H : Hp) (D : Ends), Inv X pins σ H s → t D σ H → wpAny (model X.prog X.w) X.A (exec st X.env) (SP X pins D) X.xe s
def PSs (X : Cx) (st : List Stmt) (t : TS) : Prop :=
  ∀ (pins : List (Addr × Obj)) (s : Shared) (σ : St) (H : Hp) (D : Ends), Inv X pins σ H s → t D σ H → wpAny (model X.prog X.w) X.A (execs st X.env) (SP X pins D) X.xe s
/-- weaken the end -/
theorem thn {α : Type} {t : Sem α} {Q Q' : α → Shared → Prop} {M : Model} {A : Around} {E : Value → Shared → Prop} {s : Shared} (h : wpAny M A t Q E s) (hQ : ∀ a s, Q a s → Q' a s) : wpAny M A t Q' E s := wpAny_mono h hQ fun _ _ x => x
end L2
namespace L2
open PySem PySem.Spec PyProof.Rows
section
variable {X : Cx}
def tVar (i : Nat) : TE := fun σ H Q => ∃ v, σ[i]? = some (some v) ∧ Q v H
def tC (v : V) : TE := fun _ H Q => Q v H
theorem pe_var {i : Nat} {x : Str} {pos : Pos} (hN : X.N[i]? = some x) (hv : Vis X.env.scope x) (hd : (x == ("__debug__" : Str)) = false := by decide) (hcd : (x == ("__classdict__" : Str)) = false := by decide) : PE X (.Name x pos) (tVar i) := by
  intro pins s σ H Q I h
  obtain ⟨v, e, h⟩ := h
  obtain ⟨m, hn, hl⟩ := I.loc
  obtain ⟨u, r, l⟩ := hl i x v hN e hv
  have fin : EP X pins σ Q u s := ⟨v, H, I, r, h⟩
  rcases l with ⟨hk, hm⟩ | ⟨hk, c, hc, hcell⟩
  · exact wpAny_Name (wpAny_loadName_local I.ok.kind hk hn hm fin) hd
  · rcases hk with hk | hk
    · exact wpAny_Name (wpAny_loadName_cell I.ok.kind hk hc hcell fin) hd
    · exact wpAny_Name (wpAny_loadName_free I.ok.kind hk hc hcell fin hcd) hd
theorem pe_int {i j pos} : PE X (.Constant (.int i) j pos) (tC (.int i)) := fun _ _ _ H _ I h => wpAny_Constant_int ⟨.int i, H, I.tok _, ⟨_, rfl⟩, h⟩
theorem pe_bl {b j pos} : PE X (.Constant (.bool b) j pos) (tC (.bl b)) := fun _ _ _ H _ I h => Constant_bool ⟨.bl b, H, I, rfl, h⟩
theorem pe_non {j pos} : PE X (.Constant .none j pos) (tC .non) := fun _ _ _ H _ I h => Constant_none ⟨.non, H, I, rfl, h⟩
/-- a global name of the def -/
def Gl (X : Cx) (x : Str) : Prop := X.env.kindOf x = some .globalImplicit
theorem ld_glob {E : Value → Shared → Prop} {pins : List (Addr × Obj)} {s : Shared} {σ : St} {H : Hp} {x : Str} {u : Value} {pos : Pos} {Q : Value → Shared → Prop} (I : Inv X pins σ H s) (hg : Gl X x) (hm : X.mg x = some u) (h : Q u s)
    (hd : (x == ("__debug__" : Str)) = false := by decide) : wpAny (model X.prog X.w) X.A (eval (.Name x pos) X.env) Q E s :=
  Calls.Name_function_global I.ok.kind hg (Calls.loadGlobal_global (by rw [I.ok.glob]; exact I.mod.glob.keeps I.bk) hm h) hd
theorem ld_blt {E : Value → Shared → Prop} {pins : List (Addr × Obj)} {s : Shared} {σ : St} {H : Hp} {x : Str} {u : Value} {pos : Pos} {Q : Value → Shared → Prop} (I : Inv X pins σ H s) (hg : Gl X x) (hm : X.mg x = none) (hv : bootBuiltins x = some u) (h : Q u s)
    (hn : x ≠ "__name__" := by decide) (hd : (x == ("__debug__" : Str)) = false := by decide) : wpAny (model X.prog X.w) X.A (eval (.Name x pos) X.env) Q E s := by
  obtain ⟨mb, h1, h2⟩ := I.mod.blt
  exact Calls.Name_function_global I.ok.kind hg (Calls.loadGlobal_builtin (by rw [I.ok.glob]; exact I.mod.glob.keeps I.bk) hm (by rw [I.ok.blt]; exact h1.keeps I.bk) ((h2 x hn).trans hv) h) hd
/-- a module's constant, a class, a function, as a value -/
theorem pe_glob {x : Str} {v : V} {u : Value} {pos : Pos} (hg : Gl X x) (hm : X.mg x = some u) (r : RelV v u) (hd : (x == ("__debug__" : Str)) = false := by decide) : PE X (.Name x pos) (tC v) :=
  fun _ _ _ H _ I h => ld_glob I hg hm ⟨v, H, I, r, h⟩ hd
variable {a b : Expr} {ta tb : TE} {pos : Pos}
def PC (X : Cx) (op : CmpOp) (a b : Expr) (t : TE) : Prop :=
  ∀ (pins : List (Addr × Obj)) (s : Shared) (σ : St) (H : Hp) (Q : VK), Inv X pins σ H s → t σ H Q →
    wpAny (model X.prog X.w) X.A (eval a X.env) (fun v s₁ => wpAny (model X.prog X.w) X.A (eval b X.env) (fun u s₂ => wpAny (model X.prog X.w) X.A (compareOp op v u) (EP X pins σ Q) X.xe s₂) X.xe s₁) X.xe s
theorem nobehind (b : Expr) {op : CmpOp} (h : op ≠ .In) (h2 : op ≠ .NotIn) : behindInMarks op b = false := by
  have e1 : (op == CmpOp.In) = false := by cases op <;> first | rfl | exact absurd rfl h
  have e2 : (op == CmpOp.NotIn) = false := by cases op <;> first | rfl | exact absurd rfl h2
  cases b <;> simp [behindInMarks, e1, e2]
/-- is None -/
def tIsN (ta : TE) : TE := fun σ H Q => ta σ H fun x H1 => Q (.bl (decide (x = .non))) H1
theorem RelV.none_iff {x : V} {v : Value} (r : RelV x v) : (v == Value.none) = decide (x = .non) := by
  cases x with
  | non => cases r; rfl
  | bl _ => cases r; rfl
  | int _ => obtain ⟨t, rfl⟩ := r; rfl
  | str _ => obtain ⟨t, rfl⟩ := r; rfl
  | byt _ => obtain ⟨t, rfl⟩ := r; rfl
  | flt _ => obtain ⟨t, rfl⟩ := r; rfl
  | ref _ => cases r; rfl
  | ty _ => cases r; rfl
theorem pc_isN {j pos'} (ha : PE X a ta) : PC X .Is a (.Constant .none j pos') (tIsN ta) := by
  intro pins s σ H Q I h
  refine thn (ha pins s σ H _ I h) fun v s1 ⟨x, H1, I1, r1, q1⟩ => ?_
  exact Constant_none (is_none_gen ⟨.bl _, H1, I1, by rw [r1.none_iff]; rfl, q1⟩)
/-- a comparison as a value, as a test -/
def tB (t : TE) : TT := fun σ H Q => t σ H fun x H1 => ∃ c, x = .bl c ∧ Q c H1
theorem pt_cmp {op : CmpOp} {t : TE} (h : PC X op a b t) (h1 : behindInMarks op b = false := by first | exact nobehind _ (by decide) (by decide) | rfl) : PT X (.Compare a [op] [b] pos) (tB t) := by
  intro pins s σ H Q I hw
  refine wpAny_isTrue_Compare1 (thn (h pins s σ H _ I hw) fun v s1 h1 => thn h1 fun u s2 h2 => thn h2 fun c s3 ⟨x, H1, I1, r1, q1⟩ => ?_) h1
  obtain ⟨d, rfl, q⟩ := q1
  cases r1
  exact wpAny_truthy_bool ⟨H1, I1, q⟩
/-- an expression whose value is a bool, as a test -/
theorem pt_val {e : Expr} {t : TE} (h : PE X e t) (he : ∀ whole, isTrue e X.env whole = (do let v ← whole; standAt e.pos; holding [v] (truthy v)) := by intro _; rfl) : PT X e (tB t) := by
  intro pins s σ H Q I hw
  refine isTrue_plain (thn (h pins s σ H _ I hw) fun v s1 ⟨x, H1, I1, r1, q1⟩ => ?_) (he _)
  obtain ⟨d, rfl, q⟩ := q1
  cases r1
  exact wpAny_truthy_bool ⟨H1, I1, q⟩
variable {tA tB' : TT} {rest : List Expr}
def tAnd (t u : TT) : TT := fun σ H Q => t σ H fun c H1 => if c = true then u σ H1 Q else Q false H1
def tOr (t u : TT) : TT := fun σ H Q => t σ H fun c H1 => if c = true then Q true H1 else u σ H1 Q
def tNot (t : TT) : TT := fun σ H Q => t σ H fun c H1 => Q (!c) H1
theorem pw_and1 (ha : PT X a tA) : PW X (.BoolOp .And [a] pos) tA := by
  intro wh pins s σ H Q I h
  refine isTrue_and (thn (ha pins s σ H Q I h) fun c s1 e => ?_)
  cases c with
  | true => exact isTrue_and_nil e
  | false => exact e
theorem pw_or1 (ha : PT X a tA) : PW X (.BoolOp .Or [a] pos) tA := by
  intro wh pins s σ H Q I h
  refine isTrue_or (thn (ha pins s σ H Q I h) fun c s1 e => ?_)
  cases c with
  | false => exact isTrue_or_nil e
  | true => exact e
theorem pw_and (ha : PT X a tA) (hb : PW X (.BoolOp .And (b :: rest) pos) tB') : PW X (.BoolOp .And (a :: b :: rest) pos) (tAnd tA tB') := by
  intro wh pins s σ H Q I h
  refine isTrue_and (thn (ha pins s σ H _ I h) fun c s1 ⟨H1, I1, q1⟩ => ?_)
  cases c with
  | true => exact hb wh pins s1 σ H1 Q I1 q1
  | false => exact ⟨H1, I1, q1⟩
theorem pw_or (ha : PT X a tA) (hb : PW X (.BoolOp .Or (b :: rest) pos) tB') : PW X (.BoolOp .Or (a :: b :: rest) pos) (tOr tA tB') := by
  intro wh pins s σ H Q I h
  refine isTrue_or (thn (ha pins s σ H _ I h) fun c s1 ⟨H1, I1, q1⟩ => ?_)
  cases c with
  | true => exact ⟨H1, I1, q1⟩
  | false => exact hb wh pins s1 σ H1 Q I1 q1
theorem pt_not (ha : PT X a tA) : PT X (.UnaryOp .Not a pos) (tNot tA) := by
  intro pins s σ H Q I h
  exact isTrue_not (ha pins s σ H (fun c H1 => Q (!c) H1) I h)
/-- a if t else b -/
def tIf (t : TT) (ta tb : TE) : TE := fun σ H Q => t σ H fun c H1 => if c = true then ta σ H1 Q else tb σ H1 Q
theorem pe_ifExp {c : Expr} (hc : PT X c tA) (ha : PE X a ta) (hb : PE X b tb) : PE X (.IfExp c a b pos) (tIf tA ta tb) := by
  intro pins s σ H Q I h
  refine wpAny_IfExp (thn (hc pins s σ H _ I h) fun d s1 ⟨H1, I1, q1⟩ => ?_)
  cases d with
  | true => exact ha pins s1 σ H1 Q I1 q1
  | false => exact hb pins s1 σ H1 Q I1 q1
end
end L2
namespace L2
open PySem PySem.Spec PyProof.Rows
def SqL (K : PySem.W.Frag) (H : Hp) (a : Addr) (xs : List V) : Prop :=
  Rd H a (.lst xs) ∨
    ∃ (o : Obj) (its : Array Value) (n : Nat), K.lookup a = some o ∧ o.cls = .type "list" ∧ o.dict = none ∧ o.data = .seq its n ∧ its.size ≤ sizeLine ∧ Vals xs its.toList
def SqT (K : PySem.W.Frag) (H : Hp) (a : Addr) (xs : List V) : Prop :=
  Rd H a (.tup xs) ∨
    ∃ (o : Obj) (its : Array Value) (n : Nat), K.lookup a = some o ∧ o.cls = .type "tuple" ∧ o.data = .seq its n ∧ its.size ≤ sizeLine ∧ Vals xs its.toList
section
variable {X : Cx} {pins : List (Addr × Obj)} {σ : St} {H : Hp} {s : Shared} {a : Addr} {xs ys : List V}
theorem SqL.of {K : PySem.W.Frag} (h : H a = some (.lst xs)) : SqL K H a xs := .inl (.inl h)
theorem SqT.of {K : PySem.W.Frag} (h : H a = some (.tup xs)) : SqT K H a xs := .inl (.inl h)
theorem Inv.list (I : Inv X pins σ H s) (h : SqL X.K H a xs) : ∃ its : List Value, Vals xs its ∧ PlainL s.heap a its.toArray ∧ xs.length ≤ sizeLine := by
  rcases h with h | ⟨o, its, n, hk, hc, hd, hs, hz, r⟩
  · obtain ⟨z, its, n, r, e⟩ := h.ok I.hok
    exact ⟨its, r, ⟨_, n, e, rfl, rfl, rfl⟩, z⟩
  · refine ⟨its.toList, r, ⟨o, n, I.kIn a o hk, hc, hd, by simpa using hs⟩, ?_⟩
    have e := r.length
    simp only [Array.length_toList] at e
    omega
theorem Inv.tuple (I : Inv X pins σ H s) (h : SqT X.K H a xs) : ∃ its : List Value, Vals xs its ∧ IsTup s.heap a its.toArray ∧ xs.length ≤ sizeLine := by
  rcases h with h | ⟨o, its, n, hk, hc, hs, hz, r⟩
  · obtain ⟨z, its, r, p⟩ := h.ok I.hok
    exact ⟨its, r, p, z⟩
  · refine ⟨its.toList, r, ⟨o, I.kIn a o hk, hc, n, by simpa using hs⟩, ?_⟩
    have e := r.length
    simp only [Array.length_toList] at e
    omega
end
abbrev Cx.wish (X : Cx) (E : Value → Shared → Prop) : Cx := { X with xe := E }
/-- no exception leaves -/
abbrev Cx.nox (X : Cx) : Cx := X.wish fun _ _ => False
theorem Cx.Ok.wish {X : Cx} (ok : X.Ok) (E : Value → Shared → Prop) : (X.wish E).Ok :=
  ⟨ok.mod, ok.kind, ok.glob, ok.blt, ok.above, ok.inj, ok.has, ok.cab, ok.hd, ok.frames, ok.stk, ok.exf, ok.bs, ok.bsz, ok.noex, ok.exfs, ok.funs, ok.frf⟩
theorem Cx.Ok.unwish {X : Cx} {E : Value → Shared → Prop} (ok : (X.wish E).Ok) : X.Ok :=
  ⟨ok.mod, ok.kind, ok.glob, ok.blt, ok.above, ok.inj, ok.has, ok.cab, ok.hd, ok.frames, ok.stk, ok.exf, ok.bs, ok.bsz, ok.noex, ok.exfs, ok.funs, ok.frf⟩
section
variable {X : Cx} {pins : List (Addr × Obj)} {σ : St} {H : Hp} {s : Shared} {E : Value → Shared → Prop}
theorem Inv.wish (I : Inv X pins σ H s) (E : Value → Shared → Prop) : Inv (X.wish E) pins σ H s := ⟨I.ok.wish E, I.os, I.bare, I.base, I.loc, I.cell, I.free, I.freeC, I.pin, I.hok, I.len⟩
theorem Inv.unwish (I : Inv (X.wish E) pins σ H s) : Inv X pins σ H s := ⟨I.ok.unwish, I.os, I.bare, I.base, I.loc, I.cell, I.free, I.freeC, I.pin, I.hok, I.len⟩
theorem SP.unwish {D : Ends} {f : Flow} {s' : Shared} (h : SP (X.wish E) pins D f s') : SP X pins D f s' := by
  cases f with
  | next => obtain ⟨σ', H', I, q⟩ := h; exact ⟨σ', H', I.unwish, q⟩
  | brk => obtain ⟨σ', H', I, q⟩ := h; exact ⟨σ', H', I.unwish, q⟩
  | cont => obtain ⟨σ', H', I, q⟩ := h; exact ⟨σ', H', I.unwish, q⟩
  | ret u => obtain ⟨v, σ', H', I, r, q⟩ := h; exact ⟨v, σ', H', I.unwish, r, q⟩
theorem PSs.nox {st : List Stmt} {t : TS} (h : PSs X.nox st t) : PSs X st t := fun pins s σ H D I hw =>
  wpAny_mono (h pins s σ H D (I.wish _) hw) (fun _ _ q => q.unwish) fun _ _ z => False.elim z
end
section
variable {X : Cx} {st : Stmt} {rest : List Stmt} {t u : TS} {e : Expr} {te : TE} {pos : Pos}
def tNext : TS := fun D σ H => D.nx σ H
def tSeq (t u : TS) : TS := fun D σ H => t { D with nx := u D } σ H
theorem pss_nil : PSs X [] tNext := fun _ _ σ H _ I h => wpAny_execs_nil ⟨σ, H, I, h⟩
theorem pss_cons (h1 : PS X st t) (h2 : PSs X rest u) : PSs X (st :: rest) (tSeq t u) := by
  intro pins s σ H D I h
  refine wpAny_execs_cons (thn (h1 pins s σ H { D with nx := u D } I h) fun f s1 q => ?_)
  cases f with
  | next =>
    obtain ⟨σ', H', I', q⟩ := q
    exact h2 pins s1 σ' H' D I' q
  | ret v => exact q
  | brk => exact q
  | cont => exact q
theorem pss_one (h1 : PS X st t) : PSs X [st] t := by
  intro pins s σ H D I h
  refine wpAny_execs_cons (thn (h1 pins s σ H D I h) fun f s1 q => ?_)
  cases f with
  | next => exact wpAny_execs_nil q
  | ret v => exact q
  | brk => exact q
  | cont => exact q
/-- in a def's body nothing is shown -/
theorem Inv.quiet {pins : List (Addr × Obj)} {σ : St} {H : Hp} {s : Shared} (I : Inv X pins σ H s) : interactive X.env = false := by simp [interactive, I.ok.kind]
/-- an expression whose value is dropped -/
def tDrop (te : TE) : TS := fun D σ H => te σ H fun _ H1 => D.nx σ H1
theorem ps_expr (he : PE X e te) (hs : swapsWith e none pos.line X.env = pure false := by rfl) : PS X (.Expr e pos) (tDrop te) := by
  intro pins s σ H D I h
  exact wpAny_Expr_any (thn (he pins s σ H _ I h) fun v s1 ⟨x, H1, I1, r1, q1⟩ => ⟨σ, H1, I1, q1⟩) I.quiet hs
def tRet (te : TE) : TS := fun D σ H => te σ H D.rt
theorem ps_ret (he : PE X e te) : PS X (.Return (some e) pos) (tRet te) := by
  intro pins s σ H D I h
  exact wpAny_Return_some (thn (he pins s σ H _ I h) fun v s1 ⟨x, H1, I1, r1, q1⟩ => ⟨x, σ, H1, I1, r1, q1⟩)
def tIfS (c : TT) (t u : TS) : TS := fun D σ H => c σ H fun b H1 => if b = true then t D σ H1 else u D σ H1
theorem ps_if {c : Expr} {a b : List Stmt} {tc : TT} (hc : PT X c tc) (ha : PSs X a t) (hb : PSs X b u) : PS X (.If c a b pos) (tIfS tc t u) := by
  intro pins s σ H D I h
  refine wpAny_If (thn (hc pins s σ H _ I h) fun d s1 ⟨H1, I1, q1⟩ => ?_)
  cases d with
  | true => exact ha pins s1 σ H1 D I1 q1
  | false => exact hb pins s1 σ H1 D I1 q1
end
abbrev TG := V → St → Hp → (St → Hp → Prop) → Prop
/-- a op= b, by values -/
abbrev TIp := V → V → Hp → VK → Prop
def PIp (X : Cx) (op : Operator) (t : TIp) : Prop :=
  ∀ (pins : List (Addr × Obj)) (s : Shared) (σ : St) (H : Hp) (x y : V) (v u : Value) (Q : VK), Inv X pins σ H s → RelV x v → RelV y u → t x y H Q →
    wpAny (model X.prog X.w) X.A (inplaceOp op v u) (EP X pins σ Q) X.xe s
section
variable {X : Cx} {pos : Pos}
def gName (i : Nat) : TG := fun v σ H Q => Q (σ.set i (some v)) H
/-- target = value -/
def tAsg (te : TE) (g : TG) : TS := fun D σ H => te σ H fun x H1 => g x σ H1 D.nx
/-- name = value -/
theorem ps_set {i : Nat} {x : Str} {e : Expr} {te : TE} {pos' : Pos} (hN : X.N.Nodup) (hi : X.N[i]? = some x) (hx : Loc X.env.scope x) (he : PE X e te) (hs : swapsWith e (some (.Name x pos')) pos.line X.env = pure false := by rfl) (hf : X.fn x = true ∨ X.env.scope.names.lookup x = some .local := by first | exact .inl rfl | exact .inr rfl | assumption) :
    PS X (.Assign [.Name x pos'] e pos) (tAsg te (gName i)) := by
  intro pins s σ H D I h
  refine wpAny_Assign_Name (thn (he pins s σ H _ I h) fun v s1 ⟨y, H1, I1, r1, q1⟩ => ?_) hs
  exact store_ok I1 hN hi hx r1 (fun s2 I2 => ⟨_, H1, I2, q1⟩) hf
/-- name op= e -/
def tAug (i : Nat) (te : TE) (ti : TIp) : TS := fun D σ H => ∃ x, σ[i]? = some (some x) ∧ te σ H fun y H1 => ti x y H1 fun z H2 => D.nx (σ.set i (some z)) H2
theorem ps_aug {i : Nat} {x : Str} {e : Expr} {te : TE} {op : Operator} {ti : TIp} {pos' : Pos} (hN : X.N.Nodup) (hi : X.N[i]? = some x) (hx : Loc X.env.scope x) (he : PE X e te) (ho : PIp X op ti) (hf : X.fn x = true ∨ X.env.scope.names.lookup x = some .local := by first | exact .inl rfl | exact .inr rfl | assumption) :
    PS X (.AugAssign (.Name x pos') op e pos) (tAug i te ti) := by
  intro pins s σ H D I h
  obtain ⟨v, e1, h⟩ := h
  obtain ⟨m, hn, hl⟩ := I.loc
  have vis : Vis X.env.scope x := by rcases hx with k | k; exact .inl k; exact .inr (.inl k)
  obtain ⟨u, r, l⟩ := hl i x v hi e1 vis
  refine wpAny_AugAssign_Name ?_
  have go : wpAny (model X.prog X.w) X.A (eval e X.env) (fun w s₂ => wpAny (model X.prog X.w) X.A (inplaceOp op u w) (fun r s₃ => wpAny (model X.prog X.w) X.A (storeName X.env x r) (fun _ => SP X pins D .next) X.xe s₃) X.xe s₂) X.xe s := by
    refine thn (he pins s σ H _ I h) fun w s1 ⟨y, H1, I1, r1, q1⟩ => ?_
    refine thn (ho pins s1 σ H1 v y u w _ I1 r r1 q1) fun z s2 ⟨zv, H2, I2, r2, q2⟩ => ?_
    exact store_ok I2 hN hi hx r2 (fun s3 I3 => ⟨_, H2, I3, q2⟩) hf
  rcases l with ⟨hk, hm⟩ | ⟨hk, c, hc, hcell⟩
  · exact wpAny_loadName_local I.ok.kind hk hn hm go
  · rcases hk with hk | hk
    · exact wpAny_loadName_cell I.ok.kind hk hc hcell go
    · rcases hx with k | k
      · have : X.env.scope.names.lookup x = some .free := hk
        rw [k] at this; cases this
      · have : X.env.scope.names.lookup x = some .free := hk
        rw [k] at this; cases this
/-- ints -/
def ipI (f : Int → Int → Int) : TIp := fun x y H Q => ∃ i j, x = .int i ∧ y = .int j ∧ Q (.int (f i j)) H
theorem ip_add : PIp X .Add (ipI fun i j => i + j) := by
  intro pins s σ H x y v u Q I r1 r2 h
  obtain ⟨i, j, e1, e2, q⟩ := h
  subst e1; subst e2
  obtain ⟨t, rfl⟩ := r1
  obtain ⟨t', rfl⟩ := r2
  exact iadd_int ⟨.int _, H, I.tok _, ⟨_, rfl⟩, q⟩
end
section
variable {X : Cx} {pos : Pos}
/-- the invariant W with its measure -/
def tWhile (c : TT) (tb : TS) : TS := fun D σ H => ∃ W : Nat → St → Hp → Prop, (∃ m, W m σ H) ∧ ∀ m σ H, W m σ H →
  c σ H fun b H1 => if b = true then ∃ N : St → Hp → Prop, (∀ σ' H', N σ' H' → ∃ m', m' < m ∧ W m' σ' H') ∧ tb { D with nx := N, ct := N, bk := D.nx } σ H1 else D.nx σ H1
theorem ps_while {c : Expr} {body : List Stmt} {tc : TT} {tb : TS} (hp : PassesOwn (model X.prog X.w) X.A X.env X.xe) (hc : PT X c tc) (hb : PSs X body tb) : PS X (.While c body [] pos) (tWhile tc tb) := by
  intro pins s σ H D I h
  obtain ⟨W, ⟨m0, w0⟩, turn⟩ := h
  refine wpAny_While (codeAny_whileLoop (fun n s' => ∃ σ' H', Inv X pins σ' H' s' ∧ W n σ' H') ?_ m0 ⟨σ, H, I, w0⟩)
  rintro n s1 ⟨σ1, H1, I1, w1⟩
  refine wpAny_passesOwn hp (thn (hc pins s1 σ1 H1 _ I1 (turn n σ1 H1 w1)) fun b s2 ⟨H2, I2, q2⟩ => ?_)
  cases b with
  | true =>
    obtain ⟨N, hN, q2⟩ := q2
    rw [if_pos rfl]
    refine wpAny_passesOwn hp (thn (hb pins s2 σ1 H2 _ I2 q2) fun f s3 q3 => ?_)
    cases f with
    | next =>
      obtain ⟨σ3, H3, I3, n3⟩ := q3
      obtain ⟨m', hm, w3⟩ := hN σ3 H3 n3
      exact ⟨m', hm, σ3, H3, I3, w3⟩
    | cont =>
      obtain ⟨σ3, H3, I3, n3⟩ := q3
      obtain ⟨m', hm, w3⟩ := hN σ3 H3 n3
      exact ⟨m', hm, σ3, H3, I3, w3⟩
    | brk => exact q3
    | ret v => exact q3
  | false =>
    rw [if_neg Bool.false_ne_true]
    exact wpAny_execs_nil ⟨σ1, H2, I2, q2⟩
end
end L2
namespace L2
open PySem PySem.Spec PyProof.Rows
section
variable {X : Cx} {tg : Expr}
end
end L2
namespace L2
open PySem PySem.Spec PyProof.Rows
abbrev R2 := V → V → Hp → VK → Prop
/-- a two-place operation on values: f is binaryOp op, inplaceOp op or compareOp op -/
def OpR (X : Cx) (f : Value → Value → Sem Value) (r : R2) : Prop :=
  ∀ (pins : List (Addr × Obj)) (s : Shared) (σ : St) (H : Hp) (x y : V) (v u : Value) (Q : VK), Inv X pins σ H s → RelV x v → RelV y u → r x y H Q →
    wpAny (model X.prog X.w) X.A (f v u) (EP X pins σ Q) X.xe s
/-- a call of a value that is known (a builtin, a type) with values -/
def CallR (X : Cx) (f : Value) (r : List V → Hp → VK → Prop) : Prop :=
  ∀ (pins : List (Addr × Obj)) (s : Shared) (σ : St) (H : Hp) (xs : List V) (us : List Value) (Q : VK), Inv X pins σ H s → Vals xs us → r xs H Q →
    wpAny (model X.prog X.w) X.A (call f us) (EP X pins σ Q) X.xe s
def tOp (r : R2) (ta tb : TE) : TE := fun σ H Q => ta σ H fun x H1 => tb σ H1 fun y H2 => r x y H2 Q
/-- ints in, under C, and a value out -/
def rI (C : Int → Int → Prop) (g : Int → Int → V) : R2 := fun x y H Q => ∃ i j, x = .int i ∧ y = .int j ∧ C i j ∧ Q (g i j) H
def rI0 (g : Int → Int → V) : R2 := fun x y H Q => ∃ i j, x = .int i ∧ y = .int j ∧ Q (g i j) H
section
variable {X : Cx} {a b c : Expr} {ta tb tc : TE} {pos : Pos}
theorem binT (ha : PE X a ta) (hb : PE X b tb) {pins : List (Addr × Obj)} {s : Shared} {σ : St} {H : Hp} {R : V → V → Hp → Prop} (I : Inv X pins σ H s)
    (h : ta σ H fun x H1 => tb σ H1 fun y H2 => R x y H2) {Q : Value → Shared → Prop} {f : Value → Value → Sem Value}
    (hf : ∀ v u s2 x y H2, Inv X pins σ H2 s2 → RelV x v → RelV y u → R x y H2 → wpAny (model X.prog X.w) X.A (f v u) Q X.xe s2) :
    wpAny (model X.prog X.w) X.A (eval a X.env) (fun v s₁ => wpAny (model X.prog X.w) X.A (eval b X.env) (fun u s₂ => wpAny (model X.prog X.w) X.A (f v u) Q X.xe s₂) X.xe s₁) X.xe s := by
  refine thn (ha pins s σ H _ I h) fun v s1 ⟨x, H1, I1, r1, q1⟩ => ?_
  refine thn (hb pins s1 σ H1 _ I1 q1) fun u s2 ⟨y, H2, I2, r2, q2⟩ => ?_
  exact hf v u s2 x y H2 I2 r1 r2 q2
theorem pe_op {op : Operator} {r : R2} (ho : OpR X (binaryOp op) r) (ha : PE X a ta) (hb : PE X b tb) : PE X (.BinOp a op b pos) (tOp r ta tb) := by
  intro pins s σ H Q I h
  exact wpAny_BinOp (binT ha hb I h fun v u s2 x y H2 I2 rx ry q => ho pins s2 σ H2 x y v u Q I2 rx ry q)
theorem opI {f : Value → Value → Sem Value} {C : Int → Int → Prop} {g : Int → Int → Int}
    (rule : ∀ (i j : Int) (t u : Tok) (s : Shared) (Q : Value → Shared → Prop) (E : Value → Shared → Prop), C i j → Q (.int (g i j) s.toks) { s with toks := s.toks + 1 } → wpAny (model X.prog X.w) X.A (f (.int i t) (.int j u)) Q E s) :
    OpR X f (rI C fun i j => .int (g i j)) := by
  intro pins s σ H x y v u Q I rx ry h
  obtain ⟨i, j, rfl, rfl, hc, q⟩ := h
  obtain ⟨t, rfl⟩ := rx
  obtain ⟨t', rfl⟩ := ry
  exact rule i j t t' s _ _ hc ⟨.int (g i j), H, I.tok _, ⟨_, rfl⟩, q⟩
theorem opI0 {f : Value → Value → Sem Value} {g : Int → Int → Int}
    (rule : ∀ (i j : Int) (t u : Tok) (s : Shared) (Q : Value → Shared → Prop) (E : Value → Shared → Prop), Q (.int (g i j) s.toks) { s with toks := s.toks + 1 } → wpAny (model X.prog X.w) X.A (f (.int i t) (.int j u)) Q E s) :
    OpR X f (rI0 fun i j => .int (g i j)) := by
  intro pins s σ H x y v u Q I rx ry h
  obtain ⟨i, j, rfl, rfl, q⟩ := h
  obtain ⟨t, rfl⟩ := rx
  obtain ⟨t', rfl⟩ := ry
  exact rule i j t t' s _ _ ⟨.int (g i j), H, I.tok _, ⟨_, rfl⟩, q⟩
theorem opB0 {f : Value → Value → Sem Value} {g : Int → Int → Bool}
    (rule : ∀ (i j : Int) (t u : Tok) (s : Shared) (Q : Value → Shared → Prop) (E : Value → Shared → Prop), Q (.bool (g i j)) s → wpAny (model X.prog X.w) X.A (f (.int i t) (.int j u)) Q E s) :
    OpR X f (rI0 fun i j => .bl (g i j)) := by
  intro pins s σ H x y v u Q I rx ry h
  obtain ⟨i, j, rfl, rfl, q⟩ := h
  obtain ⟨t, rfl⟩ := rx
  obtain ⟨t', rfl⟩ := ry
  exact rule i j t t' s _ _ ⟨.bl (g i j), H, I, rfl, q⟩
def CMul (i j : Int) : Prop := (-(2 ^ 64) < i ∧ i < 2 ^ 64) ∨ (-(2 ^ 64) < j ∧ j < 2 ^ 64)
theorem CMul.ok {i j : Int} (h : CMul i j) : IntMulOk i j := by
  rcases h with ⟨h1, h2⟩ | ⟨h1, h2⟩
  · exact .of_left (intBits_le_64 h1 h2)
  · exact .of_right (intBits_le_64 h1 h2)
theorem op_add : OpR X (binaryOp .Add) (rI0 fun i j => .int (i + j)) := opI0 fun _ _ _ _ _ _ _ q => add_int q
theorem op_sub : OpR X (binaryOp .Sub) (rI0 fun i j => .int (i - j)) := opI0 fun _ _ _ _ _ _ _ q => sub_int q
theorem op_mul : OpR X (binaryOp .Mult) (rI CMul fun i j => .int (i * j)) := opI fun _ _ _ _ _ _ _ hc q => mul_int q hc.ok
end
/-- the scalars that == tells apart as data does -/
def scal : V → V → Bool
  | .non, .non => true | .non, .int _ => true | .int _, .non => true | .non, .bl _ => true | .bl _, .non => true | .non, .str _ => true | .str _, .non => true
  | .int _, .int _ => true | .bl _, .bl _ => true | .str _, .str _ => true | .byt _, .byt _ => true
  | .int _, .str _ => true | .str _, .int _ => true | .bl _, .str _ => true | .str _, .bl _ => true
  | _, _ => false
def rEq : R2 := fun x y H Q => scal x y = true ∧ Q (.bl (decide (x = y))) H
def rNe : R2 := fun x y H Q => scal x y = true ∧ Q (.bl (!decide (x = y))) H
theorem dec_int {i j : Int} : decide (V.int i = V.int j) = (i == j) := by
  rw [Bool.eq_iff_iff]
  simp
theorem dec_bl {i j : Bool} : decide (V.bl i = V.bl j) = (i == j) := by
  rw [Bool.eq_iff_iff]
  simp
theorem dec_str {i j : Str} : decide (V.str i = V.str j) = (i == j) := by
  rw [Bool.eq_iff_iff]
  simp
theorem dec_byt {i j : Array UInt8} : decide (V.byt i = V.byt j) = (i.toList == j.toList) := by
  rw [Bool.eq_iff_iff]
  cases i
  cases j
  simp
section
variable {X : Cx} {a b c : Expr} {ta tb tc : TE} {pos : Pos}
theorem fin_bl {pins : List (Addr × Obj)} {σ : St} {H : Hp} {s : Shared} {Q : VK} {k k' : Bool} (I : Inv X pins σ H s) (q : Q (.bl k) H) (e : k = k') : EP X pins σ Q (.bool k') s := by
  subst e
  exact ⟨.bl k, H, I, rfl, q⟩
theorem op_eq : OpR X (compareOp .Eq) rEq := by
  intro pins s σ H x y v u Q I rx ry h
  obtain ⟨hs, q⟩ := h
  cases x with
  | non =>
    cases rx
    cases y with
    | non => cases ry; exact PySem.EqNone.eq_none_none (fin_bl I q (by simp))
    | bl j => cases ry; exact PySem.EqNone.eq_none_bool (fin_bl I q (by simp))
    | int j => obtain ⟨t', rfl⟩ := ry; exact PySem.EqNone.eq_none_int (fin_bl I q (by simp))
    | str j => obtain ⟨t', rfl⟩ := ry; exact PySem.EqNone.eq_none_str (fin_bl I q (by simp))
    | _ => exact absurd (show false = true from hs) Bool.false_ne_true
  | bl i =>
    cases rx
    cases y with
    | non => cases ry; exact PySem.EqNone.eq_bool_none (fin_bl I q (by simp))
    | bl j => cases ry; exact eq_bool (fin_bl I q dec_bl)
    | str j => obtain ⟨t', rfl⟩ := ry; exact PySem.EqMixed.eq_bool_str (fin_bl I q (by simp))
    | _ => exact absurd (show false = true from hs) Bool.false_ne_true
  | int i =>
    obtain ⟨t, rfl⟩ := rx
    cases y with
    | non => cases ry; exact PySem.EqNone.eq_int_none (fin_bl I q (by simp))
    | int j => obtain ⟨t', rfl⟩ := ry; exact eq_int (fin_bl I q dec_int)
    | str j => obtain ⟨t', rfl⟩ := ry; exact PySem.EqMixed.eq_int_str (fin_bl I q (by simp))
    | _ => exact absurd (show false = true from hs) Bool.false_ne_true
  | str i =>
    obtain ⟨t, rfl⟩ := rx
    cases y with
    | non => cases ry; exact PySem.EqNone.eq_str_none (fin_bl I q (by simp))
    | bl j => cases ry; exact PySem.EqMixed.eq_str_bool (fin_bl I q (by simp))
    | int j => obtain ⟨t', rfl⟩ := ry; exact PySem.EqMixed.eq_str_int (fin_bl I q (by simp))
    | str j => obtain ⟨t', rfl⟩ := ry; exact eq_str (fin_bl I q dec_str)
    | _ => exact absurd (show false = true from hs) Bool.false_ne_true
  | byt i =>
    obtain ⟨t, rfl⟩ := rx
    cases y with
    | byt j => obtain ⟨t', rfl⟩ := ry; exact PySem.W.eq_bytes (fin_bl I q dec_byt)
    | _ => exact absurd (show false = true from hs) Bool.false_ne_true
  | _ => cases y <;> exact absurd (show false = true from hs) Bool.false_ne_true
theorem op_ne : OpR X (compareOp .NotEq) rNe := by
  intro pins s σ H x y v u Q I rx ry h
  obtain ⟨hs, q⟩ := h
  cases x with
  | non =>
    cases rx
    cases y with
    | non => cases ry; exact PySem.EqNone.ne_none_none (fin_bl I q (by simp))
    | bl j => cases ry; exact PySem.EqNone.ne_none_bool (fin_bl I q (by simp))
    | int j => obtain ⟨t', rfl⟩ := ry; exact PySem.EqNone.ne_none_int (fin_bl I q (by simp))
    | str j => obtain ⟨t', rfl⟩ := ry; exact PySem.EqNone.ne_none_str (fin_bl I q (by simp))
    | _ => exact absurd (show false = true from hs) Bool.false_ne_true
  | bl i =>
    cases rx
    cases y with
    | non => cases ry; exact PySem.EqNone.ne_bool_none (fin_bl I q (by simp))
    | bl j => cases ry; exact ne_bool (fin_bl I q (congrArg not dec_bl))
    | str j => obtain ⟨t', rfl⟩ := ry; exact PySem.EqMixed.ne_bool_str (fin_bl I q (by simp))
    | _ => exact absurd (show false = true from hs) Bool.false_ne_true
  | int i =>
    obtain ⟨t, rfl⟩ := rx
    cases y with
    | non => cases ry; exact PySem.EqNone.ne_int_none (fin_bl I q (by simp))
    | int j => obtain ⟨t', rfl⟩ := ry; exact ne_int (fin_bl I q (congrArg not dec_int))
    | str j => obtain ⟨t', rfl⟩ := ry; exact PySem.EqMixed.ne_int_str (fin_bl I q (by simp))
    | _ => exact absurd (show false = true from hs) Bool.false_ne_true
  | str i =>
    obtain ⟨t, rfl⟩ := rx
    cases y with
    | non => cases ry; exact PySem.EqNone.ne_str_none (fin_bl I q (by simp))
    | bl j => cases ry; exact PySem.EqMixed.ne_str_bool (fin_bl I q (by simp))
    | int j => obtain ⟨t', rfl⟩ := ry; exact PySem.EqMixed.ne_str_int (fin_bl I q (by simp))
    | str j => obtain ⟨t', rfl⟩ := ry; exact ne_str (fin_bl I q (congrArg not dec_str))
    | _ => exact absurd (show false = true from hs) Bool.false_ne_true
  | byt i =>
    obtain ⟨t, rfl⟩ := rx
    cases y with
    | byt j => obtain ⟨t', rfl⟩ := ry; exact PySem.W.ne_bytes (fin_bl I q (congrArg not dec_byt))
    | _ => exact absurd (show false = true from hs) Bool.false_ne_true
  | _ => cases y <;> exact absurd (show false = true from hs) Bool.false_ne_true
theorem op_lt : OpR X (compareOp .Lt) (rI0 fun i j => .bl (decide (i < j))) := opB0 fun _ _ _ _ _ _ _ q => lt_int q
theorem op_gt : OpR X (compareOp .Gt) (rI0 fun i j => .bl (decide (j < i))) := opB0 fun _ _ _ _ _ _ _ q => gt_int q
theorem nomark (b : Expr) {op : CmpOp} (h : op ≠ .In := by decide) (h2 : op ≠ .NotIn := by decide) : behindInMarks op b = false := by
  have e1 : (op == CmpOp.In) = false := by cases op <;> first | rfl | exact absurd rfl h
  have e2 : (op == CmpOp.NotIn) = false := by cases op <;> first | rfl | exact absurd rfl h2
  cases b <;> simp [behindInMarks, e1, e2]
/-- a comparison as a value; hm: nomark b, or (for in, not in) by with_unfolding_all rfl -/
theorem pe_cmpR {op : CmpOp} {r : R2} (ho : OpR X (compareOp op) r) (ha : PE X a ta) (hb : PE X b tb) (hm : behindInMarks op b = false) : PE X (.Compare a [op] [b] pos) (tOp r ta tb) := by
  intro pins s σ H Q I h
  exact wpAny_Compare1 (binT ha hb I h fun v u s2 x y H2 I2 rx ry q => ho pins s2 σ H2 x y v u Q I2 rx ry q) hm
/-- a reading of a value as a test -/
def tTest (t : TE) : TT := fun σ H Q => t σ H fun x H' => ∃ k, x = .bl k ∧ Q k H'
theorem pt_cmpR {op : CmpOp} {r : R2} (ho : OpR X (compareOp op) r) (ha : PE X a ta) (hb : PE X b tb) (hm : behindInMarks op b = false) : PT X (.Compare a [op] [b] pos) (tTest (tOp r ta tb)) := by
  intro pins s σ H Q I h
  refine wpAny_isTrue_Compare1 (thn (ha pins s σ H _ I h) fun v s1 ⟨x, H1, I1, r1, q1⟩ => thn (hb pins s1 σ H1 _ I1 q1) fun u s2 ⟨y, H2, I2, r2, q2⟩ =>
    thn (ho pins s2 σ H2 x y v u _ I2 r1 r2 q2) fun c s3 ⟨z, H3, I3, r3, k, e, q3⟩ => ?_) hm
  subst e
  cases r3
  exact wpAny_truthy_bool ⟨H3, I3, q3⟩
theorem line63 : (sizeLine : Nat) < 2 ^ 63 := by rw [sizeLine_eq]; decide
theorem vals1 {x : V} {us : List Value} (r : Vals [x] us) : ∃ u, us = [u] ∧ RelV x u := by
  cases r with
  | cons r1 r2 => cases r2; exact ⟨_, rfl, r1⟩
end
end L2
namespace L2
open PySem PySem.Spec PyProof.Rows
structure ObjM (h : Heap) (x dx C : Addr) (mA : Str → Option Value) : Prop where
  obj : h.get? x = some (PySem.W.instObj C dx)
  ns : h.Ns1 dx mA
  ne : dx ≠ x
theorem lookIn_ns {h : Heap} {dx : Addr} {mA : Str → Option Value} (n : h.Ns1 dx mA) : ∃ od, h.get? dx = some od ∧ ∀ name, PySem.W.lookIn name od = some (mA name) := by
  obtain ⟨o, es, ep, ho, hd, hk, _, hm⟩ := n
  refine ⟨o, ho, fun name => ?_⟩
  have e := hm name
  unfold nsFind findBy at e
  rw [← Array.find?_toList] at e
  unfold PySem.W.lookIn
  rw [hd]
  dsimp only
  split
  · rename_i y q
    rw [q] at e
    exact congrArg some e
  · rename_i q
    rw [q] at e
    have a : es.toList.any (·.refKey) = false := by
      rw [List.any_eq_false]
      intro y hy
      obtain ⟨z, t, hkey⟩ := hk y (Array.mem_toList_iff.mp hy)
      simp [DictEntry.refKey, hkey]
    have a' : ¬ es.toList.any (·.refKey) = true := by rw [a]; exact Bool.false_ne_true
    rw [if_neg a']
    exact congrArg some e
theorem ObjM.look {h : Heap} {x dx C : Addr} {mA : Str → Option Value} (I : ObjM h x dx C mA) : ∃ od, PySem.W.InstAt h x (PySem.W.instObj C dx) C (some od) ∧ ∀ name, PySem.W.lookIn name od = some (mA name) :=
  let ⟨od, ho, hl⟩ := lookIn_ns I.ns
  ⟨od, ⟨I.obj, rfl, rfl, ho⟩, hl⟩
section
variable {prog : Program} {w : World} {A : Around} {E : Value → Shared → Prop} {s : Shared} {K : PySem.W.Frag} {x dx C f : Addr} {mA : Str → Option Value} {name : Str} {v : Value}
theorem get_map {expr : Bool} {Q : Value → Shared → Prop} (X : K.In s.heap) (I : ObjM s.heap x dx C mA) (hg : PySem.W.plainGet K C name = true) (hh : PySem.W.hasDictIn K C = true)
    (ha : PySem.W.findIn K (.ref C) name = some none) (hv : mA name = some v) (hv' : PySem.W.handedIn v = true) (h : Q v { s with toks := s.toks + 1 }) :
    wpAny (model prog w) A (getAttr (.ref x) name expr) Q E s := by
  obtain ⟨od, J, hl⟩ := I.look
  exact PySem.W.get_value X J (PySem.W.plainGet_of hg).1 (PySem.W.findObj_own hh ha rfl (by rw [hl, hv])) hv' h
theorem get_meth {pl : Sem Bool} {Q : Value × List Value → Shared → Prop} (X : K.In s.heap) (I : ObjM s.heap x dx C mA) (hg : PySem.W.plainGet K C name = true)
    (hf : PySem.W.findIn K (.ref C) name = some (some (.ref f))) (ht : PySem.W.isFn K (.ref f) = true) (hv : mA name = none) (h : Q (.ref f, [.ref x]) s) :
    wpAny (model prog w) A (getMethod (.ref x) name pl) Q E s := by
  obtain ⟨od, J, hl⟩ := I.look
  exact PySem.W.method_fn X J (PySem.W.plainGet_of hg).1 (PySem.W.plainGet_of hg).2 hf (beq_iff_eq.mp ht) (by show (PySem.W.lookIn name od).map (·.isSome) = some false; rw [hl, hv]; rfl) h
theorem set_map {ns : List Str} {Q : Unit → Shared → Prop} (X : K.In s.heap) (I : ObjM s.heap x dx C mA)
    (hs : PySem.W.findIn K (.ref C) "__setattr__" = some (some (.builtin "object.__setattr__"))) (hp : PySem.W.plainOver K C = true) (ht : PySem.W.takerIn K C name = some none) (hh : PySem.W.hasDictIn K C = true)
    (hw : PySem.Within mA ns) (hsz : ns.length ≤ sizeLine)
    (h : ∀ h', ObjM h' x dx C (fun y => if y = name then some v else mA y) → Heap.SameBut dx s.heap h' → Q () { s with heap := h', toks := s.toks + 2 }) :
    wpAny (model prog w) A (setAttr (.ref x) name v) Q E s := by
  obtain ⟨od, J, hl⟩ := I.look
  refine PySem.W.set_plain X J hs (PySem.W.osa_open (s := { s with toks := s.toks + 1 }) (r := none) X J hp ht fun b => ?_)
  obtain ⟨cd, hc, hd'⟩ := PySem.W.any_some hh
  have hx : s.heap.get? x = some ⟨.ref C, some dx, .plain, #[]⟩ := I.obj
  refine wpAny_bind (wpAny_pure (wpAny_bind (wpAny_bind (wpAny_loadPart hx (wpAny_bind (PySem.W.Looks.here (s := { s with toks := s.toks + 1 }) (PySem.W.looks_clsIn X hc) ?_))))))
  rw [hd']
  refine wpAny_pure (a := some dx) (wpAny_bind (wpAny_pure (wpAny_bind ?_)))
  refine wpAny_nsSet1 (s := { s with toks := s.toks + 1 }) I.ns fun h' hn2 hs2 => ?_
  obtain ⟨oD, esD, epD, hoD, hdD, hcD⟩ := hn2.count (PySem.Within.cons name v hw)
  refine wpAny_bind (wpAny_lookBehind hoD (by rw [hdD]; exact pastItsLine_dict (Nat.le_trans hcD (by rw [List.length_cons]; omega))) ?_)
  exact wpAny_pure (h _ ⟨(hs2.2 _ (Ne.symm I.ne)).trans I.obj, hn2, I.ne⟩ hs2)
/-- C(..): the dict at the heap's end, the instance behind it; then its __init__ -/
theorem make_map {R : Result → Shared → Prop} {vs : List Value} {kw : List (Str × Value)} (X : K.In s.heap) (hm : PySem.W.makesIn K C = true)
    (hi : PySem.W.findIn K (.ref C) "__init__" = some (some (.ref f))) (hf : PySem.W.typeIn K (.ref f) = some (.type "function"))
    (h : codeAny (model prog w) (A.under (.builtin "type.__call__" ⟨.ref C :: vs, kw⟩)) (.call (.ref f) ⟨.ref (s.heap.objs.size + 1) :: vs, kw⟩) (PySem.W.InitBack (s.heap.objs.size + 1) R)
      { s with heap := (s.heap.push PySem.W.emptyDict).push (PySem.W.instObj C s.heap.objs.size) }) :
    codeAny (model prog w) A (.call (.ref C) ⟨vs, kw⟩) R s := by
  obtain ⟨hh, g, d, t, os⟩ := s
  exact PySem.W.make_core (PySem.W.makes_of X hm) (PySem.W.looks_findIn X hi) (fun self => PySem.W.bind_fn X self hf) (.inl rfl) h
end
def putF (f : Str) (v : V) : List (Str × V) → List (Str × V)
  | [] => [(f, v)]
  | (g, x) :: r => if g = f then (g, v) :: r else (g, x) :: putF f v r
theorem lookup_putF (f g : Str) (v : V) : ∀ fs : List (Str × V), (putF f v fs).lookup g = if g = f then some v else fs.lookup g
  | [] => by
    show List.lookup g [(f, v)] = _
    by_cases h : g = f
    · have hb : (g == f) = true := beq_iff_eq.mpr h
      simp only [List.lookup, hb, if_pos h]
    · have hb : (g == f) = false := beq_eq_false_iff_ne.mpr h
      simp only [List.lookup, hb, if_neg h]
  | (k, x) :: r => by
    have ih := lookup_putF f g v r
    rw [show putF f v ((k, x) :: r) = (if k = f then (k, v) :: r else (k, x) :: putF f v r) from rfl]
    by_cases hk : k = f
    · rw [if_pos hk]
      by_cases h : g = k
      · have hb : (g == k) = true := beq_iff_eq.mpr h
        simp only [List.lookup, hb, if_pos (h.trans hk)]
      · have hb : (g == k) = false := beq_eq_false_iff_ne.mpr h
        simp only [List.lookup, hb, if_neg (fun e : g = f => h (e.trans hk.symm))]
    · rw [if_neg hk]
      by_cases h : g = k
      · have hb : (g == k) = true := beq_iff_eq.mpr h
        simp only [List.lookup, hb, if_neg (fun e : g = f => hk (h.symm.trans e))]
      · have hb : (g == k) = false := beq_eq_false_iff_ne.mpr h
        simp only [List.lookup, hb]
        exact ih
theorem keys_putF (f : Str) (v : V) : ∀ fs : List (Str × V), f ∈ (putF f v fs).map (·.1) ∧ ∀ g, g ∈ fs.map (·.1) → g ∈ (putF f v fs).map (·.1)
  | [] => ⟨by simp [putF], fun g h => by simp at h⟩
  | (k, x) :: r => by
    obtain ⟨i1, i2⟩ := keys_putF f v r
    rw [show putF f v ((k, x) :: r) = (if k = f then (k, v) :: r else (k, x) :: putF f v r) from rfl]
    by_cases hk : k = f
    · rw [if_pos hk]
      subst hk
      exact ⟨by simp, fun g h => by simpa using h⟩
    · rw [if_neg hk]
      refine ⟨?_, fun g h => ?_⟩
      · rw [List.map_cons]
        exact List.mem_cons_of_mem _ i1
      · rw [List.map_cons] at h ⊢
        rcases List.mem_cons.mp h with e | e
        · exact List.mem_cons.mpr (.inl e)
        · exact List.mem_cons_of_mem _ (i2 g e)
theorem length_putF (f : Str) (v : V) : ∀ fs : List (Str × V), (putF f v fs).length ≤ fs.length + 1
  | [] => by simp [putF]
  | (k, x) :: r => by
    have ih := length_putF f v r
    rw [show putF f v ((k, x) :: r) = (if k = f then (k, v) :: r else (k, x) :: putF f v r) from rfl]
    by_cases hk : k = f
    · rw [if_pos hk, List.length_cons, List.length_cons]; omega
    · rw [if_neg hk, List.length_cons, List.length_cons]; omega
theorem RelO.some_of {v : V} {o : Option Value} (r : RelO (some v) o) : ∃ u, o = some u ∧ RelV v u := by
  cases o with
  | none => exact (show False from r).elim
  | some u => exact ⟨u, rfl, r⟩
theorem RelO.none_of {o : Option Value} (r : RelO none o) : o = none := by
  cases o with
  | none => rfl
  | some u => exact (show False from r).elim
theorem handed_of {v : V} {u : Value} (r : RelV v u) : PySem.W.handedIn u = true := by
  cases v with
  | non => cases (show u = Value.none from r); rfl
  | bl b => cases (show u = Value.bool b from r); rfl
  | int i => obtain ⟨t, e⟩ := (show ∃ t, u = Value.int i t from r); cases e; rfl
  | str x => obtain ⟨t, e⟩ := (show ∃ t, u = Value.str x t from r); cases e; rfl
  | byt b => obtain ⟨t, e⟩ := (show ∃ t, u = Value.bytes b t from r); cases e; rfl
  | flt b => obtain ⟨t, e⟩ := (show ∃ t, u = Value.float b t from r); cases e; rfl
  | ref a => cases (show u = Value.ref a from r); rfl
  | ty n => cases (show u = Value.type n from r); rfl
section
variable {P : Program} {w : World} {H H' : Hp} {h h' : Heap} {a C dx : Addr} {fs fs' : List (Str × V)}
theorem ins_get (hok : HOk P w H h) (e : H a = some (.ins C dx fs)) : ∃ mA, ObjM h a dx C mA ∧ (∀ f, RelO (fs.lookup f) (mA f)) ∧ PySem.Within mA (fs.map (·.1)) ∧ fs.length ≤ 1000 ∧ H dx = some (.own a) := by
  obtain ⟨d, z, ne, ob, mA, n, r, q⟩ := (show ObjOk P w H h a (.ins C dx fs) from hok a _ e)
  exact ⟨mA, ⟨ob, n, ne⟩, r, q, z, d⟩
end
structure Cls (K : PySem.W.Frag) (C : Addr) : Prop where
  pg : PySem.W.plainGet K C Str.empty = true
  hd : PySem.W.hasDictIn K C = true
  po : PySem.W.plainOver K C = true
  sa : PySem.W.findIn K (.ref C) "__setattr__" = some (some (.builtin "object.__setattr__"))
theorem Cls.get {K : PySem.W.Frag} {C : Addr} (c : Cls K C) (f : Str) : PySem.W.plainGet K C f = true := c.pg
/-- no class of it has the name -/
def NoAttr (K : PySem.W.Frag) (C : Addr) (f : Str) : Prop := PySem.W.findIn K (.ref C) f = some none
theorem NoAttr.taker {K : PySem.W.Frag} {C : Addr} {f : Str} (n : NoAttr K C f) : PySem.W.takerIn K C f = some none := by
  unfold PySem.W.takerIn
  rw [show PySem.W.findIn K (.ref C) f = some none from n]
  rfl
/-- a method: a plain def of the class or of one above it -/
structure Meth (K : PySem.W.Frag) (C : Addr) (m : Str) (f : Addr) : Prop where
  at_ : PySem.W.findIn K (.ref C) m = some (some (.ref f))
  fn : PySem.W.isFn K (.ref f) = true
  kp : PySem.W.keepIn K (.ref f) = true
section
variable {X : Cx} {pins : List (Addr × Obj)} {σ : St} {H : Hp} {s : Shared} {a C dx : Addr} {fs : List (Str × V)} {f : Str} {v : V} {A : Around} {E : Value → Shared → Prop}
theorem getattr_ok {b : Bool} {Q : Value → Shared → Prop} (I : Inv X pins σ H s) (e : H a = some (.ins C dx fs)) (c : Cls X.K C) (n : NoAttr X.K C f) (l : fs.lookup f = some v)
    (h : ∀ u s', Inv X pins σ H s' → RelV v u → Q u s') : wpAny (model X.prog X.w) A (getAttr (.ref a) f b) Q E s := by
  obtain ⟨mA, O, r, _, _, _⟩ := ins_get I.hok e
  obtain ⟨u, hu, ru⟩ := RelO.some_of (v := v) (o := mA f) (by rw [← l]; exact r f)
  exact get_map I.kIn O (c.get f) c.hd n hu (handed_of ru) (h u _ (I.tok _) ru)
theorem getmeth_ok {m : Str} {g : Addr} {pl : Sem Bool} {Q : Value × List Value → Shared → Prop} (I : Inv X pins σ H s) (e : H a = some (.ins C dx fs)) (c : Cls X.K C) (k : Meth X.K C m g) (l : fs.lookup m = none)
    (h : Q (.ref g, [.ref a]) s) : wpAny (model X.prog X.w) A (getMethod (.ref a) m pl) Q E s := by
  obtain ⟨mA, O, r, _, _, _⟩ := ins_get I.hok e
  have hn : mA m = none := RelO.none_of (by rw [← l]; exact r m)
  exact get_meth I.kIn O (c.get m) k.at_ k.fn hn h
theorem setattr_ok {y : V} {u : Value} {Q : Unit → Shared → Prop} (I : Inv X pins σ H s) (e : H a = some (.ins C dx fs)) (c : Cls X.K C) (n : NoAttr X.K C f) (hl : fs.length < 1000) (ry : RelV y u)
    (h : ∀ s', Inv X pins σ (upd H a (.ins C dx (putF f y fs))) s' → Q () s') : wpAny (model X.prog X.w) A (setAttr (.ref a) f u) Q E s := by
  obtain ⟨mA, O, r, wi, _, ho⟩ := ins_get I.hok e
  have hz : (fs.map (·.1)).length ≤ sizeLine := by rw [List.length_map, sizeLine_eq]; omega
  refine set_map I.kIn O c.sa c.po n.taker c.hd wi hz fun h' O' sb => h _ ?_
  have hd : ∃ o, h'.get? dx = some o := let ⟨o, _, _, e', _⟩ := O'.ns; ⟨o, e'⟩
  refine I.write (x := a) (e := dx) (by rw [e]; exact True.intro) (.inr ho) (fun b q hb z => (sb.2 b hb).trans z) hd ?_
  refine ⟨by rw [upd_ne O.ne]; exact ho, ?_, O.ne, O'.obj, _, O'.ns, fun g => ?_, fun g hg => ?_⟩
  · have := length_putF f y fs; omega
  · show RelO ((putF f y fs).lookup g) (if g = f then some u else mA g)
    rw [lookup_putF]
    by_cases q : g = f
    · rw [if_pos q, if_pos q]; exact ry
    · rw [if_neg q, if_neg q]; exact r g
  · by_cases q : g = f
    · rw [q]; exact (keys_putF f y fs).1
    · refine (keys_putF f y fs).2 g (wi g fun z => hg ?_)
      show (if g = f then some u else mA g) = none
      rw [if_neg q]; exact z
/-- a new instance, tracked, without attributes -/
theorem Inv.made (I : Inv X pins σ H s) : Inv X pins σ (upd (upd H s.heap.objs.size (.own (s.heap.objs.size + 1))) (s.heap.objs.size + 1) (.ins C s.heap.objs.size []))
    { s with heap := (s.heap.push PySem.W.emptyDict).push (PySem.W.instObj C s.heap.objs.size) } := by
  have e1 : (s.heap.push PySem.W.emptyDict).get? s.heap.objs.size = some PySem.W.emptyDict := Heap.get?_push_size s.heap rfl
  have e2 : ((s.heap.push PySem.W.emptyDict).push (PySem.W.instObj C s.heap.objs.size)).get? (s.heap.objs.size + 1) = some (PySem.W.instObj C s.heap.objs.size) := by
    have := Heap.get?_push_size (s.heap.push PySem.W.emptyDict) (o := PySem.W.instObj C s.heap.objs.size) rfl
    rwa [Heap.size_push] at this
  have e3 : (s.heap.push PySem.W.emptyDict).Ns s.heap.objs.size (fun _ => none) := ⟨PySem.W.emptyDict, #[], _, e1, rfl, (fun e he => absurd he (by simp)), fun _ => rfl⟩
  have I1 := I.laid (a := s.heap.objs.size) (o := .own (s.heap.objs.size + 1)) (h' := s.heap.push PySem.W.emptyDict) (t' := s.toks) (fun b u q => Heap.get?_push_of_some _ q) (Nat.le_refl _) ⟨_, e1⟩
  refine I1.laid (a := s.heap.objs.size + 1) (o := .ins C s.heap.objs.size []) (t' := s.toks) (fun b u q => Heap.get?_push_of_some _ q) (Nat.le_of_eq (Heap.size_push _ _)) ?_
  have ne : s.heap.objs.size ≠ s.heap.objs.size + 1 := Nat.ne_of_lt (Nat.lt_succ_self _)
  refine ⟨by rw [upd_ne ne, upd_same], Nat.zero_le _, ne, e2, fun _ => none, (Heap.Ns1.of_empty e3).at fun o q => Heap.get?_push_of_some _ q, fun _ => True.intro, fun y hy => absurd rfl hy⟩
/-- e.f where nothing but the object is asked: through attributeBase (super) and the last hold -/
theorem attr_of {prog : Program} {w : World} {env : Env} {e : Expr} {f : Str} {pos : Pos} {s : Shared} {Q : Value → Shared → Prop} (hb : attributeBase e f env (eval e env) = eval e env)
    (h : wpAny (model prog w) A (eval e env) (fun o s₁ => wpAny (model prog w) A (getAttr o f true) Q E s₁) E s) : wpAny (model prog w) A (eval (.Attribute e f pos) env) Q E s :=
  Attribute_any_ h (by rw [arm_eval_Attribute, hb])
end
/-- e.f, an attribute of the instance -/
def tFld (K : PySem.W.Frag) (ta : TE) (f : Str) : TE := fun σ H Q => ta σ H fun x H1 => ∃ a C dx fs v, x = .ref a ∧ H1 a = some (.ins C dx fs) ∧ Cls K C ∧ NoAttr K C f ∧ fs.lookup f = some v ∧ Q v H1
/-- e.f = value -/
def sFld (K : PySem.W.Frag) (ta tv : TE) (f : Str) : TS := fun D σ H => tv σ H fun y H1 => ta σ H1 fun x H2 => ∃ a C dx fs, x = .ref a ∧ H2 a = some (.ins C dx fs) ∧ Cls K C ∧ NoAttr K C f ∧ fs.length < 1000 ∧
  D.nx σ (upd H2 a (.ins C dx (putF f y fs)))
/-- an augmented operator on two values -/
def InOp (X : Cx) (op : Operator) (rd : V → V → Hp → VK → Prop) : Prop :=
  ∀ (pins : List (Addr × Obj)) (s : Shared) (σ : St) (H : Hp) (x y : V) (u v : Value) (Q : VK), Inv X pins σ H s → RelV x u → RelV y v → rd x y H Q → wpAny (model X.prog X.w) X.A (inplaceOp op u v) (EP X pins σ Q) X.xe s
/-- e.f op= value -/
def sFldAug (K : PySem.W.Frag) (ta tv : TE) (rd : V → V → Hp → VK → Prop) (f : Str) : TS := fun D σ H => ta σ H fun x H1 => ∃ a C dx fs v, x = .ref a ∧ H1 a = some (.ins C dx fs) ∧ Cls K C ∧ NoAttr K C f ∧ fs.lookup f = some v ∧
  tv σ H1 fun y H2 => rd v y H2 fun z H3 => ∃ dx' fs', H3 a = some (.ins C dx' fs') ∧ fs'.length < 1000 ∧ D.nx σ (upd H3 a (.ins C dx' (putF f z fs')))
section
variable {X : Cx} {o e value : Expr} {f : Str} {pos pos' tpos : Pos} {ta tv : TE}
theorem pe_fld (he : PE X e ta) (hb : attributeBase e f X.env (eval e X.env) = eval e X.env) : PE X (.Attribute e f pos) (tFld X.K ta f) := by
  intro pins s σ H Q I h
  refine attr_of hb (thn (he pins s σ H _ I h) fun u s1 ⟨x, H1, I1, rx, a, C, dx, fs, v, ex, ea, c, n, l, q⟩ => ?_)
  subst ex
  obtain rfl : u = Value.ref a := rx
  exact getattr_ok I1 ea c n l fun u' s2 I2 ru => ⟨v, H1, I2, ru, q⟩
theorem ps_fld (ha : PE X o ta) (hv : PE X value tv) (hs : swapsWith value (some (.Attribute o f pos')) pos.line X.env = pure false) : PS X (.Assign [.Attribute o f pos'] value pos) (sFld X.K ta tv f) := by
  intro pins s σ H D I h
  refine plainObj_wpAny_Assign_Attribute (thn (hv pins s σ H _ I h) fun u s1 ⟨y, H1, I1, ry, q⟩ => thn (ha pins s1 σ H1 _ I1 q) fun ov s2 ⟨x, H2, I2, rx, a, C, dx, fs, ex, ea, c, n, l, q2⟩ => ?_) hs
  subst ex
  obtain rfl : ov = Value.ref a := rx
  exact setattr_ok I2 ea c n l ry fun s3 I3 => ⟨σ, _, I3, q2⟩
theorem ps_fldaug {op : Operator} {rd : V → V → Hp → VK → Prop} (ha : PE X o ta) (hv : PE X value tv) (hop : InOp X op rd) : PS X (.AugAssign (.Attribute o f tpos) op value pos) (sFldAug X.K ta tv rd f) := by
  intro pins s σ H D I h
  refine wpAny_AugAssign_AttributeAny (thn (ha pins s σ H _ I h) fun ov s1 ⟨x, H1, I1, rx, a, C, dx, fs, v, ex, ea, c, n, l, q⟩ => ?_)
  subst ex
  obtain rfl : ov = Value.ref a := rx
  refine getattr_ok I1 ea c n l fun u s2 I2 ru => thn (hv pins s2 σ H1 _ I2 q) fun w3 s3 ⟨y, H2, I3, ry, q3⟩ => thn (hop pins s3 σ H2 v y u w3 _ I3 ru ry q3) fun w4 s4 ⟨z, H3, I4, rz, dx', fs', ea', l', q4⟩ => ?_
  exact setattr_ok I4 ea' c n l' rz fun s5 I5 => ⟨σ, _, I5, q4⟩
def rAdd : V → V → Hp → VK → Prop := fun x y H Q => ∃ i j, x = .int i ∧ y = .int j ∧ Q (.int (i + j)) H
theorem in_add : InOp X .Add rAdd := by
  rintro pins s σ H x y u v Q I rx ry ⟨i, j, rfl, rfl, q⟩
  obtain ⟨t, rfl⟩ := (show ∃ t, u = Value.int i t from rx)
  obtain ⟨t', rfl⟩ := (show ∃ t', v = Value.int j t' from ry)
  exact PyProof.Rows.iadd_int ⟨.int (i + j), H, I.tok _, ⟨_, rfl⟩, q⟩
end
section
variable {X : Cx} {pins : List (Addr × Obj)} {σ : St} {H : Hp} {s : Shared} {A : Around} {E : Value → Shared → Prop} {Q : Value → Shared → Prop} {c : Value} {b : Bool}
end
end L2
namespace L2
open PySem PySem.Spec PyProof.Rows
structure Room (k : Nat) (A : Around) : Prop where
  hd : A.handled = none
  dp : A.depth + 3 * k + 5 < recursionLimit
  un : A.units + 16 * k + 200 < cLine
theorem Room.mono {j k : Nat} {A : Around} (r : Room k A) (h : j ≤ k) : Room j A := ⟨r.hd, by have := r.dp; omega, by have := r.un; omega⟩
theorem Room.deeper {k : Nat} {A : Around} (r : Room (k + 1) A) (env : Env) : Room k (A.deeper env) :=
  ⟨r.hd, by have := r.dp; show A.depth + 1 + 3 * k + 5 < _; omega, by have := r.un; show A.units + 3 + 16 * k + 200 < _; omega⟩
theorem make_depth {A : Around} {C : Addr} {us : List Value} {kw : List (Str × Value)} : (A.under (.builtin "type.__call__" ⟨.ref C :: us, kw⟩)).depth = A.depth + 1 := by
  first | rfl | simp [Around.under, Code.weight, Code.isCreation, Code.isGuard, Code.isCaller, Code.frames, Code.isFrame, guardIds]
theorem make_units {A : Around} {C : Addr} {us : List Value} {kw : List (Str × Value)} : (A.under (.builtin "type.__call__" ⟨.ref C :: us, kw⟩)).units = A.units + 1 := by
  first | rfl | simp [Around.under, Code.cUnits, Code.frames, Code.isFrame]
theorem Room.make {k : Nat} {A : Around} (r : Room (k + 1) A) (C : Addr) (us : List Value) (kw : List (Str × Value)) : Room k (A.under (.builtin "type.__call__" ⟨.ref C :: us, kw⟩)) :=
  ⟨r.hd, by have := r.dp; rw [make_depth]; omega, by have := r.un; rw [make_units]; omega⟩
theorem Room.depth {k : Nat} {A : Around} (r : Room k A) : A.depth < recursionLimit := by have := r.dp; omega
def tNil : TA := fun _ H Q => Q [] H
def tCons (ta : TE) (tr : TA) : TA := fun σ H Q => ta σ H fun x H1 => tr σ H1 fun xs H2 => Q (x :: xs) H2
section
variable {X : Cx} {e : Expr} {es : List Expr} {te : TE} {t : TA} {pos : Pos}
theorem pa_nil : PA X [] tNil := fun _ _ _ _ H Q I h => Calls.spliced_nil ⟨[], H, I, .nil, h⟩
theorem pa_cons (ha : PE X e te) (hr : PA X es t) (hs : starEach (e :: es) X.env = (false, eval e X.env) :: starEach es X.env := by rfl) : PA X (e :: es) (tCons te t) := by
  intro pos pins s σ H Q I h
  rw [hs]
  show wpAny _ _ (spliced ((false, eval e X.env) :: backTo pos (starEach es X.env))) _ _ s
  refine Calls.spliced_cons (thn (ha pins s σ H _ I h) fun u s1 ⟨x, H1, I1, r1, q1⟩ => ?_)
  exact thn (hr pos pins s1 σ H1 _ I1 q1) fun us s2 ⟨xs, H2, I2, r2, q2⟩ => ⟨x :: xs, H2, I2, .cons r1 r2, q2⟩
/-- a tuple, a list of written items -/
def tTup (t : TA) : TE := fun σ H Q => t σ H fun xs H1 => xs.length ≤ sizeLine ∧ ∀ p, H1 p = none → Q (.ref p) (upd H1 p (.tup xs))
def tLst (t : TA) : TE := fun σ H Q => t σ H fun xs H1 => xs.length ≤ sizeLine ∧ ∀ p, H1 p = none → Q (.ref p) (upd H1 p (.lst xs))
theorem pe_tup {x1} (h : PA X es t) : PE X (.Tuple es x1 pos) (tTup t) := by
  intro pins s σ H Q I hq
  refine wpAny_Tuple_spliced (thn (h pos pins s σ H _ I hq) fun us s1 ⟨xs, H1, I1, r, z, q⟩ => ⟨by rw [← r.length]; exact z, ?_⟩)
  have hf : H1 s1.heap.objs.size = none := I1.hok.fresh (Nat.le_refl _)
  refine ⟨.ref s1.heap.objs.size, upd H1 s1.heap.objs.size (.tup xs), I1.laid (t' := s1.toks) (fun b u e => Heap.get?_push_of_some _ e) (Nat.le_refl _) ?_, rfl, q _ hf⟩
  exact ⟨z, us, r, ⟨_, Heap.get?_push_size _ rfl, rfl, _, rfl⟩⟩
theorem pe_lst (h : PA X es t) : PE X (.List es pos) (tLst t) := by
  intro pins s σ H Q I hq
  refine wpAny_List_spliced (thn (h pos pins s σ H _ I hq) fun us s1 ⟨xs, H1, I1, r, z, q⟩ => ⟨by rw [← r.length]; exact z, ?_⟩)
  have hf : H1 s1.heap.objs.size = none := I1.hok.fresh (Nat.le_refl _)
  refine ⟨.ref s1.heap.objs.size, upd H1 s1.heap.objs.size (.lst xs), I1.laid (t' := s1.toks) (fun b u e => Heap.get?_push_of_some _ e) (Nat.le_refl _) ?_, rfl, q _ hf⟩
  exact ⟨z, us, 0, r, Heap.get?_push_size _ rfl⟩
end
/-- a def's promise: the bound arguments in the parameters' order, the heap, the wanted end, the wanted exception -/
abbrev Sp := List V → Hp → VK → XK → Prop
/-- how an exception lies behind a call (file 08 gives it): the callers' frames, abstract heap and state ahead of the call, the wish, the exception, the state -/
abbrev CXT := List Env → Hp → Shared → XK → Value → Shared → Prop
/-- the state at a call -/
structure Env0 (P : Program) (w : World) (K : PySem.W.Frag) (mg : Str → Option Value) (base : Heap) (A : Around) (outer : List Env) (s : Shared) (H : Hp) : Prop where
  frames : A.frames = some outer
  mod : Mod K mg base
  bs : ∀ b o, base.get? b = some o → s.heap.get? b = some o ∧ H b = none
  bsz : base.objs.size ≤ s.heap.objs.size
  funs : s.heap.FunFrames base outer
  frf : ∀ b ∈ frs outer, H b = none
  hok : HOk P w H s.heap
  bare : AllBare s.gens
/-- a call's end -/
def CE (outer : List Env) (P : Program) (w : World) (H : Hp) (s : Shared) (Q : VK) (u : Value) (s' : Shared) : Prop :=
  ∃ v H', s'.os = s.os ∧ AllBare s'.gens ∧ Un (frs outer) [] H H' s.heap s'.heap ∧ HOk P w H' s'.heap ∧ RelV v u ∧ Q v H'
def CR (CX : CXT) (outer : List Env) (P : Program) (w : World) (H : Hp) (s : Shared) (Q : VK) (E : XK) (r : Result) (s' : Shared) : Prop :=
  match r with
  | .ok (.ret u) => CE outer P w H s Q u s'
  | .ok _ => False
  | .error e => CX outer H s E e s'
structure FnOk (P : Program) (w : World) (K : PySem.W.Frag) (mg : Str → Option Value) (base : Heap) (CX : CXT) (k : Nat) (f : Addr) (fd : FuncData) (ps : List Str) (sp : Sp) : Prop where
  len : ∀ vs H Q E, sp vs H Q E → vs.length = ps.length
  run : ∀ (A : Around) (outer : List Env) (s : Shared) (H : Hp) (args : Args) (us : List Value) (vs : List V) (Q : VK) (E : XK), Room k A → Env0 P w K mg base A outer s H → BindsTo s fd args (ps.zip us) → Vals vs us → sp vs H Q E →
    codeAny (model P w) A (.call (.ref f) args) (CR CX outer P w H s Q E) s
theorem Env0.make {P : Program} {w : World} {K : PySem.W.Frag} {mg : Str → Option Value} {base : Heap} {A : Around} {outer : List Env} {s : Shared} {H : Hp} (e : Env0 P w K mg base A outer s H) (C : Addr) (us : List Value) (kw : List (Str × Value)) :
    Env0 P w K mg base (A.under (.builtin "type.__call__" ⟨.ref C :: us, kw⟩)) outer s H := ⟨by first | exact e.frames | (simpa [Around.under, Code.envs, Code.isFrame, pushEnvs] using e.frames), e.mod, e.bs, e.bsz, e.funs, e.frf, e.hok, e.bare⟩
section
variable {X : Cx} {pins : List (Addr × Obj)} {σ : St} {H : Hp} {s s' : Shared}
/-- from a body: what a callee wants -/
theorem Inv.env0 (I : Inv X pins σ H s) : Env0 X.prog X.w X.K X.mg X.base X.A X.stack s H :=
  ⟨I.ok.frames, I.ok.mod, I.bs, Nat.le_trans I.ok.bsz I.sz, I.stack, I.stkFree, I.hok, I.bare⟩
/-- behind a call -/
theorem Inv.after {Q : VK} {u : Value} (I : Inv X pins σ H s) (h : CE X.stack X.prog X.w H s Q u s') : EP X pins σ Q u s' := by
  obtain ⟨v, H', os, bare, un, hok, r, q⟩ := h
  obtain ⟨hh, g, d, t, os'⟩ := s'
  obtain rfl : os' = s.os := os
  exact ⟨v, H', I.call (h' := hh) (g' := g) (d' := d) (t' := t) (ch := []) un hok bare (fun b z => absurd z (by simp)), r, q⟩
end
/-- f(..): the written arguments, then the defaults dvs; E: what is wanted of an exception -/
def tCall (sp : Sp) (dvs : List V) (E : XK) (t : TA) : TE := fun σ H Q => t σ H fun vs H1 => sp (vs ++ dvs) H1 Q E
/-- o.m(..) of an instance of the class at C -/
def tMeth (C : Addr) (m : Str) (sp : Sp) (dvs : List V) (E : XK) (ta : TE) (t : TA) : TE := fun σ H Q => ta σ H fun x H1 => ∃ a dx fs, x = .ref a ∧ H1 a = some (.ins C dx fs) ∧ fs.lookup m = none ∧
  t σ H1 fun vs H2 => sp (x :: (vs ++ dvs)) H2 Q E
/-- C(..): a new instance and its dict, then __init__ -/
def tMake (C : Addr) (sp : Sp) (dvs : List V) (E : XK) (t : TA) : TE := fun σ H Q => t σ H fun vs H1 => ∀ x dx, H1 x = none → H1 dx = none → dx ≠ x →
  sp (.ref x :: (vs ++ dvs)) (upd (upd H1 dx (.own x)) x (.ins C dx [])) (fun v H2 => v = .non ∧ Q (.ref x) H2) E
/-- how the parameters are bound: us the positional arguments, kw the keywords' values by name, ds the defaults that fill up -/
def Binds (K : PySem.W.Frag) (fd : FuncData) (ps : List Str) (ds : List Value) : Prop :=
  ∀ (s : Shared) (us : List Value), K.In s.heap → (us ++ ds).length = ps.length → BindsTo s fd ⟨us, []⟩ (ps.zip (us ++ ds))
/-- every parameter is given -/
theorem Binds.all {K : PySem.W.Frag} {fd : FuncData} {ps : List Str} (h : ∀ us : List Value, us.length = ps.length → bindArgs fd ⟨us, []⟩ = pure (ps.zip us)) : Binds K fd ps [] := fun s us _ hl => by
  rw [List.append_nil] at hl ⊢
  exact .of_eq (h us hl)
/-- an exception of a callee reaches what this body wants of exceptions -/
def Passes (CX : CXT) (X : Cx) (E : XK) : Prop := ∀ (pins : List (Addr × Obj)) (σ : St) (H : Hp) (s : Shared) (e : Value) (s' : Shared), Inv X pins σ H s → CX X.stack H s E e s' → X.xe e s'
section
variable {X : Cx} {CX : CXT} {k : Nat} {f C : Addr} {fd : FuncData} {ps : List Str} {sp : Sp} {dvs : List V} {ds : List Value} {E : XK} {x m : Str} {p pos apos : Pos} {e o : Expr} {es : List Expr} {ta : TE} {t : TA}
/-- the callee runs -/
theorem run_fn {pins : List (Addr × Obj)} {σ : St} {H : Hp} {s : Shared} {Q : VK} {us : List Value} {vs : List V} (F : FnOk X.prog X.w X.K X.mg X.base CX k f fd ps sp) (hr : Room k X.A) (hb : Binds X.K fd ps ds) (hd : Vals dvs ds) (hx : Passes CX X E)
    (I : Inv X pins σ H s) (r : Vals vs us) (h : sp (vs ++ dvs) H Q E) : wpAny (model X.prog X.w) X.A (call (.ref f) us) (EP X pins σ Q) X.xe s := by
  have r2 : Vals (vs ++ dvs) (us ++ ds) := r.append hd
  have hl : (us ++ ds).length = ps.length := by rw [← r2.length]; exact F.len _ _ _ _ h
  refine wpAny_call (codeAny_mono (F.run X.A X.stack s H ⟨us, []⟩ (us ++ ds) (vs ++ dvs) Q E hr I.env0 (hb s us I.kIn hl) r2 h) fun r s' hq => ?_)
  cases r with
  | error e => exact hx pins σ H s e s' I hq
  | ok fl =>
    cases fl with
    | ret u => exact I.after hq
    | next => exact False.elim hq
    | brk => exact False.elim hq
    | cont => exact False.elim hq
theorem pe_call (F : FnOk X.prog X.w X.K X.mg X.base CX k f fd ps sp) (hr : Room k X.A) (hg : Gl X x) (hm : X.mg x = some (.ref f)) (hk : PySem.W.keepIn X.K (.ref f) = true) (hb : Binds X.K fd ps ds) (hd : Vals dvs ds) (hx : Passes CX X E)
    (ha : PA X (e :: es) t) (hdb : (x == ("__debug__" : Str)) = false := by decide) (he : starEach (e :: es) X.env = (false, eval e X.env) :: starEach es X.env := by rfl) (hpl : (backTo pos (starEach es X.env)).any (·.1) = false := by rfl) :
    PE X (.Call (.Name x p) (e :: es) [] pos) (tCall sp dvs E t) := by
  intro pins s σ H Q I h
  refine wpAny_Call_Name_kw (ld_glob I hg hm ?_ hdb)
  refine PySem.W.callWith_K (h₀ := X.base) I.ok.mod.kin hk (thn (ha pos pins s σ H _ I h) fun us s1 ⟨vs, H1, I1, r, q⟩ => ⟨I1.kIn, ?_⟩) he hpl
  exact run_fn F hr hb hd hx I1 r q
/-- o.m(e, ..) -/
theorem pe_meth {pl : Sem Bool} (he : PE X o ta) (c : Cls X.K C) (hm : Meth X.K C m f) (F : FnOk X.prog X.w X.K X.mg X.base CX k f fd ps sp) (hr : Room k X.A) (hb : Binds X.K fd ps ds) (hd : Vals dvs ds) (hx : Passes CX X E) (ha : PA X (e :: es) t)
    (hst : starEach (e :: es) X.env = (false, eval e X.env) :: starEach es X.env := by rfl) (hpl : (backTo pos (starEach es X.env)).any (·.1) = false := by rfl)
    (ht : eval (.Call (.Attribute o m apos) (e :: es) [] pos) X.env = (do
      let ov ← eval o X.env
      standAt apos.atName
      let (f, first) ← holding [ov] (getMethod ov m pl)
      callWith pos f first (backTo pos (starEach (e :: es) X.env)) (backToKw pos (keywordEach [] X.env))) := by rfl) :
    PE X (.Call (.Attribute o m apos) (e :: es) [] pos) (tMeth C m sp dvs E ta t) := by
  intro pins s σ H Q I h
  refine PySem.W.methodCall_KW (pl := pl) (thn (he pins s σ H _ I h) fun u s1 ⟨x, H1, I1, rx, a, dx, fs, ex, ea, l, q⟩ => ?_) ht
  subst ex
  obtain rfl : u = Value.ref a := rx
  refine getmeth_ok I1 ea c hm l ?_
  refine PySem.W.callWith_K (first := [.ref a]) (h₀ := X.base) I.ok.mod.kin hm.kp (thn (ha pos pins s1 σ H1 _ I1 q) fun us s2 ⟨vs, H2, I2, r, q2⟩ => ⟨I2.kIn, ?_⟩) hst hpl
  exact run_fn (us := .ref a :: us) (vs := .ref a :: vs) F hr hb hd hx I2 (.cons rfl r) q2
/-- o.m() -/
theorem pe_meth0 {pl : Sem Bool} (he : PE X o ta) (c : Cls X.K C) (hm : Meth X.K C m f) (F : FnOk X.prog X.w X.K X.mg X.base CX k f fd ps sp) (hr : Room k X.A) (hb : Binds X.K fd ps ds) (hd : Vals dvs ds) (hx : Passes CX X E)
    (ht : eval (.Call (.Attribute o m apos) [] [] pos) X.env = (do
      let ov ← eval o X.env
      standAt apos.atName
      let (f, first) ← holding [ov] (getMethod ov m pl)
      callWith pos f first (backTo pos (starEach [] X.env)) (backToKw pos (keywordEach [] X.env))) := by rfl) :
    PE X (.Call (.Attribute o m apos) [] [] pos) (tMeth C m sp dvs E ta tNil) := by
  intro pins s σ H Q I h
  refine PySem.W.methodCall_KW (pl := pl) (thn (he pins s σ H _ I h) fun u s1 ⟨x, H1, I1, rx, a, dx, fs, ex, ea, l, q⟩ => ?_) ht
  subst ex
  obtain rfl : u = Value.ref a := rx
  refine getmeth_ok I1 ea c hm l ?_
  exact PySem.W.callWith_K0 (first := [.ref a]) I1.kIn hm.kp (run_fn (us := [.ref a]) (vs := [.ref a]) F hr hb hd hx I1 (.cons rfl .nil) q)
/-- what a class must have to be made -/
structure Mk (K : PySem.W.Frag) (C f : Addr) : Prop where
  makes : PySem.W.makesIn K C = true
  init : PySem.W.findIn K (.ref C) "__init__" = some (some (.ref f))
  fn : PySem.W.isFn K (.ref f) = true
  kp : PySem.W.keepIn K (.ref C) = true
theorem run_make {pins : List (Addr × Obj)} {σ : St} {H : Hp} {s : Shared} {Q : VK} {us : List Value} {vs : List V} (M : Mk X.K C f) (F : FnOk X.prog X.w X.K X.mg X.base CX k f fd ps sp) (hr : Room (k + 1) X.A) (hb : Binds X.K fd ps ds) (hd : Vals dvs ds)
    (hx : Passes CX X E) (I : Inv X pins σ H s) (r : Vals vs us)
    (h : ∀ x dx, H x = none → H dx = none → dx ≠ x → sp (.ref x :: (vs ++ dvs)) (upd (upd H dx (.own x)) x (.ins C dx [])) (fun v H2 => v = .non ∧ Q (.ref x) H2) E) :
    wpAny (model X.prog X.w) X.A (call (.ref C) us) (EP X pins σ Q) X.xe s := by
  have hq := h (s.heap.objs.size + 1) s.heap.objs.size (I.hok.fresh (Nat.le_succ _)) (I.hok.fresh (Nat.le_refl _)) (Nat.ne_of_lt (Nat.lt_succ_self _))
  have I2 := Inv.made (C := C) I
  have r2 : Vals (V.ref (s.heap.objs.size + 1) :: (vs ++ dvs)) (Value.ref (s.heap.objs.size + 1) :: (us ++ ds)) := .cons rfl (r.append hd)
  have hl : (Value.ref (s.heap.objs.size + 1) :: us ++ ds).length = ps.length := by
    have e := r2.length
    rw [F.len _ _ _ _ hq] at e
    exact e.symm
  refine wpAny_call (make_map (f := f) I.kIn M.makes M.init (beq_iff_eq.mp M.fn) (codeAny_mono (F.run _ X.stack _ _ ⟨Value.ref (s.heap.objs.size + 1) :: us, []⟩ (Value.ref (s.heap.objs.size + 1) :: (us ++ ds)) _ _ E (hr.make C us [])
    (I2.env0.make C us []) (hb _ (Value.ref (s.heap.objs.size + 1) :: us) I2.kIn hl) r2 hq) fun r s' hq' => ?_))
  cases r with
  | error e => exact hx pins σ _ _ e s' I2 hq'
  | ok fl =>
    cases fl with
    | ret u =>
      obtain ⟨v, H', I3, rv, ev, q3⟩ := I2.after hq'
      subst ev
      exact ⟨rv, ⟨V.ref (s.heap.objs.size + 1), H', I3, rfl, q3⟩⟩
    | next => exact False.elim hq'
    | brk => exact False.elim hq'
    | cont => exact False.elim hq'
theorem pe_make (M : Mk X.K C f) (F : FnOk X.prog X.w X.K X.mg X.base CX k f fd ps sp) (hr : Room (k + 1) X.A) (hg : Gl X x) (hm : X.mg x = some (.ref C)) (hb : Binds X.K fd ps ds) (hd : Vals dvs ds) (hx : Passes CX X E)
    (ha : PA X (e :: es) t) (hdb : (x == ("__debug__" : Str)) = false := by decide) (he : starEach (e :: es) X.env = (false, eval e X.env) :: starEach es X.env := by rfl) (hpl : (backTo pos (starEach es X.env)).any (·.1) = false := by rfl) :
    PE X (.Call (.Name x p) (e :: es) [] pos) (tMake C sp dvs E t) := by
  intro pins s σ H Q I h
  refine wpAny_Call_Name_kw (ld_glob I hg hm ?_ hdb)
  refine PySem.W.callWith_K (h₀ := X.base) I.ok.mod.kin M.kp (thn (ha pos pins s σ H _ I h) fun us s1 ⟨vs, H1, I1, r, q⟩ => ⟨I1.kIn, ?_⟩) he hpl
  exact run_make M F hr hb hd hx I1 r q
end
section
variable {X : Cx} {CX : CXT} {k : Nat} {f C : Addr} {fd : FuncData} {ps ks : List Str} {sp : Sp} {E : XK} {x m : Str} {p pos apos kpos : Pos} {e o : Expr} {es : List Expr} {kws : List Keyword} {te ta : TE} {t tk : TA} {nm : Option Str}
variable {g : List Value → List Value → List Value} {gV : List V → List V → List V}
end
/-- names: the parameters first -/
structure FnScope (N P : List Str) (sc : Scope) : Prop where
  kind : sc.kind = .function
  co : sc.isCoroutine = false
  gen : sc.isGenerator = false
  nd : N.Nodup
  pre : N.take P.length = P
  par : ∀ x ∈ P, sc.names.lookup x = some .local ∨ sc.names.lookup x = some .cell
  nofree : ∀ y ∈ sc.names, y.2 ≠ .free
theorem bindL_out {kindOf : Str → Option NameKind} {x : Str} : ∀ {binds : List (Str × Value)} {m : Str → Option Value}, (∀ v, (x, v) ∉ binds) → bindL kindOf binds m x = m x
  | [], _, _ => rfl
  | (n, v) :: r, m, h => by
    unfold bindL
    rw [bindL_out fun w hw => h w (List.mem_cons_of_mem _ hw)]
    split
    · have : x ≠ n := by rintro rfl; exact h v List.mem_cons_self
      simp [this]
    · rfl
theorem bindC_out {kindOf : Str → Option NameKind} {x : Str} : ∀ {binds : List (Str × Value)} {m : Str → Option Value}, (∀ v, (x, v) ∉ binds) → bindC kindOf binds m x = m x
  | [], _, _ => rfl
  | (n, v) :: r, m, h => by
    unfold bindC
    rw [bindC_out fun w hw => h w (List.mem_cons_of_mem _ hw)]
    split
    · rfl
    · have : x ≠ n := by rintro rfl; exact h v List.mem_cons_self
      simp [this]
theorem bindL_get {kindOf : Str → Option NameKind} {x : Str} {v : Value} : ∀ {P : List Str} {vs : List Value} {i : Nat} {m : Str → Option Value}, P.Nodup → P[i]? = some x → vs[i]? = some v → kindOf x = some .local →
    bindL kindOf (P.zip vs) m x = some v
  | [], _, _, _, _, h, _, _ => by simp at h
  | _ :: _, [], _, _, _, _, h, _ => by simp at h
  | p :: P, w :: vs, 0, m, nd, h1, h2, hk => by
    simp at h1 h2; subst h1; subst h2
    show bindL kindOf ((p, w) :: P.zip vs) m p = _
    unfold bindL
    rw [bindL_out fun v hv => (List.nodup_cons.mp nd).1 (List.of_mem_zip hv).1, if_pos hk]
    simp
  | p :: P, w :: vs, i + 1, m, nd, h1, h2, hk => by
    show bindL kindOf ((p, w) :: P.zip vs) m x = _
    unfold bindL
    exact bindL_get (i := i) (List.nodup_cons.mp nd).2 (by simpa using h1) (by simpa using h2) hk
theorem bindC_get {kindOf : Str → Option NameKind} {x : Str} {v : Value} : ∀ {P : List Str} {vs : List Value} {i : Nat} {m : Str → Option Value}, P.Nodup → P[i]? = some x → vs[i]? = some v → kindOf x ≠ some .local →
    bindC kindOf (P.zip vs) m x = some v
  | [], _, _, _, _, h, _, _ => by simp at h
  | _ :: _, [], _, _, _, _, h, _ => by simp at h
  | p :: P, w :: vs, 0, m, nd, h1, h2, hk => by
    simp at h1 h2; subst h1; subst h2
    show bindC kindOf ((p, w) :: P.zip vs) m p = _
    unfold bindC
    rw [bindC_out fun v hv => (List.nodup_cons.mp nd).1 (List.of_mem_zip hv).1, if_neg hk]
    simp
  | p :: P, w :: vs, i + 1, m, nd, h1, h2, hk => by
    show bindC kindOf ((p, w) :: P.zip vs) m x = _
    unfold bindC
    exact bindC_get (i := i) (List.nodup_cons.mp nd).2 (by simpa using h1) (by simpa using h2) hk
/-- the names' values at the entry -/
def start (N : List Str) (vs : List V) : St := vs.map some ++ List.replicate (N.length - vs.length) none
/-- the context of a def's body, at its entry; an exception leaves the frame, then lies as CX says -/
def cxOf (CX : CXT) (P : Program) (w : World) (K : PySem.W.Frag) (mg : Str → Option Value) (base : Heap) (N : List Str) (qual : Str) (scope : Scope) (f : Addr) (cd : Value) (A : Around) (outer : List Env) (s : Shared) (H : Hp) (E : XK) : Cx where
  prog := P
  w := w
  K := K
  mg := mg
  base := base
  A := A.deeper (envOfC qual scope s.heap.objs.size f cd)
  N := N
  s_0 := s
  H_0 := H
  env := envOfC qual scope s.heap.objs.size f cd
  outer := outer
  stack := envOfC qual scope s.heap.objs.size f cd :: outer
  ex := []
  calm := true
  fn := fun _ => true
  pn := []
  xe := fun e s' => wpAny (model P w) (A.deeper (envOfC qual scope s.heap.objs.size f cd)) (leaving (envOfC qual scope s.heap.objs.size f cd) e) (fun _ s'' => CX outer H s E e s'') (fun e' s'' => CX outer H s E e' s'') s'
theorem cell_has {sc : Scope} {n : Nat} {x : Str} (h : sc.names.lookup x = some .cell) : ∃ c, (cellsFrom n sc.names []).lookup x = some c := by
  have q := PySem.W.cellsFrom_some sc.names n [] (.inl h)
  exact Option.isSome_iff_exists.mp q
theorem inv_start {CX : CXT} {P : Program} {w : World} {K : PySem.W.Frag} {mg : Str → Option Value} {base : Heap} {N ps : List Str} {qual : Str} {scope : Scope} {f : Addr} {cd : Value} {A : Around} {outer : List Env} {s s1 : Shared} {H : Hp} {E : XK} {us : List Value} {vs : List V}
    (S : FnScope N ps scope) (hd : A.handled = none) (e0 : Env0 P w K mg base A outer s H) (hl : vs.length = ps.length) (r : Vals vs us)
    (x : InCallC s s.heap.objs.size (bindL (envOfC qual scope s.heap.objs.size f cd).kindOf (ps.zip us) fun _ => none) (cellsFrom (s.heap.objs.size + 1) scope.names []) (bindC (envOfC qual scope s.heap.objs.size f cd).kindOf (ps.zip us) fun _ => none) s1) :
    Inv (cxOf CX P w K mg base N qual scope f cd A outer s H E) [] (start N vs) H s1 := by
  have hpl : ps.length ≤ N.length := by have := congrArg List.length S.pre; rw [List.length_take] at this; omega
  obtain ⟨h1, tk, rfl, hk⟩ := x.done
  have noA : ∀ b : Addr, b ∉ (cxOf CX P w K mg base N qual scope f cd A outer s H E).ex := fun b z => absurd (show b ∈ ([] : List Addr) from z) (by simp)
  refine ⟨⟨e0.mod, S.kind, rfl, rfl, Nat.le_refl _, fun y z c h1 h2 => ?_, fun y hy => ?_, fun y c _ h => ?_, fun _ => hd, Around.frames_deeper e0.frames, .inr ⟨rfl, rfl⟩, fun b z => absurd z (noA b), e0.bs, e0.bsz, fun b _ _ => noA b, fun b z => absurd z (noA b), e0.funs, e0.frf⟩,
    rfl, e0.bare, Un.kept hk, ⟨_, x.toInCall.ns, fun i y v h1 h2 h3 => ?_⟩, fun y c h => ⟨_, x.cell y c h⟩, e0.hok.fresh (Nat.le_refl _), fun y c h => ?_, fun p hp => absurd (show p ∈ ([] : List (Addr × Obj)) from hp) (by simp), e0.hok.kept hk, ?_⟩
  · exact name_of_addr x.apart (PySem.mem_of_lookup h1) (PySem.mem_of_lookup h2)
  · have hy : scope.names.lookup y = some .cell ∨ scope.names.lookup y = some .free := hy
    rcases hy with hy | hy
    · exact cell_has hy
    · exact absurd rfl (S.nofree _ (PySem.mem_of_lookup hy))
  · exact Nat.le_of_lt (x.above y c (PySem.mem_of_lookup h))
  · have hi : i < vs.length := by
      unfold start at h2
      by_cases hi : i < vs.length
      · exact hi
      · rw [List.getElem?_append_right (by simpa using hi)] at h2
        rw [List.getElem?_replicate] at h2
        split at h2 <;> cases h2
    have ha : vs[i]? = some v := by
      unfold start at h2
      rw [List.getElem?_append_left (by simpa using hi), List.getElem?_map] at h2
      cases e : vs[i]? with
      | none => rw [e] at h2; cases h2
      | some a => rw [e] at h2; cases h2; rfl
    obtain ⟨u, hu, rv⟩ := r.get ha
    have hp : ps[i]? = some y := by
      rw [← S.pre, List.getElem?_take_of_lt (by omega)]; exact h1
    have ndP : ps.Nodup := by rw [← S.pre]; exact S.nd.sublist (List.take_sublist _ _)
    refine ⟨u, rv, ?_⟩
    rcases S.par y (List.mem_of_getElem? hp) with k | k
    · exact .inl ⟨k, bindL_get ndP hp hu k⟩
    · obtain ⟨c, e⟩ := cell_has (n := s.heap.objs.size + 1) k
      refine .inr ⟨.inl k, c, e, ?_⟩
      have q := x.cell y c e
      rw [bindC_get ndP hp hu (by show scope.names.lookup y ≠ _; rw [k]; decide)] at q
      exact q
  · exact e0.hok.fresh (Nat.le_of_lt (x.above y c (PySem.mem_of_lookup h)))
  · unfold start
    show _ = N.length
    rw [List.length_append, List.length_map, List.length_replicate]
    omega
/-- THE RULE: a def (or a method) of the text, by its body. The body's reading t is chosen for each entry; it is run at the parameters' values -/
theorem fn_of {CX : CXT} {P : Program} {w : World} {K : PySem.W.Frag} {mg : Str → Option Value} {base : Heap} {k : Nat} {f : Addr} {name qual : Str} {params : Arguments} {body : List Stmt} {scope : Scope} {dV kV doc pm cdv ct oc : Value} {an od : Option Addr}
    {osl : Array (Option Value)} {N ps : List Str} {sp : Sp} (lk : K.lookup f = some ⟨oc, od, .func (PySem.W.fnOf name qual params body scope dV kV doc pm an cdv ct), osl⟩) (hcd : PySem.W.codeIn K cdv qual = true) (S : FnScope N ps scope)
    (len : ∀ vs H Q E, sp vs H Q E → vs.length = ps.length)
    (hbody : ∀ (A : Around) (outer : List Env) (s : Shared) (H : Hp) (vs : List V) (Q : VK) (E : XK), Room k (A.deeper (envOfC qual scope s.heap.objs.size f cdv)) → sp vs H Q E →
      ∃ t, PSs (cxOf CX P w K mg base N qual scope f cdv A outer s H E) body t ∧ t { nx := fun _ H' => Q .non H', rt := Q } (start N vs) H) :
    FnOk P w K mg base CX (k + 1) f (PySem.W.fnOf name qual params body scope dV kV doc pm an cdv ct) ps sp := by
  refine ⟨len, fun A outer s H args us vs Q E hr e0 hb r hsp => ?_⟩
  have hl := len _ _ _ _ hsp
  have KX : K.In s.heap := e0.mod.kin.keeps fun b o e => (e0.bs b o e).1
  have lim : s.heap.NoLimit := e0.mod.nolimit.keeps fun b o e => (e0.bs b o e).1
  have hkind : ∀ y ∈ ps.zip us, scope.names.lookup y.1 = some .local ∨ (scope.names.lookup y.1 = some .cell ∧ ((cellsFrom (s.heap.objs.size + 1) scope.names []).lookup y.1).isSome = true) := fun ⟨n, v⟩ hy => by
    rcases S.par n (List.of_mem_zip hy).1 with q | q
    · exact .inl q
    · exact .inr ⟨q, PySem.W.cellsFrom_some _ _ _ (.inl q)⟩
  refine codeAny_call_function hr.depth (KX _ _ lk) rfl S.co S.gen rfl (PySem.W.codeRec_of KX hcd) (hb _ _ _ _ ?_)
  refine wpAny_newFunctionEnv_cells S.kind hkind fun env he s1 x => ?_
  subst he
  refine ⟨lim.keeps x.toInCall.keep, codeAny_func ?_⟩
  obtain ⟨t, ht, hq⟩ := hbody A outer s H vs Q E (hr.deeper _) hsp
  have I : Inv (cxOf CX P w K mg base N qual scope f cdv A outer s H E) [] (start N vs) H s1 := inv_start S hr.hd e0 hl r x
  refine wpAny_mono (ht [] s1 (start N vs) H _ I hq) (fun fl s' hs => ?_) fun e s' hs => hs
  have fin : ∀ {σ' : St} {H' : Hp} {v : V} {u : Value}, Inv (cxOf CX P w K mg base N qual scope f cdv A outer s H E) [] σ' H' s' → RelV v u → Q v H' → CE outer P w H s Q u s' :=
    fun {σ' H' v u} J rv q => ⟨v, H', J.os, J.bare, J.base, J.hok, rv, q⟩
  cases fl with
  | ret u =>
    obtain ⟨v, σ', H', J, rv, q⟩ := hs
    exact fin J rv q
  | next =>
    obtain ⟨σ', H', J, q⟩ := hs
    exact fin (v := V.non) (u := Value.none) J rfl q
  | brk =>
    obtain ⟨_, _, _, q⟩ := hs
    exact False.elim q
  | cont =>
    obtain ⟨_, _, _, q⟩ := hs
    exact False.elim q
end L2
namespace L2
open PySem PySem.Spec PyProof.Rows
section
variable {X : Cx} {x : Str} {p pos : Pos} {e : Expr} {es : List Expr} {t : TA} {id T : String} {r : List V → Hp → VK → Prop}
def tCB (r : List V → Hp → VK → Prop) (t : TA) : TE := fun σ H Q => t σ H fun vs H1 => r vs H1 Q
/-- f(e, ..), f a built-in function -/
theorem pe_callB (hc : CallR X (.builtin id) r) (hg : Gl X x) (hm : X.mg x = none) (hv : bootBuiltins x = some (.builtin id)) (ha : PA X (e :: es) t) (hn : x ≠ "__name__" := by decide) (hdb : (x == ("__debug__" : Str)) = false := by decide)
    (he : starEach (e :: es) X.env = (false, eval e X.env) :: starEach es X.env := by rfl) (hpl : (backTo pos (starEach es X.env)).any (·.1) = false := by rfl) : PE X (.Call (.Name x p) (e :: es) [] pos) (tCB r t) := by
  intro pins s σ H Q I h
  refine wpAny_Call_Name_kw (ld_blt I hg hm hv ?_ hn hdb)
  exact PyProof.Rows.callWith_builtin1 (thn (ha pos pins s σ H _ I h) fun us s1 ⟨vs, H1, I1, r1, q1⟩ => hc pins s1 σ H1 vs us Q I1 r1 q1) he hpl
end
end L2
namespace HT
open PySem PyProof.Rows
section
open PySem.SeqAt
open PySem.AutoSeq1 (wpAny_loadPart')
open PySem.MeetsSeq PySem.MeetsSeq2 PySem.MeetsSeq3
end
section
variable {prog : Program} {w : World} {A : Around} {E : Value → Shared → Prop} {s : Shared}
/-- t + u, t not empty -/
theorem cat_tup {t b : Addr} {vs ws : List Value} {Q : Value → Shared → Prop} (ht : IsTup s.heap t vs.toArray) (hb : IsTup s.heap b ws.toArray) (hv : vs ≠ [])
    (h1 : ws = [] → Q (.ref t) s) (h2 : ws ≠ [] → Q (.ref s.heap.objs.size) { s with heap := s.heap.push { cls := .type "tuple", data := .seq (vs ++ ws).toArray } })
    (hsz : vs.length + ws.length ≤ sizeLine) : wpAny (model prog w) A (binaryOp .Add (.ref t) (.ref b)) Q E s := by
  obtain ⟨⟨cls, dd, data, sl⟩, ho, hc, n, hd⟩ := id ht
  obtain ⟨⟨cls2, dd2, data2, sl2⟩, ho2, hc2, n2, hd2⟩ := id hb
  simp only at hc hd hc2 hd2
  subst hc hd hc2 hd2
  have e : vs.toArray ++ ws.toArray = (vs ++ ws).toArray := by simp
  by_cases hw : ws = []
  · exact concat_meets ⟨_, ho, rfl⟩ ⟨_, ho2, rfl⟩ noFill_tuple_add seq_tuple_add PySem.F.slot_tuple_add PySem.F.entry_tuple_add (PySem.F.args_tuple_add_2 _ _)
      (tuple_addW1 t b vs.toArray ws.toArray n n2 dd dd2 sl sl2 (by simpa using hv) (by simp [hw])) ⟨ho, ho2, h1 hw⟩
  · refine concat_meets ⟨_, ho, rfl⟩ ⟨_, ho2, rfl⟩ noFill_tuple_add seq_tuple_add PySem.F.slot_tuple_add PySem.F.entry_tuple_add (PySem.F.args_tuple_add_2 _ _)
      (tuple_addW2 t b vs.toArray ws.toArray n n2 dd dd2 sl sl2 (by simpa using hv) (by simpa using hw) (by rw [List.size_toArray, List.size_toArray]; exact hsz)) ⟨ho, ho2, ?_⟩
    rw [e]
    exact h2 hw
end
end HT
namespace L2
open PySem PySem.Spec PyProof.Rows
section
variable {X : Cx} {e : Expr} {te : TE} {lo hi : Option Expr} {tl th : TO} {pos p2 : Pos}
/-- t + u, t not empty: u empty gives t itself -/
def rCatT (K : PySem.W.Frag) : R2 := fun x y H Q => ∃ a b xs ys, x = .ref a ∧ y = .ref b ∧ SqT K H a xs ∧ SqT K H b ys ∧ xs ≠ [] ∧ xs.length + ys.length ≤ sizeLine ∧
  (ys = [] → Q (.ref a) H) ∧ (ys ≠ [] → ∀ p, H p = none → Q (.ref p) (upd H p (.tup (xs ++ ys))))
theorem Vals.nil_iff {xs : List V} {us : List Value} (r : Vals xs us) : us = [] ↔ xs = [] := by
  cases r with
  | nil => simp
  | cons _ _ => simp
theorem op_catT : OpR X (binaryOp .Add) (rCatT X.K) := by
  intro pins s σ H x y v u Q I rx ry h
  obtain ⟨a, b, xs, ys, rfl, rfl, ha, hb, hx, hz, q1, q2⟩ := h
  cases rx
  cases ry
  obtain ⟨its, r1, p1, _⟩ := I.tuple ha
  obtain ⟨its2, r2, p2, _⟩ := I.tuple hb
  refine HT.cat_tup p1 p2 (fun z => hx (r1.nil_iff.mp z)) (fun z => ⟨.ref a, H, I, rfl, q1 (r2.nil_iff.mp z)⟩) (fun z => ?_) (by rw [← r1.length, ← r2.length]; exact hz)
  refine ⟨.ref s.heap.objs.size, _, I.laid (t' := s.toks) (o := .tup (xs ++ ys)) (fun b ob q => Heap.get?_push_of_some _ q) (Nat.le_refl _) ?_, rfl, q2 (fun w => z (r2.nil_iff.mpr w)) _ (I.hok.fresh (Nat.le_refl _))⟩
  exact ⟨by rw [List.length_append]; exact hz, _, r1.append r2, IsTup.new _ _⟩
end
end L2
namespace L2
open PySem PySem.Spec PyProof.Rows
/-- the place that an index of any sign means -/
def ixN (n : Nat) (i : Int) : Option Nat := if 0 ≤ i then (if i < n then some i.toNat else none) else if -(n : Int) ≤ i then some (i + n).toNat else none
def atI {α : Type} (xs : List α) (i : Int) : Option α := (ixN xs.length i).bind fun j => xs[j]?
theorem ixN_seq {n : Nat} {i : Int} {j : Nat} (h : ixN n i = some j) : seqIndex? i n = some j ∧ j < n ∧ -(n : Int) ≤ i ∧ i < n := by
  unfold ixN at h
  by_cases h0 : 0 ≤ i
  · rw [if_pos h0] at h
    by_cases h1 : i < n
    · rw [if_pos h1] at h
      have e : i.toNat = j := Option.some.inj h
      exact ⟨by rw [seqIndex_of h0 h1, e], by omega, by omega, h1⟩
    · rw [if_neg h1] at h; cases h
  · rw [if_neg h0] at h
    by_cases h1 : -(n : Int) ≤ i
    · rw [if_pos h1] at h
      have e : (i + n).toNat = j := Option.some.inj h
      exact ⟨by rw [seqIndex_neg (by omega) h1, e], by omega, h1, by omega⟩
    · rw [if_neg h1] at h; cases h
theorem atI_get {α : Type} {xs : List α} {i : Int} {v : α} (h : atI xs i = some v) : ∃ j, seqIndex? i xs.length = some j ∧ xs[j]? = some v ∧ j < xs.length ∧ -(xs.length : Int) ≤ i ∧ i < xs.length := by
  unfold atI at h
  cases e : ixN xs.length i with
  | none => rw [e] at h; cases h
  | some j =>
    rw [e] at h
    obtain ⟨h1, h2, h3, h4⟩ := ixN_seq e
    exact ⟨j, h1, h, h2, h3, h4⟩
theorem atI_nat {α : Type} {xs : List α} {j : Nat} {v : α} (h : xs[j]? = some v) : atI xs (j : Int) = some v := by
  have hj : j < xs.length := (List.getElem?_eq_some_iff.mp h).1
  have e : ixN xs.length (j : Int) = some j := by
    unfold ixN
    rw [if_pos (by omega), if_pos (by omega)]; simp
  unfold atI; rw [e]; exact h
/-- what stands as an index of a plain subscript -/
def PlainIx (b : Expr) : Prop := ∀ o i, subscripted b false o i = operate [o, i] (getItem o i)
/-- a subscript by values -/
def IxR (X : Cx) (r : R2) : Prop :=
  ∀ (value slice : Expr) (pins : List (Addr × Obj)) (s : Shared) (σ : St) (H : Hp) (x y : V) (v u : Value) (Q : VK), Inv X pins σ H s → RelV x v → RelV y u → r x y H Q →
    subscripted slice false v u = operate [v, u] (getItem v u) → wpAny (model X.prog X.w) X.A (subscriptTail value slice v u) (EP X pins σ Q) X.xe s
/-- a call of a builtin's method by values: the receiver, the arguments -/
def MtR (X : Cx) (id : String) (r : V → List V → Hp → VK → Prop) : Prop :=
  ∀ (pins : List (Addr × Obj)) (s : Shared) (σ : St) (H : Hp) (x : V) (xs : List V) (v : Value) (us : List Value) (Q : VK), Inv X pins σ H s → RelV x v → Vals xs us → r x xs H Q →
    wpAny (model X.prog X.w) X.A (call (.builtin id) (v :: us)) (EP X pins σ Q) X.xe s
section
variable {X : Cx} {a b : Expr} {ta tb : TE} {pos : Pos}
/-- a[b] -/
theorem pe_ix {r : R2} (hr : IxR X r) (ha : PE X a ta) (hb : PE X b tb) (hs : PlainIx b) : PE X (.Subscript a b pos) (tOp r ta tb) := by
  intro pins s σ H Q I h
  exact Subscript_ (binT ha hb I h fun v u s2 x y H2 I2 rx ry q => hr a b pins s2 σ H2 x y v u Q I2 rx ry q (hs _ _))
def rIxL (K : PySem.W.Frag) : R2 := fun x y H Q => ∃ p xs i v, x = .ref p ∧ y = .int i ∧ SqL K H p xs ∧ atI xs i = some v ∧ Q v H
theorem ix_list : IxR X (rIxL X.K) := by
  intro value slice pins s σ H x y v u Q I rx ry h hs
  obtain ⟨p, xs, i, z, rfl, rfl, hq, he, q⟩ := h
  cases rx
  obtain ⟨t, rfl⟩ := ry
  obtain ⟨its, r, pl, hz⟩ := I.list hq
  obtain ⟨j, h1, h2, h3, h4, h5⟩ := atI_get he
  obtain ⟨w, ew, rw'⟩ := r.get h2
  have hl := r.length
  have hn := line63
  have fin : EP X pins σ Q w s := ⟨z, H, I, rw', q⟩
  by_cases h0 : 0 ≤ i
  · have hj : i.toNat = j := by
      rw [seqIndex_of h0 h5] at h1
      exact Option.some.inj h1
    exact item_listR pl.isList h0 (by omega) (by rw [hj]; simpa using ew) fin hs
  · have hj : (i + (its.toArray.size : Int)).toNat = j := by
      rw [seqIndex_neg (by omega) h4] at h1
      rw [List.size_toArray, ← hl]
      exact Option.some.inj h1
    exact subscriptTail_builtinR (x := w) pl.isList.typeIs slot_list_getitem.lookup
      (wpAny_getItem_list_neg (Q := fun r s' => r = w ∧ EP X pins σ Q r s') pl.isList (by omega) (by rw [List.size_toArray] <;> omega) (by omega) (by rw [hj]; simpa using ew) ⟨rfl, fin⟩) hs
theorem call_len_seq : CallR X (.builtin "len") (fun xs H Q => ∃ p ys, xs = [.ref p] ∧ (SqL X.K H p ys ∨ SqT X.K H p ys) ∧ Q (.int ys.length) H) := by
  intro pins s σ H xs us Q I r h
  obtain ⟨p, ys, rfl, hq, q⟩ := h
  obtain ⟨u, rfl, rx⟩ := vals1 r
  cases rx
  have hn := line63
  rcases hq with hq | hq
  · obtain ⟨its, r', pl, hz⟩ := I.list hq
    have hlen := r'.length
    exact Calls.call_len_list pl.isList (by simp only [List.size_toArray] <;> omega) ⟨.int ys.length, H, I.tok _, ⟨s.toks + 1, by rw [List.size_toArray, hlen]⟩, q⟩
  · obtain ⟨its, r', pl, hz⟩ := I.tuple hq
    have hlen := r'.length
    exact len_tuple pl (by simp only [List.size_toArray] <;> omega) ⟨.int ys.length, H, I.tok _, ⟨s.toks + 1, by rw [List.size_toArray, hlen]⟩, q⟩
/-- the value is of that builtin type -/
def tyV (K : PySem.W.Frag) (T : String) (x : V) (H : Hp) : Prop := match x with
  | .str _ => T = "str"
  | .int _ => T = "int"
  | .ref p => (T = "list" ∧ ∃ xs, SqL K H p xs) ∨ (T = "tuple" ∧ ∃ o, K.lookup p = some o ∧ o.cls = .type "tuple" ∧ o.dict = none) ∨
      (T = "dict" ∧ ((∃ kvs, H p = some (.dK kvs)) ∨ ∃ kvs, H p = some (.dT kvs))) ∨ (T = "set" ∧ ∃ S n, H p = some (.set S n))
  | _ => False
theorem tyV_is {pins : List (Addr × Obj)} {σ : St} {H : Hp} {s : Shared} {T : String} {x : V} {v : Value} (I : Inv X pins σ H s) (r : RelV x v) (ty : tyV X.K T x H) :
    s.TypeIs v T ∧ ∀ a, v = .ref a → ∃ ob, s.heap.get? a = some ob ∧ ob.dict = none := by
  cases x with
  | str z =>
    obtain ⟨t, rfl⟩ := r
    cases (show T = "str" from ty)
    exact ⟨typeIs_str s z t, fun _ e => nomatch e⟩
  | int i =>
    obtain ⟨t, rfl⟩ := r
    cases (show T = "int" from ty)
    exact ⟨typeIs_int s i t, fun _ e => nomatch e⟩
  | ref p =>
    cases r
    rcases ty with ⟨rfl, xs, hq⟩ | ⟨rfl, o, hk, hc, hd⟩ | ⟨rfl, hk⟩ | ⟨rfl, S, n, hk⟩
    · obtain ⟨its, _, pl, _⟩ := I.list hq
      refine ⟨pl.isList.typeIs, fun a e => ?_⟩
      cases e
      obtain ⟨o, n, e, c, hd, _⟩ := pl
      exact ⟨o, e, hd⟩
    · refine ⟨⟨o, I.kIn p o hk, hc⟩, fun a e => ?_⟩
      cases e
      exact ⟨o, I.kIn _ o hk, hd⟩
    · have z : ∃ o, s.heap.get? p = some o ∧ o.ExactDict := by
        rcases hk with ⟨kvs, hk⟩ | ⟨kvs, hk⟩
        · obtain ⟨_, _, _, _, o, _, _, e, ex, _⟩ := I.hok p _ hk
          exact ⟨o, e, ex⟩
        · obtain ⟨_, _, _, _, o, _, _, e, ex, _⟩ := I.hok p _ hk
          exact ⟨o, e, ex⟩
      obtain ⟨o, e, ex⟩ := z
      refine ⟨⟨o, e, ex.1⟩, fun a e2 => ?_⟩
      cases e2
      exact ⟨o, e, ex.2.1⟩
    · obtain ⟨o, _, _, _, e, ex, _⟩ := I.hok p _ hk
      refine ⟨⟨o, e, ex.1⟩, fun a e2 => ?_⟩
      cases e2
      exact ⟨o, e, ex.2.1⟩
  | _ => exact False.elim ty
def tBM (K : PySem.W.Frag) (T : String) (r : V → List V → Hp → VK → Prop) (to : TE) (t : TA) : TE := fun σ H Q => to σ H fun x H1 => tyV K T x H1 ∧ t σ H1 fun xs H2 => r x xs H2 Q
variable {o e : Expr} {es : List Expr} {to : TE} {t : TA} {name : Str} {apos cpos : Pos} {T id : String} {r : V → List V → Hp → VK → Prop}
theorem pe_bm (pa : PlainAttrs T) (slot : Slot T name id) (hty : typeOf (.builtin id) = pure (.type "method_descriptor")) (hm : MtR X id r) (ho : PE X o to) (ha : PA X (e :: es) t)
    (hbase : attributeBase o name X.env (eval o X.env) = eval o X.env := by rfl)
    (hfew : ((backTo cpos (starEach (e :: es) X.env)).all (fun x => !x.1) && (backToKw cpos (keywordEach [] X.env)).all (fun x => x.1.isSome)
      && decide ((e :: es).length + ([] : List Keyword).length + (if ([] : List Keyword).isEmpty then 0 else 1) < 30)) = true := by rfl)
    (hline : (apos.endLine == cpos.line) = true := by rfl) (hs : starEach (e :: es) X.env = (false, eval e X.env) :: starEach es X.env := by rfl) (hplain : (backTo cpos (starEach es X.env)).any (·.1) = false := by rfl) :
    PE X (.Call (.Attribute o name apos) (e :: es) [] cpos) (tBM X.K T r to t) := by
  intro pins s σ H Q I h
  refine wpAny_Call_method_late hbase hfew hline rfl (thn (ho pins s σ H _ I h) fun v s1 ⟨x, H1, I1, r1, ty, q1⟩ => ?_)
  obtain ⟨h1, h2⟩ := tyV_is I1 r1 ty
  refine ⟨T, id, pa, slot, hty, h1, h2, ?_⟩
  have hA := ha cpos pins s1 σ H1 _ I1 q1
  rw [hs] at hA ⊢
  refine Calls.callWith_builtin (by show (false || (backTo cpos (starEach es X.env)).any (·.1)) = false; rw [hplain] <;> rfl) (Calls.evalArgs_plain ?_)
  exact thn hA fun us s2 ⟨vs, H2, I2, r2, q2⟩ => hm pins s2 σ H2 x vs v us Q I2 r1 r2 q2
/- xs.append(e), list.index on a module's tuple .. are MtR facts of 06m -/
end
end L2
namespace L2
open PySem PySem.Spec PyProof.Rows
def MtM (X : Cx) (id : String) (r : V → List V → Hp → VK → Prop) : Prop :=
  ∀ (pins : List (Addr × Obj)) (s : Shared) (σ : St) (H : Hp) (x : V) (xs : List V) (v : Value) (us : List Value) (Q : VK), Inv X pins σ H s → RelV x v → Vals xs us → r x xs H Q →
    wpAny (model X.prog X.w) X.A (call (.builtin id) (v :: us)) (EP X pins σ Q) X.xe s
theorem Vals.one : ∀ {x : V} {us : List Value}, Vals [x] us → ∃ u, us = [u] ∧ RelV x u
  | _, _, .cons r .nil => ⟨_, rfl, r⟩
section
variable {X : Cx} {pins : List (Addr × Obj)} {σ : St} {H : Hp} {s : Shared} {l b : Addr} {xs ys zs : List V}
theorem Inv.lset {its its' : List Value} {n : Nat} {f : Array Value → Array Value} {t' : Nat} (I : Inv X pins σ H s) (hH : H l = some (.lst xs))
    (e : s.heap.get? l = some { cls := .type "list", data := .seq its.toArray n }) (hf : f its.toArray = its'.toArray) (hv : Vals ys its') (hz : ys.length ≤ sizeLine) :
    Inv X pins σ (upd H l (.lst ys)) { s with heap := s.heap.update l (Obj.mapSeq f), toks := t' } := by
  have q := PySem.IsL.update e f
  rw [hf] at q
  refine I.write (x := l) (e := l) (by rw [hH]; exact trivial) (.inl rfl) (fun b' u hb hu => (Heap.get?_update_other s.heap (Obj.mapSeq f) (Ne.symm hb)).trans hu) ⟨_, q⟩ ?_
  exact ⟨hz, its', _, hv, q⟩
theorem Inv.lstM (I : Inv X pins σ H s) (hH : H l = some (.lst xs)) : xs.length ≤ sizeLine ∧ ∃ (its : List Value) (n : Nat), Vals xs its ∧ xs.length = its.length ∧ s.heap.get? l = some { cls := .type "list", data := .seq its.toArray n } := by
  obtain ⟨z, its, n, r, e⟩ := I.hok l _ hH
  exact ⟨z, its, n, r, r.length, e⟩
end
section
variable {X : Cx}
def rAppend : V → List V → Hp → VK → Prop := fun x vs H Q => ∃ l xs y, x = .ref l ∧ vs = [y] ∧ H l = some (.lst xs) ∧ xs.length < sizeLine ∧ Q .non (upd H l (.lst (xs ++ [y])))
theorem mt_append : MtM X "list.append" rAppend := by
  intro pins s σ H x vs v us Q I rx rv h
  obtain ⟨l, xs, y, rfl, rfl, hH, hz, q⟩ := h
  cases rx
  obtain ⟨u, rfl, ru⟩ := rv.one
  obtain ⟨z, its, n, r, hl, e⟩ := I.lstM hH
  refine call_meets F.slot_list_append ⟨_, e, rfl⟩ F.entry_list_append (F.args_list_append_2 _ _) (PySem.list_append l its.toArray n u (by rw [List.size_toArray]; omega)) ⟨e, ?_⟩
  refine ⟨.non, _, I.lset (its' := its ++ [u]) hH e (by simp) (r.append (.cons ru .nil)) ?_, rfl, q⟩
  rw [List.length_append, List.length_singleton]
  omega
end
section
variable {prog : Program} {w : World} {A : Around} {E : Value → Shared → Prop} {s : Shared}
end
section
variable {X : Cx}
end
end L2
namespace L2
open PySem PySem.Spec PyProof.Rows
section
variable {prog : Program} {w : World} {A : Around} {E : Value → Shared → Prop} {s : Shared} {l : Addr} {its : List Value} {ns : List Int} {Q : Value → Shared → Prop}
end
section
variable {X : Cx}
end
section
variable {X : Cx}
end
section
variable {X : Cx}
end
section
variable {X : Cx}
end
section
variable {X : Cx} {pins : List (Addr × Obj)} {σ : St} {H : Hp} {s : Shared}
end
section
variable {X : Cx}
end
end L2
namespace L2
open PySem PySem.Spec PyProof.Rows
section
variable {X : Cx} {pins : List (Addr × Obj)} {σ : St} {H : Hp} {s : Shared}
end
section
variable {X : Cx}
end
end L2
namespace L2
open PySem PySem.Spec PyProof.Rows
section
variable {prog : Program} {w : World} {A : Around} {R : Result → Shared → Prop} {s : Shared} {elt t0 i0 t1 i1 : Expr} {ifs0 ifs1 : List Expr} {scope : Scope} {pos : Pos} {it acc : Value} {env : Env}
end
section
variable {X : Cx}
end
end L2
namespace L2
open PySem PySem.Spec PyProof.Rows
section
variable {κ : Type} [DecidableEq κ]
end
section
variable {P : Program} {w : World} {H : Hp} {h : Heap} {a : Addr}
end
section
variable {X : Cx} {pins : List (Addr × Obj)} {σ : St} {H : Hp} {s : Shared} {a : Addr} {y v : V} {u r : Value} {o : Option V} {A : Around} {E : Value → Shared → Prop}
end
section
variable {X : Cx} {pins : List (Addr × Obj)} {σ : St} {H : Hp} {s : Shared} {a : Addr} {kvs : List (Key × V)} {k : Key} {u : Value} {A : Around} {E : Value → Shared → Prop}
end
section
variable {X : Cx} {o i e value : Expr} {pos pos' tpos : Pos} {td ty tv : TE}
end
section
variable {X : Cx} {pos : Pos}
end
section
variable {X : Cx} {pins : List (Addr × Obj)} {σ : St} {H : Hp} {s : Shared} {a : Addr} {y d : V} {u r : Value} {o : Option V} {A : Around} {E : Value → Shared → Prop}
end
section
variable {X : Cx} {o e f : Expr} {apos cpos : Pos} {td ty tx : TE}
end
section
variable {X : Cx} {pins : List (Addr × Obj)} {σ : St} {H : Hp} {s : Shared} {a : Addr} {kvs : List (Key × V)} {A : Around} {E : Value → Shared → Prop}
end
section
variable {X : Cx} {pins : List (Addr × Obj)} {σ : St} {H : Hp} {s : Shared} {a : Addr} {y : V} {u : Value} {A : Around} {E : Value → Shared → Prop}
end
end L2
namespace L2
open PySem PySem.Spec PyProof.Rows
section
variable {prog : Program} {w : World} {A : Around} {E : Value → Shared → Prop}
end
section
variable {X : Cx}
end
end L2
namespace L2
open PySem PySem.Spec PyProof.Rows
section
variable {X : Cx} {pins : List (Addr × Obj)} {σ : St} {H : Hp} {s : Shared} {h' : Heap}
end
section
variable {X : Cx}
end
section
variable {X : Cx} {tg : Expr}
end
section
variable {X : Cx} {tg : Expr}
end
section
variable {prog : Program} {w : World} {A : Around} {E : Value → Shared → Prop} {s : Shared}
end
section
variable {X : Cx} {pins : List (Addr × Obj)} {σ : St} {H : Hp} {s : Shared} {d : Addr} {o : Obj}
end
section
variable {P : Program} {w : World} {K : PySem.W.Frag} {tg : Expr} {d : Addr} {o : Obj} {es : Array DictEntry} {ep : Nat}
end
section
variable {X : Cx} {tg e : Expr} {td : TE} {apos cpos : Pos}
end
end L2
section 
namespace Bits
open PySem PyProof.Rows
end Bits
end 
section 
namespace TL
open PySem PySem.Builtin PySem.Builtin.Str PySem.StrLaws
end TL
end 
namespace L2
open PySem PySem.Spec PyProof.Rows
section
variable {X : Cx} {pins : List (Addr × Obj)} {σ : St} {H : Hp} {s : Shared} {Q : VK}
end
section
variable {X : Cx}
end
section
variable {X : Cx} {o e : Expr} {to te : TE}
end
end L2
namespace L2
open PySem PySem.Spec PyProof.Rows
section
variable {X : Cx}
end
end L2
namespace Att
open PySem PySem.W PySem.Calls PyProof.Rows
section
variable {prog : Program} {w : World} {A : Around} {E : Value → Shared → Prop} {s : Shared} {K : Frag}
end
end Att
namespace L2
open PySem PySem.Spec PyProof.Rows
end L2
namespace L2
open PySem PySem.Spec PyProof.Rows
abbrev KOf {K : PySem.W.Frag} {h : Heap} (_ : K.In h) : PySem.W.Frag := K
end L2
namespace L2
open PySem PySem.Spec PyProof.Rows
/-- the j-th statement of a class's body -/
def inClass (s : Stmt) (j : Nat) : Stmt := match s with
  | .ClassDef _ _ _ body _ _ _ _ _ _ _ => body.getD j (.Pass ⟨0, 0, 0, 0⟩)
  | _ => .Pass ⟨0, 0, 0, 0⟩
def defArgs (s : Stmt) : Arguments := match s with
  | .FunctionDef _ a _ _ _ _ _ _ _ _ => a
  | _ => { posonlyargs := [], args := [], vararg := none, kwonlyargs := [], kw_defaults := [], kwarg := none, defaults := [] }
def defBody (s : Stmt) : List Stmt := match s with
  | .FunctionDef _ _ b _ _ _ _ _ _ _ => b
  | _ => []
def defScope (s : Stmt) : Scope := match s with
  | .FunctionDef _ _ _ _ _ _ sc _ _ _ => sc
  | _ => { kind := .function, names := [], isGenerator := false, isCoroutine := false }
abbrev CX0 : CXT := fun _ _ _ _ _ _ => False
abbrev E0 : XK := fun _ _ _ => False
theorem pass0 {X : Cx} : Passes CX0 X E0 := fun _ _ _ _ _ _ _ h => h.elim
structure Fun (K : PySem.W.Frag) (x qual : Str) (st : Stmt) (f : Addr) (fd : FuncData) : Prop where
  ex : ∃ (oc : Value) (od : Option Addr) (kV doc pm : Value) (an : Option Addr) (cdv ct : Value) (osl : Array (Option Value)),
    fd = PySem.W.fnOf x qual (defArgs st) (defBody st) (defScope st) .none kV doc pm an cdv ct ∧ K.lookup f = some ⟨oc, od, .func fd, osl⟩ ∧ PySem.W.codeIn K cdv qual = true
  kp : PySem.W.keepIn K (.ref f) = true
section
variable {P : Program} {w : World} {K : PySem.W.Frag} {mg : Str → Option Value} {base : Heap}
/-- THE RULE for a def: its body as a term of rules, and the reading of that term -/
theorem Fun.ok {x qual : Str} {st : Stmt} {f : Addr} {fd : FuncData} {N ps : List Str} {k : Nat} {sp : Sp} (F : Fun K x qual st f fd) (S : FnScope N ps (defScope st)) (len : ∀ vs H Q E, sp vs H Q E → vs.length = ps.length)
    (hbody : ∀ (cdv : Value) (A : Around) (outer : List Env) (s : Shared) (H : Hp) (vs : List V) (Q : VK) (E : XK), Room k (A.deeper (envOfC qual (defScope st) s.heap.objs.size f cdv)) → sp vs H Q E →
      ∃ t, PSs (cxOf CX0 P w K mg base N qual (defScope st) f cdv A outer s H E).nox (defBody st) t ∧ t { nx := fun _ H' => Q .non H', rt := Q } (start N vs) H) : FnOk P w K mg base CX0 (k + 1) f fd ps sp := by
  obtain ⟨oc, od, kV, doc, pm, an, cdv, ct, osl, rfl, lk, hcd⟩ := F.ex
  refine fn_of lk hcd S len fun A outer s H vs Q E hr hsp => ?_
  obtain ⟨t, h, q⟩ := hbody cdv A outer s H vs Q E hr hsp
  exact ⟨t, h.nox, q⟩
/-- how its arguments bind (no defaults): h is «fun _ _ _ _ _ _ us hl => match us, hl with | [_, _], _ => rfl», one _ a parameter -/
theorem Fun.binds {x qual : Str} {st : Stmt} {f : Addr} {fd : FuncData} {ps : List Str} (F : Fun K x qual st f fd)
    (h : ∀ (kV doc pm : Value) (an : Option Addr) (cdv ct : Value) (us : List Value), us.length = ps.length → bindArgs (PySem.W.fnOf x qual (defArgs st) (defBody st) (defScope st) .none kV doc pm an cdv ct) ⟨us, []⟩ = pure (ps.zip us)) : Binds K fd ps [] := by
  obtain ⟨oc, od, kV, doc, pm, an, cdv, ct, osl, rfl, lk, hcd⟩ := F.ex
  exact .all (h kV doc pm an cdv ct)
theorem fun_mk {x qual : Str} {st : Stmt} {f : Addr} {oc : Value} {od an : Option Addr} {osl : Array (Option Value)} {kV doc pm cdv ct : Value} (l : K.lookup f = some ⟨oc, od, .func (PySem.W.fnOf x qual (defArgs st) (defBody st) (defScope st) .none kV doc pm an cdv ct), osl⟩)
    (c : PySem.W.codeIn K cdv qual = true) (k : PySem.W.keepIn K (.ref f) = true) : Fun K x qual st f (PySem.W.fnOf x qual (defArgs st) (defBody st) (defScope st) .none kV doc pm an cdv ct) := ⟨⟨oc, od, kV, doc, pm, an, cdv, ct, osl, rfl, l, c⟩, k⟩
end
section
variable {X : Cx}
theorem pv (i : Nat) {x : Str} {pos : Pos} (hN : X.N[i]? = some x := by rfl) (hv : Vis X.env.scope x := by first | exact Or.inl rfl | exact Or.inr (Or.inl rfl) | exact Or.inr (Or.inr rfl)) (hd : (x == ("__debug__" : Str)) = false := by decide)
    (hcd : (x == ("__classdict__" : Str)) = false := by decide) : PE X (.Name x pos) (tVar i) := pe_var hN hv hd hcd
end
theorem iteF {A B : Prop} (h : B) : if false = true then A else B := by
  rw [if_neg Bool.false_ne_true]
  exact h
theorem iteT {A B : Prop} (h : A) : if true = true then A else B := by
  rw [if_pos rfl]
  exact h
/-- all that was tracked is as it was -/
def Same (H H' : Hp) : Prop := ∀ b o, H b = some o → H' b = some o
theorem Same.trans {H H1 H2 : Hp} (a : Same H H1) (b : Same H1 H2) : Same H H2 := fun c o h => b c o (a c o h)
theorem Same.seq {K : PySem.W.Frag} {H H' : Hp} {a : Addr} {xs : List V} (e : Same H H') (h : SqL K H a xs) : SqL K H' a xs := by
  rcases h with (h | ⟨o, h⟩) | h
  · exact .inl (.inl (e _ _ h))
  · exact .inl (.inr ⟨o, e _ _ h⟩)
  · exact .inr h
section
variable {κ : Type} [DecidableEq κ]
end
/-- a new instance and its __init__ leave all that was tracked as it was -/
theorem Same.made {H H1 : Hp} {x dx C : Addr} (nx : H x = Option.none) (nd : H dx = Option.none) (k : ∀ b o, (upd (upd H dx (.own x)) x (.ins C dx [])) b = some o → b ≠ x → H1 b = some o) : Same H H1 := fun b o e =>
  k b o (by rw [upd_ne (ne_of_none e nx), upd_ne (ne_of_none e nd)]; exact e) (ne_of_none e nx)
end L2
section
set_option Elab.async false
set_option linter.all false
set_option maxRecDepth 100000
set_option maxHeartbeats 2000000
namespace L2
open PySem PySem.Spec PyProof.Rows
open PySem.W (WData Codec OpenSpec Well WellAll ReadsW ReadsAllW)
mutual
/-- x stands for the datum d, lists and tuples all the way -/
inductive Dw (K : PySem.W.Frag) (H : Hp) : V → WData → Prop
  | non : Dw K H .non .none
  | bl (b : Bool) : Dw K H (.bl b) (.bool b)
  | int (i : Int) : Dw K H (.int i) (.int i)
  | str (x : Str) : Dw K H (.str x) (.str x)
  | byt (b : Array UInt8) : Dw K H (.byt b) (.bytes b.toList)
  | lst {a : Addr} {xs : List V} {ds : List WData} : SqL K H a xs → DwAll K H xs ds → Dw K H (.ref a) (.list ds)
  | tup {a : Addr} {xs : List V} {ds : List WData} : SqT K H a xs → DwAll K H xs ds → Dw K H (.ref a) (.tuple ds)
inductive DwAll (K : PySem.W.Frag) (H : Hp) : List V → List WData → Prop
  | nil : DwAll K H [] []
  | cons {v : V} {vs : List V} {d : WData} {ds : List WData} : Dw K H v d → DwAll K H vs ds → DwAll K H (v :: vs) (d :: ds)
end
theorem dw_ints {K : PySem.W.Frag} {H : Hp} : ∀ ns : List Int, DwAll K H (ns.map V.int) (ns.map WData.int)
  | [] => .nil
  | n :: r => .cons (.int n) (dw_ints r)
theorem ints_dw {K : PySem.W.Frag} {H : Hp} : ∀ (ns : List Int) (xs : List V), DwAll K H xs (ns.map WData.int) → xs = ns.map V.int
  | [], xs, h => by
    cases h
    rfl
  | n :: r, xs, h => by
    cases h with
    | cons h1 h2 =>
      cases h1
      rw [ints_dw r _ h2] <;> rfl
section
variable {P : Program} {w : World} {K : PySem.W.Frag} {H : Hp} {h : Heap} {R : PySem.W.WRecords} {cl : Str → Option Addr}
theorem sqL_at {a : Addr} {xs : List V} (hok : HOk P w H h) (KX : K.In h) (q : SqL K H a xs) : ∃ (its : List Value) (o : Obj) (n : Nat), Vals xs its ∧ h.get? a = some o ∧ o.cls = .type "list" ∧ o.data = .seq its.toArray n := by
  rcases q with q | ⟨o, its, n, e, hc, _, hd, _, hv⟩
  · obtain ⟨_, its, n, hv, e⟩ := (show ObjOk P w H h a (.lst xs) from q.ok hok)
    exact ⟨its, _, n, hv, e, rfl, rfl⟩
  · exact ⟨its.toList, o, n, hv, KX _ _ e, hc, by simp [hd]⟩
theorem sqT_at {a : Addr} {xs : List V} (hok : HOk P w H h) (KX : K.In h) (q : SqT K H a xs) : ∃ (its : List Value) (o : Obj) (n : Nat), Vals xs its ∧ h.get? a = some o ∧ o.cls = .type "tuple" ∧ o.data = .seq its.toArray n := by
  rcases q with q | ⟨o, its, n, e, hc, hd, _, hv⟩
  · obtain ⟨_, its, hv, o, e, hc, n, hd⟩ := (show ObjOk P w H h a (.tup xs) from q.ok hok)
    exact ⟨its, o, n, hv, e, hc, hd⟩
  · exact ⟨its.toList, o, n, hv, KX _ _ e, hc, by simp [hd]⟩
mutual
theorem Dw.reads (hok : HOk P w H h) (KX : K.In h) : ∀ (d : WData) (v : V) (u : Value), Dw K H v d → RelV v u → ∃ as, ReadsW R cl h u d as
  | .none, _, _, x, r => by
    cases x
    cases r
    exact ⟨_, ReadsW.none⟩
  | .bool b, _, _, x, r => by
    cases x
    cases r
    exact ⟨_, ReadsW.bool b⟩
  | .int i, _, _, x, r => by
    cases x
    obtain ⟨t, rfl⟩ := r
    exact ⟨_, ReadsW.int i t⟩
  | .str s, _, _, x, r => by
    cases x
    obtain ⟨t, rfl⟩ := r
    exact ⟨_, ReadsW.str s t⟩
  | .bytes b, _, _, x, r => by
    cases x
    obtain ⟨t, rfl⟩ := r
    exact ⟨_, ReadsW.bytes _ t⟩
  | .list ds, _, _, x, r => by
    cases x with
    | lst hs ha =>
      cases r
      obtain ⟨its, o, n, rv, ho, hc, hd⟩ := sqL_at hok KX hs
      obtain ⟨as, hr⟩ := Dw.readsAll hok KX ds _ its ha rv
      exact ⟨_, ReadsW.list ho hc hd hr⟩
  | .tuple ds, _, _, x, r => by
    cases x with
    | tup hs ha =>
      cases r
      obtain ⟨its, o, n, rv, ho, hc, hd⟩ := sqT_at hok KX hs
      obtain ⟨as, hr⟩ := Dw.readsAll hok KX ds _ its ha rv
      exact ⟨_, ReadsW.tuple ho hc hd hr⟩
  | .float _, _, _, x, _ => by cases x
  | .dict _, _, _, x, _ => by cases x
  | .bytearray _, _, _, x, _ => by cases x
  | .set _, _, _, x, _ => by cases x
  | .frozenset _, _, _, x, _ => by cases x
  | .obj _ _, _, _, x, _ => by cases x
theorem Dw.readsAll (hok : HOk P w H h) (KX : K.In h) : ∀ (ds : List WData) (vs : List V) (us : List Value), DwAll K H vs ds → Vals vs us → ∃ as, ReadsAllW R cl h us ds as
  | [], _, _, x, r => by
    cases x
    cases r
    exact ⟨_, ReadsAllW.nil⟩
  | d :: ds, _, _, x, r => by
    cases x with
    | cons h1 h2 =>
      cases r with
      | cons r1 r2 =>
        obtain ⟨as, q1⟩ := Dw.reads hok KX d _ _ h1 r1
        obtain ⟨bs, q2⟩ := Dw.readsAll hok KX ds _ _ h2 r2
        exact ⟨_, ReadsAllW.cons q1 q2⟩
end
end
mutual
/-- data that a codec tells -/
def plW : WData → Bool
  | .none => true
  | .bool _ => true
  | .int _ => true
  | .str _ => true
  | .bytes _ => true
  | .list xs => plWs xs
  | .tuple xs => plWs xs
  | _ => false
def plWs : List WData → Bool
  | [] => true
  | x :: r => plW x && plWs r
end
theorem plWs_map {α : Type} {f : α → WData} (h : ∀ a, plW (f a) = true) : ∀ l : List α, plWs (l.map f) = true
  | [] => rfl
  | x :: r => by
    show (plW (f x) && plWs (r.map f)) = true
    rw [h x, plWs_map h r] <;> rfl
theorem pl_enc : ∀ (c : Codec) (a : c.denote), plW (c.enc a) = true
  | .unit, _ => rfl
  | .bool, _ => rfl
  | .int _ _, _ => rfl
  | .nat _ _, _ => rfl
  | .u8, _ => rfl
  | .bytes _ _, _ => rfl
  | .text _ _ _ _, _ => rfl
  | .list _ _ c, a => plWs_map (fun x => pl_enc c x) a
  | .pair c d, a => by
    show (plW (c.enc a.1) && (plW (d.enc a.2) && true)) = true
    rw [pl_enc c a.1, pl_enc d a.2] <;> rfl
  | .triple c d e, a => by
    show (plW (c.enc a.1) && (plW (d.enc a.2.1) && (plW (e.enc a.2.2) && true))) = true
    rw [pl_enc c a.1, pl_enc d a.2.1, pl_enc e a.2.2] <;> rfl
  | .option c, none => rfl
  | .option c, some x => pl_enc c x
theorem pl_encAll : ∀ (cs : List Codec) (a : Codec.denoteAll cs), plWs (Codec.encAll cs a) = true
  | [], _ => rfl
  | c :: cs, a => by
    show (plW (c.enc a.1) && plWs (Codec.encAll cs a.2)) = true
    rw [pl_enc c a.1, pl_encAll cs a.2] <;> rfl
theorem weight_mem : ∀ {xs : List WData} {d : WData}, d ∈ xs → d.weight ≤ WData.weightAll xs
  | [], d, h => absurd h (by simp)
  | x :: r, d, h => by
    show d.weight ≤ x.weight + 1 + WData.weightAll r
    rcases List.mem_cons.mp h with e | m
    · rw [e]
      omega
    · have z := weight_mem m
      omega
def toV : Value → V
  | .none => .non
  | .bool b => .bl b
  | .int i _ => .int i
  | .str x _ => .str x
  | .bytes b _ => .byt b
  | .ref a => .ref a
  | _ => .non
/-- a value of the arguments, its objects among A -/
def OkU (A : List Addr) : Value → Prop
  | .none => True
  | .bool _ => True
  | .int _ _ => True
  | .str _ _ => True
  | .bytes _ _ => True
  | .ref a => a ∈ A
  | _ => False
theorem OkU.mono {A B : List Addr} (h : ∀ a ∈ A, a ∈ B) : ∀ {u : Value}, OkU A u → OkU B u := fun {u} x => by
  cases u with
  | ref a => exact h a x
  | none => trivial
  | bool b => trivial
  | int i t => trivial
  | str s t => trivial
  | bytes b t => trivial
  | _ => exact False.elim x
theorem relV_toV {A : List Addr} {u : Value} (x : OkU A u) : RelV (toV u) u := by
  cases u with
  | ref a => rfl
  | none => rfl
  | bool b => rfl
  | int i t => exact ⟨t, rfl⟩
  | str s t => exact ⟨t, rfl⟩
  | bytes b t => exact ⟨t, rfl⟩
  | _ => exact False.elim x
theorem vals_toV {A : List Addr} : ∀ {vs : List Value}, (∀ u ∈ vs, OkU A u) → Vals (vs.map toV) vs
  | [], _ => .nil
  | u :: r, h => .cons (relV_toV (h u (List.mem_cons_self ..))) (vals_toV fun x hx => h x (List.mem_cons_of_mem _ hx))
/-- an object of the arguments -/
def ArgOb (h : Heap) (A : List Addr) (a : Addr) : Prop := ∃ vs : List Value, vs.length ≤ sizeLine ∧ (∀ u ∈ vs, OkU A u) ∧
  (h.get? a = some { cls := .type "list", data := .seq vs.toArray } ∨ h.get? a = some { cls := .type "tuple", data := .seq vs.toArray })
theorem ArgOb.mono {h : Heap} {A B : List Addr} {a : Addr} (k : ∀ a ∈ A, a ∈ B) (x : ArgOb h A a) : ArgOb h B a := by
  obtain ⟨vs, h1, h2, h3⟩ := x
  exact ⟨vs, h1, fun u hu => (h2 u hu).mono k, h3⟩
theorem wellAll_len {P : Params} {h : Heap} : ∀ {vs : List Value} {ds : List WData}, WellAll P h vs ds → vs.length = ds.length
  | _, _, .nil => rfl
  | _, _, .cons _ b => by
    show _ + 1 = _ + 1
    rw [wellAll_len b]
theorem well_list {P : Params} {h : Heap} {v : Value} {ds : List WData} (x : Well P h v (.list ds)) : ∃ (a : Addr) (vs : List Value), v = .ref a ∧ h.get? a = some { cls := .type "list", data := .seq vs.toArray } ∧ WellAll P h vs ds := by
  cases x with
  | list ho hall => exact ⟨_, _, rfl, ho, hall⟩
theorem well_tuple {P : Params} {h : Heap} {v : Value} {ds : List WData} (x : Well P h v (.tuple ds)) : ∃ (a : Addr) (vs : List Value), v = .ref a ∧ h.get? a = some { cls := .type "tuple", data := .seq vs.toArray } ∧ WellAll P h vs ds := by
  cases x with
  | tuple ho hall => exact ⟨_, _, rfl, ho, hall⟩
theorem well_cons {P : Params} {h : Heap} {us : List Value} {d : WData} {ds : List WData} (x : WellAll P h us (d :: ds)) : ∃ (v : Value) (vs : List Value), us = v :: vs ∧ Well P h v d ∧ WellAll P h vs ds := by
  cases x with
  | cons a b => exact ⟨_, _, rfl, a, b⟩
theorem line_of {n : Nat} (h : n ≤ 1048576) : n ≤ sizeLine := Nat.le_trans h (by decide)
section
variable {P : Params} {h : Heap}
mutual
theorem area_one : ∀ (d : WData) (v : Value), Well P h v d → plW d = true → d.weight ≤ 1048576 → ∃ A : List Addr, OkU A v ∧ ∀ a ∈ A, ArgOb h A a
  | .none, _, x, _, _ => by
    cases x
    exact ⟨[], trivial, fun a m => absurd m (by simp)⟩
  | .bool b, _, x, _, _ => by
    cases x
    exact ⟨[], trivial, fun a m => absurd m (by simp)⟩
  | .int i, _, x, _, _ => by
    cases x
    exact ⟨[], trivial, fun a m => absurd m (by simp)⟩
  | .str s, _, x, _, _ => by
    cases x
    exact ⟨[], trivial, fun a m => absurd m (by simp)⟩
  | .bytes b, _, x, _, _ => by
    cases x
    exact ⟨[], trivial, fun a m => absurd m (by simp)⟩
  | .list ds, _, x, p, z => by
    obtain ⟨a, vs, rfl, ho, hall⟩ := well_list x
    have z2 : WData.weightAll ds ≤ 1048576 := z
    obtain ⟨A, h1, h2⟩ := area_all ds _ hall p fun d hd => Nat.le_trans (weight_mem hd) z2
    have k : ∀ b ∈ A, b ∈ a :: A := fun b hb => List.mem_cons_of_mem _ hb
    refine ⟨a :: A, List.mem_cons_self .., fun b hb => ?_⟩
    rcases List.mem_cons.mp hb with e | m
    · rw [e]
      exact ⟨vs, line_of (by rw [wellAll_len hall]; exact Nat.le_trans (PySem.W.length_le_weightAllW ds) z2), fun u hu => (h1 u hu).mono k, .inl ho⟩
    · exact (h2 b m).mono k
  | .tuple ds, _, x, p, z => by
    obtain ⟨a, vs, rfl, ho, hall⟩ := well_tuple x
    have z2 : WData.weightAll ds ≤ 1048576 := z
    obtain ⟨A, h1, h2⟩ := area_all ds _ hall p fun d hd => Nat.le_trans (weight_mem hd) z2
    have k : ∀ b ∈ A, b ∈ a :: A := fun b hb => List.mem_cons_of_mem _ hb
    refine ⟨a :: A, List.mem_cons_self .., fun b hb => ?_⟩
    rcases List.mem_cons.mp hb with e | m
    · rw [e]
      exact ⟨vs, line_of (by rw [wellAll_len hall]; exact Nat.le_trans (PySem.W.length_le_weightAllW ds) z2), fun u hu => (h1 u hu).mono k, .inr ho⟩
    · exact (h2 b m).mono k
  | .float _, _, _, p, _ => Bool.noConfusion (show false = true from p)
  | .dict _, _, _, p, _ => Bool.noConfusion (show false = true from p)
  | .bytearray _, _, _, p, _ => Bool.noConfusion (show false = true from p)
  | .set _, _, _, p, _ => Bool.noConfusion (show false = true from p)
  | .frozenset _, _, _, p, _ => Bool.noConfusion (show false = true from p)
  | .obj _ _, _, _, p, _ => Bool.noConfusion (show false = true from p)
theorem area_all : ∀ (ds : List WData) (vs : List Value), WellAll P h vs ds → plWs ds = true → (∀ d ∈ ds, d.weight ≤ 1048576) → ∃ A : List Addr, (∀ u ∈ vs, OkU A u) ∧ ∀ a ∈ A, ArgOb h A a
  | [], _, x, _, _ => by
    cases x
    exact ⟨[], fun u m => absurd m (by simp), fun a m => absurd m (by simp)⟩
  | d :: ds, _, x, p, z => by
    obtain ⟨v, vs, rfl, x1, x2⟩ := well_cons x
    have q : plW d = true ∧ plWs ds = true := Bool.and_eq_true_iff.mp p
    obtain ⟨A, a1, a2⟩ := area_one d v x1 q.1 (z d (List.mem_cons_self ..))
    obtain ⟨B, b1, b2⟩ := area_all ds vs x2 q.2 fun e he => z e (List.mem_cons_of_mem _ he)
    have kA : ∀ b ∈ A, b ∈ A ++ B := fun b hb => List.mem_append.mpr (.inl hb)
    have kB : ∀ b ∈ B, b ∈ A ++ B := fun b hb => List.mem_append.mpr (.inr hb)
    refine ⟨A ++ B, fun u hu => ?_, fun b hb => ?_⟩
    · rcases List.mem_cons.mp hu with e | m
      · rw [e]
        exact a1.mono kA
      · exact (b1 u m).mono kB
    · rcases List.mem_append.mp hb with m | m
      · exact (a2 b m).mono kA
      · exact (b2 b m).mono kB
end
end
/-- what is tracked of an argument's object -/
def hoOf (o : Obj) : Option HO := match o.data with
  | .seq vs _ => if (o.cls == Value.type "list") = true then some (.frz o (.lst (vs.toList.map toV))) else some (.frz o (.tup (vs.toList.map toV)))
  | _ => none
def argH (K : PySem.W.Frag) (h : Heap) (A : List Addr) : Hp := fun b => if b ∈ A then (if (K.lookup b).isNone = true then (h.get? b).bind hoOf else none) else none
/-- nothing is tracked but what is known to the object -/
def OnlyF (H : Hp) : Prop := ∀ b, H b = none ∨ ∃ o u, H b = some (.frz o u)
theorem hoOf_lst (vs : List Value) : hoOf { cls := .type "list", data := .seq vs.toArray } = some (.frz { cls := .type "list", data := .seq vs.toArray } (.lst (vs.map toV))) := by
  show (if (Value.type "list" == Value.type "list") = true then some (HO.frz { cls := .type "list", data := .seq vs.toArray } (.lst (vs.toArray.toList.map toV))) else some (HO.frz { cls := .type "list", data := .seq vs.toArray } (.tup (vs.toArray.toList.map toV)))) = _
  rw [if_pos (beq_self_eq_true _)]
theorem hoOf_tup (vs : List Value) : hoOf { cls := .type "tuple", data := .seq vs.toArray } = some (.frz { cls := .type "tuple", data := .seq vs.toArray } (.tup (vs.map toV))) := by
  show (if (Value.type "tuple" == Value.type "list") = true then some (HO.frz { cls := .type "tuple", data := .seq vs.toArray } (.lst (vs.toArray.toList.map toV))) else some (HO.frz { cls := .type "tuple", data := .seq vs.toArray } (.tup (vs.toArray.toList.map toV)))) = _
  rw [if_neg (by decide)]
section
variable {P : Program} {w : World} {K : PySem.W.Frag} {h : Heap} {A : List Addr}
theorem argH_at {b : Addr} {o : Obj} (hb : b ∈ A) (hk : K.lookup b = none) (e : h.get? b = some o) : argH K h A b = hoOf o := by
  unfold argH
  rw [if_pos hb, hk, if_pos (show (none : Option Obj).isNone = true from rfl), e] <;> rfl
theorem of_argH {b : Addr} {u : HO} (q : argH K h A b = some u) : b ∈ A ∧ K.lookup b = none := by
  unfold argH at q
  by_cases hb : b ∈ A
  · rw [if_pos hb] at q
    cases hk : K.lookup b with
    | none => exact ⟨hb, rfl⟩
    | some o =>
      rw [hk, if_neg (by simp)] at q
      cases q
  · rw [if_neg hb] at q
    cases q
/-- what stands tracked -/
theorem argH_is (ar : ∀ a ∈ A, ArgOb h A a) {b : Addr} {u : HO} (q : argH K h A b = some u) : K.lookup b = none ∧ ∃ vs : List Value, vs.length ≤ sizeLine ∧ (∀ u ∈ vs, OkU A u) ∧
    ((h.get? b = some { cls := .type "list", data := .seq vs.toArray } ∧ u = .frz { cls := .type "list", data := .seq vs.toArray } (.lst (vs.map toV))) ∨
     (h.get? b = some { cls := .type "tuple", data := .seq vs.toArray } ∧ u = .frz { cls := .type "tuple", data := .seq vs.toArray } (.tup (vs.map toV)))) := by
  obtain ⟨hb, hk⟩ := of_argH q
  obtain ⟨vs, h1, h2, h3⟩ := ar b hb
  refine ⟨hk, vs, h1, h2, ?_⟩
  rcases h3 with e | e
  · rw [argH_at hb hk e, hoOf_lst] at q
    exact .inl ⟨e, (Option.some.inj q).symm⟩
  · rw [argH_at hb hk e, hoOf_tup] at q
    exact .inr ⟨e, (Option.some.inj q).symm⟩
theorem argH_only (ar : ∀ a ∈ A, ArgOb h A a) : OnlyF (argH K h A) := fun b => by
  cases q : argH K h A b with
  | none => exact .inl rfl
  | some u =>
    obtain ⟨_, vs, _, _, ⟨_, e⟩ | ⟨_, e⟩⟩ := argH_is ar q
    · exact .inr ⟨_, _, by rw [e]⟩
    · exact .inr ⟨_, _, by rw [e]⟩
theorem argH_ok (ar : ∀ a ∈ A, ArgOb h A a) : HOk P w (argH K h A) h := fun b u q => by
  obtain ⟨_, vs, h1, h2, ⟨e, rfl⟩ | ⟨e, rfl⟩⟩ := argH_is ar q
  · exact ⟨e, by rw [List.length_map]; exact h1, vs, _, vals_toV h2, e⟩
  · exact ⟨e, by rw [List.length_map]; exact h1, vs, vals_toV h2, _, e, rfl, _, rfl⟩
theorem seq_inj {c c' : Value} {vs us : List Value} (e : (some { cls := c, data := .seq vs.toArray } : Option Obj) = some { cls := c', data := .seq us.toArray }) : c = c' ∧ vs = us := by
  have e1 := Option.some.inj e
  have e2 : c = c' := congrArg Obj.cls e1
  have e3 : Data.seq vs.toArray = Data.seq us.toArray := congrArg Obj.data e1
  injection e3 with e4
  refine ⟨e2, ?_⟩
  have e5 := congrArg Array.toList e4
  simpa using e5
/-- a list argument -/
theorem argL (KX : K.In h) (ar : ∀ a ∈ A, ArgOb h A a) {a : Addr} {vs : List Value} (ha : a ∈ A) (e : h.get? a = some { cls := .type "list", data := .seq vs.toArray }) : (∀ u ∈ vs, OkU A u) ∧ SqL K (argH K h A) a (vs.map toV) := by
  obtain ⟨us, h1, h2, h3⟩ := ar a ha
  have hu : us = vs := by
    rcases h3 with q | q
    · rw [e] at q
      exact (seq_inj q).2.symm
    · rw [e] at q
      exact absurd (Value.type.inj (seq_inj q).1) (by decide)
  subst hu
  refine ⟨h2, ?_⟩
  cases hk : K.lookup a with
  | none => exact .inl (.inr ⟨_, by rw [argH_at ha hk e, hoOf_lst]⟩)
  | some o =>
    have e2 := KX a o hk
    rw [e] at e2
    obtain rfl := Option.some.inj e2
    exact .inr ⟨_, us.toArray, _, hk, rfl, rfl, rfl, by rw [List.size_toArray]; exact h1, by simpa using vals_toV h2⟩
theorem argT (KX : K.In h) (ar : ∀ a ∈ A, ArgOb h A a) {a : Addr} {vs : List Value} (ha : a ∈ A) (e : h.get? a = some { cls := .type "tuple", data := .seq vs.toArray }) : (∀ u ∈ vs, OkU A u) ∧ SqT K (argH K h A) a (vs.map toV) := by
  obtain ⟨us, h1, h2, h3⟩ := ar a ha
  have hu : us = vs := by
    rcases h3 with q | q
    · rw [e] at q
      exact absurd (Value.type.inj (seq_inj q).1) (by decide)
    · rw [e] at q
      exact (seq_inj q).2.symm
  subst hu
  refine ⟨h2, ?_⟩
  cases hk : K.lookup a with
  | none => exact .inl (.inr ⟨_, by rw [argH_at ha hk e, hoOf_tup]⟩)
  | some o =>
    have e2 := KX a o hk
    rw [e] at e2
    obtain rfl := Option.some.inj e2
    exact .inr ⟨_, us.toArray, _, hk, rfl, rfl, by rw [List.size_toArray]; exact h1, by simpa using vals_toV h2⟩
mutual
theorem dw_one {Pm : Params} (KX : K.In h) (ar : ∀ a ∈ A, ArgOb h A a) : ∀ (d : WData) (v : Value), Well Pm h v d → plW d = true → OkU A v → Dw K (argH K h A) (toV v) d
  | .none, _, x, _, _ => by
    cases x
    exact .non
  | .bool b, _, x, _, _ => by
    cases x
    exact .bl b
  | .int i, _, x, _, _ => by
    cases x
    exact .int i
  | .str s, _, x, _, _ => by
    cases x
    exact .str s
  | .bytes b, _, x, _, _ => by
    cases x
    have z := Dw.byt (K := K) (H := argH K h A) b.toArray
    exact z
  | .list ds, _, x, p, hu => by
    obtain ⟨a, vs, rfl, ho, hall⟩ := well_list x
    obtain ⟨h2, hs⟩ := argL KX ar hu ho
    exact .lst hs (dw_all KX ar ds _ hall p h2)
  | .tuple ds, _, x, p, hu => by
    obtain ⟨a, vs, rfl, ho, hall⟩ := well_tuple x
    obtain ⟨h2, hs⟩ := argT KX ar hu ho
    exact .tup hs (dw_all KX ar ds _ hall p h2)
  | .float _, _, _, p, _ => Bool.noConfusion (show false = true from p)
  | .dict _, _, _, p, _ => Bool.noConfusion (show false = true from p)
  | .bytearray _, _, _, p, _ => Bool.noConfusion (show false = true from p)
  | .set _, _, _, p, _ => Bool.noConfusion (show false = true from p)
  | .frozenset _, _, _, p, _ => Bool.noConfusion (show false = true from p)
  | .obj _ _, _, _, p, _ => Bool.noConfusion (show false = true from p)
theorem dw_all {Pm : Params} (KX : K.In h) (ar : ∀ a ∈ A, ArgOb h A a) : ∀ (ds : List WData) (vs : List Value), WellAll Pm h vs ds → plWs ds = true → (∀ u ∈ vs, OkU A u) → DwAll K (argH K h A) (vs.map toV) ds
  | [], _, x, _, _ => by
    cases x
    exact .nil
  | d :: ds, _, x, p, hu => by
    obtain ⟨v, vs, rfl, x1, x2⟩ := well_cons x
    have q : plW d = true ∧ plWs ds = true := Bool.and_eq_true_iff.mp p
    exact .cons (dw_one KX ar d v x1 q.1 (hu _ (List.mem_cons_self ..))) (dw_all KX ar ds vs x2 q.2 fun u m => hu u (List.mem_cons_of_mem _ m))
end
end
theorem spec_call {P : Program} {w : World} {K : PySem.W.Frag} {mg mb : Str → Option Value} {CX : CXT} {k : Nat} {fa : Addr} {fd : FuncData} {ps : List Str} {sp : Sp} {s₁ : Shared} {vals : List Value} {ds : List WData} {R : PySem.W.WRecords} {cl : Str → Option Addr} {d0 : WData}
    (KX : K.In s₁.heap) (hns : s₁.heap.Ns mainGlobals mg) (hb : s₁.heap.Ns builtinsNs mb) (hbb : ∀ x : Str, x ≠ "__name__" → mb x = bootBuiltins x) (hlim : s₁.heap.NoLimit) (hg : s₁.gens = #[])
    (hwl : WellAll w.params s₁.heap vals ds) (hpl : plWs ds = true) (hwt : ∀ d ∈ ds, d.weight ≤ 1048576) (hr : Room k callerA)
    (F : ∀ base : Heap, K.In base → base.Ns mainGlobals mg → FnOk P w K mg base CX k fa fd ps sp) (hbind : ∀ (s : Shared) (us : List Value), us.length = ps.length → BindsTo s fd ⟨us, []⟩ (ps.zip us)) (hlen : ds.length = ps.length)
    (hsp : ∀ (H : Hp) (xs : List V), OnlyF H → DwAll K H xs ds → sp xs H (fun v H' => Dw K H' v d0) fun _ _ _ => False)
    (hCX : ∀ H e s', CX [] H s₁ (fun _ _ _ => False) e s' → False) :
    codeAny (model P w) callerA (.call (.ref fa) ⟨vals, []⟩) (fun r s' => ∃ u as, r = .ok (.ret u) ∧ ReadsW R cl s'.heap u d0 as ∧ OldK s₁.heap s'.heap ∧ s'.os = s₁.os ∧ AllBare s'.gens) s₁ := by
  obtain ⟨A, ho, ar⟩ := area_all ds vals hwl hpl hwt
  have hO : OnlyF (argH K s₁.heap A) := argH_only ar
  have hok : HOk P w (argH K s₁.heap A) s₁.heap := argH_ok ar
  have hS := dw_all KX ar ds vals hwl hpl ho
  have hV := vals_toV ho
  have hK : ∀ b u, argH K s₁.heap A b = some u → K.lookup b = none := fun b u q => (argH_is ar q).1
  have noA : ∀ {b : Addr} {o : Obj} {es : Array DictEntry} {ep : Nat}, s₁.heap.get? b = some o → o.data = .dict es ep → argH K s₁.heap A b = none := fun {b o es ep} e d => by
    cases q : argH K s₁.heap A b with
    | none => rfl
    | some u =>
      obtain ⟨_, vs, _, _, ⟨e2, _⟩ | ⟨e2, _⟩⟩ := argH_is ar q
      · rw [e2] at e
        cases e
        have d' : Data.seq vs.toArray _ = Data.dict es ep := d
        cases d'
      · rw [e2] at e
        cases e
        have d' : Data.seq vs.toArray _ = Data.dict es ep := d
        cases d'
  generalize argH K s₁.heap A = H at hO hok hS hK noA
  have base_of : ∀ {b : Addr} {o : Obj}, s₁.heap.get? b = some o → H b = none → (hidT s₁.heap H).get? b = some o := fun e n => hidT_get e n
  have nsK : ∀ {b : Addr} {m : Str → Option Value}, s₁.heap.Ns b m → (hidT s₁.heap H).Ns b m := fun {b m} ⟨o, es, ep, e, d, r⟩ => ⟨o, es, ep, base_of e (noA e d), d, r⟩
  have nK : ∀ b o, K.lookup b = some o → H b = none := fun b o e => by
    cases q : H b with
    | none => rfl
    | some u =>
      rw [hK b u q] at e
      cases e
  have hKb : K.In (hidT s₁.heap H) := fun b o e => base_of (KX b o e) (nK b o e)
  have hM : Mod K mg (hidT s₁.heap H) := ⟨hKb, nsK hns, ⟨mb, nsK hb, hbb⟩, let ⟨mc, h1, h2⟩ := hlim; ⟨mc, nsK h1, h2⟩⟩
  have e0 : Env0 P w K mg (hidT s₁.heap H) callerA [] s₁ H := ⟨rfl, hM, fun b o e => of_hidT e, Nat.le_of_eq (hidT_size _ _), trivial, fun b hb => absurd (show b ∈ ([] : List Addr) from hb) (by simp), hok, .of_eq hg⟩
  have hl : vals.length = ps.length := by rw [wellAll_len hwl]; exact hlen
  refine codeAny_mono ((F _ hKb (nsK hns)).run callerA [] s₁ H ⟨vals, []⟩ vals (vals.map toV) _ _ hr e0 (hbind s₁ vals hl) hV (hsp H _ hO hS)) fun r s' x => ?_
  cases r with
  | error e => exact (hCX H e s' x).elim
  | ok fl =>
    cases fl with
    | next => exact False.elim x
    | brk => exact False.elim x
    | cont => exact False.elim x
    | ret u =>
      obtain ⟨v, H', os, bare, un, hok', r', q⟩ := x
      have kept : ∀ b o, s₁.heap.get? b = some o → s'.heap.get? b = some o := fun b o e => by
        cases q2 : H b with
        | none => exact un.keep b o e q2 (by intro z; exact absurd (show b ∈ ([] : List Addr) from z) (by simp)) (by simp)
        | some u2 =>
          rcases hO b with z | ⟨ob, u3, z⟩
          · rw [q2] at z
            cases z
          · have z2 := un.frzs b ob _ z
            obtain ⟨e1, _⟩ := hok b _ z
            obtain ⟨e2, _⟩ := hok' b _ z2
            rw [e] at e1
            cases e1
            exact e2
      have KX' : K.In s'.heap := fun b o e => kept b o (KX b o e)
      obtain ⟨as, hrd⟩ := Dw.reads (R := R) (cl := cl) hok' KX' d0 v u q r'
      exact ⟨u, as, rfl, hrd, OldK.of_keep kept, os, bare⟩
theorem layable_weight {ds : List WData} (h : WData.layableAll ds = true) : ∀ d ∈ ds, d.weight ≤ 1048576 := fun d hd =>
  (PySem.W.layableW_iff.mp (List.all_eq_true.mp h d hd)).2.2
theorem encAll_len : ∀ (cs : List Codec) (a : Codec.denoteAll cs), (Codec.encAll cs a).length = cs.length
  | [], _ => rfl
  | c :: cs, a => by
    show (Codec.encAll cs a.2).length + 1 = cs.length + 1
    rw [encAll_len cs a.2]
/-- the goal that k_headS leaves (case hc), from the promise of the row's def: whatever the arguments that the codecs let and the row asks for, the def gives what stands for enc (f ..) -/
theorem walk_spec {r : OpenSpec} {k : Nat} {q : Program} {loose : List Str} {XP : (Str → Option Value) → Heap → Prop} {YP : World → Heap → Prop} {d : DefRec} {K : Params → PySem.W.Frag} {CX : World → CXT} {ps : List Str} {sp : World → Sp}
    (hwell : r.wellSaid = true) (hdf : d.params.defaults = []) (hlen : r.args.length = ps.length) (hr : Room k callerA)
    (hY : ∀ (w : World) (h : Heap), YP w h → (K w.params).In h)
    (F : ∀ (w : World) (mg : Str → Option Value) (fa : Addr) (h : Heap), YP w h → (K w.params).In h → h.Ns mainGlobals mg → mg d.name = some (.ref fa) →
      ∃ fd : FuncData, (∀ (s : Shared) (us : List Value), us.length = ps.length → BindsTo s fd ⟨us, []⟩ (ps.zip us)) ∧
        ∀ base : Heap, (K w.params).In base → base.Ns mainGlobals mg → FnOk r.prog w (K w.params) mg base (CX w) k fa fd ps (sp w))
    (hsp : ∀ (w : World) (H : Hp) (xs : List V) (a : Codec.denoteAll r.args), OnlyF H → Codec.withinAll r.args a = true → Codec.app r.args r.asked a = true → DwAll (K w.params) H xs (Codec.encAll r.args a) →
      sp w xs H (fun v H' => Dw (K w.params) H' v (r.ret.enc (Codec.app r.args r.f a))) fun _ _ _ => False)
    (hCX : ∀ (w : World) (H : Hp) (s : Shared) (e : Value) (s' : Shared), CX w [] H s (fun _ _ _ => False) e s' → False) :
    PySem.W.WalkOS q loose XP YP r d [] (fun f vs => PySem.call f vs) := by
  intro w s_0 s₁ mg mb G Y fa o pm cd doc dV kV ho hd hcd hD hmg hg args vals as hpre hlay hrd hwl hlo
  obtain ⟨a, e1, e2⟩ := PySem.W.os_pre_some hpre
  obtain ⟨e3, hwi⟩ := Codec.encAll_of_decAll r.args args a e1
  subst e3
  have KX := hY w _ Y
  obtain ⟨fd, hb, hF⟩ := F w mg fa _ Y KX G.T.g hmg
  refine PySem.W.enter_call (codeAny_mono (spec_call (R := []) (cl := classAt s_0.heap) (d0 := r.ret.enc (Codec.app r.args r.f a)) KX G.T.g G.T.b G.T.builtins G.T.nolimit hg hwl (pl_encAll _ _) (layable_weight hlay) hr hF hb (by rw [encAll_len]; exact hlen)
    (fun H xs hO hS => hsp w H xs a hO hwi e2 hS) fun H e s' => hCX w H s₁ e s') fun r' s' hq => ?_)
  obtain ⟨u, as', rfl, h1, h2, h3, h4⟩ := hq
  exact ⟨.inl ⟨u, _, as', rfl, fun _ => rfl, h1, (OpenSpec.post_iff hwell hwi _ _).mpr rfl, fun z => Bool.noConfusion (show false = true from z)⟩, h2, h3, h4⟩
/-- the same where the promise hangs on the written part alone -/
theorem walk_specK {r : OpenSpec} {k : Nat} {q : Program} {loose : List Str} {XP : (Str → Option Value) → Heap → Prop} {YP : World → Heap → Prop} {d : DefRec} {K : Params → PySem.W.Frag} {CX : CXT} {ps : List Str} {sp : PySem.W.Frag → Sp}
    (hwell : r.wellSaid = true) (hdf : d.params.defaults = []) (hlen : r.args.length = ps.length) (hr : Room k callerA)
    (hY : ∀ (w : World) (h : Heap), YP w h → (K w.params).In h)
    (F : ∀ (w : World) (mg : Str → Option Value) (fa : Addr) (h : Heap), YP w h → (K w.params).In h → h.Ns mainGlobals mg → mg d.name = some (.ref fa) →
      ∃ fd : FuncData, (∀ (s : Shared) (us : List Value), us.length = ps.length → BindsTo s fd ⟨us, []⟩ (ps.zip us)) ∧
        ∀ base : Heap, (K w.params).In base → base.Ns mainGlobals mg → FnOk r.prog w (K w.params) mg base CX k fa fd ps (sp (K w.params)))
    (hsp : ∀ (K : PySem.W.Frag) (H : Hp) (xs : List V) (a : Codec.denoteAll r.args), OnlyF H → Codec.withinAll r.args a = true → Codec.app r.args r.asked a = true → DwAll K H xs (Codec.encAll r.args a) →
      sp K xs H (fun v H' => Dw K H' v (r.ret.enc (Codec.app r.args r.f a))) fun _ _ _ => False)
    (hCX : ∀ (H : Hp) (s : Shared) (e : Value) (s' : Shared), CX [] H s (fun _ _ _ => False) e s' → False) :
    PySem.W.WalkOS q loose XP YP r d [] (fun f vs => PySem.call f vs) :=
  walk_spec (K := K) (CX := fun _ => CX) (sp := fun w => sp (K w.params)) hwell hdf hlen hr hY F (fun w H xs a h1 h2 h3 h4 => hsp (K w.params) H xs a h1 h2 h3 h4) fun _ H s e s' => hCX H s e s'
end L2
end
set_option Elab.async false
set_option linter.all false
set_option maxRecDepth 100000
set_option maxHeartbeats 4000000
set_option Elab.async false
namespace Sg
open Gh
def tk (k : UInt8) : Bytes → Bool × Bytes
  | [] => (false, [])
  | c :: r => if c = k then (true, r) else (false, c :: r)
def tp (p : UInt8 → Bool) : Bytes → UInt8 × Bytes
  | [] => (0, [])
  | c :: r => if p c = true then (c, r) else (0, c :: r)
def isD1 (c : UInt8) : Bool := decide (49 ≤ c.toNat) && decide (c.toNat ≤ 57)
def letters (r : Bytes) : Option (UInt8 × UInt8) × Bytes :=
  if (tp isBig r).1 = 0 then (none, (tp isBig r).2) else (some ((tp isBig r).1, (tp isSmall (tp isBig r).2).1), (tp isSmall (tp isBig r).2).2)
def numLoop : Nat → Nat → UInt8 → Bytes → Nat × Bytes
  | 0, n, _, r => (n, r)
  | f + 1, n, d, r => if d = 0 then (n, r) else
    numLoop f (n * 10 + (d.toNat - 48)) (if f = 0 then (0, r) else tp isDigit r).1 (if f = 0 then (0, r) else tp isDigit r).2
def number (r : Bytes) : Nat × Bytes := numLoop 3 0 (tp isD1 r).1 (tp isD1 r).2
def nameBehind (c s : UInt8) (r : Bytes) : Option Name × Bytes :=
  if (number r).1 = 0 then (none, (number r).2) else (some ⟨c, s, (number r).1, (tp isSmall (number r).2).1⟩, (tp isSmall (number r).2).2)
def readName (r : Bytes) : Option Name × Bytes := match letters r with
  | (none, q) => (none, q)
  | (some x, q) => nameBehind x.1 x.2 q
def readNames : Nat → List Name → Bytes → Option (List Name) × Bytes
  | 0, _, r => (none, r)
  | f + 1, had, r => match readName r with
    | (none, q) => (none, q)
    | (some n, q) => if (tk 125 q).1 = true then (some (had ++ [n]), (tk 125 q).2)
      else if f = 0 then (none, q)
      else if (tk 44 q).1 = true then readNames f (had ++ [n]) (tk 44 q).2 else (none, q)
def nameOrClass (d : Bool) (r : Bytes) : Option Atom × Bytes := match letters r with
  | (none, q) => (none, q)
  | (some x, q) => if (tk 42 q).1 = true then (some (.one d (.class_ x.1 x.2)), (tk 42 q).2) else match nameBehind x.1 x.2 q with
    | (none, u) => (none, u)
    | (some n, u) => (some (.one d (.name n)), u)
def dots (d : Bool) (r : Bytes) : Atom × Bytes := if d = false ∧ (tk 46 r).1 = true then (.run, (tk 46 r).2) else (.one d .any, r)
def atomAt (d : Bool) (r : Bytes) : Option Atom × Bytes :=
  if (tk 46 r).1 = true then (some (dots d (tk 46 r).2).1, (dots d (tk 46 r).2).2)
  else if (tk 61 r).1 = true then ((readName (tk 61 r).2).1.map fun n => .one d (.alike n), (readName (tk 61 r).2).2)
  else if (tk 123 r).1 = true then ((readNames 16 [] (tk 123 r).2).1.map fun l => .one d (.among l), (readNames 16 [] (tk 123 r).2).2)
  else nameOrClass d r
def readAtom (r : Bytes) : Option Atom × Bytes := atomAt (tk 33 r).1 (tk 33 r).2
def pat : Nat → List Atom → Bytes → Option (List Atom) × Bytes
  | 0, _, r => (none, r)
  | f + 1, A, r => match readAtom r with
    | (none, q) => (none, q)
    | (some a, q) => if q = [] then (some (A ++ [a]), q)
      else if f = 0 then (none, q)
      else if (tk 32 q).1 = true then pat f (A ++ [a]) (tk 32 q).2 else (none, q)
theorem digit_small {c : UInt8} (h : isDigit c = true) : isSmall c = false := by
  unfold isDigit at h; unfold isSmall
  simp only [Bool.and_eq_true, decide_eq_true_eq] at h
  simp only [Bool.and_eq_false_iff, decide_eq_false_iff_not]; omega
theorem small_digit {c : UInt8} (h : isSmall c = true) : isDigit c = false := by
  cases e : isDigit c with
  | false => rfl
  | true => rw [digit_small e] at h; cases h
theorem small_ne {c : UInt8} (h : isSmall c = true) : c ≠ 0 := by rintro rfl; exact absurd h (by decide)
theorem big_ne {c : UInt8} (h : isBig c = true) : c ≠ 0 := by rintro rfl; exact absurd h (by decide)
theorem digit_ne {c : UInt8} (h : isDigit c = true) : c ≠ 0 := by rintro rfl; exact absurd h (by decide)
theorem d1_digit {c : UInt8} (h : isD1 c = true) : isDigit c = true ∧ c ≠ 48 := by
  unfold isD1 at h; unfold isDigit
  simp only [Bool.and_eq_true, decide_eq_true_eq] at h ⊢
  refine ⟨by omega, ?_⟩
  rintro rfl
  exact absurd h.1 (by decide)
theorem digit_d1 {c : UInt8} (h : isDigit c = true) (n : c ≠ 48) : isD1 c = true := by
  unfold isDigit at h; unfold isD1
  simp only [Bool.and_eq_true, decide_eq_true_eq] at h ⊢
  have : c.toNat ≠ 48 := fun e => n (UInt8.toNat_inj.mp e)
  omega
def optL (s : UInt8) : Bytes := if s = 0 then [] else [s]
def optS (s : UInt8) : Prop := s = 0 ∨ isSmall s = true
/-- the head of what is left is no byte that p takes -/
def NoHead (p : UInt8 → Bool) (r : Bytes) : Prop := ∀ c v, r = c :: v → p c = false
theorem takeWhile_app {p : UInt8 → Bool} : ∀ {ds t : Bytes}, ds.all p = true → NoHead p t → (ds ++ t).takeWhile p = ds
  | [], [], _, _ => rfl
  | [], c :: v, _, n => by
    show List.takeWhile p (c :: v) = []
    rw [List.takeWhile_cons, n c v rfl]; rfl
  | d :: ds, t, h, n => by
    rw [List.all_cons, Bool.and_eq_true] at h
    show List.takeWhile p (d :: (ds ++ t)) = d :: ds
    rw [List.takeWhile_cons, h.1, takeWhile_app h.2 n]; rfl
def strip1 (r : Bytes) : Bytes := match r with
  | x :: v => if isSmall x = true then v else r
  | [] => r
theorem strip1_cons (x : UInt8) (v : Bytes) : strip1 (x :: v) = if isSmall x = true then v else x :: v := rfl
def first1 (r : Bytes) : UInt8 := match r with
  | x :: _ => if isSmall x = true then x else 0
  | [] => 0
theorem goes_def (c : UInt8) (r : Bytes) : nameGoes (c :: r) = (isBig c && (decide (((strip1 r).takeWhile isDigit).length ≤ 3) && (((strip1 r).takeWhile isDigit).head? != some (48 : UInt8) &&
    (((strip1 r).drop ((strip1 r).takeWhile isDigit).length).isEmpty || (!((strip1 r).takeWhile isDigit).isEmpty && (decide (((strip1 r).drop ((strip1 r).takeWhile isDigit).length).length = 1) && ((strip1 r).drop ((strip1 r).takeWhile isDigit).length).all isSmall)))))) := by
  cases r <;> rfl
theorem strip_of {s : UInt8} {t : Bytes} (hs : optS s) (n : s = 0 → NoHead isSmall t) : strip1 (optL s ++ t) = t := by
  rcases hs with rfl | hs
  · show strip1 t = t
    cases t with
    | nil => rfl
    | cons c v => rw [strip1_cons, n rfl c v rfl]; rfl
  · rw [show optL s = [s] from if_neg (small_ne hs)]
    show strip1 (s :: t) = t
    rw [strip1_cons, if_pos hs]
theorem first_of {s : UInt8} {t : Bytes} (hs : optS s) (n : s = 0 → NoHead isSmall t) : first1 (optL s ++ t) = s := by
  rcases hs with rfl | hs
  · show first1 t = 0
    cases t with
    | nil => rfl
    | cons c v =>
      show (if isSmall c = true then c else 0) = 0
      rw [n rfl c v rfl]; rfl
  · rw [show optL s = [s] from if_neg (small_ne hs)]
    show (if isSmall s = true then s else 0) = s
    rw [if_pos hs]
theorem nosmall {s : UInt8} {ds t : Bytes} (hd : ds.all isDigit = true) (m : s = 0 → ds = [] → NoHead isSmall t) : s = 0 → NoHead isSmall (ds ++ t) := fun e x v q => by
  cases ds with
  | nil => exact m e rfl x v q
  | cons d ds =>
    rw [List.all_cons, Bool.and_eq_true] at hd
    cases q
    exact digit_small hd.1
theorem goes_eq {c s : UInt8} {ds t : Bytes} (hc : isBig c = true) (hs : optS s) (hd : ds.all isDigit = true) (n : NoHead isDigit t) (m : s = 0 → ds = [] → NoHead isSmall t) :
    nameGoes (c :: (optL s ++ (ds ++ t))) = (decide (ds.length ≤ 3) && (ds.head? != some (48 : UInt8) && (t.isEmpty || (!ds.isEmpty && (decide (t.length = 1) && t.all isSmall))))) := by
  rw [goes_def, strip_of hs (nosmall hd m), takeWhile_app hd n, List.drop_left, hc, Bool.true_and]
theorem nameOf_def (c : UInt8) (r : Bytes) : nameOf (c :: r) =
    (let r' := if first1 r = 0 then r else r.drop 1
     let d := r'.takeWhile isDigit
     let k := r'.drop d.length
     let n : Name := ⟨c, first1 r, numberOf d, k.headD 0⟩
     if d ≠ [] ∧ d.length ≤ 3 ∧ d.head? ≠ some 48 ∧ k.length ≤ 1 ∧ n.right = true ∧ n.text = c :: r then some n else none) := by
  cases r <;> rfl
theorem drop_of {s : UInt8} {t : Bytes} : (if s = 0 then optL s ++ t else (optL s ++ t).drop 1) = t := by
  by_cases e : s = 0
  · rw [if_pos e, show optL s = [] from if_pos e]; rfl
  · rw [if_neg e, show optL s = [s] from if_neg e]; rfl
theorem dig_val {c : UInt8} (h : isDigit c = true) : ∃ d : Nat, d < 10 ∧ c.toNat = 48 + d ∧ c = UInt8.ofNat (48 + d) := by
  unfold isDigit at h
  simp only [Bool.and_eq_true, decide_eq_true_eq] at h
  refine ⟨c.toNat - 48, by omega, by omega, ?_⟩
  rw [show 48 + (c.toNat - 48) = c.toNat by omega, UInt8.ofNat_toNat]
theorem decF_one {f d : Nat} (h : d < 10) : decimalFrom (f + 1) d = [UInt8.ofNat (48 + d)] := by
  show (if d < 10 then [] else _) ++ [UInt8.ofNat (48 + d % 10)] = _
  rw [if_pos h, Nat.mod_eq_of_lt h]; rfl
theorem decF_more {f n d : Nat} (h : d < 10) (hn : 1 ≤ n) : decimalFrom (f + 1) (10 * n + d) = decimalFrom f n ++ [UInt8.ofNat (48 + d)] := by
  show (if 10 * n + d < 10 then [] else decimalFrom f ((10 * n + d) / 10)) ++ [UInt8.ofNat (48 + (10 * n + d) % 10)] = _
  rw [if_neg (by omega), show (10 * n + d) / 10 = n by omega, show (10 * n + d) % 10 = d by omega]
theorem decimal_numberOf : ∀ {ds : Bytes}, ds.all isDigit = true → ds ≠ [] → ds.length ≤ 3 → ds.head? ≠ some 48 → decimal (numberOf ds) = ds ∧ 1 ≤ numberOf ds ∧ numberOf ds ≤ 999
  | [], _, h, _, _ => absurd rfl h
  | [a], h, _, _, z => by
    simp only [List.all_cons, List.all_nil, Bool.and_true] at h
    obtain ⟨d, h1, h2, h3⟩ := dig_val h
    have hz : a ≠ 48 := fun e => z (by rw [e]; rfl)
    have e : numberOf [a] = d := by show 10 * 0 + (a.toNat - 48) = d; omega
    have d0 : d ≠ 0 := fun q => hz (by rw [h3, q]; rfl)
    rw [e]
    exact ⟨by unfold decimal; rw [decF_one h1, h3], by omega, by omega⟩
  | [a, b], h, _, _, z => by
    simp only [List.all_cons, List.all_nil, Bool.and_true, Bool.and_eq_true] at h
    obtain ⟨d, h1, h2, h3⟩ := dig_val h.1
    obtain ⟨d', h1', h2', h3'⟩ := dig_val h.2
    have hz : a ≠ 48 := fun e => z (by rw [e]; rfl)
    have e : numberOf [a, b] = 10 * d + d' := by show 10 * (10 * 0 + (a.toNat - 48)) + (b.toNat - 48) = _; omega
    have d0 : d ≠ 0 := fun q => hz (by rw [h3, q]; rfl)
    rw [e]
    refine ⟨?_, by omega, by omega⟩
    unfold decimal
    rw [decF_more h1' (by omega), show 10 * d + d' = (10 * d + d' - 1) + 1 by omega, decF_one h1, h3, h3']; rfl
  | [a, b, c], h, _, _, z => by
    simp only [List.all_cons, List.all_nil, Bool.and_true, Bool.and_eq_true] at h
    obtain ⟨d, h1, h2, h3⟩ := dig_val h.1
    obtain ⟨d', h1', h2', h3'⟩ := dig_val h.2.1
    obtain ⟨d'', h1'', h2'', h3''⟩ := dig_val h.2.2
    have hz : a ≠ 48 := fun e => z (by rw [e]; rfl)
    have e : numberOf [a, b, c] = 10 * (10 * d + d') + d'' := by show 10 * (10 * (10 * 0 + (a.toNat - 48)) + (b.toNat - 48)) + (c.toNat - 48) = _; omega
    have d0 : d ≠ 0 := fun q => hz (by rw [h3, q]; rfl)
    rw [e]
    refine ⟨?_, by omega, by omega⟩
    unfold decimal
    rw [decF_more h1'' (by omega), show 10 * (10 * d + d') + d'' = (10 * (10 * d + d') + d'' - 2) + 1 + 1 by omega, decF_more h1' (by omega), decF_one h1, h3, h3', h3'']; rfl
  | _ :: _ :: _ :: _ :: _, _, _, h, _ => absurd h (by simp only [List.length_cons]; omega)
theorem optL_len (s : UInt8) : (optL s).length ≤ 1 := by unfold optL; split <;> simp
theorem optL_head (s : UInt8) : (optL s).headD 0 = s := by
  unfold optL
  split
  · rename_i h; rw [h]; rfl
  · rfl
theorem optL_nohead {s : UInt8} (hs : optS s) : NoHead isDigit (optL s) := fun c v q => by
  rcases hs with rfl | hs
  · cases q
  · rw [show optL s = [s] from if_neg (small_ne hs)] at q
    cases q
    exact small_digit hs
/-- a whole name -/
theorem nameOf_whole {c s k : UInt8} {ds : Bytes} (hc : isBig c = true) (hs : optS s) (hk : optS k) (hd : ds.all isDigit = true) (h1 : ds ≠ []) (h3 : ds.length ≤ 3) (h0 : ds.head? ≠ some 48) :
    nameOf (c :: (optL s ++ (ds ++ optL k))) = some ⟨c, s, numberOf ds, k⟩ := by
  have m : s = 0 → NoHead isSmall (ds ++ optL k) := nosmall hd fun _ e => absurd e h1
  obtain ⟨e1, e2, e3⟩ := decimal_numberOf hd h1 h3 h0
  rw [nameOf_def, first_of hs m]
  dsimp only
  rw [drop_of, takeWhile_app hd (optL_nohead hk), List.drop_left, optL_head]
  refine if_pos ⟨h1, h3, h0, optL_len k, ?_, ?_⟩
  · have a1 : (s == 0 || isSmall s) = true := by rcases hs with rfl | h <;> simp [*]
    have a2 : (k == 0 || isSmall k) = true := by rcases hk with rfl | h <;> simp [*]
    show (isBig c && ((s == 0 || isSmall s) && (decide (1 ≤ numberOf ds) && (decide (numberOf ds ≤ 999) && (k == 0 || isSmall k))))) = true
    rw [hc, a1, a2, decide_eq_true e2, decide_eq_true e3]; rfl
  · show c :: (optL s ++ (decimal (numberOf ds) ++ optL k)) = _
    rw [e1]
/-- letters alone are none -/
theorem nameOf_letters {c s : UInt8} (hs : optS s) : nameOf (c :: (optL s ++ [])) = none := by
  have m : s = 0 → NoHead isSmall [] := fun _ _ _ q => by cases q
  rw [nameOf_def, first_of hs m]
  dsimp only
  rw [drop_of]
  exact if_neg fun h => h.1 rfl
theorem classOf_letters {c s : UInt8} (hc : isBig c = true) (hs : optS s) : classOf (c :: (optL s ++ [])) = some (.class_ c s) := by
  rcases hs with rfl | hs
  · show (if isBig c = true then some (One.class_ c 0) else none) = _
    rw [if_pos hc]
  · rw [show optL s = [s] from if_neg (small_ne hs)]
    show (if isBig c = true ∧ isSmall s = true then some (One.class_ c s) else none) = _
    rw [if_pos ⟨hc, hs⟩]
theorem classOf_name {c s : UInt8} {ds t : Bytes} (hs : optS s) (hd : ds.all isDigit = true) (h1 : ds ≠ []) : classOf (c :: (optL s ++ (ds ++ t))) = none := by
  cases ds with
  | nil => exact absurd rfl h1
  | cons d ds =>
    rw [List.all_cons, Bool.and_eq_true] at hd
    rcases hs with rfl | hs
    · show classOf (c :: d :: (ds ++ t)) = none
      cases hh : ds ++ t with
      | nil =>
        show (if isBig c = true ∧ isSmall d = true then some (One.class_ c d) else none) = none
        rw [if_neg fun h => by rw [digit_small hd.1] at h; cases h.2]
      | cons => rfl
    · rw [show optL s = [s] from if_neg (small_ne hs)]
      rfl
theorem tk_cons (k c : UInt8) (r : Bytes) : tk k (c :: r) = if c = k then (true, r) else (false, c :: r) := rfl
theorem tp_cons (p : UInt8 → Bool) (c : UInt8) (r : Bytes) : tp p (c :: r) = if p c = true then (c, r) else (0, c :: r) := rfl
theorem tk_le (k : UInt8) (r : Bytes) : (tk k r).2.length ≤ r.length := by
  cases r with
  | nil => exact Nat.le_refl _
  | cons c v =>
    rw [tk_cons]
    split
    · exact Nat.le_succ _
    · exact Nat.le_refl _
theorem tk_no {k : UInt8} {r : Bytes} (h : ¬ (tk k r).1 = true) : (tk k r).2 = r := by
  cases r with
  | nil => rfl
  | cons c v =>
    by_cases e : c = k
    · exact absurd (by rw [tk_cons, if_pos e]) h
    · rw [tk_cons, if_neg e]
theorem tp_le (p : UInt8 → Bool) (r : Bytes) : (tp p r).2.length ≤ r.length := by
  cases r with
  | nil => exact Nat.le_refl _
  | cons c v =>
    rw [tp_cons]
    split
    · exact Nat.le_succ _
    · exact Nat.le_refl _
theorem numLoop_le : ∀ (f n : Nat) (d : UInt8) (r : Bytes), (numLoop f n d r).2.length ≤ r.length
  | 0, _, _, _ => Nat.le_refl _
  | f + 1, n, d, r => by
    unfold numLoop
    split
    · exact Nat.le_refl _
    · refine Nat.le_trans (numLoop_le f _ _ _) ?_
      split
      · exact Nat.le_refl _
      · exact tp_le _ _
theorem number_le (r : Bytes) : (number r).2.length ≤ r.length := Nat.le_trans (numLoop_le _ _ _ _) (tp_le _ _)
theorem nameBehind_le (c s : UInt8) (r : Bytes) : (nameBehind c s r).2.length ≤ r.length := by
  unfold nameBehind
  split
  · exact number_le r
  · exact Nat.le_trans (tp_le _ _) (number_le r)
theorem letters_le (r : Bytes) : (letters r).2.length ≤ r.length := by
  unfold letters
  split
  · exact tp_le _ _
  · exact Nat.le_trans (tp_le _ _) (tp_le _ _)
theorem readName_le (r : Bytes) : (readName r).2.length ≤ r.length := by
  have h := letters_le r
  unfold readName
  split
  · rename_i q e; rw [e] at h; exact h
  · rename_i x q e; rw [e] at h; exact Nat.le_trans (nameBehind_le _ _ _) h
theorem readNames_le : ∀ (f : Nat) (had : List Name) (r : Bytes), (readNames f had r).2.length ≤ r.length
  | 0, _, _ => Nat.le_refl _
  | f + 1, had, r => by
    have h := readName_le r
    unfold readNames
    split
    · rename_i q e; rw [e] at h; exact h
    · rename_i n q e; rw [e] at h
      split
      · exact Nat.le_trans (tk_le _ _) h
      · split
        · exact h
        · split
          · exact Nat.le_trans (readNames_le f _ _) (Nat.le_trans (tk_le _ _) h)
          · exact h
theorem nameOrClass_le (d : Bool) (r : Bytes) : (nameOrClass d r).2.length ≤ r.length := by
  have h := letters_le r
  unfold nameOrClass
  split
  · rename_i q e; rw [e] at h; exact h
  · rename_i x q e; rw [e] at h
    split
    · exact Nat.le_trans (tk_le _ _) h
    · have h2 := nameBehind_le x.1 x.2 q
      split
      · rename_i u e2; rw [e2] at h2; exact Nat.le_trans h2 h
      · rename_i n u e2; rw [e2] at h2; exact Nat.le_trans h2 h
theorem dots_le (d : Bool) (r : Bytes) : (dots d r).2.length ≤ r.length := by
  unfold dots
  split
  · exact tk_le _ _
  · exact Nat.le_refl _
theorem atomAt_le (d : Bool) (r : Bytes) : (atomAt d r).2.length ≤ r.length := by
  unfold atomAt
  split
  · exact Nat.le_trans (dots_le _ _) (tk_le _ _)
  · split
    · exact Nat.le_trans (readName_le _) (tk_le _ _)
    · split
      · exact Nat.le_trans (readNames_le _ _ _) (tk_le _ _)
      · exact nameOrClass_le _ _
theorem readAtom_le (r : Bytes) : (readAtom r).2.length ≤ r.length := Nat.le_trans (atomAt_le _ _) (tk_le _ _)
theorem numberOf_snoc (ds : Bytes) (d : UInt8) : numberOf (ds ++ [d]) = 10 * numberOf ds + (d.toNat - 48) := by
  unfold numberOf; rw [List.foldl_append]; rfl
theorem tp_cases (p : UInt8 → Bool) (r : Bytes) : ((tp p r).1 = 0 ∧ (tp p r).2 = r ∧ NoHead p r) ∨ (∃ c, p c = true ∧ r = c :: (tp p r).2 ∧ (tp p r).1 = c) := by
  cases r with
  | nil => exact .inl ⟨rfl, rfl, fun _ _ q => by cases q⟩
  | cons c v =>
    by_cases e : p c = true
    · refine .inr ⟨c, e, ?_, ?_⟩ <;> (rw [tp_cons, if_pos e])
    · refine .inl ⟨?_, ?_, fun x u q => by cases q; exact Bool.eq_false_iff.mpr e⟩ <;> (rw [tp_cons, if_neg e])
theorem all_snoc {p : UInt8 → Bool} {ds : Bytes} {d : UInt8} (h : ds.all p = true) (e : p d = true) : (ds ++ [d]).all p = true := by
  rw [List.all_append, h, Bool.true_and, List.all_cons, e]; rfl
theorem head_snoc {ds : Bytes} {d : UInt8} (h : ds.head? ≠ some 48) (e : ds = [] → d ≠ 48) : (ds ++ [d]).head? ≠ some 48 := by
  cases ds with
  | nil => intro z; exact e rfl (Option.some.inj z)
  | cons a ds => exact h
theorem numLoop_spec : ∀ (f : Nat) (ds : Bytes) (d : UInt8) (r : Bytes), ds.all isDigit = true → ds.head? ≠ some 48 → ds.length + f = 3 → (d = 0 ∨ (isDigit d = true ∧ (ds = [] → d ≠ 48))) → (d ≠ 0 → f ≠ 0) →
    ∃ es q, numLoop f (numberOf ds) d r = (numberOf (ds ++ es), q) ∧ (ds ++ es).all isDigit = true ∧ (ds ++ es).length ≤ 3 ∧ (ds ++ es).head? ≠ some 48 ∧ (d = 0 → es = [] ∧ q = r) ∧ (d ≠ 0 → (∃ es', es = d :: es' ∧ r = es' ++ q) ∧ ((ds ++ es).length < 3 → NoHead isDigit q))
  | 0, ds, d, r, ha, hh, hf, hd, hz => by
    have d0 : d = 0 := by
      rcases hd with h | h
      · exact h
      · by_cases e : d = 0
        · exact e
        · exact absurd rfl (hz e)
    refine ⟨[], r, by rw [List.append_nil]; rfl, by rw [List.append_nil]; exact ha, by rw [List.append_nil]; omega, by rw [List.append_nil]; exact hh, fun _ => ⟨rfl, rfl⟩, fun h => absurd d0 h⟩
  | f + 1, ds, d, r, ha, hh, hf, hd, hz => by
    by_cases d0 : d = 0
    · refine ⟨[], r, by unfold numLoop; rw [if_pos d0, List.append_nil], by rw [List.append_nil]; exact ha, by rw [List.append_nil]; omega, by rw [List.append_nil]; exact hh, fun _ => ⟨rfl, rfl⟩, fun h => absurd d0 h⟩
    · obtain ⟨hdd, h48⟩ : isDigit d = true ∧ (ds = [] → d ≠ 48) := by
        rcases hd with h | h
        · exact absurd h d0
        · exact h
      have eN : numberOf ds * 10 + (d.toNat - 48) = numberOf (ds ++ [d]) := by rw [numberOf_snoc]; omega
      have hl : (ds ++ [d]).length + f = 3 := by rw [List.length_append]; simp only [List.length_cons, List.length_nil]; omega
      have ha' := all_snoc ha hdd
      have hh' := head_snoc hh h48
      have nn : ds ++ [d] ≠ [] := by simp
      unfold numLoop
      rw [if_neg d0, eN]
      by_cases f0 : f = 0
      · rw [if_pos f0]
        obtain ⟨es, q, e1, e2, e3, e4, e5, e6⟩ := numLoop_spec f (ds ++ [d]) 0 r ha' hh' hl (.inl rfl) (fun z => absurd rfl z)
        obtain ⟨rfl, rfl⟩ := e5 rfl
        rw [List.append_assoc] at e1 e2 e3 e4
        refine ⟨[d] ++ [], q, e1, e2, e3, e4, fun h => absurd h d0, fun _ => ⟨⟨[], rfl, rfl⟩, fun z => ?_⟩⟩
        rw [List.append_nil] at z
        omega
      · rw [if_neg f0]
        rcases tp_cases isDigit r with ⟨h1, h2, h3⟩ | ⟨c, hc, hr, h1⟩
        · rw [h1, h2]
          obtain ⟨es, q, e1, e2, e3, e4, e5, e6⟩ := numLoop_spec f (ds ++ [d]) 0 r ha' hh' hl (.inl rfl) (fun z => absurd rfl z)
          obtain ⟨rfl, rfl⟩ := e5 rfl
          rw [List.append_assoc] at e1 e2 e3 e4
          exact ⟨[d] ++ [], q, e1, e2, e3, e4, fun h => absurd h d0, fun _ => ⟨⟨[], rfl, rfl⟩, fun _ => h3⟩⟩
        · rw [h1]
          obtain ⟨es, q, e1, e2, e3, e4, e5, e6⟩ := numLoop_spec f (ds ++ [d]) c (tp isDigit r).2 ha' hh' hl (.inr ⟨hc, fun z => absurd z nn⟩) (fun _ => f0)
          obtain ⟨⟨es', rfl, e7⟩, e8⟩ := e6 (digit_ne hc)
          rw [List.append_assoc] at e1 e2 e3 e4 e8
          refine ⟨[d] ++ c :: es', q, e1, e2, e3, e4, fun h => absurd h d0, fun _ => ⟨⟨c :: es', rfl, ?_⟩, e8⟩⟩
          rw [hr, e7]; rfl
/-- the digits that the number takes -/
theorem number_spec (r : Bytes) : ∃ es q, number r = (numberOf es, q) ∧ es.all isDigit = true ∧ es.length ≤ 3 ∧ es.head? ≠ some 48 ∧ r = es ++ q ∧ (es = [] → NoHead isD1 q) ∧ (es ≠ [] → es.length < 3 → NoHead isDigit q) := by
  unfold number
  rcases tp_cases isD1 r with ⟨h1, h2, h3⟩ | ⟨c, hc, hr, h1⟩
  · rw [h1, h2]
    exact ⟨[], r, rfl, rfl, by decide, (by intro z; cases z), rfl, fun _ => h3, fun z => absurd rfl z⟩
  · rw [h1]
    have cd := d1_digit hc
    obtain ⟨es, q, e1, e2, e3, e4, e5, e6⟩ := numLoop_spec 3 [] c (tp isD1 r).2 rfl (by intro z; cases z) rfl (.inr ⟨cd.1, fun _ => cd.2⟩) (fun _ => by decide)
    obtain ⟨⟨es', rfl, e7⟩, e8⟩ := e6 (digit_ne cd.1)
    refine ⟨c :: es', q, e1, e2, e3, e4, ?_, (fun z => by cases z), fun _ => e8⟩
    rw [hr, e7]; rfl
def R (T : Nat) (z : Sought) (r : Bytes) : Except Nat Pattern := match seek z (T - r.length) r with
  | .error p => .error p
  | .ok y => match y.last with
    | some a => .ok (y.atoms ++ [a])
    | none => .error T
theorem R_nil (T : Nat) (z : Sought) : R T z [] = match z.last with
    | some a => .ok (z.atoms ++ [a])
    | none => .error T := rfl
theorem R_none {T : Nat} {z : Sought} {c : UInt8} {r : Bytes} (e : z.step c = none) : R T z (c :: r) = .error (T - (r.length + 1)) := by
  unfold R
  show (match (match z.step c with
    | none => Except.error (T - (r.length + 1))
    | some y => seek y (T - (r.length + 1) + 1) r) with
    | .error p => Except.error p
    | .ok y => _) = _
  rw [e]
theorem R_some {T : Nat} {z y : Sought} {c : UInt8} {r : Bytes} (e : z.step c = some y) (h : r.length + 1 ≤ T) : R T z (c :: r) = R T y r := by
  unfold R
  show (match (match z.step c with
    | none => Except.error (T - (r.length + 1))
    | some y => seek y (T - (r.length + 1) + 1) r) with
    | .error p => Except.error p
    | .ok y => _) = _
  rw [e, show T - r.length = T - (r.length + 1) + 1 by omega]
def after (T : Nat) (A : Pattern) (a : Atom) (q : Bytes) : Except Nat Pattern := match q with
  | [] => .ok (A ++ [a])
  | c :: r => if c = 32 ∧ A.length + 1 < ATOMS then R T ⟨A ++ [a], .atom⟩ r else .error (T - (r.length + 1))
def res (T : Nat) (A : Pattern) (x : Option Atom × Bytes) : Except Nat Pattern := match x.1 with
  | none => .error (T - x.2.length)
  | some a => after T A a x.2
theorem R_behind {T : Nat} {A : Pattern} {a : Atom} {rd : Reads} {c : UInt8} {r : Bytes} (e : (⟨A, rd⟩ : Sought).step c = Sought.behind ⟨A, rd⟩ a c) (h : r.length + 1 ≤ T) : R T ⟨A, rd⟩ (c :: r) = after T A a (c :: r) := by
  unfold Sought.behind at e
  by_cases q : c = 32 ∧ A.length + 1 < ATOMS
  · rw [if_pos q] at e
    rw [R_some e h]
    show _ = if c = 32 ∧ A.length + 1 < ATOMS then R T ⟨A ++ [a], .atom⟩ r else .error (T - (r.length + 1))
    rw [if_pos q]
  · rw [if_neg q] at e
    rw [R_none e]
    show _ = if c = 32 ∧ A.length + 1 < ATOMS then R T ⟨A ++ [a], .atom⟩ r else .error (T - (r.length + 1))
    rw [if_neg q]
theorem R_done {T : Nat} {A : Pattern} {a : Atom} {r : Bytes} (h : r.length ≤ T) : R T ⟨A, .done a⟩ r = after T A a r := by
  cases r with
  | nil => rfl
  | cons c v => exact R_behind rfl h
theorem R_dot {T : Nat} {A : Pattern} {r : Bytes} (h : r.length ≤ T) : R T ⟨A, .dot⟩ r = after T A (dots false r).1 (dots false r).2 := by
  cases r with
  | nil => rfl
  | cons c v =>
    by_cases e : c = 46
    · subst e
      rw [R_some (y := ⟨A, .done .run⟩) rfl h, R_done (Nat.le_of_succ_le h)]; rfl
    · have e1 : tk 46 (c :: v) = (false, c :: v) := by rw [tk_cons, if_neg e]
      have e2 : dots false (c :: v) = (.one false .any, c :: v) := by unfold dots; rw [e1]; rfl
      rw [e2]
      refine R_behind ?_ h
      show (if c = 46 then _ else _) = _
      rw [if_neg e]
structure NM (A : Pattern) (mk : Bytes → Reads) : Prop where
  go : ∀ w c, nameGoes (w ++ [c]) = true → (⟨A, mk w⟩ : Sought).step c = some ⟨A, mk (w ++ [c])⟩
theorem nm_word (A : Pattern) (n : Bool) : NM A (.word n) := ⟨fun w c h => by
  show (if nameGoes (w ++ [c]) = true then _ else _) = _
  rw [if_pos h]⟩
theorem nm_eq (A : Pattern) (n : Bool) : NM A (.eqWord n) := ⟨fun w c h => by
  show (if nameGoes (w ++ [c]) = true then _ else _) = _
  rw [if_pos h]⟩
theorem nm_brace (A : Pattern) (n : Bool) (had : List Name) : NM A (.braceWord n had) := ⟨fun w c h => by
  show (if nameGoes (w ++ [c]) = true then _ else _) = _
  rw [if_pos h]⟩
section
variable {T : Nat} {A : Pattern} {mk : Bytes → Reads} {c s : UInt8}
theorem nohead_nil {p : UInt8 → Bool} : NoHead p [] := fun _ _ q => by cases q
theorem small_spec (r : Bytes) : optS (tp isSmall r).1 ∧ ((tp isSmall r).1 = 0 → NoHead isSmall (tp isSmall r).2) ∧ r = optL (tp isSmall r).1 ++ (tp isSmall r).2 := by
  rcases tp_cases isSmall r with ⟨h1, h2, h3⟩ | ⟨x, hx, hr, h1⟩
  · rw [h1, h2]; exact ⟨.inl rfl, fun _ => h3, rfl⟩
  · rw [h1]
    refine ⟨.inr hx, fun e => absurd e (small_ne hx), ?_⟩
    rw [show optL x = [x] from if_neg (small_ne hx)]; exact hr
theorem go_small (M : NM A mk) (hc : isBig c = true) {r : Bytes} (hl : r.length ≤ T) : R T ⟨A, mk [c]⟩ r = R T ⟨A, mk (c :: (optL (tp isSmall r).1 ++ []))⟩ (tp isSmall r).2 := by
  rcases tp_cases isSmall r with ⟨h1, h2, h3⟩ | ⟨x, hx, hr, h1⟩
  · rw [h1, h2]; rfl
  · have e : optL x = [x] := if_neg (small_ne hx)
    rw [h1, e]
    have g : nameGoes ([c] ++ [x]) = true := by
      have := goes_eq (c := c) (s := x) (ds := []) (t := []) hc (.inr hx) rfl nohead_nil (fun _ _ => nohead_nil)
      rw [e] at this
      exact this
    have hl' : (tp isSmall r).2.length + 1 ≤ T := by
      have := congrArg List.length hr
      rw [List.length_cons] at this
      omega
    have q := R_some (T := T) (M.go [c] x g) hl'
    rw [← hr] at q
    exact q
theorem go_list (M : NM A mk) (hc : isBig c = true) (hs : optS s) {q : Bytes} : ∀ (es ds : Bytes), (ds ++ es).all isDigit = true → (ds ++ es).length ≤ 3 → (ds ++ es).head? ≠ some 48 → (es ++ q).length ≤ T →
    R T ⟨A, mk (c :: (optL s ++ ds))⟩ (es ++ q) = R T ⟨A, mk (c :: (optL s ++ (ds ++ es)))⟩ q
  | [], ds, _, _, _, _ => by rw [List.append_nil]; rfl
  | e :: es, ds, ha, h3, h0, hl => by
    have a1 : ds ++ e :: es = (ds ++ [e]) ++ es := by simp
    rw [a1] at ha h3 h0 ⊢
    have b1 : (ds ++ [e]).all isDigit = true := by rw [List.all_append, Bool.and_eq_true] at ha; exact ha.1
    have b2 : (ds ++ [e]).length ≤ 3 := by rw [List.length_append] at h3; omega
    have b3 : (ds ++ [e]).head? ≠ some 48 := by
      cases ds with
      | nil => exact h0
      | cons => exact h0
    have g : nameGoes (c :: (optL s ++ ds) ++ [e]) = true := by
      have := goes_eq (c := c) (s := s) (ds := ds ++ [e]) (t := []) hc hs b1 nohead_nil (fun _ _ => nohead_nil)
      rw [List.append_nil] at this
      rw [show c :: (optL s ++ ds) ++ [e] = c :: (optL s ++ (ds ++ [e])) by simp, this, decide_eq_true b2]
      have n1 : ((ds ++ [e]).head? != some (48 : UInt8)) = true := by rw [bne_iff_ne]; exact b3
      rw [n1]; rfl
    have hl' : (es ++ q).length + 1 ≤ T := hl
    rw [show e :: es ++ q = e :: (es ++ q) from rfl, R_some (M.go _ e g) hl', show c :: (optL s ++ ds) ++ [e] = c :: (optL s ++ (ds ++ [e])) by simp]
    exact go_list M hc hs es (ds ++ [e]) ha h3 h0 (by omega)
theorem go_last (M : NM A mk) (hc : isBig c = true) (hs : optS s) {ds r : Bytes} (hd : ds.all isDigit = true) (h1 : ds ≠ []) (h3 : ds.length ≤ 3) (h0 : ds.head? ≠ some 48) (hl : r.length ≤ T) :
    R T ⟨A, mk (c :: (optL s ++ ds))⟩ r = R T ⟨A, mk (c :: (optL s ++ (ds ++ optL (tp isSmall r).1)))⟩ (tp isSmall r).2 := by
  rcases tp_cases isSmall r with ⟨e1, e2, e3⟩ | ⟨x, hx, hr, e1⟩
  · rw [e1, e2, show optL 0 = [] from rfl, List.append_nil]
  · have e : optL x = [x] := if_neg (small_ne hx)
    rw [e1, e]
    have g : nameGoes (c :: (optL s ++ ds) ++ [x]) = true := by
      have := goes_eq (c := c) (s := s) (ds := ds) (t := [x]) hc hs hd (fun _ _ q => by cases q; exact small_digit hx) (fun _ z => absurd z h1)
      rw [show c :: (optL s ++ ds) ++ [x] = c :: (optL s ++ (ds ++ [x])) by simp, this, decide_eq_true h3]
      have n1 : (ds.head? != some (48 : UInt8)) = true := by rw [bne_iff_ne]; exact h0
      have n2 : ds.isEmpty = false := by cases ds with
        | nil => exact absurd rfl h1
        | cons => rfl
      rw [n1, n2, List.all_cons, hx]; rfl
    have hl' : (tp isSmall r).2.length + 1 ≤ T := by
      have := congrArg List.length hr
      rw [List.length_cons] at this
      omega
    have q := R_some (T := T) (M.go _ x g) hl'
    rw [← hr, show c :: (optL s ++ ds) ++ [x] = c :: (optL s ++ (ds ++ [x])) by simp] at q
    exact q
def NoGo (u q : Bytes) : Prop := ∀ x v, q = x :: v → nameGoes (u ++ [x]) = false
theorem and_false4 {a b c : Bool} (h : c = false) : (a && (b && c)) = false := by rw [h]; cases a <;> cases b <;> rfl
/-- behind the letters: the whole of what a name takes -/
theorem name_run (M : NM A mk) (hc : isBig c = true) (hs : optS s) {r : Bytes} (n0 : s = 0 → NoHead isSmall r) (hl : r.length ≤ T) :
    ∃ u, R T ⟨A, mk (c :: (optL s ++ []))⟩ r = R T ⟨A, mk u⟩ (nameBehind c s r).2 ∧ nameOf u = (nameBehind c s r).1 ∧ NoGo u (nameBehind c s r).2 ∧
      ((nameBehind c s r).1 ≠ none → classOf u = none) ∧ ((nameBehind c s r).1 = none → u = c :: (optL s ++ []) ∧ (nameBehind c s r).2 = r) := by
  obtain ⟨es, q, e1, e2, e3, e4, e5, e6, e7⟩ := number_spec r
  by_cases h1 : es = []
  · subst h1
    have eb : nameBehind c s r = (none, q) := by
      unfold nameBehind; rw [e1]; rfl
    have er : r = q := e5
    rw [eb]
    subst er
    refine ⟨_, rfl, nameOf_letters hs, ?_, fun z => absurd rfl z, fun _ => ⟨rfl, rfl⟩⟩
    intro x v hq
    by_cases hx : isDigit x = true
    · have x48 : x = 48 := by
        by_cases z : x = 48
        · exact z
        · have := e6 rfl x v hq
          rw [digit_d1 hx z] at this; cases this
      have := goes_eq (c := c) (s := s) (ds := [x]) (t := []) hc hs (by rw [List.all_cons, hx]; rfl) nohead_nil (fun _ _ => nohead_nil)
      rw [show c :: (optL s ++ []) ++ [x] = c :: (optL s ++ ([x] ++ [])) by simp, this, x48]; rfl
    · have := goes_eq (c := c) (s := s) (ds := []) (t := [x]) hc hs rfl (fun _ _ z => by cases z; exact Bool.eq_false_iff.mpr hx) (fun z _ _ _ y => by cases y; exact n0 z x v hq)
      rw [show c :: (optL s ++ []) ++ [x] = c :: (optL s ++ ([] ++ [x])) by simp, this]; rfl
  · obtain ⟨d1, d2, d3⟩ := decimal_numberOf e2 h1 e3 e4
    have eb : nameBehind c s r = (some ⟨c, s, numberOf es, (tp isSmall q).1⟩, (tp isSmall q).2) := by
      unfold nameBehind; rw [e1]; dsimp only; rw [if_neg (by omega)]
    rw [eb]
    obtain ⟨k1, k2, k3⟩ := small_spec q
    have hlq : q.length ≤ T := by
      have := congrArg List.length e5
      rw [List.length_append] at this
      omega
    refine ⟨c :: (optL s ++ (es ++ optL (tp isSmall q).1)), ?_, nameOf_whole hc hs k1 e2 h1 e3 e4, ?_, fun _ => classOf_name hs e2 h1, fun z => by cases z⟩
    · have a1 := go_list (T := T) M hc hs (q := q) es [] e2 e3 e4 (by rw [← e5]; exact hl)
      rw [← e5] at a1
      exact a1.trans (go_last M hc hs e2 h1 e3 e4 hlq)
    · intro x v hq
      dsimp only at hq
      by_cases kz : (tp isSmall q).1 = 0
      · have qq : q = (tp isSmall q).2 := by rw [kz] at k3; exact k3
        have nx := k2 kz x v hq
        rw [kz, show optL 0 = [] from rfl, List.append_nil]
        by_cases hx : isDigit x = true
        · have l3 : es.length = 3 := by
            by_cases z : es.length < 3
            · have := e7 h1 z x v (qq.trans hq)
              rw [hx] at this; cases this
            · omega
          have := goes_eq (c := c) (s := s) (ds := es ++ [x]) (t := []) hc hs (all_snoc e2 hx) nohead_nil (fun _ _ => nohead_nil)
          rw [show c :: (optL s ++ es) ++ [x] = c :: (optL s ++ (es ++ [x] ++ [])) by simp, this, show decide ((es ++ [x]).length ≤ 3) = false from decide_eq_false (by rw [List.length_append, l3, List.length_singleton]; decide)]
          rfl
        · have := goes_eq (c := c) (s := s) (ds := es) (t := [x]) hc hs e2 (fun _ _ z => by cases z; exact Bool.eq_false_iff.mpr hx) (fun _ z => absurd z h1)
          rw [show c :: (optL s ++ es) ++ [x] = c :: (optL s ++ (es ++ [x])) by simp, this, List.all_cons, nx]
          refine and_false4 ?_
          simp
      · have ks : isSmall (tp isSmall q).1 = true := by
          rcases k1 with z | z
          · exact absurd z kz
          · exact z
        have eo : optL (tp isSmall q).1 = [(tp isSmall q).1] := if_neg kz
        have := goes_eq (c := c) (s := s) (ds := es) (t := [(tp isSmall q).1, x]) hc hs e2 (fun _ _ z => by cases z; exact small_digit ks) (fun _ z => absurd z h1)
        rw [eo, show c :: (optL s ++ (es ++ [(tp isSmall q).1])) ++ [x] = c :: (optL s ++ (es ++ [(tp isSmall q).1, x])) by simp, this]
        refine and_false4 ?_
        simp
end
theorem letters_none {r : Bytes} (h : NoHead isBig r) : letters r = (none, r) := by
  rcases tp_cases isBig r with ⟨h1, h2, _⟩ | ⟨c, hc, hr, h1⟩
  · unfold letters; rw [h1, h2]; rfl
  · have := h c _ hr
    rw [hc] at this; cases this
theorem letters_big {c : UInt8} {v : Bytes} (hc : isBig c = true) : letters (c :: v) = (some (c, (tp isSmall v).1), (tp isSmall v).2) := by
  have e : tp isBig (c :: v) = (c, v) := by rw [tp_cons, if_pos hc]
  unfold letters; rw [e]
  exact if_neg (big_ne hc)
theorem nohead_cons {p : UInt8 → Bool} {c : UInt8} {v : Bytes} (h : ¬ p c = true) : NoHead p (c :: v) := fun x u q => by cases q; exact Bool.eq_false_iff.mpr h
/-- `=` and a name -/
theorem R_eq {T : Nat} {A : Pattern} {d : Bool} {r : Bytes} (hl : r.length ≤ T) : R T ⟨A, .eq d⟩ r = res T A ((readName r).1.map fun n => .one d (.alike n), (readName r).2) := by
  cases r with
  | nil => rfl
  | cons c v =>
    by_cases hc : isBig c = true
    · have e1 : (⟨A, .eq d⟩ : Sought).step c = some ⟨A, .eqWord d [c]⟩ := by
        show (if isBig c = true then _ else _) = _
        rw [if_pos hc]
      have hv : v.length ≤ T := Nat.le_of_succ_le hl
      obtain ⟨k1, k2, k3⟩ := small_spec v
      have hq : (tp isSmall v).2.length ≤ T := Nat.le_trans (tp_le _ _) hv
      obtain ⟨u, a1, a2, a3, a4, a5⟩ := name_run (T := T) (nm_eq A d) hc k1 k2 hq
      have er : readName (c :: v) = nameBehind c (tp isSmall v).1 (tp isSmall v).2 := by unfold readName; rw [letters_big hc]
      have lq : (nameBehind c (tp isSmall v).1 (tp isSmall v).2).2.length ≤ T := Nat.le_trans (nameBehind_le _ _ _) hq
      rw [R_some e1 hl, go_small (nm_eq A d) hc hv, a1, er]
      generalize nameBehind c (tp isSmall v).1 (tp isSmall v).2 = nb at a2 a3 lq ⊢
      obtain ⟨o, q⟩ := nb
      dsimp only at a2 a3 lq ⊢
      cases q with
      | nil =>
        rw [R_nil]
        show (match ((nameOf u).map fun m => Atom.one d (.alike m)) with
          | some a => Except.ok (A ++ [a])
          | none => .error T) = _
        rw [a2]
        cases o <;> rfl
      | cons x w =>
        have g := a3 x w rfl
        have e2 : (⟨A, .eqWord d u⟩ : Sought).step x = (nameOf u).bind fun m => Sought.behind ⟨A, .eqWord d u⟩ (.one d (.alike m)) x := by
          show (if nameGoes (u ++ [x]) = true then _ else _) = _
          rw [g]; rfl
        rw [a2] at e2
        cases o with
        | none => exact R_none e2
        | some m => exact R_behind e2 lq
    · have e1 : (⟨A, .eq d⟩ : Sought).step c = none := by
        show (if isBig c = true then _ else _) = _
        rw [if_neg hc]
      have er : readName (c :: v) = (none, c :: v) := by unfold readName; rw [letters_none (nohead_cons hc)]
      rw [R_none e1, er]; rfl
/-- names in braces -/
theorem R_brace {T : Nat} {A : Pattern} {d : Bool} : ∀ (f : Nat) (had : List Name) (r : Bytes), had.length + (f + 1) = NAMES → r.length ≤ T →
    R T ⟨A, .brace d had⟩ r = res T A ((readNames (f + 1) had r).1.map fun l => .one d (.among l), (readNames (f + 1) had r).2)
  | f, had, [], _, _ => rfl
  | f, had, c :: v, hf, hl => by
    by_cases hc : isBig c = true
    · have e1 : (⟨A, .brace d had⟩ : Sought).step c = some ⟨A, .braceWord d had [c]⟩ := by
        show (if isBig c = true then _ else _) = _
        rw [if_pos hc]
      have hv : v.length ≤ T := Nat.le_of_succ_le hl
      obtain ⟨k1, k2, k3⟩ := small_spec v
      have hq : (tp isSmall v).2.length ≤ T := Nat.le_trans (tp_le _ _) hv
      obtain ⟨u, a1, a2, a3, a4, a5⟩ := name_run (T := T) (nm_brace A d had) hc k1 k2 hq
      have er : readName (c :: v) = nameBehind c (tp isSmall v).1 (tp isSmall v).2 := by unfold readName; rw [letters_big hc]
      have lq : (nameBehind c (tp isSmall v).1 (tp isSmall v).2).2.length ≤ T := Nat.le_trans (nameBehind_le _ _ _) hq
      rw [R_some e1 hl, go_small (nm_brace A d had) hc hv, a1]
      unfold readNames
      rw [er]
      generalize nameBehind c (tp isSmall v).1 (tp isSmall v).2 = nb at a2 a3 lq ⊢
      obtain ⟨o, q⟩ := nb
      dsimp only at a2 a3 lq ⊢
      cases q with
      | nil =>
        rw [R_nil]
        show Except.error T = _
        cases o with
        | none => rfl
        | some m =>
          dsimp only
          by_cases f0 : f = 0
          · rw [if_pos f0]; rfl
          · rw [if_neg f0]; rfl
      | cons x w =>
        have g := a3 x w rfl
        have e2 : (⟨A, .braceWord d had u⟩ : Sought).step x = (nameOf u).bind fun m => if x = 44 ∧ had.length + 1 < NAMES then some ⟨A, .brace d (had ++ [m])⟩ else if x = 125 then some ⟨A, .done (.one d (.among (had ++ [m])))⟩ else none := by
          show (if nameGoes (u ++ [x]) = true then _ else _) = _
          rw [g]; rfl
        rw [a2] at e2
        cases o with
        | none => exact R_none e2
        | some m =>
          dsimp only at e2 ⊢
          change _ = (if x = 44 ∧ had.length + 1 < NAMES then some (⟨A, .brace d (had ++ [m])⟩ : Sought) else if x = 125 then some ⟨A, .done (.one d (.among (had ++ [m])))⟩ else none) at e2
          rw [tk_cons, tk_cons]
          by_cases x125 : x = 125
          · rw [if_neg (by rintro ⟨z, _⟩; rw [z] at x125; exact absurd x125 (by decide)), if_pos x125] at e2
            rw [if_pos x125, R_some e2 lq, R_done (Nat.le_of_succ_le lq)]; rfl
          · rw [if_neg x125]
            by_cases f0 : f = 0
            · rw [if_neg (by rintro ⟨_, z⟩; rw [f0] at hf; omega), if_neg x125] at e2
              rw [if_pos f0, R_none e2]; rfl
            · by_cases x44 : x = 44
              · rw [if_pos ⟨x44, by omega⟩] at e2
                obtain ⟨g', rfl⟩ : ∃ g', f = g' + 1 := ⟨f - 1, by omega⟩
                rw [if_neg f0, if_pos x44, R_some e2 lq]
                exact R_brace g' (had ++ [m]) w (by rw [List.length_append, List.length_singleton]; omega) (Nat.le_of_succ_le lq)
              · rw [if_neg (by rintro ⟨z, _⟩; exact x44 z), if_neg x125] at e2
                rw [if_neg f0, if_neg x44, R_none e2]; rfl
    · have e1 : (⟨A, .brace d had⟩ : Sought).step c = none := by
        show (if isBig c = true then _ else _) = _
        rw [if_neg hc]
      have er : readName (c :: v) = (none, c :: v) := by unfold readName; rw [letters_none (nohead_cons hc)]
      rw [R_none e1]
      unfold readNames
      rw [er]; rfl
/-- a name or a class -/
theorem R_word {T : Nat} {A : Pattern} {d : Bool} {c : UInt8} {v : Bytes} (hc : isBig c = true) (hv : v.length ≤ T) : R T ⟨A, .word d [c]⟩ v = res T A (nameOrClass d (c :: v)) := by
  obtain ⟨k1, k2, k3⟩ := small_spec v
  have hq : (tp isSmall v).2.length ≤ T := Nat.le_trans (tp_le _ _) hv
  rw [go_small (nm_word A d) hc hv]
  unfold nameOrClass
  rw [letters_big hc]
  dsimp only
  by_cases h42 : (tk 42 (tp isSmall v).2).1 = true
  · rw [if_pos h42]
    cases hh : (tp isSmall v).2 with
    | nil => rw [hh] at h42; cases h42
    | cons x w =>
      rw [hh, tk_cons] at h42
      have x42 : x = 42 := by
        by_cases z : x = 42
        · exact z
        · rw [if_neg z] at h42; cases h42
      subst x42
      have g : nameGoes (c :: (optL (tp isSmall v).1 ++ []) ++ [42]) = false := by
        have := goes_eq (c := c) (s := (tp isSmall v).1) (ds := []) (t := [42]) hc k1 rfl (fun _ _ z => by cases z; rfl) (fun _ _ _ _ y => by cases y; rfl)
        rw [show c :: (optL (tp isSmall v).1 ++ []) ++ [42] = c :: (optL (tp isSmall v).1 ++ ([] ++ [42])) by simp, this]; rfl
      have e2 : (⟨A, .word d (c :: (optL (tp isSmall v).1 ++ []))⟩ : Sought).step 42 = some ⟨A, .done (.one d (.class_ c (tp isSmall v).1))⟩ := by
        show (if nameGoes (c :: (optL (tp isSmall v).1 ++ []) ++ [42]) = true then _ else if (42 : UInt8) = 42 then (classOf (c :: (optL (tp isSmall v).1 ++ []))).map _ else _) = _
        rw [g, classOf_letters hc k1]; rfl
      rw [hh] at hq
      rw [R_some e2 hq, R_done (Nat.le_of_succ_le hq)]; rfl
  · rw [if_neg h42]
    obtain ⟨u, a1, a2, a3, a4, a5⟩ := name_run (T := T) (nm_word A d) hc k1 k2 hq
    have lq : (nameBehind c (tp isSmall v).1 (tp isSmall v).2).2.length ≤ T := Nat.le_trans (nameBehind_le _ _ _) hq
    have h42' : (nameBehind c (tp isSmall v).1 (tp isSmall v).2).1 = none → ¬ (tk 42 (nameBehind c (tp isSmall v).1 (tp isSmall v).2).2).1 = true := fun z => by rw [(a5 z).2]; exact h42
    rw [a1]
    generalize nameBehind c (tp isSmall v).1 (tp isSmall v).2 = nb at a2 a3 a4 lq h42' ⊢
    obtain ⟨o, q⟩ := nb
    dsimp only at a2 a3 a4 lq h42' ⊢
    cases q with
    | nil =>
      rw [R_nil]
      show (match ((nameOf u).map fun m => Atom.one d (.name m)) with
        | some a => Except.ok (A ++ [a])
        | none => .error T) = _
      rw [a2]
      cases o <;> rfl
    | cons x w =>
      have g := a3 x w rfl
      have e2 : (⟨A, .word d u⟩ : Sought).step x = if x = 42 then (classOf u).map fun o => ⟨A, .done (.one d o)⟩ else (nameOf u).bind fun m => Sought.behind ⟨A, .word d u⟩ (.one d (.name m)) x := by
        show (if nameGoes (u ++ [x]) = true then _ else _) = _
        rw [g]; rfl
      rw [a2] at e2
      cases o with
      | none =>
        have x42 : ¬ x = 42 := fun z => h42' rfl (by rw [tk_cons, if_pos z])
        rw [if_neg x42] at e2
        exact R_none e2
      | some m =>
        by_cases x42 : x = 42
        · rw [if_pos x42, a4 (by intro z; cases z)] at e2
          rw [R_none e2]
          show _ = if x = 32 ∧ A.length + 1 < ATOMS then R T ⟨A ++ [.one d (.name m)], .atom⟩ w else .error (T - (w.length + 1))
          rw [if_neg (by rintro ⟨z, _⟩; rw [z] at x42; exact absurd x42 (by decide))]
        · rw [if_neg x42] at e2
          exact R_behind e2 lq
def st (d : Bool) : Reads := if d = true then .bang else .atom
theorem step_st (A : Pattern) (d : Bool) (c : UInt8) : (⟨A, st d⟩ : Sought).step c = Sought.first ⟨A, st d⟩ d c := by cases d <;> rfl
theorem R_atom {T : Nat} {A : Pattern} {d : Bool} {r : Bytes} (h33 : d = false → ¬ (tk 33 r).1 = true) (hl : r.length ≤ T) : R T ⟨A, st d⟩ r = res T A (atomAt d r) := by
  cases r with
  | nil => cases d <;> rfl
  | cons c v =>
    have hv : v.length ≤ T := Nat.le_of_succ_le hl
    have e1 := step_st A d c
    unfold Sought.first at e1
    unfold atomAt
    rw [tk_cons, tk_cons, tk_cons]
    by_cases c46 : c = 46
    · subst c46
      have e2 : (⟨A, st d⟩ : Sought).step 46 = some ⟨A, if d = true then .done (.one true .any) else .dot⟩ := e1
      rw [R_some e2 hl]
      cases d with
      | true => exact R_done hv
      | false => exact R_dot hv
    · rw [if_neg c46]
      by_cases c61 : c = 61
      · rw [if_pos c61] at e1
        rw [if_pos c61, R_some e1 hl]
        exact R_eq hv
      · rw [if_neg c61] at e1
        rw [if_neg c61]
        by_cases c123 : c = 123
        · rw [if_pos c123] at e1
          rw [if_pos c123, R_some e1 hl]
          exact R_brace 15 [] v rfl hv
        · rw [if_neg c123] at e1
          rw [if_neg c123]
          show _ = res T A (nameOrClass d (c :: v))
          by_cases hc : isBig c = true
          · rw [if_pos hc] at e1
            rw [R_some e1 hl]
            exact R_word hc hv
          · rw [if_neg hc, if_neg c46] at e1
            have e3 : ¬ (c = 33 ∧ d = false) := by
              rintro ⟨z, y⟩
              exact h33 y (by rw [tk_cons, if_pos z])
            rw [if_neg e3] at e1
            rw [R_none e1]
            unfold nameOrClass
            rw [letters_none (nohead_cons hc)]; rfl
theorem R_readAtom {T : Nat} {A : Pattern} {r : Bytes} (hl : r.length ≤ T) : R T ⟨A, .atom⟩ r = res T A (readAtom r) := by
  unfold readAtom
  by_cases h : (tk 33 r).1 = true
  · cases r with
    | nil => cases h
    | cons c v =>
      have c33 : c = 33 := by
        by_cases z : c = 33
        · exact z
        · rw [tk_cons, if_neg z] at h; cases h
      subst c33
      rw [R_some (y := ⟨A, .bang⟩) rfl hl]
      exact R_atom (d := true) (fun z => by cases z) (Nat.le_of_succ_le hl)
  · rw [tk_no h, Bool.eq_false_iff.mpr h]
    exact R_atom (d := false) (fun _ => h) hl
theorem R_pat {T : Nat} : ∀ (f : Nat) (A : Pattern) (r : Bytes), A.length + (f + 1) = ATOMS → r.length ≤ T → R T ⟨A, .atom⟩ r = match pat (f + 1) A r with
    | (some P, _) => .ok P
    | (none, q) => .error (T - q.length) := fun f A r hf hl => by
  rw [R_readAtom hl]
  have hq := Nat.le_trans (readAtom_le r) hl
  unfold pat
  generalize readAtom r = x at hq ⊢
  obtain ⟨o, q⟩ := x
  cases o with
  | none => rfl
  | some a =>
    dsimp only at hq ⊢
    show after T A a q = _
    cases q with
    | nil => rfl
    | cons c v =>
      show (if c = 32 ∧ A.length + 1 < ATOMS then R T ⟨A ++ [a], .atom⟩ v else .error (T - (v.length + 1))) = _
      rw [if_neg (show ¬ c :: v = [] by intro z; cases z), tk_cons]
      by_cases f0 : f = 0
      · rw [if_pos f0, if_neg (by rintro ⟨_, z⟩; rw [f0] at hf; omega)]; rfl
      · rw [if_neg f0]
        by_cases c32 : c = 32
        · rw [if_pos ⟨c32, by omega⟩, if_pos c32]
          obtain ⟨g, rfl⟩ : ∃ g, f = g + 1 := ⟨f - 1, by omega⟩
          exact R_pat g (A ++ [a]) v (by rw [List.length_append, List.length_singleton]; omega) (Nat.le_of_succ_le hq)
        · rw [if_neg (by rintro ⟨z, _⟩; exact c32 z), if_neg c32]; rfl
/-- **the reader is the specification's** -/
theorem readPattern_eq (b : Bytes) : readPattern b = match pat 64 [] b with
    | (some P, _) => .ok P
    | (none, q) => .error (b.length - q.length) := by
  rw [← R_pat (T := b.length) 63 [] b rfl (Nat.le_refl _)]
  unfold R readPattern
  rw [Nat.sub_self]
  rfl
end Sg
set_option Elab.async false
namespace Sg
open Gh
end Sg
set_option Elab.async false
namespace Sg
open Gh
end Sg
set_option Elab.async false
namespace Sg
open Gh
end Sg
set_option Elab.async false
namespace Sg
open Gh
end Sg
set_option Elab.async false
namespace Sg
open Gh
end Sg
set_option Elab.async false
namespace Sg
open Gh
end Sg
set_option Elab.async false
namespace Sg
open Gh
end Sg
set_option Elab.async false
namespace Sg
open Gh
end Sg
set_option Elab.async false
set_option linter.all false
namespace Sg
open Gh
end Sg
set_option Elab.async false
set_option linter.all false
namespace Sg
open Gh
end Sg
set_option Elab.async false
set_option linter.all false
namespace Sg
open Gh
end Sg
set_option Elab.async false
set_option linter.all false
namespace Sg
open Gh
end Sg
set_option Elab.async false
set_option linter.all false
namespace Sg
open Gh
end Sg
set_option Elab.async false
set_option linter.all false
namespace Sg
open Gh
end Sg
set_option Elab.async false
set_option linter.all false
namespace Sg
open Gh
end Sg
set_option Elab.async false
set_option linter.all false
namespace Sg
open Gh
end Sg
set_option Elab.async false
set_option linter.all false
namespace Sg
open Gh
end Sg
set_option Elab.async false
set_option linter.all false
namespace Sg
open Gh
section
variable {A B : List May}
end
end Sg
set_option Elab.async false
set_option linter.all false
namespace Sg
open Gh
section
variable {α : Type} {Rn : Bytes → Bytes → α} {c s : UInt8}
end
end Sg
set_option Elab.async false
set_option linter.all false
namespace Sg
open Gh
section
variable {α : Type} {Rn : List Nat → Bytes → α}
end
section
variable (its : List Item) (L l : Nat) (ring : Option Nat) (pc : Nat) (st : List AU)
end
end Sg
set_option Elab.async false
set_option linter.all false
namespace Sg
open Gh
section
variable (its : List Item) (L l : Nat) (ring : Option Nat) (pc : Nat) (st : List AU)
end
section
variable (its : List Item) (L l : Nat) (ring : Option Nat)
variable (pc : Nat)
end
end Sg
set_option Elab.async false
set_option linter.all false
namespace Sg
open Gh
section
variable (L l : Nat) (ring : Option Nat)
end
section
variable (L l : Nat)
end
end Sg
set_option Elab.async false
set_option linter.all false
namespace Sg
open Gh
end Sg
set_option Elab.async false
set_option linter.all false
namespace Sg
open Gh
end Sg
namespace Sg
open PySem PySem.Spec PyProof.Rows L2
open PySem.W (Codec)
structure Def (K : PySem.W.Frag) (mg : Str → Option Value) (x : Str) (st : Stmt) where
  f : Addr
  fd : FuncData
  F : Fun K x x st f fd
  g : mg x = some (.ref f)
structure MDef (K : PySem.W.Frag) (C : Addr) (m qual : Str) (st : Stmt) where
  f : Addr
  fd : FuncData
  F : Fun K m qual st f fd
  mt : Meth K C m f
structure CDef (K : PySem.W.Frag) (mg : Str → Option Value) (x qual : Str) (st : Stmt) where
  C : Addr
  f : Addr
  fd : FuncData
  F : Fun K "__init__" qual st f fd
  M : Mk K C f
  cl : Cls K C
  g : mg x = some (.ref C)
theorem pe_gint {X : Cx} {x : Str} {i : Int} {pos : Pos} (hg : Gl X x) (hm : ∃ t, X.mg x = some (.int i t)) (hd : (x == ("__debug__" : Str)) = false := by decide) : PE X (.Name x pos) (tC (.int i)) := by
  obtain ⟨t, h⟩ := hm
  exact pe_glob hg h ⟨t, rfl⟩ hd
theorem pe_gstr {X : Cx} {x i : Str} {pos : Pos} (hg : Gl X x) (hm : ∃ t, X.mg x = some (.str i t)) (hd : (x == ("__debug__" : Str)) = false := by decide) : PE X (.Name x pos) (tC (.str i)) := by
  obtain ⟨t, h⟩ := hm
  exact pe_glob hg h ⟨t, rfl⟩ hd
def Keep (c : Addr) (H H' : Hp) : Prop := ∀ b o, H b = some o → b ≠ c → H' b = some o
theorem Keep.refl (c : Addr) (H : Hp) : Keep c H H := fun _ _ h _ => h
theorem Keep.trans {c : Addr} {H H1 H2 : Hp} (a : Keep c H H1) (b : Keep c H1 H2) : Keep c H H2 := fun x o h n => b x o (a x o h n) n
theorem Keep.of {c : Addr} {H H' : Hp} (s : Same H H') : Keep c H H' := fun x o h _ => s x o h
theorem Same.new {H : Hp} {p : Addr} {o : HO} (h : H p = none) : Same H (upd H p o) := fun b u e => by rw [upd_ne (ne_of_none e h)]; exact e
theorem Keep.new {c p : Addr} {o : HO} {H H1 : Hp} (a : Keep c H H1) (h : H1 p = none) : Keep c H (upd H1 p o) := a.trans (.of (Same.new h))
/-- a thing that was made behind H is written -/
theorem Keep.put {c l : Addr} {o : HO} {H H1 : Hp} (a : Keep c H H1) (h : l = c ∨ H l = none) : Keep c H (upd H1 l o) := fun b u e n => by
  rcases h with h | h
  · rw [upd_ne (by rw [h]; exact n)]; exact a b u e n
  · rw [upd_ne (ne_of_none e h)]; exact a b u e n
def bv (bs : Gh.Bytes) : List V := bs.map fun c => V.int ((c.toNat : Nat) : Int)
theorem bv_len (bs : Gh.Bytes) : (bv bs).length = bs.length := List.length_map _
theorem bv_get {bs : Gh.Bytes} {i : Nat} {c : UInt8} (h : bs[i]? = some c) : (bv bs)[i]? = some (V.int ((c.toNat : Nat) : Int)) := by
  unfold bv; rw [List.getElem?_map, h]; rfl
def cf (a : Addr) (i : Nat) : List (Str × V) := putF "at" (.int (i : Int)) (putF "data" (.ref a) [])
theorem ne_data_at : ¬ ("data" : Str) = "at" := by decide +kernel
theorem ne_kind_at : ¬ ("kind" : Str) = "at" := by decide +kernel
theorem ne_kind_data : ¬ ("kind" : Str) = "data" := by decide +kernel
theorem cf_at (a : Addr) (i : Nat) : (cf a i).lookup ("at" : Str) = some (.int (i : Int)) := by unfold cf; rw [lookup_putF, if_pos rfl]
theorem cf_data (a : Addr) (i : Nat) : (cf a i).lookup ("data" : Str) = some (.ref a) := by unfold cf; rw [lookup_putF, if_neg ne_data_at, lookup_putF, if_pos rfl]
theorem cf_no (a : Addr) (i : Nat) {m : Str} (h1 : ¬ m = "at") (h2 : ¬ m = "data") : (cf a i).lookup m = none := by
  unfold cf; rw [lookup_putF, if_neg h1, lookup_putF, if_neg h2]; rfl
theorem putF_put (f : Str) (v u : V) : ∀ l : List (Str × V), putF f v (putF f u l) = putF f v l
  | [] => by show (if f = f then [(f, v)] else _) = [(f, v)]; rw [if_pos rfl]
  | (g, x) :: r => by
    by_cases e : g = f
    · have e1 : putF f u ((g, x) :: r) = (g, u) :: r := if_pos e
      have e2 : putF f v ((g, u) :: r) = (g, v) :: r := if_pos e
      have e3 : putF f v ((g, x) :: r) = (g, v) :: r := if_pos e
      rw [e1, e2, e3]
    · have e1 : putF f u ((g, x) :: r) = (g, x) :: putF f u r := if_neg e
      have e2 : putF f v ((g, x) :: putF f u r) = (g, x) :: putF f v (putF f u r) := if_neg e
      have e3 : putF f v ((g, x) :: r) = (g, x) :: putF f v r := if_neg e
      rw [e1, e2, e3, putF_put f v u r]
theorem cf_put (a : Addr) (i j : Nat) : putF "at" (.int (j : Int)) (cf a i) = cf a j := putF_put _ _ _ _
theorem cf_short (a : Addr) (i : Nat) : (cf a i).length < 1000 := by
  refine Nat.lt_of_le_of_lt (length_putF _ _ _) ?_
  refine Nat.lt_of_le_of_lt (Nat.add_le_add_right (length_putF _ _ _) 1) ?_
  decide
/-- a cursor over bs (the list at a) stands at c; r is left -/
structure Cur (K : PySem.W.Frag) (C c a : Addr) (bs : Gh.Bytes) (H : Hp) (r : Gh.Bytes) : Prop where
  seq : SqL K H a (bv bs)
  ex : ∃ dx i, H c = some (.ins C dx (cf a i)) ∧ i ≤ bs.length ∧ bs.drop i = r
theorem Cur.is {K : PySem.W.Frag} {C c a : Addr} {bs : Gh.Bytes} {H : Hp} {r : Gh.Bytes} (x : Cur K C c a bs H r) : ∃ dx i, H c = some (.ins C dx (cf a i)) := let ⟨dx, i, h, _⟩ := x.ex; ⟨dx, i, h⟩
theorem SqL.keep {K : PySem.W.Frag} {c a : Addr} {xs : List V} {H H' : Hp} {C dx : Addr} {fs : List (Str × V)} (k : Keep c H H') (hc : H c = some (.ins C dx fs)) (h : SqL K H a xs) : SqL K H' a xs := by
  rcases h with (h | ⟨o, h⟩) | h
  · exact .inl (.inl (k _ _ h (ne_of h hc (by intro z; cases z))))
  · exact .inl (.inr ⟨o, k _ _ h (ne_of h hc (by intro z; cases z))⟩)
  · exact .inr h
theorem Cur.same {K : PySem.W.Frag} {C c a : Addr} {bs : Gh.Bytes} {H H' : Hp} {r : Gh.Bytes} (x : Cur K C c a bs H r) (s : Same H H') : Cur K C c a bs H' r := by
  obtain ⟨dx, i, h, h2⟩ := x.ex
  exact ⟨s.seq x.seq, dx, i, s _ _ h, h2⟩
theorem drop_cons {α : Type} {l v : List α} {i : Nat} {c : α} (h : l.drop i = c :: v) : l[i]? = some c ∧ i + 1 ≤ l.length ∧ l.drop (i + 1) = v := by
  have h1 : l[i]? = some c := by rw [← List.head?_drop, h]; rfl
  have h2 : l.drop (i + 1) = v := by rw [← List.drop_drop, h]; rfl
  exact ⟨h1, (List.getElem?_eq_some_iff.mp h1).1, h2⟩
theorem drop_nil {α : Type} {l : List α} {i : Nat} (h : l.drop i = []) (hi : i ≤ l.length) : i = l.length := by
  have := congrArg List.length h
  rw [List.length_drop] at this
  simp at this
  omega
/-- one step on -/
theorem Cur.step {K : PySem.W.Frag} {C c a dx : Addr} {bs : Gh.Bytes} {H : Hp} {i : Nat} {x : UInt8} {v : Gh.Bytes} (h : H c = some (.ins C dx (cf a i))) (s : SqL K H a (bv bs)) (e : bs.drop i = x :: v) : Cur K C c a bs (upd H c (.ins C dx (cf a (i + 1)))) v := by
  obtain ⟨h1, h2, h3⟩ := drop_cons e
  refine ⟨SqL.keep (Keep.put (Keep.refl c H) (.inl rfl)) h s, dx, i + 1, upd_same, h2, h3⟩
/-- what may be given back: None, or an object -/
def OptAt {α : Type} (rel : Hp → Addr → α → Prop) (H : Hp) (v : V) : Option α → Prop
  | none => v = .non
  | some x => ∃ p, v = .ref p ∧ rel H p x
def PairAt (H : Hp) (p : Addr) (x : UInt8 × UInt8) : Prop := H p = some (.tup [.int ((x.1.toNat : Nat) : Int), .int ((x.2.toNat : Nat) : Int)])
def NameAt (H : Hp) (p : Addr) (n : Gh.Name) : Prop := H p = some (.tup [.int ((n.big.toNat : Nat) : Int), .int ((n.small.toNat : Nat) : Int), .int ((n.number : Nat) : Int), .int ((n.kind.toNat : Nat) : Int)])
/-- items of a list stand at ps -/
structure All2 {α : Type} (rel : Addr → α → Prop) (ps : List Addr) (xs : List α) : Prop where
  len : ps.length = xs.length
  at_ : ∀ (i : Nat) (p : Addr) (x : α), ps[i]? = some p → xs[i]? = some x → rel p x
theorem All2.nil {α : Type} {rel : Addr → α → Prop} : All2 rel [] [] := ⟨rfl, fun i p x h _ => by simp at h⟩
theorem All2.mono {α : Type} {rel rel' : Addr → α → Prop} {ps : List Addr} {xs : List α} (h : All2 rel ps xs) (m : ∀ p x, rel p x → rel' p x) : All2 rel' ps xs := ⟨h.len, fun i p x a b => m p x (h.at_ i p x a b)⟩
theorem All2.snoc {α : Type} {rel : Addr → α → Prop} {ps : List Addr} {xs : List α} {p : Addr} {x : α} (h : All2 rel ps xs) (r : rel p x) : All2 rel (ps ++ [p]) (xs ++ [x]) := by
  refine ⟨by rw [List.length_append, List.length_append, h.len]; rfl, fun i q y a b => ?_⟩
  by_cases hi : i < ps.length
  · rw [List.getElem?_append_left hi] at a
    rw [List.getElem?_append_left (h.len ▸ hi)] at b
    exact h.at_ i q y a b
  · rw [List.getElem?_append_right (Nat.le_of_not_lt hi)] at a
    rw [List.getElem?_append_right (by rw [← h.len]; exact Nat.le_of_not_lt hi)] at b
    rw [h.len] at a
    match hk : i - xs.length with
    | 0 => rw [hk] at a b; simp at a b; subst a b; exact r
    | k + 1 => rw [hk] at a; simp at a
def ListAt {α : Type} (rel : Hp → Addr → α → Prop) (H : Hp) (l : Addr) (xs : List α) : Prop := ∃ ps : List Addr, H l = some (.lst (ps.map V.ref)) ∧ All2 (rel H) ps xs
def af (k : Str) (v : V) (d : Bool) : List (Str × V) := putF "denied" (.bl d) (putF "what" v (putF "kind" (.str k) []))
theorem ne_kind_what : ¬ ("kind" : Str) = "what" := by decide +kernel
theorem ne_kind_denied : ¬ ("kind" : Str) = "denied" := by decide +kernel
theorem af_kind (k : Str) (v : V) (d : Bool) : (af k v d).lookup ("kind" : Str) = some (.str k) := by unfold af; rw [lookup_putF, if_neg ne_kind_denied, lookup_putF, if_neg ne_kind_what, lookup_putF, if_pos rfl]
theorem af_cf {CA C dx dx' a : Addr} {k : Str} {v : V} {d : Bool} {i : Nat} : HO.ins CA dx (af k v d) ≠ HO.ins C dx' (cf a i) := by
  intro z
  injection z with _ _ z3
  have e := af_kind k v d
  rw [z3, cf_no a i ne_kind_at ne_kind_data] at e
  cases e
def AtomAs (CA : Addr) (H : Hp) (p : Addr) (k : Str) (v : V) (d : Bool) : Prop := ∃ dx, H p = some (.ins CA dx (af k v d))
/-- an atom of the specification stands at p; B tells where its list may stand -/
def AtomAt (CA : Addr) (B : Addr → Prop) (H : Hp) (p : Addr) : Gh.Atom → Prop
  | .run => AtomAs CA H p "run" .non false
  | .one d .any => AtomAs CA H p "any" .non d
  | .one d (.alike n) => ∃ t, AtomAs CA H p "alike" (.ref t) d ∧ NameAt H t n
  | .one d (.class_ x y) => ∃ t, AtomAs CA H p "class" (.ref t) d ∧ PairAt H t (x, y)
  | .one d (.name n) => ∃ t, AtomAs CA H p "names" (.ref t) d ∧ B t ∧ ListAt NameAt H t [n]
  | .one d (.among l) => ∃ t, AtomAs CA H p "names" (.ref t) d ∧ B t ∧ ListAt NameAt H t l
section
variable {c C dx a : Addr} {i : Nat} {H H' : Hp}
theorem PairAt.keep {p : Addr} {x : UInt8 × UInt8} (k : Keep c H H') (hc : H c = some (.ins C dx (cf a i))) (h : PairAt H p x) : PairAt H' p x := k _ _ h (ne_of h hc (by intro z; cases z))
theorem NameAt.keep {p : Addr} {n : Gh.Name} (k : Keep c H H') (hc : H c = some (.ins C dx (cf a i))) (h : NameAt H p n) : NameAt H' p n := k _ _ h (ne_of h hc (by intro z; cases z))
theorem ListAt.keep {α : Type} {rel : Hp → Addr → α → Prop} {l : Addr} {xs : List α} (m : ∀ p x, rel H p x → rel H' p x) (k : Keep c H H') (hc : H c = some (.ins C dx (cf a i))) (h : ListAt rel H l xs) : ListAt rel H' l xs := by
  obtain ⟨ps, h1, h2⟩ := h
  exact ⟨ps, k _ _ h1 (ne_of h1 hc (by intro z; cases z)), h2.mono m⟩
theorem AtomAs.keep {CA p : Addr} {s : Str} {v : V} {d : Bool} (k : Keep c H H') (hc : H c = some (.ins C dx (cf a i))) (h : AtomAs CA H p s v d) : AtomAs CA H' p s v d := by
  obtain ⟨y, h⟩ := h
  exact ⟨y, k _ _ h (ne_of h hc af_cf)⟩
theorem AtomAt.keep {CA p : Addr} {B : Addr → Prop} (k : Keep c H H') (hc : H c = some (.ins C dx (cf a i))) : ∀ {x : Gh.Atom}, AtomAt CA B H p x → AtomAt CA B H' p x
  | .run, h => AtomAs.keep k hc h
  | .one _ .any, h => AtomAs.keep k hc h
  | .one _ (.alike _), ⟨t, h1, h2⟩ => ⟨t, h1.keep k hc, h2.keep k hc⟩
  | .one _ (.class_ _ _), ⟨t, h1, h2⟩ => ⟨t, h1.keep k hc, h2.keep k hc⟩
  | .one _ (.name _), ⟨t, h1, b, h2⟩ => ⟨t, h1.keep k hc, b, h2.keep (fun _ _ => NameAt.keep k hc) k hc⟩
  | .one _ (.among _), ⟨t, h1, b, h2⟩ => ⟨t, h1.keep k hc, b, h2.keep (fun _ _ => NameAt.keep k hc) k hc⟩
/-- what is new behind the cursor's steps was new ahead of them -/
theorem Keep.free {l : Addr} (k : Keep c H H') (hc : ∃ o, H' c = some o) (h : H' l = none) : H l = none := by
  cases e : H l with
  | none => rfl
  | some o =>
    by_cases n : l = c
    · obtain ⟨u, hu⟩ := hc
      rw [n, hu] at h; cases h
    · rw [k l o e n] at h; cases h
end
section
variable {H H' : Hp}
theorem ListAt.same {α : Type} {rel : Hp → Addr → α → Prop} {l : Addr} {xs : List α} (m : ∀ p x, rel H p x → rel H' p x) (s : Same H H') (h : ListAt rel H l xs) : ListAt rel H' l xs := by
  obtain ⟨ps, h1, h2⟩ := h
  exact ⟨ps, s _ _ h1, h2.mono m⟩
theorem AtomAt.imp {CA p : Addr} {B B' : Addr → Prop} (m : ∀ t, B t → B' t) : ∀ {x : Gh.Atom}, AtomAt CA B H p x → AtomAt CA B' H p x
  | .run, h => h
  | .one _ .any, h => h
  | .one _ (.alike _), h => h
  | .one _ (.class_ _ _), h => h
  | .one _ (.name _), ⟨t, h1, b, h2⟩ => ⟨t, h1, m t b, h2⟩
  | .one _ (.among _), ⟨t, h1, b, h2⟩ => ⟨t, h1, m t b, h2⟩
/-- a list that no atom has is written -/
theorem AtomAt.put {CA p l : Addr} {xs ys : List V} (hl : H l = some (.lst xs)) : ∀ {x : Gh.Atom}, AtomAt CA (fun t => t ≠ l) H p x → AtomAt CA (fun t => t ≠ l) (upd H l (.lst ys)) p x := by
  have nl : ∀ (b : Addr) (o : HO), H b = some o → (∀ xs, o ≠ .lst xs) → upd H l (.lst ys) b = some o := fun b o e z => by
    rw [upd_ne (ne_of e hl (z _))]; exact e
  have nn : ∀ (t : Addr) (ns : List Gh.Name), t ≠ l → ListAt NameAt H t ns → ListAt NameAt (upd H l (.lst ys)) t ns := fun t ns n h => by
    obtain ⟨ps, h1, h2⟩ := h
    exact ⟨ps, by rw [upd_ne n]; exact h1, h2.mono fun b y e => nl b _ e (by intro xs z; cases z)⟩
  intro x h
  match x, h with
  | .run, ⟨y, h⟩ => exact ⟨y, nl _ _ h (by intro xs z; cases z)⟩
  | .one _ .any, ⟨y, h⟩ => exact ⟨y, nl _ _ h (by intro xs z; cases z)⟩
  | .one _ (.alike _), ⟨t, ⟨y, h1⟩, h2⟩ => exact ⟨t, ⟨y, nl _ _ h1 (by intro xs z; cases z)⟩, nl _ _ h2 (by intro xs z; cases z)⟩
  | .one _ (.class_ _ _), ⟨t, ⟨y, h1⟩, h2⟩ => exact ⟨t, ⟨y, nl _ _ h1 (by intro xs z; cases z)⟩, nl _ _ h2 (by intro xs z; cases z)⟩
  | .one _ (.name _), ⟨t, ⟨y, h1⟩, b, h2⟩ => exact ⟨t, ⟨y, nl _ _ h1 (by intro xs z; cases z)⟩, b, nn _ _ b h2⟩
  | .one _ (.among _), ⟨t, ⟨y, h1⟩, b, h2⟩ => exact ⟨t, ⟨y, nl _ _ h1 (by intro xs z; cases z)⟩, b, nn _ _ b h2⟩
end
end Sg
namespace Sg
open PySem PySem.Spec PyProof.Rows L2
open PySem.W (Codec)
def top (i : Nat) : Stmt := PySem.Challenge.pw_signsearch_s01_judge.main.body.getD i (.Pass ⟨0, 0, 0, 0⟩)
abbrev s_Cursor_init : Stmt := inClass (top 2) 0
abbrev s_Cursor_at_end : Stmt := inClass (top 2) 1
abbrev s_Cursor_peek : Stmt := inClass (top 2) 2
abbrev s_Cursor_take : Stmt := inClass (top 2) 3
abbrev s_Cursor_take_between : Stmt := inClass (top 2) 4
abbrev s_Atom_init : Stmt := inClass (top 33) 0
abbrev s_take_small_letter : Stmt := top 20
abbrev s_read_letters : Stmt := top 21
abbrev s_read_number : Stmt := top 22
abbrev s_read_name_behind : Stmt := top 23
abbrev s_read_name : Stmt := top 24
abbrev s_atom_of : Stmt := top 34
abbrev s_read_dots : Stmt := top 35
abbrev s_read_names : Stmt := top 36
abbrev s_read_name_or_class : Stmt := top 37
abbrev s_read_atom : Stmt := top 38
abbrev s_read_pattern : Stmt := top 39
abbrev s_judge : Stmt := top 44
/-- what the top has written -/
structure Txt (K : PySem.W.Frag) (mg : Str → Option Value) where
  Cursor : CDef K mg "Cursor" "Cursor.__init__" s_Cursor_init
  Cursor_at_end : MDef K Cursor.C "at_end" "Cursor.at_end" s_Cursor_at_end
  Cursor_peek : MDef K Cursor.C "peek" "Cursor.peek" s_Cursor_peek
  Cursor_take : MDef K Cursor.C "take" "Cursor.take" s_Cursor_take
  Cursor_take_between : MDef K Cursor.C "take_between" "Cursor.take_between" s_Cursor_take_between
  Cursor_n_data : NoAttr K Cursor.C "data"
  Cursor_n_at : NoAttr K Cursor.C "at"
  Atom : CDef K mg "Atom" "Atom.__init__" s_Atom_init
  Atom_n_kind : NoAttr K Atom.C "kind"
  Atom_n_what : NoAttr K Atom.C "what"
  Atom_n_denied : NoAttr K Atom.C "denied"
  take_small_letter : Def K mg "take_small_letter" s_take_small_letter
  read_letters : Def K mg "read_letters" s_read_letters
  read_number : Def K mg "read_number" s_read_number
  read_name_behind : Def K mg "read_name_behind" s_read_name_behind
  read_name : Def K mg "read_name" s_read_name
  atom_of : Def K mg "atom_of" s_atom_of
  read_dots : Def K mg "read_dots" s_read_dots
  read_names : Def K mg "read_names" s_read_names
  read_name_or_class : Def K mg "read_name_or_class" s_read_name_or_class
  read_atom : Def K mg "read_atom" s_read_atom
  read_pattern : Def K mg "read_pattern" s_read_pattern
  judge : Def K mg "judge" s_judge
  g_NO_BYTE : ∃ t, mg "NO_BYTE" = some (.int (-1) t)
  g_BLANK : ∃ t, mg "BLANK" = some (.int (32) t)
  g_BANG : ∃ t, mg "BANG" = some (.int (33) t)
  g_STAR : ∃ t, mg "STAR" = some (.int (42) t)
  g_COMMA : ∃ t, mg "COMMA" = some (.int (44) t)
  g_DOT : ∃ t, mg "DOT" = some (.int (46) t)
  g_DIGIT_0 : ∃ t, mg "DIGIT_0" = some (.int (48) t)
  g_DIGIT_1 : ∃ t, mg "DIGIT_1" = some (.int (49) t)
  g_DIGIT_9 : ∃ t, mg "DIGIT_9" = some (.int (57) t)
  g_EQUALS : ∃ t, mg "EQUALS" = some (.int (61) t)
  g_CAPITAL_A : ∃ t, mg "CAPITAL_A" = some (.int (65) t)
  g_CAPITAL_Z : ∃ t, mg "CAPITAL_Z" = some (.int (90) t)
  g_SMALL_A : ∃ t, mg "SMALL_A" = some (.int (97) t)
  g_SMALL_Z : ∃ t, mg "SMALL_Z" = some (.int (122) t)
  g_BRACE : ∃ t, mg "BRACE" = some (.int (123) t)
  g_END_BRACE : ∃ t, mg "END_BRACE" = some (.int (125) t)
  g_MOST_DIGITS : ∃ t, mg "MOST_DIGITS" = some (.int (3) t)
  g_MOST_ATOMS : ∃ t, mg "MOST_ATOMS" = some (.int (64) t)
  g_MOST_NAMES : ∃ t, mg "MOST_NAMES" = some (.int (16) t)
  g_RUN : ∃ t, mg "RUN" = some (.str "run" t)
  g_ANY : ∃ t, mg "ANY" = some (.str "any" t)
  g_ALIKE : ∃ t, mg "ALIKE" = some (.str "alike" t)
  g_CLASS : ∃ t, mg "CLASS" = some (.str "class" t)
  g_NAMES : ∃ t, mg "NAMES" = some (.str "names" t)
  g_MOST_PATTERN_BYTES : ∃ t, mg "MOST_PATTERN_BYTES" = some (.int (4096) t)
  g_TOO_LONG : ∃ t, mg "TOO_LONG" = some (.int (-2) t)
  g_JUDGED_WRONG : ∃ t, mg "JUDGED_WRONG" = some (.int (-6) t)
  b_len : mg "len" = none
end Sg
namespace Sg
open PySem PySem.Spec PyProof.Rows L2
open PySem.W (Codec)
theorem Cur.write {K : PySem.W.Frag} {C c a l : Addr} {bs r0 r : Gh.Bytes} {H H1 : Hp} {xs : List V} {o : HO} (x0 : Cur K C c a bs H r0) (x : Cur K C c a bs H1 r) (k : Keep c H H1) (hl : H l = none) (h1 : H1 l = some (.lst xs)) :
    Cur K C c a bs (upd H1 l o) r := by
  obtain ⟨dx0, i0, e0, _⟩ := x0.ex
  obtain ⟨dx, i, e, e2⟩ := x.ex
  exact ⟨SqL.keep (k.put (.inr hl)) e0 x0.seq, dx, i, by rw [upd_ne (ne_of e h1 (by intro z; cases z))]; exact e, e2⟩
end Sg
namespace Sg
open PySem PySem.Spec PyProof.Rows L2
open PySem.W (Codec)
section
variable {P : Program} {w : World} {K : PySem.W.Frag} {mg : Str → Option Value} {base : Heap}
def pk : Gh.Bytes → Int
  | [] => -1
  | c :: _ => ((c.toNat : Nat) : Int)
def spCInit (C : Addr) : Sp := fun vs H Q _ => ∃ (c a dx : Addr), vs = [.ref c, .ref a] ∧ H c = some (.ins C dx []) ∧ ∀ H' : Hp, H' c = some (.ins C dx (cf a 0)) → Keep c H H' → Q .non H'
def spAtEnd (K : PySem.W.Frag) (C : Addr) : Sp := fun vs H Q _ => ∃ (c a : Addr) (bs r : Gh.Bytes), vs = [.ref c] ∧ Cur K C c a bs H r ∧ Q (.bl r.isEmpty) H
def spPeek (K : PySem.W.Frag) (C : Addr) : Sp := fun vs H Q _ => ∃ (c a : Addr) (bs r : Gh.Bytes), vs = [.ref c] ∧ Cur K C c a bs H r ∧ Q (.int (pk r)) H
def spTake (K : PySem.W.Frag) (C : Addr) : Sp := fun vs H Q _ => ∃ (c a : Addr) (bs r : Gh.Bytes) (k : UInt8), vs = [.ref c, .int ((k.toNat : Nat) : Int)] ∧ Cur K C c a bs H r ∧ ∀ H' : Hp, Cur K C c a bs H' (tk k r).2 → Keep c H H' → Q (.bl (tk k r).1) H'
def spTakeB (K : PySem.W.Frag) (C : Addr) : Sp := fun vs H Q _ => ∃ (c a : Addr) (bs r : Gh.Bytes) (p : UInt8 → Bool) (lo hi : Int), vs = [.ref c, .int lo, .int hi] ∧ 0 < lo ∧ (∀ x : UInt8, p x = (decide (lo ≤ ((x.toNat : Nat) : Int)) && decide (((x.toNat : Nat) : Int) ≤ hi))) ∧
  Cur K C c a bs H r ∧ ∀ H' : Hp, Cur K C c a bs H' (tp p r).2 → Keep c H H' → Q (.int (((tp p r).1.toNat : Nat) : Int)) H'
theorem sc_cinit : FnScope ["self", "data"] ["self", "data"] (defScope s_Cursor_init) := ⟨rfl, rfl, rfl, by decide +kernel, rfl, by decide +kernel, by decide +kernel⟩
theorem ok_cinit (T : Txt K mg) : FnOk P w K mg base CX0 1 T.Cursor.f T.Cursor.fd ["self", "data"] (spCInit T.Cursor.C) := by
  refine T.Cursor.F.ok sc_cinit (fun vs H Q E h => ?_) (fun cdv A outer s H vs Q E hr h => ?_)
  · obtain ⟨c, a, dx, rfl, _⟩ := h
    rfl
  · obtain ⟨c, a, dx, rfl, hc, k⟩ := h
    refine ⟨_, pss_cons (ps_fld (pv 0) (pv 1) rfl) (pss_one (ps_fld (pv 0) pe_int rfl)), ?_⟩
    refine ⟨_, rfl, _, rfl, c, _, dx, [], rfl, hc, T.Cursor.cl, T.Cursor_n_data, (by show 0 < 1000; decide), ?_⟩
    refine ⟨_, rfl, c, _, dx, _, rfl, upd_same, T.Cursor.cl, T.Cursor_n_at, (by show 1 < 1000; decide), ?_⟩
    exact k _ upd_same (((Keep.refl c H).put (.inl rfl)).put (.inl rfl))
theorem sc_atEnd : FnScope ["self"] ["self"] (defScope s_Cursor_at_end) := ⟨rfl, rfl, rfl, by decide +kernel, rfl, by decide +kernel, by decide +kernel⟩
theorem ok_atEnd (T : Txt K mg) : FnOk P w K mg base CX0 1 T.Cursor_at_end.f T.Cursor_at_end.fd ["self"] (spAtEnd K T.Cursor.C) := by
  refine T.Cursor_at_end.F.ok sc_atEnd (fun vs H Q E h => ?_) (fun cdv A outer s H vs Q E hr h => ?_)
  · obtain ⟨c, a, bs, r, rfl, _⟩ := h
    rfl
  · obtain ⟨c, a, bs, r, rfl, x, k⟩ := h
    obtain ⟨dx, i, hc, hi, hd⟩ := x.ex
    refine ⟨_, pss_one (ps_ret (pe_cmpR op_eq (pe_fld (pv 0) rfl) (pe_callB call_len_seq (by rfl) T.b_len PySem.boot_len (pa_cons (pe_fld (pv 0) rfl) pa_nil)) (nomark _))), ?_⟩
    refine ⟨_, rfl, c, _, dx, _, _, rfl, hc, T.Cursor.cl, T.Cursor_n_at, cf_at a i, _, rfl, c, _, dx, _, _, rfl, hc, T.Cursor.cl, T.Cursor_n_data, cf_data a i, a, _, rfl, .inl x.seq, rfl, ?_⟩
    have e : decide (V.int (i : Int) = V.int ((bv bs).length : Int)) = r.isEmpty := by
      rw [bv_len]
      cases r with
      | nil => rw [drop_nil hd hi]; exact decide_eq_true rfl
      | cons y v =>
        obtain ⟨_, h2, _⟩ := drop_cons hd
        refine decide_eq_false fun z => ?_
        injection z with z
        omega
    rw [e]
    exact k
theorem b_atEnd (T : Txt K mg) : Binds K T.Cursor_at_end.fd ["self"] [] := T.Cursor_at_end.F.binds fun _ _ _ _ _ _ us hl => match us, hl with | [_], _ => rfl
theorem sc_peek : FnScope ["self"] ["self"] (defScope s_Cursor_peek) := ⟨rfl, rfl, rfl, by decide +kernel, rfl, by decide +kernel, by decide +kernel⟩
theorem ne_end_at : ¬ ("at_end" : Str) = "at" := by decide +kernel
theorem ne_end_data : ¬ ("at_end" : Str) = "data" := by decide +kernel
theorem ne_peek_at : ¬ ("peek" : Str) = "at" := by decide +kernel
theorem ne_peek_data : ¬ ("peek" : Str) = "data" := by decide +kernel
theorem ne_take_at : ¬ ("take" : Str) = "at" := by decide +kernel
theorem ne_take_data : ¬ ("take" : Str) = "data" := by decide +kernel
theorem ne_tb_at : ¬ ("take_between" : Str) = "at" := by decide +kernel
theorem ne_tb_data : ¬ ("take_between" : Str) = "data" := by decide +kernel
theorem ok_peek (T : Txt K mg) : FnOk P w K mg base CX0 2 T.Cursor_peek.f T.Cursor_peek.fd ["self"] (spPeek K T.Cursor.C) := by
  refine T.Cursor_peek.F.ok sc_peek (fun vs H Q E h => ?_) (fun cdv A outer s H vs Q E hr h => ?_)
  · obtain ⟨c, a, bs, r, rfl, _⟩ := h
    rfl
  · obtain ⟨c, a, bs, r, rfl, x, k⟩ := h
    obtain ⟨dx, i, hc, hi, hd⟩ := x.ex
    refine ⟨_, pss_cons (ps_if (pt_val (pe_meth0 (pv 0) T.Cursor.cl T.Cursor_at_end.mt (ok_atEnd T) hr (b_atEnd T) .nil pass0)) (pss_one (ps_ret (pe_gint rfl T.g_NO_BYTE))) pss_nil) (pss_one (ps_ret (pe_ix ix_list (pe_fld (pv 0) rfl) (pe_fld (pv 0) rfl) (fun _ _ => rfl)))), ?_⟩
    refine ⟨_, rfl, c, dx, _, rfl, hc, cf_no a i ne_end_at ne_end_data, c, a, bs, r, rfl, x, _, rfl, ?_⟩
    cases r with
    | nil => exact iteT k
    | cons y v =>
      obtain ⟨h1, _, _⟩ := drop_cons hd
      refine iteF ?_
      exact ⟨_, rfl, c, _, dx, _, _, rfl, hc, T.Cursor.cl, T.Cursor_n_data, cf_data a i, _, rfl, c, _, dx, _, _, rfl, hc, T.Cursor.cl, T.Cursor_n_at, cf_at a i, a, _, _, _, rfl, rfl, x.seq, atI_nat (bv_get h1), k⟩
theorem b_peek (T : Txt K mg) : Binds K T.Cursor_peek.fd ["self"] [] := T.Cursor_peek.F.binds fun _ _ _ _ _ _ us hl => match us, hl with | [_], _ => rfl
theorem pk_eq {r : Gh.Bytes} {k : UInt8} : decide (V.int (pk r) = V.int ((k.toNat : Nat) : Int)) = (tk k r).1 := by
  cases r with
  | nil =>
    refine decide_eq_false fun z => ?_
    injection z with z
    have : (0 : Int) ≤ ((k.toNat : Nat) : Int) := Int.natCast_nonneg _
    have z' : (-1 : Int) = ((k.toNat : Nat) : Int) := z
    omega
  | cons y v =>
    rw [tk_cons]
    by_cases e : y = k
    · rw [if_pos e, e]; exact decide_eq_true rfl
    · rw [if_neg e]
      refine decide_eq_false fun z => ?_
      injection z with z
      exact e (UInt8.toNat_inj.mp (Int.ofNat.inj z))
theorem sc_take : FnScope ["self", "byte"] ["self", "byte"] (defScope s_Cursor_take) := ⟨rfl, rfl, rfl, by decide +kernel, rfl, by decide +kernel, by decide +kernel⟩
theorem ok_take (T : Txt K mg) : FnOk P w K mg base CX0 3 T.Cursor_take.f T.Cursor_take.fd ["self", "byte"] (spTake K T.Cursor.C) := by
  refine T.Cursor_take.F.ok sc_take (fun vs H Q E h => ?_) (fun cdv A outer s H vs Q E hr h => ?_)
  · obtain ⟨c, a, bs, r, k, rfl, _⟩ := h
    rfl
  · obtain ⟨c, a, bs, r, k, rfl, x, q⟩ := h
    obtain ⟨dx, i, hc, hi, hd⟩ := x.ex
    refine ⟨_, pss_cons (ps_if (pt_cmpR op_ne (pe_meth0 (pv 0) T.Cursor.cl T.Cursor_peek.mt (ok_peek T) hr (b_peek T) .nil pass0) (pv 1) (nomark _)) (pss_one (ps_ret pe_bl)) pss_nil) (pss_cons (ps_fldaug (pv 0) pe_int in_add) (pss_one (ps_ret pe_bl))), ?_⟩
    refine ⟨_, rfl, c, dx, _, rfl, hc, cf_no a i ne_peek_at ne_peek_data, c, a, bs, r, rfl, x, _, rfl, rfl, _, rfl, ?_⟩
    rw [pk_eq]
    cases r with
    | nil => exact iteT (q H x (Keep.refl c H))
    | cons y v =>
      rw [tk_cons] at q ⊢
      by_cases e : y = k
      · rw [if_pos e] at q ⊢
        refine iteF ?_
        refine ⟨_, rfl, c, _, dx, _, _, rfl, hc, T.Cursor.cl, T.Cursor_n_at, cf_at a i, _, _, rfl, rfl, dx, _, hc, cf_short a i, ?_⟩
        rw [show putF "at" (V.int ((i : Int) + 1)) (cf a i) = cf a (i + 1) from cf_put a i (i + 1)]
        exact q _ (Cur.step hc x.seq hd) ((Keep.refl c H).put (.inl rfl))
      · rw [if_neg e] at q ⊢
        exact iteT (q H x (Keep.refl c H))
theorem b_take (T : Txt K mg) : Binds K T.Cursor_take.fd ["self", "byte"] [] := T.Cursor_take.F.binds fun _ _ _ _ _ _ us hl => match us, hl with | [_, _], _ => rfl
theorem sc_takeB : FnScope ["self", "low", "high", "byte"] ["self", "low", "high"] (defScope s_Cursor_take_between) := ⟨rfl, rfl, rfl, by decide +kernel, rfl, by decide +kernel, by decide +kernel⟩
theorem ok_takeB (T : Txt K mg) : FnOk P w K mg base CX0 3 T.Cursor_take_between.f T.Cursor_take_between.fd ["self", "low", "high"] (spTakeB K T.Cursor.C) := by
  refine T.Cursor_take_between.F.ok sc_takeB (fun vs H Q E h => ?_) (fun cdv A outer s H vs Q E hr h => ?_)
  · obtain ⟨c, a, bs, r, p, lo, hi', rfl, _⟩ := h
    rfl
  · obtain ⟨c, a, bs, r, p, lo, hi', rfl, hlo, hp, x, q⟩ := h
    obtain ⟨dx, i, hc, hi, hd⟩ := x.ex
    refine ⟨_, pss_cons (ps_set (i := 3) sc_takeB.nd rfl (Or.inl rfl) (pe_meth0 (pv 0) T.Cursor.cl T.Cursor_peek.mt (ok_peek T) hr (b_peek T) .nil pass0))
      (pss_cons (ps_if (pw_or (pt_cmpR op_lt (pv 3) (pv 1) (nomark _)) (pw_or1 (pt_cmpR op_gt (pv 3) (pv 2) (nomark _)))).pt (pss_one (ps_ret pe_int)) pss_nil) (pss_cons (ps_fldaug (pv 0) pe_int in_add) (pss_one (ps_ret (pv 3))))), ?_⟩
    refine ⟨_, rfl, c, dx, _, rfl, hc, cf_no a i ne_peek_at ne_peek_data, c, a, bs, r, rfl, x, ?_⟩
    refine ⟨_, rfl, _, rfl, _, _, rfl, rfl, _, rfl, ?_⟩
    cases r with
    | nil =>
      have e1 : decide (pk [] < lo) = true := decide_eq_true (by show (-1 : Int) < lo; omega)
      rw [e1]
      exact iteT (iteT (q H x (Keep.refl c H)))
    | cons y v =>
      rw [tp_cons] at q
      have hy : pk (y :: v) = ((y.toNat : Nat) : Int) := rfl
      rw [hy]
      by_cases h1 : ((y.toNat : Nat) : Int) < lo
      · have e : ¬ p y = true := by rw [hp, decide_eq_false (by omega)]; simp
        rw [if_neg e] at q
        rw [decide_eq_true h1]
        exact iteT (iteT (q H x (Keep.refl c H)))
      · rw [decide_eq_false h1]
        refine iteF ?_
        refine ⟨_, rfl, _, rfl, _, _, rfl, rfl, _, rfl, ?_⟩
        by_cases h2 : hi' < ((y.toNat : Nat) : Int)
        · have e : ¬ p y = true := by rw [hp, decide_eq_false (p := ((y.toNat : Nat) : Int) ≤ hi') (by omega)]; simp
          rw [if_neg e] at q
          rw [decide_eq_true h2]
          exact iteT (q H x (Keep.refl c H))
        · have e : p y = true := by rw [hp, decide_eq_true (p := lo ≤ ((y.toNat : Nat) : Int)) (by omega), decide_eq_true (p := ((y.toNat : Nat) : Int) ≤ hi') (by omega)]; rfl
          rw [if_pos e] at q
          rw [decide_eq_false h2]
          refine iteF ?_
          refine ⟨_, rfl, c, _, dx, _, _, rfl, hc, T.Cursor.cl, T.Cursor_n_at, cf_at a i, _, _, rfl, rfl, dx, _, hc, cf_short a i, ?_⟩
          rw [show putF "at" (V.int ((i : Int) + 1)) (cf a i) = cf a (i + 1) from cf_put a i (i + 1)]
          exact ⟨_, rfl, q _ (Cur.step hc x.seq hd) ((Keep.refl c H).put (.inl rfl))⟩
theorem b_takeB (T : Txt K mg) : Binds K T.Cursor_take_between.fd ["self", "low", "high"] [] := T.Cursor_take_between.F.binds fun _ _ _ _ _ _ us hl => match us, hl with | [_, _, _], _ => rfl
end
end Sg
namespace Sg
open PySem PySem.Spec PyProof.Rows L2
open PySem.W (Codec)
section
variable {P : Program} {w : World} {K : PySem.W.Frag} {mg : Str → Option Value} {base : Heap}
theorem rng {lo hi n : Nat} : (decide (lo ≤ n) && decide (n ≤ hi)) = (decide ((lo : Int) ≤ (n : Int)) && decide ((n : Int) ≤ (hi : Int))) := by
  have e1 : decide (lo ≤ n) = decide ((lo : Int) ≤ (n : Int)) := decide_eq_decide.mpr (by omega)
  have e2 : decide (n ≤ hi) = decide ((n : Int) ≤ (hi : Int)) := decide_eq_decide.mpr (by omega)
  rw [e1, e2]
theorem small_rng (x : UInt8) : Gh.isSmall x = (decide ((97 : Int) ≤ ((x.toNat : Nat) : Int)) && decide (((x.toNat : Nat) : Int) ≤ 122)) := rng (lo := 97) (hi := 122)
theorem big_rng (x : UInt8) : Gh.isBig x = (decide ((65 : Int) ≤ ((x.toNat : Nat) : Int)) && decide (((x.toNat : Nat) : Int) ≤ 90)) := rng (lo := 65) (hi := 90)
theorem digit_rng (x : UInt8) : Gh.isDigit x = (decide ((48 : Int) ≤ ((x.toNat : Nat) : Int)) && decide (((x.toNat : Nat) : Int) ≤ 57)) := rng (lo := 48) (hi := 57)
theorem d1_rng (x : UInt8) : isD1 x = (decide ((49 : Int) ≤ ((x.toNat : Nat) : Int)) && decide (((x.toNat : Nat) : Int) ≤ 57)) := rng (lo := 49) (hi := 57)
theorem byte0 {x : UInt8} : decide (V.int ((x.toNat : Nat) : Int) = V.int 0) = decide (x = 0) := by
  refine decide_eq_decide.mpr ⟨fun z => ?_, fun z => by rw [z]; rfl⟩
  injection z with z
  have : x.toNat = 0 := by omega
  exact UInt8.toNat_inj.mp this
theorem num0 {n : Nat} : decide (V.int ((n : Nat) : Int) = V.int 0) = decide (n = 0) := by
  refine decide_eq_decide.mpr ⟨fun z => ?_, fun z => by rw [z]; rfl⟩
  injection z with z
  omega
def spSmall (K : PySem.W.Frag) (C : Addr) : Sp := fun vs H Q _ => ∃ (c a : Addr) (bs r : Gh.Bytes), vs = [.ref c] ∧ Cur K C c a bs H r ∧ ∀ H' : Hp, Cur K C c a bs H' (tp Gh.isSmall r).2 → Keep c H H' → Q (.int (((tp Gh.isSmall r).1.toNat : Nat) : Int)) H'
def spLetters (K : PySem.W.Frag) (C : Addr) : Sp := fun vs H Q _ => ∃ (c a : Addr) (bs r : Gh.Bytes), vs = [.ref c] ∧ Cur K C c a bs H r ∧ ∀ (H' : Hp) (v : V), Cur K C c a bs H' (letters r).2 → Keep c H H' → OptAt PairAt H' v (letters r).1 → Q v H'
def spNumber (K : PySem.W.Frag) (C : Addr) : Sp := fun vs H Q _ => ∃ (c a : Addr) (bs r : Gh.Bytes), vs = [.ref c] ∧ Cur K C c a bs H r ∧ ∀ H' : Hp, Cur K C c a bs H' (number r).2 → Keep c H H' → Q (.int (((number r).1 : Nat) : Int)) H'
def spBehind (K : PySem.W.Frag) (C : Addr) : Sp := fun vs H Q _ => ∃ (c a p : Addr) (x : UInt8 × UInt8) (bs r : Gh.Bytes), vs = [.ref p, .ref c] ∧ PairAt H p x ∧ Cur K C c a bs H r ∧ ∀ (H' : Hp) (v : V), Cur K C c a bs H' (nameBehind x.1 x.2 r).2 → Keep c H H' → OptAt NameAt H' v (nameBehind x.1 x.2 r).1 → Q v H'
def spName (K : PySem.W.Frag) (C : Addr) : Sp := fun vs H Q _ => ∃ (c a : Addr) (bs r : Gh.Bytes), vs = [.ref c] ∧ Cur K C c a bs H r ∧ ∀ (H' : Hp) (v : V), Cur K C c a bs H' (readName r).2 → Keep c H H' → OptAt NameAt H' v (readName r).1 → Q v H'
theorem sc_small : FnScope ["cursor"] ["cursor"] (defScope s_take_small_letter) := ⟨rfl, rfl, rfl, by decide +kernel, rfl, by decide +kernel, by decide +kernel⟩
theorem ok_small (T : Txt K mg) : FnOk P w K mg base CX0 4 T.take_small_letter.f T.take_small_letter.fd ["cursor"] (spSmall K T.Cursor.C) := by
  refine T.take_small_letter.F.ok sc_small (fun vs H Q E h => ?_) (fun cdv A outer s H vs Q E hr h => ?_)
  · obtain ⟨c, a, bs, r, rfl, _⟩ := h
    rfl
  · obtain ⟨c, a, bs, r, rfl, x, q⟩ := h
    obtain ⟨dx, i, hc, hi, hd⟩ := x.ex
    refine ⟨_, pss_one (ps_ret (pe_meth (pv 0) T.Cursor.cl T.Cursor_take_between.mt (ok_takeB T) hr (b_takeB T) .nil pass0 (pa_cons (pe_gint rfl T.g_SMALL_A) (pa_cons (pe_gint rfl T.g_SMALL_Z) pa_nil)))), ?_⟩
    exact ⟨_, rfl, c, dx, _, rfl, hc, cf_no a i ne_tb_at ne_tb_data, c, a, bs, r, Gh.isSmall, 97, 122, rfl, by decide, small_rng, x, q⟩
theorem b_small (T : Txt K mg) : Binds K T.take_small_letter.fd ["cursor"] [] := T.take_small_letter.F.binds fun _ _ _ _ _ _ us hl => match us, hl with | [_], _ => rfl
theorem sc_letters : FnScope ["cursor", "first"] ["cursor"] (defScope s_read_letters) := ⟨rfl, rfl, rfl, by decide +kernel, rfl, by decide +kernel, by decide +kernel⟩
theorem ok_letters (T : Txt K mg) : FnOk P w K mg base CX0 5 T.read_letters.f T.read_letters.fd ["cursor"] (spLetters K T.Cursor.C) := by
  refine T.read_letters.F.ok sc_letters (fun vs H Q E h => ?_) (fun cdv A outer s H vs Q E hr h => ?_)
  · obtain ⟨c, a, bs, r, rfl, _⟩ := h
    rfl
  · obtain ⟨c, a, bs, r, rfl, x, q⟩ := h
    obtain ⟨dx, i, hc, hi, hd⟩ := x.ex
    have hr3 : Room 3 _ := hr.mono (by decide)
    refine ⟨_, pss_cons (ps_set (i := 1) sc_letters.nd rfl (Or.inl rfl) (pe_meth (pv 0) T.Cursor.cl T.Cursor_take_between.mt (ok_takeB T) hr3 (b_takeB T) .nil pass0 (pa_cons (pe_gint rfl T.g_CAPITAL_A) (pa_cons (pe_gint rfl T.g_CAPITAL_Z) pa_nil))))
      (pss_cons (ps_if (pt_cmpR op_eq (pv 1) pe_int (nomark _)) (pss_one (ps_ret pe_non)) pss_nil)
        (pss_one (ps_ret (pe_tup (pa_cons (pv 1) (pa_cons (pe_call (ok_small T) hr rfl T.take_small_letter.g T.take_small_letter.F.kp (b_small T) .nil pass0 (pa_cons (pv 0) pa_nil)) pa_nil)))))), ?_⟩
    refine ⟨_, rfl, c, dx, _, rfl, hc, cf_no a i ne_tb_at ne_tb_data, c, a, bs, r, Gh.isBig, 65, 90, rfl, by decide, big_rng, x, fun H1 x1 k1 => ?_⟩
    refine ⟨_, rfl, rfl, _, rfl, ?_⟩
    rw [byte0]
    by_cases e : (tp Gh.isBig r).1 = 0
    · have eL : letters r = (none, (tp Gh.isBig r).2) := by unfold letters; rw [if_pos e]
      rw [eL] at q
      rw [decide_eq_true e]
      exact iteT (q H1 .non x1 k1 rfl)
    · have eL : letters r = (some ((tp Gh.isBig r).1, (tp Gh.isSmall (tp Gh.isBig r).2).1), (tp Gh.isSmall (tp Gh.isBig r).2).2) := by unfold letters; rw [if_neg e]
      rw [eL] at q
      rw [decide_eq_false e]
      refine iteF ?_
      refine ⟨_, rfl, _, rfl, c, a, bs, _, rfl, x1, fun H2 x2 k2 => ⟨by show 2 ≤ sizeLine; decide, fun p hp => ?_⟩⟩
      exact q _ _ (x2.same (Same.new hp)) ((k1.trans k2).new hp) ⟨p, rfl, upd_same⟩
theorem b_letters (T : Txt K mg) : Binds K T.read_letters.fd ["cursor"] [] := T.read_letters.F.binds fun _ _ _ _ _ _ us hl => match us, hl with | [_], _ => rfl
theorem sc_number : FnScope ["cursor", "number", "digits", "digit"] ["cursor"] (defScope s_read_number) := ⟨rfl, rfl, rfl, by decide +kernel, rfl, by decide +kernel, by decide +kernel⟩
theorem ok_number (T : Txt K mg) : FnOk P w K mg base CX0 4 T.read_number.f T.read_number.fd ["cursor"] (spNumber K T.Cursor.C) := by
  refine T.read_number.F.ok sc_number (fun vs H Q E h => ?_) (fun cdv A outer s H vs Q E hr h => ?_)
  · obtain ⟨c, a, bs, r, rfl, _⟩ := h
    rfl
  · obtain ⟨c, a, bs, r, rfl, x, q⟩ := h
    obtain ⟨dx, i, hc, hi, hd⟩ := x.ex
    refine ⟨_, pss_cons (ps_set (i := 1) sc_number.nd rfl (Or.inl rfl) pe_int) (pss_cons (ps_set (i := 2) sc_number.nd rfl (Or.inl rfl) pe_int)
      (pss_cons (ps_set (i := 3) sc_number.nd rfl (Or.inl rfl) (pe_meth (pv 0) T.Cursor.cl T.Cursor_take_between.mt (ok_takeB T) hr (b_takeB T) .nil pass0 (pa_cons (pe_gint rfl T.g_DIGIT_1) (pa_cons (pe_gint rfl T.g_DIGIT_9) pa_nil))))
      (pss_cons (ps_while PassesOwn.never (pt_cmpR op_ne (pv 3) pe_int (nomark _))
        (pss_cons (ps_set (i := 1) sc_number.nd rfl (Or.inl rfl) (pe_op op_sub (pe_op op_add (pe_op op_mul (pv 1) pe_int) (pv 3)) (pe_gint rfl T.g_DIGIT_0)))
        (pss_cons (ps_aug (i := 2) sc_number.nd rfl (Or.inl rfl) pe_int ip_add)
        (pss_one (ps_set (i := 3) sc_number.nd rfl (Or.inl rfl) (pe_ifExp (pt_cmpR op_lt (pv 2) (pe_gint rfl T.g_MOST_DIGITS) (nomark _)) (pe_meth (pv 0) T.Cursor.cl T.Cursor_take_between.mt (ok_takeB T) hr (b_takeB T) .nil pass0 (pa_cons (pe_gint rfl T.g_DIGIT_0) (pa_cons (pe_gint rfl T.g_DIGIT_9) pa_nil))) pe_int))))))
      (pss_one (ps_ret (pv 1)))))), ?_⟩
    refine ⟨_, rfl, c, dx, _, rfl, hc, cf_no a i ne_tb_at ne_tb_data, c, a, bs, r, isD1, 49, 57, rfl, by decide, d1_rng, x, fun H1 x1 k1 => ?_⟩
    refine ⟨fun m σ H' => ∃ (n : Nat) (d : UInt8) (r' : Gh.Bytes), σ = [some (.ref c), some (.int (n : Int)), some (.int ((3 : Int) - (m : Int))), some (.int ((d.toNat : Nat) : Int))] ∧ m ≤ 3 ∧ Cur K T.Cursor.C c a bs H' r' ∧ Keep c H H' ∧ numLoop m n d r' = number r ∧ (d ≠ 0 → m ≠ 0 ∧ 48 ≤ d.toNat),
      ⟨3, 0, (tp isD1 r).1, (tp isD1 r).2, rfl, Nat.le_refl _, x1, k1, rfl, fun e => ⟨by decide, ?_⟩⟩, ?_⟩
    · rcases tp_cases isD1 r with ⟨h1, _, _⟩ | ⟨y, hy, _, h1⟩
      · exact absurd h1 e
      · rw [h1]
        have := (d1_digit hy).1
        unfold Gh.isDigit at this
        simp only [Bool.and_eq_true, decide_eq_true_eq] at this
        exact this.1
    · rintro m σ H2 ⟨n, d, r', rfl, hm, x2, k2, hN, hd2⟩
      obtain ⟨dx2, i2, hc2, _, _⟩ := x2.ex
      refine ⟨_, rfl, rfl, _, rfl, ?_⟩
      rw [byte0]
      by_cases e : d = 0
      · have e2 : numLoop m n d r' = (n, r') := by
          cases m with
          | zero => rfl
          | succ m => unfold numLoop; rw [if_pos e]
        rw [decide_eq_true e]
        refine iteF ⟨_, rfl, ?_⟩
        rw [← hN, e2] at q
        exact q H2 x2 k2
      · obtain ⟨m0, h48⟩ := hd2 e
        obtain ⟨f, rfl⟩ : ∃ f, m = f + 1 := ⟨m - 1, by omega⟩
        rw [decide_eq_false e]
        refine iteT ⟨fun σ' H' => ∃ (n : Nat) (d : UInt8) (r' : Gh.Bytes), σ' = [some (.ref c), some (.int (n : Int)), some (.int ((3 : Int) - (f : Int))), some (.int ((d.toNat : Nat) : Int))] ∧ f ≤ 3 ∧ Cur K T.Cursor.C c a bs H' r' ∧ Keep c H H' ∧ numLoop f n d r' = number r ∧ (d ≠ 0 → f ≠ 0 ∧ 48 ≤ d.toNat),
          fun σ' H' h => ⟨f, Nat.lt_succ_self f, h⟩, ?_⟩
        have hN' : numLoop f (n * 10 + (d.toNat - 48)) (if f = 0 then (0, r') else tp Gh.isDigit r').1 (if f = 0 then (0, r') else tp Gh.isDigit r').2 = number r := by
          rw [← hN]; conv => rhs; unfold numLoop
          rw [if_neg e]
        have eN : ((n : Int) * 10 + ((d.toNat : Nat) : Int) - 48) = ((n * 10 + (d.toNat - 48) : Nat) : Int) := by omega
        refine ⟨_, rfl, _, _, rfl, rfl, .inr ⟨by decide, by decide⟩, _, rfl, _, _, rfl, rfl, _, _, rfl, rfl, ?_⟩
        refine ⟨_, rfl, _, _, rfl, rfl, ?_⟩
        refine ⟨_, rfl, _, _, rfl, rfl, _, rfl, ?_⟩
        by_cases f0 : f = 0
        · rw [decide_eq_false (by rw [f0]; decide)]
          refine iteF ?_
          rw [if_pos f0] at hN'
          refine ⟨_, 0, r', ?_, by omega, x2, k2, hN', fun z => absurd rfl z⟩
          show [_, some (V.int ((n : Int) * 10 + ((d.toNat : Nat) : Int) - 48)), some (V.int (3 - ((f + 1 : Nat) : Int) + 1)), _] = _
          rw [eN, show (3 - ((f + 1 : Nat) : Int) + 1 : Int) = 3 - (f : Int) by omega]; rfl
        · rw [decide_eq_true (by show (3 - ((f + 1 : Nat) : Int) + 1 : Int) < 3; omega)]
          refine iteT ?_
          rw [if_neg f0] at hN'
          refine ⟨_, rfl, c, dx2, _, rfl, hc2, cf_no a i2 ne_tb_at ne_tb_data, c, a, bs, r', Gh.isDigit, 48, 57, rfl, by decide, digit_rng, x2, fun H3 x3 k3 => ?_⟩
          refine ⟨_, (tp Gh.isDigit r').1, (tp Gh.isDigit r').2, ?_, by omega, x3, k2.trans k3, hN', fun z => ⟨f0, ?_⟩⟩
          · show [_, some (V.int ((n : Int) * 10 + ((d.toNat : Nat) : Int) - 48)), some (V.int (3 - ((f + 1 : Nat) : Int) + 1)), _] = _
            rw [eN, show (3 - ((f + 1 : Nat) : Int) + 1 : Int) = 3 - (f : Int) by omega]
          · rcases tp_cases Gh.isDigit r' with ⟨h1, _, _⟩ | ⟨y, hy, _, h1⟩
            · exact absurd h1 z
            · rw [h1]
              unfold Gh.isDigit at hy
              simp only [Bool.and_eq_true, decide_eq_true_eq] at hy
              exact hy.1
theorem b_number (T : Txt K mg) : Binds K T.read_number.fd ["cursor"] [] := T.read_number.F.binds fun _ _ _ _ _ _ us hl => match us, hl with | [_], _ => rfl
theorem sc_behind : FnScope ["letters", "cursor", "number"] ["letters", "cursor"] (defScope s_read_name_behind) := ⟨rfl, rfl, rfl, by decide +kernel, rfl, by decide +kernel, by decide +kernel⟩
theorem ok_behind (T : Txt K mg) : FnOk P w K mg base CX0 5 T.read_name_behind.f T.read_name_behind.fd ["letters", "cursor"] (spBehind K T.Cursor.C) := by
  refine T.read_name_behind.F.ok sc_behind (fun vs H Q E h => ?_) (fun cdv A outer s H vs Q E hr h => ?_)
  · obtain ⟨c, a, p, y, bs, r, rfl, _⟩ := h
    rfl
  · obtain ⟨c, a, p, y, bs, r, rfl, hp, x, q⟩ := h
    obtain ⟨dx, i, hc, hi, hd⟩ := x.ex
    refine ⟨_, pss_cons (ps_set (i := 2) sc_behind.nd rfl (Or.inl rfl) (pe_call (ok_number T) hr rfl T.read_number.g T.read_number.F.kp (b_number T) .nil pass0 (pa_cons (pv 1) pa_nil)))
      (pss_cons (ps_if (pt_cmpR op_eq (pv 2) pe_int (nomark _)) (pss_one (ps_ret pe_non)) pss_nil)
        (pss_one (ps_ret (pe_op op_catT (pv 0) (pe_tup (pa_cons (pv 2) (pa_cons (pe_call (ok_small T) hr rfl T.take_small_letter.g T.take_small_letter.F.kp (b_small T) .nil pass0 (pa_cons (pv 1) pa_nil)) pa_nil))))))), ?_⟩
    refine ⟨_, rfl, c, a, bs, r, rfl, x, fun H1 x1 k1 => ?_⟩
    refine ⟨_, rfl, rfl, _, rfl, ?_⟩
    rw [num0]
    by_cases e : (number r).1 = 0
    · have eL : nameBehind y.1 y.2 r = (none, (number r).2) := by unfold nameBehind; rw [if_pos e]
      rw [eL] at q
      rw [decide_eq_true e]
      exact iteT (q H1 .non x1 k1 rfl)
    · have eL : nameBehind y.1 y.2 r = (some ⟨y.1, y.2, (number r).1, (tp Gh.isSmall (number r).2).1⟩, (tp Gh.isSmall (number r).2).2) := by unfold nameBehind; rw [if_neg e]
      rw [eL] at q
      rw [decide_eq_false e]
      refine iteF ?_
      refine ⟨_, rfl, _, rfl, _, rfl, c, a, bs, _, rfl, x1, fun H2 x2 k2 => ⟨by show 2 ≤ sizeLine; decide, fun t ht => ?_⟩⟩
      have hp2 : PairAt H2 p y := hp.keep (k1.trans k2) hc
      refine ⟨p, t, _, _, rfl, rfl, SqT.of (Same.new ht _ _ hp2), SqT.of upd_same, (by intro z; cases z), by show 4 ≤ sizeLine; decide, (fun z => by cases z), fun _ u hu => ?_⟩
      exact q _ _ ((x2.same (Same.new ht)).same (Same.new hu)) (((k1.trans k2).new ht).new hu) ⟨u, rfl, upd_same⟩
theorem b_behind (T : Txt K mg) : Binds K T.read_name_behind.fd ["letters", "cursor"] [] := T.read_name_behind.F.binds fun _ _ _ _ _ _ us hl => match us, hl with | [_, _], _ => rfl
theorem sc_name : FnScope ["cursor", "letters"] ["cursor"] (defScope s_read_name) := ⟨rfl, rfl, rfl, by decide +kernel, rfl, by decide +kernel, by decide +kernel⟩
theorem ok_name (T : Txt K mg) : FnOk P w K mg base CX0 6 T.read_name.f T.read_name.fd ["cursor"] (spName K T.Cursor.C) := by
  refine T.read_name.F.ok sc_name (fun vs H Q E h => ?_) (fun cdv A outer s H vs Q E hr h => ?_)
  · obtain ⟨c, a, bs, r, rfl, _⟩ := h
    rfl
  · obtain ⟨c, a, bs, r, rfl, x, q⟩ := h
    refine ⟨_, pss_cons (ps_set (i := 1) sc_name.nd rfl (Or.inl rfl) (pe_call (ok_letters T) hr rfl T.read_letters.g T.read_letters.F.kp (b_letters T) .nil pass0 (pa_cons (pv 0) pa_nil)))
      (pss_cons (ps_if (pt_cmp (pc_isN (pv 1))) (pss_one (ps_ret pe_non)) pss_nil)
        (pss_one (ps_ret (pe_call (ok_behind T) hr rfl T.read_name_behind.g T.read_name_behind.F.kp (b_behind T) .nil pass0 (pa_cons (pv 1) (pa_cons (pv 0) pa_nil)))))), ?_⟩
    refine ⟨_, rfl, c, a, bs, r, rfl, x, fun H1 v x1 k1 o1 => ?_⟩
    refine ⟨_, rfl, _, rfl, ?_⟩
    unfold readName at q
    generalize letters r = L at x1 o1 q
    obtain ⟨o, r1⟩ := L
    cases o with
    | none =>
      have e : v = .non := o1
      subst e
      exact iteT (q H1 .non x1 k1 rfl)
    | some y =>
      obtain ⟨p, rfl, hp⟩ := o1
      refine iteF ?_
      exact ⟨_, rfl, _, rfl, c, a, p, y, bs, r1, rfl, hp, x1, fun H2 v2 x2 k2 o2 => q H2 v2 x2 (k1.trans k2) o2⟩
theorem b_name (T : Txt K mg) : Binds K T.read_name.fd ["cursor"] [] := T.read_name.F.binds fun _ _ _ _ _ _ us hl => match us, hl with | [_], _ => rfl
end
end Sg
namespace Sg
open PySem PySem.Spec PyProof.Rows L2
open PySem.W (Codec)
section
variable {P : Program} {w : World} {K : PySem.W.Frag} {mg : Str → Option Value} {base : Heap}
theorem readNames_succ (f : Nat) (had : List Gh.Name) (r : Gh.Bytes) : readNames (f + 1) had r = match readName r with
    | (none, q) => (none, q)
    | (some n, q) => if (tk 125 q).1 = true then (some (had ++ [n]), (tk 125 q).2)
      else if f = 0 then (none, q)
      else if (tk 44 q).1 = true then readNames f (had ++ [n]) (tk 44 q).2 else (none, q) := rfl
theorem pat_succ (f : Nat) (A : List Gh.Atom) (r : Gh.Bytes) : pat (f + 1) A r = match readAtom r with
    | (none, q) => (none, q)
    | (some a, q) => if q = [] then (some (A ++ [a]), q)
      else if f = 0 then (none, q)
      else if (tk 32 q).1 = true then pat f (A ++ [a]) (tk 32 q).2 else (none, q) := rfl
def spAInit (CA : Addr) : Sp := fun vs H Q _ => ∃ (x dx : Addr) (k : Str) (v : V) (d : Bool), vs = [.ref x, .str k, v, .bl d] ∧ H x = some (.ins CA dx []) ∧ ∀ H' : Hp, H' x = some (.ins CA dx (af k v d)) → Keep x H H' → Q .non H'
def spAtomOf (CA : Addr) : Sp := fun vs H Q _ => ∃ (k : Str) (v : V) (d : Bool), vs = [.str k, v, .bl d] ∧ (v = .non → Q .non H) ∧ (v ≠ .non → ∀ (H' : Hp) (p : Addr), AtomAs CA H' p k v d → Same H H' → Q (.ref p) H')
def spDots (K : PySem.W.Frag) (C CA : Addr) : Sp := fun vs H Q _ => ∃ (c a : Addr) (bs r : Gh.Bytes) (d : Bool), vs = [.ref c, .bl d] ∧ Cur K C c a bs H r ∧ ∀ (H' : Hp) (p : Addr), Cur K C c a bs H' (dots d r).2 → Keep c H H' → AtomAt CA (fun t => H t = none) H' p (dots d r).1 → Q (.ref p) H'
def spNames (K : PySem.W.Frag) (C : Addr) : Sp := fun vs H Q _ => ∃ (c a : Addr) (bs r : Gh.Bytes), vs = [.ref c] ∧ Cur K C c a bs H r ∧ ∀ (H' : Hp) (v : V), Cur K C c a bs H' (readNames 16 [] r).2 → Keep c H H' → OptAt (fun H' p xs => H p = none ∧ ListAt NameAt H' p xs) H' v (readNames 16 [] r).1 → Q v H'
def spNoC (K : PySem.W.Frag) (C CA : Addr) : Sp := fun vs H Q _ => ∃ (c a : Addr) (bs r : Gh.Bytes) (d : Bool), vs = [.ref c, .bl d] ∧ Cur K C c a bs H r ∧ ∀ (H' : Hp) (v : V), Cur K C c a bs H' (nameOrClass d r).2 → Keep c H H' → OptAt (AtomAt CA fun t => H t = none) H' v (nameOrClass d r).1 → Q v H'
def spAtom (K : PySem.W.Frag) (C CA : Addr) : Sp := fun vs H Q _ => ∃ (c a : Addr) (bs r : Gh.Bytes), vs = [.ref c] ∧ Cur K C c a bs H r ∧ ∀ (H' : Hp) (v : V), Cur K C c a bs H' (readAtom r).2 → Keep c H H' → OptAt (AtomAt CA fun t => H t = none) H' v (readAtom r).1 → Q v H'
def spPat (K : PySem.W.Frag) (C CA : Addr) : Sp := fun vs H Q _ => ∃ (c a : Addr) (bs r : Gh.Bytes), vs = [.ref c] ∧ Cur K C c a bs H r ∧ ∀ (H' : Hp) (v : V), Cur K C c a bs H' (pat 64 [] r).2 → Keep c H H' → OptAt (ListAt (AtomAt CA fun _ => True)) H' v (pat 64 [] r).1 → Q v H'
theorem sc_ainit : FnScope ["self", "kind", "what", "denied"] ["self", "kind", "what", "denied"] (defScope s_Atom_init) := ⟨rfl, rfl, rfl, by decide +kernel, rfl, by decide +kernel, by decide +kernel⟩
theorem ok_ainit (T : Txt K mg) : FnOk P w K mg base CX0 1 T.Atom.f T.Atom.fd ["self", "kind", "what", "denied"] (spAInit T.Atom.C) := by
  refine T.Atom.F.ok sc_ainit (fun vs H Q E h => ?_) (fun cdv A outer s H vs Q E hr h => ?_)
  · obtain ⟨x, dx, k, v, d, rfl, _⟩ := h
    rfl
  · obtain ⟨x, dx, k, v, d, rfl, hx, q⟩ := h
    refine ⟨_, pss_cons (ps_fld (pv 0) (pv 1) rfl) (pss_cons (ps_fld (pv 0) (pv 2) rfl) (pss_one (ps_fld (pv 0) (pv 3) rfl))), ?_⟩
    refine ⟨_, rfl, _, rfl, x, _, dx, [], rfl, hx, T.Atom.cl, T.Atom_n_kind, (by show 0 < 1000; decide), ?_⟩
    refine ⟨_, rfl, _, rfl, x, _, dx, _, rfl, upd_same, T.Atom.cl, T.Atom_n_what, (Nat.lt_of_le_of_lt (length_putF _ _ _) (by decide)), ?_⟩
    refine ⟨_, rfl, _, rfl, x, _, dx, _, rfl, upd_same, T.Atom.cl, T.Atom_n_denied, (Nat.lt_of_le_of_lt (Nat.le_trans (length_putF _ _ _) (Nat.add_le_add_right (length_putF _ _ _) 1)) (by decide)), ?_⟩
    exact q _ upd_same ((((Keep.refl x H).put (.inl rfl)).put (.inl rfl)).put (.inl rfl))
theorem b_ainit (T : Txt K mg) : Binds K T.Atom.fd ["self", "kind", "what", "denied"] [] := T.Atom.F.binds fun _ _ _ _ _ _ us hl => match us, hl with | [_, _, _, _], _ => rfl
theorem sc_atomOf : FnScope ["kind", "what", "denied"] ["kind", "what", "denied"] (defScope s_atom_of) := ⟨rfl, rfl, rfl, by decide +kernel, rfl, by decide +kernel, by decide +kernel⟩
theorem ok_atomOf (T : Txt K mg) : FnOk P w K mg base CX0 3 T.atom_of.f T.atom_of.fd ["kind", "what", "denied"] (spAtomOf T.Atom.C) := by
  refine T.atom_of.F.ok sc_atomOf (fun vs H Q E h => ?_) (fun cdv A outer s H vs Q E hr h => ?_)
  · obtain ⟨k, v, d, rfl, _⟩ := h
    rfl
  · obtain ⟨k, v, d, rfl, q1, q2⟩ := h
    refine ⟨_, pss_cons (ps_if (pt_cmp (pc_isN (pv 1))) (pss_one (ps_ret pe_non)) pss_nil)
      (pss_one (ps_ret (pe_make T.Atom.M (ok_ainit T) hr rfl T.Atom.g (b_ainit T) .nil pass0 (pa_cons (pv 0) (pa_cons (pv 1) (pa_cons (pv 2) pa_nil)))))), ?_⟩
    refine ⟨_, rfl, _, rfl, ?_⟩
    by_cases e : v = .non
    · rw [decide_eq_true e]
      exact iteT (q1 e)
    · rw [decide_eq_false e]
      refine iteF ?_
      refine ⟨_, rfl, _, rfl, _, rfl, ?_⟩
      intro x dx nx nd ne
      exact ⟨x, dx, k, v, d, rfl, upd_same, fun H2 h2 k2 => ⟨rfl, q2 e H2 x ⟨dx, h2⟩ (Same.made nx nd k2)⟩⟩
theorem b_atomOf (T : Txt K mg) : Binds K T.atom_of.fd ["kind", "what", "denied"] [] := T.atom_of.F.binds fun _ _ _ _ _ _ us hl => match us, hl with | [_, _, _], _ => rfl
theorem sc_dots : FnScope ["cursor", "denied"] ["cursor", "denied"] (defScope s_read_dots) := ⟨rfl, rfl, rfl, by decide +kernel, rfl, by decide +kernel, by decide +kernel⟩
theorem ok_dots (T : Txt K mg) : FnOk P w K mg base CX0 4 T.read_dots.f T.read_dots.fd ["cursor", "denied"] (spDots K T.Cursor.C T.Atom.C) := by
  refine T.read_dots.F.ok sc_dots (fun vs H Q E h => ?_) (fun cdv A outer s H vs Q E hr h => ?_)
  · obtain ⟨c, a, bs, r, d, rfl, _⟩ := h
    rfl
  · obtain ⟨c, a, bs, r, d, rfl, x, q⟩ := h
    obtain ⟨dx, i, hc, hi, hd⟩ := x.ex
    have hr2 : Room 2 _ := hr.mono (by decide)
    refine ⟨_, pss_cons (ps_if (PW.pt (pw_and (pt_not (pt_val (pv 1))) (pw_and1 (pt_val (pe_meth (pv 0) T.Cursor.cl T.Cursor_take.mt (ok_take T) hr (b_take T) .nil pass0 (pa_cons (pe_gint rfl T.g_DOT) pa_nil))))))
        (pss_one (ps_ret (pe_make T.Atom.M (ok_ainit T) hr2 rfl T.Atom.g (b_ainit T) .nil pass0 (pa_cons (pe_gstr rfl T.g_RUN) (pa_cons pe_non (pa_cons pe_bl pa_nil)))))) pss_nil)
      (pss_one (ps_ret (pe_make T.Atom.M (ok_ainit T) hr2 rfl T.Atom.g (b_ainit T) .nil pass0 (pa_cons (pe_gstr rfl T.g_ANY) (pa_cons pe_non (pa_cons (pv 1) pa_nil)))))), ?_⟩
    refine ⟨_, rfl, d, rfl, ?_⟩
    cases d with
    | true =>
      refine iteF (iteF ⟨_, rfl, ?_⟩)
      intro x2 dx2 nx nd ne
      have e : dots true r = (.one true .any, r) := by unfold dots; rw [if_neg (by rintro ⟨z, _⟩; cases z)]
      rw [e] at q
      refine ⟨x2, dx2, _, _, _, rfl, upd_same, fun H2 h2 k2 => ⟨rfl, ?_⟩⟩
      have s2 : Same H H2 := Same.made nx nd k2
      exact q H2 x2 (x.same s2) (.of s2) ⟨dx2, h2⟩
    | false =>
      refine iteT ?_
      refine ⟨_, rfl, c, dx, _, rfl, hc, cf_no a i ne_take_at ne_take_data, c, a, bs, r, 46, rfl, x, fun H1 x1 k1 => ⟨_, rfl, ?_⟩⟩
      by_cases t : (tk 46 r).1 = true
      · rw [t]
        refine iteT ?_
        intro x2 dx2 nx nd ne
        have e : dots false r = (.run, (tk 46 r).2) := by unfold dots; rw [if_pos ⟨rfl, t⟩]
        rw [e] at q
        refine ⟨x2, dx2, _, _, _, rfl, upd_same, fun H2 h2 k2 => ⟨rfl, ?_⟩⟩
        have s2 : Same H1 H2 := Same.made nx nd k2
        exact q H2 x2 (x1.same s2) (k1.trans (.of s2)) ⟨dx2, h2⟩
      · rw [Bool.eq_false_iff.mpr t]
        refine iteF ⟨_, rfl, ?_⟩
        intro x2 dx2 nx nd ne
        have e : dots false r = (.one false .any, r) := by unfold dots; rw [if_neg (by rintro ⟨_, z⟩; exact t z)]
        rw [e] at q
        rw [tk_no t] at x1
        refine ⟨x2, dx2, _, _, _, rfl, upd_same, fun H2 h2 k2 => ⟨rfl, ?_⟩⟩
        have s2 : Same H1 H2 := Same.made nx nd k2
        exact q H2 x2 (x1.same s2) (k1.trans (.of s2)) ⟨dx2, h2⟩
theorem b_dots (T : Txt K mg) : Binds K T.read_dots.fd ["cursor", "denied"] [] := T.read_dots.F.binds fun _ _ _ _ _ _ us hl => match us, hl with | [_, _], _ => rfl
/-- between two turns of read_names: m names may still come -/
def WNames (K : PySem.W.Frag) (C c a l : Addr) (bs r : Gh.Bytes) (H : Hp) (m : Nat) (σ : L2.St) (H' : Hp) : Prop :=
  ∃ (had : List Gh.Name) (ps : List Addr) (r' : Gh.Bytes) (vn : Option V), σ = [some (.ref c), some (.ref l), vn] ∧ had.length + m = 16 ∧ 1 ≤ m ∧ H' l = some (.lst (ps.map V.ref)) ∧ All2 (NameAt H') ps had ∧ Cur K C c a bs H' r' ∧ Keep c H H' ∧ readNames m had r' = readNames 16 [] r
theorem sc_names : FnScope ["cursor", "names", "name"] ["cursor"] (defScope s_read_names) := ⟨rfl, rfl, rfl, by decide +kernel, rfl, by decide +kernel, by decide +kernel⟩
theorem len_lt {n : Nat} (h : n ≤ 64) : n < sizeLine := Nat.lt_of_le_of_lt h (by decide)
theorem numI {n k : Nat} : decide (V.int ((n : Nat) : Int) = V.int ((k : Nat) : Int)) = decide (n = k) := by
  refine decide_eq_decide.mpr ⟨fun z => ?_, fun z => by rw [z]⟩
  injection z with z
  omega
theorem ok_names (T : Txt K mg) : FnOk P w K mg base CX0 7 T.read_names.f T.read_names.fd ["cursor"] (spNames K T.Cursor.C) := by
  refine T.read_names.F.ok sc_names (fun vs H Q E h => ?_) (fun cdv A outer s H vs Q E hr h => ?_)
  · obtain ⟨c, a, bs, r, rfl, _⟩ := h
    rfl
  · obtain ⟨c, a, bs, r, rfl, x, q⟩ := h
    obtain ⟨dx, i, hc, hi, hd⟩ := x.ex
    have hr3 : Room 3 _ := hr.mono (by decide)
    refine ⟨_, pss_cons (ps_set (i := 1) sc_names.nd rfl (Or.inl rfl) (pe_lst pa_nil))
      (pss_one (ps_while PassesOwn.never (pt_val pe_bl)
        (pss_cons (ps_set (i := 2) sc_names.nd rfl (Or.inl rfl) (pe_call (ok_name T) hr rfl T.read_name.g T.read_name.F.kp (b_name T) .nil pass0 (pa_cons (pv 0) pa_nil)))
        (pss_cons (ps_if (pt_cmp (pc_isN (pv 2))) (pss_one (ps_ret pe_non)) pss_nil)
        (pss_cons (ps_expr (pe_bm PySem.F.plainAttrs_list PySem.F.slot_list_append PySem.F.type_list_append mt_append (pv 1) (pa_cons (pv 2) pa_nil)))
        (pss_cons (ps_if (pt_val (pe_meth (pv 0) T.Cursor.cl T.Cursor_take.mt (ok_take T) hr3 (b_take T) .nil pass0 (pa_cons (pe_gint rfl T.g_END_BRACE) pa_nil))) (pss_one (ps_ret (pv 1))) pss_nil)
        (pss_one (ps_if (PW.pt (pw_or (pt_cmpR op_eq (pe_callB call_len_seq (by rfl) T.b_len PySem.boot_len (pa_cons (pv 1) pa_nil)) (pe_gint rfl T.g_MOST_NAMES) (nomark _)) (pw_or1 (pt_not (pt_val (pe_meth (pv 0) T.Cursor.cl T.Cursor_take.mt (ok_take T) hr3 (b_take T) .nil pass0 (pa_cons (pe_gint rfl T.g_COMMA) pa_nil))))))) (pss_one (ps_ret pe_non)) pss_nil)))))))), ?_⟩
    refine ⟨Nat.zero_le _, fun l hl => ?_⟩
    refine ⟨WNames K T.Cursor.C c a l bs r H, ⟨16, [], [], r, none, rfl, rfl, by decide, upd_same, .nil, x.same (Same.new hl), (Keep.refl c H).new hl, rfl⟩, ?_⟩
    rintro m σ H1 ⟨had, ps, r1, vn, rfl, hm, hm1, hL, hA, x1, k1, hR⟩
    obtain ⟨dx1, i1, hc1, _, _⟩ := x1.ex
    obtain ⟨f, rfl⟩ : ∃ f, m = f + 1 := ⟨m - 1, by omega⟩
    refine ⟨true, rfl, iteT ⟨WNames K T.Cursor.C c a l bs r H f, fun σ' H' h => ⟨f, Nat.lt_succ_self f, h⟩, ?_⟩⟩
    refine ⟨_, rfl, c, a, bs, r1, rfl, x1, fun H2 v x2 k2 o2 => ?_⟩
    refine ⟨_, rfl, _, rfl, ?_⟩
    rw [readNames_succ f had r1] at hR
    generalize readName r1 = L at x2 o2 hR
    obtain ⟨o, r2⟩ := L
    have hL2 : H2 l = some (.lst (ps.map V.ref)) := k2 _ _ hL (ne_of hL hc1 (by intro z; cases z))
    have hA2 : All2 (NameAt H2) ps had := hA.mono fun _ _ => NameAt.keep k2 hc1
    have k12 := k1.trans k2
    cases o with
    | none =>
      have e : v = .non := o2
      subst e
      rw [← hR] at q
      exact iteT (q H2 .non x2 k12 rfl)
    | some n =>
      obtain ⟨p, rfl, hp⟩ := o2
      dsimp only at hR x2
      refine iteF ?_
      have hlen : (ps.map V.ref).length < sizeLine := len_lt (by rw [List.length_map, hA.len]; omega)
      refine ⟨_, rfl, .inl ⟨rfl, _, SqL.of hL2⟩, _, rfl, l, _, _, rfl, rfl, hL2, hlen, ?_⟩
      have eM : ps.map V.ref ++ [V.ref p] = (ps ++ [p]).map V.ref := by rw [List.map_append]; rfl
      rw [eM]
      have nl : ∀ (b : Addr) (o : HO), H2 b = some o → (∀ xs, o ≠ .lst xs) → upd H2 l (.lst ((ps ++ [p]).map V.ref)) b = some o := fun b o e z => by
        rw [upd_ne (ne_of e hL2 (z _))]; exact e
      have hA3 : All2 (NameAt (upd H2 l (.lst ((ps ++ [p]).map V.ref)))) (ps ++ [p]) (had ++ [n]) := (hA2.snoc hp).mono fun b y e => nl b _ e (by intro xs z; cases z)
      have x3 : Cur K T.Cursor.C c a bs (upd H2 l (.lst ((ps ++ [p]).map V.ref))) r2 := x.write x2 k12 hl hL2
      have k3 : Keep c H (upd H2 l (.lst ((ps ++ [p]).map V.ref))) := k12.put (.inr hl)
      have hL3 : upd H2 l (.lst ((ps ++ [p]).map V.ref)) l = some (.lst ((ps ++ [p]).map V.ref)) := upd_same
      generalize upd H2 l (.lst ((ps ++ [p]).map V.ref)) = H3 at hA3 x3 k3 hL3
      obtain ⟨dx3, i3, hc3, _, _⟩ := x3.ex
      refine ⟨_, rfl, c, dx3, _, rfl, hc3, cf_no a i3 ne_take_at ne_take_data, c, a, bs, r2, 125, rfl, x3, fun H4 x4 k4 => ⟨_, rfl, ?_⟩⟩
      have hL4 : H4 l = some (.lst ((ps ++ [p]).map V.ref)) := k4 _ _ hL3 (ne_of hL3 hc3 (by intro z; cases z))
      have hA4 : All2 (NameAt H4) (ps ++ [p]) (had ++ [n]) := hA3.mono fun _ _ => NameAt.keep k4 hc3
      by_cases t : (tk 125 r2).1 = true
      · rw [if_pos t] at hR
        rw [t]
        rw [← hR] at q
        exact iteT ⟨_, rfl, q H4 (.ref l) x4 (k3.trans k4) ⟨l, rfl, hl, ps ++ [p], hL4, hA4⟩⟩
      · rw [if_neg t] at hR
        rw [tk_no t] at x4
        rw [Bool.eq_false_iff.mpr t]
        refine iteF ?_
        refine ⟨_, rfl, l, _, rfl, .inl (SqL.of hL4), rfl, _, rfl, ?_⟩
        have eN : decide (V.int (((ps ++ [p]).map V.ref).length : Int) = V.int 16) = decide (f = 0) := by
          rw [List.length_map, hA4.len, List.length_append, List.length_singleton]
          refine (numI (k := 16)).trans (decide_eq_decide.mpr (by omega))
        rw [eN]
        by_cases f0 : f = 0
        · rw [if_pos f0] at hR
          rw [← hR] at q
          rw [decide_eq_true f0]
          exact iteT (iteT (q H4 .non x4 (k3.trans k4) rfl))
        · rw [if_neg f0] at hR
          rw [decide_eq_false f0]
          refine iteF ?_
          obtain ⟨dx4, i4, hc4, _, _⟩ := x4.ex
          refine ⟨_, rfl, c, dx4, _, rfl, hc4, cf_no a i4 ne_take_at ne_take_data, c, a, bs, r2, 44, rfl, x4, fun H5 x5 k5 => ⟨_, rfl, ?_⟩⟩
          have k45 := (k3.trans k4).trans k5
          by_cases u : (tk 44 r2).1 = true
          · rw [if_pos u] at hR
            rw [u]
            refine iteF ?_
            exact ⟨had ++ [n], ps ++ [p], _, _, rfl, by rw [List.length_append, List.length_singleton]; omega, by omega, k5 _ _ hL4 (ne_of hL4 hc4 (by intro z; cases z)), hA4.mono fun _ _ => NameAt.keep k5 hc4, x5, k45, hR⟩
          · rw [if_neg u] at hR
            rw [Bool.eq_false_iff.mpr u]
            rw [tk_no u] at x5
            rw [← hR] at q
            exact iteT (q H5 .non x5 k45 rfl)
theorem b_names (T : Txt K mg) : Binds K T.read_names.fd ["cursor"] [] := T.read_names.F.binds fun _ _ _ _ _ _ us hl => match us, hl with | [_], _ => rfl
theorem sc_noc : FnScope ["cursor", "denied", "letters", "name"] ["cursor", "denied"] (defScope s_read_name_or_class) := ⟨rfl, rfl, rfl, by decide +kernel, rfl, by decide +kernel, by decide +kernel⟩
theorem ok_noc (T : Txt K mg) : FnOk P w K mg base CX0 6 T.read_name_or_class.f T.read_name_or_class.fd ["cursor", "denied"] (spNoC K T.Cursor.C T.Atom.C) := by
  refine T.read_name_or_class.F.ok sc_noc (fun vs H Q E h => ?_) (fun cdv A outer s H vs Q E hr h => ?_)
  · obtain ⟨c, a, bs, r, d, rfl, _⟩ := h
    rfl
  · obtain ⟨c, a, bs, r, d, rfl, x, q⟩ := h
    have hr2 : Room 2 _ := hr.mono (by decide)
    have hr3 : Room 3 _ := hr.mono (by decide)
    refine ⟨_, pss_cons (ps_set (i := 2) sc_noc.nd rfl (Or.inl rfl) (pe_call (ok_letters T) hr rfl T.read_letters.g T.read_letters.F.kp (b_letters T) .nil pass0 (pa_cons (pv 0) pa_nil)))
      (pss_cons (ps_if (pt_cmp (pc_isN (pv 2))) (pss_one (ps_ret pe_non)) pss_nil)
      (pss_cons (ps_if (pt_val (pe_meth (pv 0) T.Cursor.cl T.Cursor_take.mt (ok_take T) hr3 (b_take T) .nil pass0 (pa_cons (pe_gint rfl T.g_STAR) pa_nil)))
        (pss_one (ps_ret (pe_make T.Atom.M (ok_ainit T) hr2 rfl T.Atom.g (b_ainit T) .nil pass0 (pa_cons (pe_gstr rfl T.g_CLASS) (pa_cons (pv 2) (pa_cons (pv 1) pa_nil)))))) pss_nil)
      (pss_cons (ps_set (i := 3) sc_noc.nd rfl (Or.inl rfl) (pe_call (ok_behind T) hr rfl T.read_name_behind.g T.read_name_behind.F.kp (b_behind T) .nil pass0 (pa_cons (pv 2) (pa_cons (pv 0) pa_nil))))
      (pss_cons (ps_if (pt_cmp (pc_isN (pv 3))) (pss_one (ps_ret pe_non)) pss_nil)
      (pss_one (ps_ret (pe_make T.Atom.M (ok_ainit T) hr2 rfl T.Atom.g (b_ainit T) .nil pass0 (pa_cons (pe_gstr rfl T.g_NAMES) (pa_cons (pe_lst (pa_cons (pv 3) pa_nil)) (pa_cons (pv 1) pa_nil)))))))))), ?_⟩
    refine ⟨_, rfl, c, a, bs, r, rfl, x, fun H1 v x1 k1 o1 => ?_⟩
    refine ⟨_, rfl, _, rfl, ?_⟩
    unfold nameOrClass at q
    generalize letters r = L at x1 o1 q
    obtain ⟨o, r1⟩ := L
    cases o with
    | none =>
      have e : v = .non := o1
      subst e
      exact iteT (q H1 .non x1 k1 rfl)
    | some y =>
      obtain ⟨p, rfl, hp⟩ := o1
      dsimp only at q x1
      refine iteF ?_
      obtain ⟨dx1, i1, hc1, _, _⟩ := x1.ex
      refine ⟨_, rfl, c, dx1, _, rfl, hc1, cf_no a i1 ne_take_at ne_take_data, c, a, bs, r1, 42, rfl, x1, fun H2 x2 k2 => ⟨_, rfl, ?_⟩⟩
      have hp2 := hp.keep k2 hc1
      by_cases t : (tk 42 r1).1 = true
      · rw [if_pos t] at q
        rw [t]
        refine iteT ⟨_, rfl, _, rfl, ?_⟩
        intro x3 dx3 nx nd ne
        refine ⟨x3, dx3, _, _, _, rfl, upd_same, fun H3 h3 k3 => ⟨rfl, ?_⟩⟩
        have s3 : Same H2 H3 := Same.made nx nd k3
        exact q H3 _ (x2.same s3) ((k1.trans k2).trans (.of s3)) ⟨x3, rfl, p, ⟨dx3, h3⟩, s3 _ _ hp2⟩
      · rw [if_neg t] at q
        rw [tk_no t] at x2
        rw [Bool.eq_false_iff.mpr t]
        refine iteF ?_
        refine ⟨_, rfl, _, rfl, c, a, p, y, bs, r1, rfl, hp2, x2, fun H3 v3 x3 k3 o3 => ?_⟩
        refine ⟨_, rfl, _, rfl, ?_⟩
        generalize nameBehind y.1 y.2 r1 = M at x3 o3 q
        obtain ⟨o, r3⟩ := M
        have k13 := (k1.trans k2).trans k3
        cases o with
        | none =>
          have e : v3 = .non := o3
          subst e
          exact iteT (q H3 .non x3 k13 rfl)
        | some n =>
          obtain ⟨p3, rfl, hp3⟩ := o3
          dsimp only at q x3
          refine iteF ?_
          refine ⟨_, rfl, by show 1 ≤ sizeLine; decide, fun l hl => ⟨_, rfl, ?_⟩⟩
          intro x4 dx4 nx nd ne
          refine ⟨x4, dx4, _, _, _, rfl, upd_same, fun H4 h4 k4 => ⟨rfl, ?_⟩⟩
          have s0 : Same H3 (upd H3 l (.lst [.ref p3])) := Same.new hl
          have s4 : Same (upd H3 l (.lst [.ref p3])) H4 := Same.made nx nd k4
          have s34 := s0.trans s4
          refine q H4 _ (x3.same s34) (k13.trans (.of s34)) ⟨x4, rfl, l, ⟨dx4, h4⟩, k13.free (let ⟨_, _, e⟩ := x3.is; ⟨_, e⟩) hl, [p3], s4 _ _ upd_same, ?_⟩
          exact All2.snoc (ps := []) (xs := []) .nil (s34 _ _ hp3)
theorem b_noc (T : Txt K mg) : Binds K T.read_name_or_class.fd ["cursor", "denied"] [] := T.read_name_or_class.F.binds fun _ _ _ _ _ _ us hl => match us, hl with | [_, _], _ => rfl
theorem sc_atom : FnScope ["cursor", "denied"] ["cursor"] (defScope s_read_atom) := ⟨rfl, rfl, rfl, by decide +kernel, rfl, by decide +kernel, by decide +kernel⟩
theorem ok_atom (T : Txt K mg) : FnOk P w K mg base CX0 8 T.read_atom.f T.read_atom.fd ["cursor"] (spAtom K T.Cursor.C T.Atom.C) := by
  refine T.read_atom.F.ok sc_atom (fun vs H Q E h => ?_) (fun cdv A outer s H vs Q E hr h => ?_)
  · obtain ⟨c, a, bs, r, rfl, _⟩ := h
    rfl
  · obtain ⟨c, a, bs, r, rfl, x, q⟩ := h
    obtain ⟨dx, i, hc, _, _⟩ := x.ex
    have hr3 : Room 3 _ := hr.mono (by decide)
    have hr4 : Room 4 _ := hr.mono (by decide)
    have hr6 : Room 6 _ := hr.mono (by decide)
    refine ⟨_, pss_cons (ps_set (i := 1) sc_atom.nd rfl (Or.inl rfl) (pe_meth (pv 0) T.Cursor.cl T.Cursor_take.mt (ok_take T) hr3 (b_take T) .nil pass0 (pa_cons (pe_gint rfl T.g_BANG) pa_nil)))
      (pss_cons (ps_if (pt_val (pe_meth (pv 0) T.Cursor.cl T.Cursor_take.mt (ok_take T) hr3 (b_take T) .nil pass0 (pa_cons (pe_gint rfl T.g_DOT) pa_nil)))
        (pss_one (ps_ret (pe_call (ok_dots T) hr4 rfl T.read_dots.g T.read_dots.F.kp (b_dots T) .nil pass0 (pa_cons (pv 0) (pa_cons (pv 1) pa_nil))))) pss_nil)
      (pss_cons (ps_if (pt_val (pe_meth (pv 0) T.Cursor.cl T.Cursor_take.mt (ok_take T) hr3 (b_take T) .nil pass0 (pa_cons (pe_gint rfl T.g_EQUALS) pa_nil)))
        (pss_one (ps_ret (pe_call (ok_atomOf T) hr3 rfl T.atom_of.g T.atom_of.F.kp (b_atomOf T) .nil pass0 (pa_cons (pe_gstr rfl T.g_ALIKE) (pa_cons (pe_call (ok_name T) hr6 rfl T.read_name.g T.read_name.F.kp (b_name T) .nil pass0 (pa_cons (pv 0) pa_nil)) (pa_cons (pv 1) pa_nil)))))) pss_nil)
      (pss_cons (ps_if (pt_val (pe_meth (pv 0) T.Cursor.cl T.Cursor_take.mt (ok_take T) hr3 (b_take T) .nil pass0 (pa_cons (pe_gint rfl T.g_BRACE) pa_nil)))
        (pss_one (ps_ret (pe_call (ok_atomOf T) hr3 rfl T.atom_of.g T.atom_of.F.kp (b_atomOf T) .nil pass0 (pa_cons (pe_gstr rfl T.g_NAMES) (pa_cons (pe_call (ok_names T) hr rfl T.read_names.g T.read_names.F.kp (b_names T) .nil pass0 (pa_cons (pv 0) pa_nil)) (pa_cons (pv 1) pa_nil)))))) pss_nil)
      (pss_one (ps_ret (pe_call (ok_noc T) hr6 rfl T.read_name_or_class.g T.read_name_or_class.F.kp (b_noc T) .nil pass0 (pa_cons (pv 0) (pa_cons (pv 1) pa_nil)))))))), ?_⟩
    refine ⟨_, rfl, c, dx, _, rfl, hc, cf_no a i ne_take_at ne_take_data, c, a, bs, r, 33, rfl, x, fun H1 x1 k1 => ?_⟩
    unfold readAtom atomAt at q
    generalize (tk 33 r).1 = d at q
    generalize (tk 33 r).2 = r1 at x1 q
    obtain ⟨dx1, i1, hc1, _, _⟩ := x1.ex
    refine ⟨_, rfl, c, dx1, _, rfl, hc1, cf_no a i1 ne_take_at ne_take_data, c, a, bs, r1, 46, rfl, x1, fun H2 x2 k2 => ⟨_, rfl, ?_⟩⟩
    have k12 := k1.trans k2
    by_cases t1 : (tk 46 r1).1 = true
    · rw [if_pos t1] at q
      rw [t1]
      refine iteT ⟨_, rfl, _, rfl, c, a, bs, _, d, rfl, x2, fun H3 p x3 k3 h3 => ?_⟩
      exact q H3 _ x3 (k12.trans k3) ⟨p, rfl, h3.imp fun t z => k12.free (let ⟨_, _, e⟩ := x2.is; ⟨_, e⟩) z⟩
    · rw [if_neg t1] at q
      rw [tk_no t1] at x2
      rw [Bool.eq_false_iff.mpr t1]
      refine iteF ?_
      obtain ⟨dx2, i2, hc2, _, _⟩ := x2.ex
      refine ⟨_, rfl, c, dx2, _, rfl, hc2, cf_no a i2 ne_take_at ne_take_data, c, a, bs, r1, 61, rfl, x2, fun H3 x3 k3 => ⟨_, rfl, ?_⟩⟩
      have k13 := k12.trans k3
      by_cases t2 : (tk 61 r1).1 = true
      · rw [if_pos t2] at q
        rw [t2]
        refine iteT ⟨_, rfl, c, a, bs, _, rfl, x3, fun H4 v x4 k4 o4 => ⟨_, rfl, ?_⟩⟩
        generalize readName (tk 61 r1).2 = L at x4 o4 q
        obtain ⟨o, r4⟩ := L
        refine ⟨_, v, d, rfl, fun e => ?_, fun e H5 p hp s5 => ?_⟩
        · cases o with
          | none => exact q H4 .non x4 (k13.trans k4) rfl
          | some n =>
            obtain ⟨p, rfl, _⟩ := o4
            cases e
        · cases o with
          | none => exact absurd o4 e
          | some n =>
            obtain ⟨p4, rfl, h4⟩ := o4
            exact q H5 _ (x4.same s5) ((k13.trans k4).trans (.of s5)) ⟨p, rfl, p4, hp, s5 _ _ h4⟩
      · rw [if_neg t2] at q
        rw [tk_no t2] at x3
        rw [Bool.eq_false_iff.mpr t2]
        refine iteF ?_
        obtain ⟨dx3, i3, hc3, _, _⟩ := x3.ex
        refine ⟨_, rfl, c, dx3, _, rfl, hc3, cf_no a i3 ne_take_at ne_take_data, c, a, bs, r1, 123, rfl, x3, fun H4 x4 k4 => ⟨_, rfl, ?_⟩⟩
        have k14 := k13.trans k4
        by_cases t3 : (tk 123 r1).1 = true
        · rw [if_pos t3] at q
          rw [t3]
          refine iteT ⟨_, rfl, c, a, bs, _, rfl, x4, fun H5 v x5 k5 o5 => ⟨_, rfl, ?_⟩⟩
          generalize readNames 16 [] (tk 123 r1).2 = L at x5 o5 q
          obtain ⟨o, r5⟩ := L
          refine ⟨_, v, d, rfl, fun e => ?_, fun e H6 p hp s6 => ?_⟩
          · cases o with
            | none => exact q H5 .non x5 (k14.trans k5) rfl
            | some n =>
              obtain ⟨p, rfl, _⟩ := o5
              cases e
          · cases o with
            | none => exact absurd o5 e
            | some n =>
              obtain ⟨p5, rfl, h5⟩ := o5
              exact q H6 _ (x5.same s6) ((k14.trans k5).trans (.of s6)) ⟨p, rfl, p5, hp, k14.free (let ⟨_, _, e⟩ := x4.is; ⟨_, e⟩) h5.1, h5.2.same (fun _ _ e => s6 _ _ e) s6⟩
        · rw [if_neg t3] at q
          rw [tk_no t3] at x4
          rw [Bool.eq_false_iff.mpr t3]
          refine iteF ?_
          refine ⟨_, rfl, _, rfl, c, a, bs, r1, d, rfl, x4, fun H5 v x5 k5 o5 => q H5 v x5 (k14.trans k5) ?_⟩
          generalize (nameOrClass d r1).1 = o at o5
          cases o with
          | none => exact o5
          | some y =>
            obtain ⟨p, e, h⟩ := o5
            exact ⟨p, e, h.imp fun t z => k14.free (let ⟨_, _, e⟩ := x4.is; ⟨_, e⟩) z⟩
theorem b_atom (T : Txt K mg) : Binds K T.read_atom.fd ["cursor"] [] := T.read_atom.F.binds fun _ _ _ _ _ _ us hl => match us, hl with | [_], _ => rfl
/-- between two turns of read_pattern: m atoms may still come -/
def WPat (K : PySem.W.Frag) (C CA c a l : Addr) (bs r : Gh.Bytes) (H : Hp) (m : Nat) (σ : L2.St) (H' : Hp) : Prop :=
  ∃ (had : List Gh.Atom) (ps : List Addr) (r' : Gh.Bytes) (vn : Option V), σ = [some (.ref c), some (.ref l), vn] ∧ had.length + m = 64 ∧ 1 ≤ m ∧ H' l = some (.lst (ps.map V.ref)) ∧ All2 (AtomAt CA (fun t => t ≠ l) H') ps had ∧ Cur K C c a bs H' r' ∧ Keep c H H' ∧ pat m had r' = pat 64 [] r
theorem sc_pat : FnScope ["cursor", "atoms", "atom"] ["cursor"] (defScope s_read_pattern) := ⟨rfl, rfl, rfl, by decide +kernel, rfl, by decide +kernel, by decide +kernel⟩
theorem isEmpty_iff {r : Gh.Bytes} : r.isEmpty = true ↔ r = [] := List.isEmpty_iff
theorem ok_pat (T : Txt K mg) : FnOk P w K mg base CX0 9 T.read_pattern.f T.read_pattern.fd ["cursor"] (spPat K T.Cursor.C T.Atom.C) := by
  refine T.read_pattern.F.ok sc_pat (fun vs H Q E h => ?_) (fun cdv A outer s H vs Q E hr h => ?_)
  · obtain ⟨c, a, bs, r, rfl, _⟩ := h
    rfl
  · obtain ⟨c, a, bs, r, rfl, x, q⟩ := h
    have hr1 : Room 1 _ := hr.mono (by decide)
    have hr3 : Room 3 _ := hr.mono (by decide)
    refine ⟨_, pss_cons (ps_set (i := 1) sc_pat.nd rfl (Or.inl rfl) (pe_lst pa_nil))
      (pss_one (ps_while PassesOwn.never (pt_val pe_bl)
        (pss_cons (ps_set (i := 2) sc_pat.nd rfl (Or.inl rfl) (pe_call (ok_atom T) hr rfl T.read_atom.g T.read_atom.F.kp (b_atom T) .nil pass0 (pa_cons (pv 0) pa_nil)))
        (pss_cons (ps_if (pt_cmp (pc_isN (pv 2))) (pss_one (ps_ret pe_non)) pss_nil)
        (pss_cons (ps_expr (pe_bm PySem.F.plainAttrs_list PySem.F.slot_list_append PySem.F.type_list_append mt_append (pv 1) (pa_cons (pv 2) pa_nil)))
        (pss_cons (ps_if (pt_val (pe_meth0 (pv 0) T.Cursor.cl T.Cursor_at_end.mt (ok_atEnd T) hr1 (b_atEnd T) .nil pass0)) (pss_one (ps_ret (pv 1))) pss_nil)
        (pss_one (ps_if (PW.pt (pw_or (pt_cmpR op_eq (pe_callB call_len_seq (by rfl) T.b_len PySem.boot_len (pa_cons (pv 1) pa_nil)) (pe_gint rfl T.g_MOST_ATOMS) (nomark _)) (pw_or1 (pt_not (pt_val (pe_meth (pv 0) T.Cursor.cl T.Cursor_take.mt (ok_take T) hr3 (b_take T) .nil pass0 (pa_cons (pe_gint rfl T.g_BLANK) pa_nil))))))) (pss_one (ps_ret pe_non)) pss_nil)))))))), ?_⟩
    refine ⟨Nat.zero_le _, fun l hl => ?_⟩
    refine ⟨WPat K T.Cursor.C T.Atom.C c a l bs r H, ⟨64, [], [], r, none, rfl, rfl, by decide, upd_same, .nil, x.same (Same.new hl), (Keep.refl c H).new hl, rfl⟩, ?_⟩
    rintro m σ H1 ⟨had, ps, r1, vn, rfl, hm, hm1, hL, hA, x1, k1, hR⟩
    obtain ⟨dx1, i1, hc1, _, _⟩ := x1.ex
    obtain ⟨f, rfl⟩ : ∃ f, m = f + 1 := ⟨m - 1, by omega⟩
    refine ⟨true, rfl, iteT ⟨WPat K T.Cursor.C T.Atom.C c a l bs r H f, fun σ' H' h => ⟨f, Nat.lt_succ_self f, h⟩, ?_⟩⟩
    refine ⟨_, rfl, c, a, bs, r1, rfl, x1, fun H2 v x2 k2 o2 => ?_⟩
    refine ⟨_, rfl, _, rfl, ?_⟩
    rw [pat_succ f had r1] at hR
    generalize readAtom r1 = L at x2 o2 hR
    obtain ⟨o, r2⟩ := L
    have hL2 : H2 l = some (.lst (ps.map V.ref)) := k2 _ _ hL (ne_of hL hc1 (by intro z; cases z))
    have hA2 : All2 (AtomAt T.Atom.C (fun t => t ≠ l) H2) ps had := hA.mono fun _ _ => AtomAt.keep k2 hc1
    have k12 := k1.trans k2
    cases o with
    | none =>
      have e : v = .non := o2
      subst e
      rw [← hR] at q
      exact iteT (q H2 .non x2 k12 rfl)
    | some n =>
      obtain ⟨p, rfl, hp⟩ := o2
      dsimp only at hR x2
      refine iteF ?_
      have hp' : AtomAt T.Atom.C (fun t => t ≠ l) H2 p n := hp.imp fun t z => Ne.symm (ne_of_none hL z)
      have hlen : (ps.map V.ref).length < sizeLine := len_lt (by rw [List.length_map, hA.len]; omega)
      refine ⟨_, rfl, .inl ⟨rfl, _, SqL.of hL2⟩, _, rfl, l, _, _, rfl, rfl, hL2, hlen, ?_⟩
      have eM : ps.map V.ref ++ [V.ref p] = (ps ++ [p]).map V.ref := by rw [List.map_append]; rfl
      rw [eM]
      have hA3 : All2 (AtomAt T.Atom.C (fun t => t ≠ l) (upd H2 l (.lst ((ps ++ [p]).map V.ref)))) (ps ++ [p]) (had ++ [n]) := (hA2.snoc hp').mono fun b y e => e.put hL2
      have x3 : Cur K T.Cursor.C c a bs (upd H2 l (.lst ((ps ++ [p]).map V.ref))) r2 := x.write x2 k12 hl hL2
      have k3 : Keep c H (upd H2 l (.lst ((ps ++ [p]).map V.ref))) := k12.put (.inr hl)
      have hL3 : upd H2 l (.lst ((ps ++ [p]).map V.ref)) l = some (.lst ((ps ++ [p]).map V.ref)) := upd_same
      generalize upd H2 l (.lst ((ps ++ [p]).map V.ref)) = H3 at hA3 x3 k3 hL3
      obtain ⟨dx3, i3, hc3, _, _⟩ := x3.ex
      refine ⟨_, rfl, c, dx3, _, rfl, hc3, cf_no a i3 ne_end_at ne_end_data, c, a, bs, r2, rfl, x3, _, rfl, ?_⟩
      by_cases t : r2 = []
      · rw [if_pos t] at hR
        rw [isEmpty_iff.mpr t]
        rw [← hR] at q
        exact iteT ⟨_, rfl, q H3 (.ref l) x3 k3 ⟨l, rfl, ps ++ [p], hL3, hA3.mono fun _ _ e => e.imp fun _ _ => trivial⟩⟩
      · rw [if_neg t] at hR
        rw [Bool.eq_false_iff.mpr fun z => t (isEmpty_iff.mp z)]
        refine iteF ?_
        refine ⟨_, rfl, l, _, rfl, .inl (SqL.of hL3), rfl, _, rfl, ?_⟩
        have eN : decide (V.int (((ps ++ [p]).map V.ref).length : Int) = V.int 64) = decide (f = 0) := by
          rw [List.length_map, hA3.len, List.length_append, List.length_singleton]
          refine (numI (k := 64)).trans (decide_eq_decide.mpr (by omega))
        rw [eN]
        by_cases f0 : f = 0
        · rw [if_pos f0] at hR
          rw [← hR] at q
          rw [decide_eq_true f0]
          exact iteT (iteT (q H3 .non x3 k3 rfl))
        · rw [if_neg f0] at hR
          rw [decide_eq_false f0]
          refine iteF ?_
          refine ⟨_, rfl, c, dx3, _, rfl, hc3, cf_no a i3 ne_take_at ne_take_data, c, a, bs, r2, 32, rfl, x3, fun H5 x5 k5 => ⟨_, rfl, ?_⟩⟩
          by_cases u : (tk 32 r2).1 = true
          · rw [if_pos u] at hR
            rw [u]
            refine iteF ?_
            exact ⟨had ++ [n], ps ++ [p], _, _, rfl, by rw [List.length_append, List.length_singleton]; omega, by omega, k5 _ _ hL3 (ne_of hL3 hc3 (by intro z; cases z)), hA3.mono fun _ _ => AtomAt.keep k5 hc3, x5, k3.trans k5, hR⟩
          · rw [if_neg u] at hR
            rw [Bool.eq_false_iff.mpr u]
            rw [tk_no u] at x5
            rw [← hR] at q
            exact iteT (q H5 .non x5 (k3.trans k5) rfl)
theorem b_pat (T : Txt K mg) : Binds K T.read_pattern.fd ["cursor"] [] := T.read_pattern.F.binds fun _ _ _ _ _ _ us hl => match us, hl with | [_], _ => rfl
theorem b_cinit (T : Txt K mg) : Binds K T.Cursor.fd ["self", "data"] [] := T.Cursor.F.binds fun _ _ _ _ _ _ us hl => match us, hl with | [_, _], _ => rfl
end
end Sg
namespace Sg
open PySem PySem.Spec PyProof.Rows L2
open PySem.W (Codec)
section
variable {K : PySem.W.Frag}
theorem bt_of {x qual : Str} {st : Stmt} {f : Addr} {fd : FuncData} {ps : List Str} (F : Fun K x qual st f fd)
    (h : ∀ (kV doc pm : Value) (an : Option Addr) (cdv ct : Value) (us : List Value), us.length = ps.length → bindArgs (PySem.W.fnOf x qual (defArgs st) (defBody st) (defScope st) .none kV doc pm an cdv ct) ⟨us, []⟩ = pure (ps.zip us)) :
    ∀ (s : Shared) (us : List Value), us.length = ps.length → BindsTo s fd ⟨us, []⟩ (ps.zip us) := by
  obtain ⟨oc, od, kV, doc, pm, an, cdv, ct, osl, rfl, lk, hcd⟩ := F.ex
  exact fun s us hl => .of_eq (h kV doc pm an cdv ct us hl)
end
theorem text_bv : ∀ {ns : List Int}, (∀ z ∈ ns, 0 ≤ z ∧ z ≤ 255) → ns.map V.int = bv (GlyphHNeutral.text ns)
  | [], _ => rfl
  | z :: ns, h => by
    have hz := h z (List.mem_cons_self ..)
    have e : (((UInt8.ofNat z.toNat).toNat : Nat) : Int) = z := by
      rw [UInt8.toNat_ofNat']
      omega
    show V.int z :: ns.map V.int = V.int (((UInt8.ofNat z.toNat).toNat : Nat) : Int) :: bv (GlyphHNeutral.text ns)
    rw [e, text_bv fun y hy => h y (List.mem_cons_of_mem _ hy)]
end Sg
namespace Sg
open PySem PySem.Spec PyProof.Rows L2
open PySem.W (Codec)
section
variable {P : Program} {w : World} {K : PySem.W.Frag} {mg : Str → Option Value} {base : Heap}
theorem spec_judge (ns : List Int) (bs : Gh.Bytes) (h : GlyphHNeutral.text ns = bs) : PyWqbbca.judge ns = if 4096 < bs.length then [-2] else match pat 64 [] bs with
    | (some P, _) => [(P.length : Int)]
    | (none, q) => [-6, ((bs.length - q.length : Nat) : Int)] := by
  show GlyphHNeutral.shown (GlyphH.answer (.judge (GlyphHNeutral.text ns))) = _
  rw [h]
  show GlyphHNeutral.shown (if Gh.SOUGHT < bs.length then GlyphH.number (-2) else (match Gh.readPattern bs with
    | .error k => GlyphH.told (-6) [k]
    | .ok P => GlyphH.number (P.length : Int))) = _
  by_cases e : 4096 < bs.length
  · rw [if_pos (show Gh.SOUGHT < bs.length from e), if_pos e]; rfl
  · rw [if_neg (show ¬ Gh.SOUGHT < bs.length from e), if_neg e, readPattern_eq]
    generalize pat 64 [] bs = x
    obtain ⟨o, q⟩ := x
    cases o <;> rfl
def spJudge (K : PySem.W.Frag) : Sp := fun vs H Q _ => ∃ (a : Addr) (ns : List Int) (bs : Gh.Bytes), vs = [.ref a] ∧ SqL K H a (bv bs) ∧ GlyphHNeutral.text ns = bs ∧ ∀ (H' : Hp) (p : Addr), H' p = some (.lst ((PyWqbbca.judge ns).map V.int)) → Q (.ref p) H'
theorem sc_judge : FnScope ["p", "cursor", "atoms"] ["p"] (defScope s_judge) := ⟨rfl, rfl, rfl, by decide +kernel, rfl, by decide +kernel, by decide +kernel⟩
theorem ok_judge (T : Txt K mg) : FnOk P w K mg base CX0 10 T.judge.f T.judge.fd ["p"] (spJudge K) := by
  refine T.judge.F.ok sc_judge (fun vs H Q E h => ?_) (fun cdv A outer s H vs Q E hr h => ?_)
  · obtain ⟨a, ns, bs, rfl, _⟩ := h
    rfl
  · obtain ⟨a, ns, bs, rfl, hS, hns, q⟩ := h
    rw [spec_judge ns bs hns] at q
    have hr2 : Room 2 _ := hr.mono (by decide)
    refine ⟨_, pss_cons (ps_if (pt_cmpR op_gt (pe_callB call_len_seq (by rfl) T.b_len PySem.boot_len (pa_cons (pv 0) pa_nil)) (pe_gint rfl T.g_MOST_PATTERN_BYTES) (nomark _)) (pss_one (ps_ret (pe_lst (pa_cons (pe_gint rfl T.g_TOO_LONG) pa_nil)))) pss_nil)
      (pss_cons (ps_set (i := 1) sc_judge.nd rfl (Or.inl rfl) (pe_make T.Cursor.M (ok_cinit T) hr2 rfl T.Cursor.g (b_cinit T) .nil pass0 (pa_cons (pv 0) pa_nil)))
      (pss_cons (ps_set (i := 2) sc_judge.nd rfl (Or.inl rfl) (pe_call (ok_pat T) hr rfl T.read_pattern.g T.read_pattern.F.kp (b_pat T) .nil pass0 (pa_cons (pv 1) pa_nil)))
      (pss_cons (ps_if (pt_cmp (pc_isN (pv 2))) (pss_one (ps_ret (pe_lst (pa_cons (pe_gint rfl T.g_JUDGED_WRONG) (pa_cons (pe_fld (pv 1) rfl) pa_nil))))) pss_nil)
      (pss_one (ps_ret (pe_lst (pa_cons (pe_callB call_len_seq (by rfl) T.b_len PySem.boot_len (pa_cons (pv 2) pa_nil)) pa_nil))))))), ?_⟩
    refine ⟨_, rfl, a, _, rfl, .inl hS, _, _, rfl, rfl, _, rfl, ?_⟩
    have e0 : decide ((4096 : Int) < ((bv bs).length : Int)) = decide (4096 < bs.length) := by
      rw [bv_len]; exact decide_eq_decide.mpr (by omega)
    rw [e0]
    by_cases e : 4096 < bs.length
    · rw [if_pos e] at q
      rw [decide_eq_true e]
      exact iteT ⟨by show 1 ≤ sizeLine; decide, fun p hp => q _ p upd_same⟩
    · rw [if_neg e] at q
      rw [decide_eq_false e]
      refine iteF ⟨_, rfl, ?_⟩
      intro c dx nc nd ne
      refine ⟨c, a, dx, rfl, upd_same, fun H1 h1 k1 => ⟨rfl, ?_⟩⟩
      have s1 : Same H H1 := Same.made nc nd k1
      have x1 : Cur K T.Cursor.C c a bs H1 bs := ⟨s1.seq hS, dx, 0, h1, Nat.zero_le _, rfl⟩
      refine ⟨_, rfl, c, a, bs, bs, rfl, x1, fun H2 v x2 k2 o2 => ?_⟩
      refine ⟨_, rfl, _, rfl, ?_⟩
      generalize pat 64 [] bs = L at x2 o2 q
      obtain ⟨o, r2⟩ := L
      cases o with
      | none =>
        have ev : v = .non := o2
        subst ev
        refine iteT ?_
        obtain ⟨dx2, i2, hc2, hi2, hd2⟩ := x2.ex
        dsimp only at q hd2
        refine ⟨_, rfl, c, _, dx2, _, _, rfl, hc2, T.Cursor.cl, T.Cursor_n_at, cf_at a i2, by show 2 ≤ sizeLine; decide, fun p hp => ?_⟩
        refine q _ p ?_
        have e2 : bs.length - r2.length = i2 := by rw [← hd2, List.length_drop]; omega
        rw [upd_same, e2]; rfl
      | some L =>
        obtain ⟨l, rfl, ps, hL, hA⟩ := o2
        refine iteF ?_
        dsimp only at q
        refine ⟨_, rfl, l, _, rfl, .inl (SqL.of hL), by show 1 ≤ sizeLine; decide, fun p hp => ?_⟩
        refine q _ p ?_
        rw [upd_same, List.length_map, hA.len]; rfl
theorem bt_judge (T : Txt K mg) : ∀ (s : Shared) (us : List Value), us.length = (["p"] : List Str).length → BindsTo s T.judge.fd ⟨us, []⟩ (((["p"] : List Str)).zip us) := bt_of T.judge.F fun _ _ _ _ _ _ us hl => match us, hl with | [_], _ => rfl
end
end Sg
namespace Sg
open PySem PySem.Spec PyProof.Rows L2
open PySem.W (Codec)
def txt_mk {K : PySem.W.Frag} {h : Heap} {mg : Str → Option Value} (X : K.In h) (G : h.Ns mainGlobals mg)
    {C_Cursor : Addr}
    {f_Cursor_init : Addr}
    {od4 an4 : Option Addr} {sl4 : Array (Option Value)} {oc4 kV4 dc4 pm4 cd4 ct4 : Value}
    {f_Cursor_at_end : Addr}
    {od13 an13 : Option Addr} {sl13 : Array (Option Value)} {oc13 kV13 dc13 pm13 cd13 ct13 : Value}
    {f_Cursor_peek : Addr}
    {od16 an16 : Option Addr} {sl16 : Array (Option Value)} {oc16 kV16 dc16 pm16 cd16 ct16 : Value}
    {f_Cursor_take : Addr}
    {od19 an19 : Option Addr} {sl19 : Array (Option Value)} {oc19 kV19 dc19 pm19 cd19 ct19 : Value}
    {f_Cursor_take_between : Addr}
    {od22 an22 : Option Addr} {sl22 : Array (Option Value)} {oc22 kV22 dc22 pm22 cd22 ct22 : Value}
    {C_Atom : Addr}
    {f_Atom_init : Addr}
    {od28 an28 : Option Addr} {sl28 : Array (Option Value)} {oc28 kV28 dc28 pm28 cd28 ct28 : Value}
    {f_take_small_letter : Addr}
    {od39 an39 : Option Addr} {sl39 : Array (Option Value)} {oc39 kV39 dc39 pm39 cd39 ct39 : Value}
    {f_read_letters : Addr}
    {od41 an41 : Option Addr} {sl41 : Array (Option Value)} {oc41 kV41 dc41 pm41 cd41 ct41 : Value}
    {f_read_number : Addr}
    {od43 an43 : Option Addr} {sl43 : Array (Option Value)} {oc43 kV43 dc43 pm43 cd43 ct43 : Value}
    {f_read_name_behind : Addr}
    {od45 an45 : Option Addr} {sl45 : Array (Option Value)} {oc45 kV45 dc45 pm45 cd45 ct45 : Value}
    {f_read_name : Addr}
    {od47 an47 : Option Addr} {sl47 : Array (Option Value)} {oc47 kV47 dc47 pm47 cd47 ct47 : Value}
    {f_atom_of : Addr}
    {od49 an49 : Option Addr} {sl49 : Array (Option Value)} {oc49 kV49 dc49 pm49 cd49 ct49 : Value}
    {f_read_dots : Addr}
    {od51 an51 : Option Addr} {sl51 : Array (Option Value)} {oc51 kV51 dc51 pm51 cd51 ct51 : Value}
    {f_read_names : Addr}
    {od53 an53 : Option Addr} {sl53 : Array (Option Value)} {oc53 kV53 dc53 pm53 cd53 ct53 : Value}
    {f_read_name_or_class : Addr}
    {od55 an55 : Option Addr} {sl55 : Array (Option Value)} {oc55 kV55 dc55 pm55 cd55 ct55 : Value}
    {f_read_atom : Addr}
    {od57 an57 : Option Addr} {sl57 : Array (Option Value)} {oc57 kV57 dc57 pm57 cd57 ct57 : Value}
    {f_read_pattern : Addr}
    {od59 an59 : Option Addr} {sl59 : Array (Option Value)} {oc59 kV59 dc59 pm59 cd59 ct59 : Value}
    {f_judge : Addr}
    {od61 an61 : Option Addr} {sl61 : Array (Option Value)} {oc61 kV61 dc61 pm61 cd61 ct61 : Value}
    {t62 : Tok}
    {t64 : Tok}
    {t66 : Tok}
    {t68 : Tok}
    {t70 : Tok}
    {t72 : Tok}
    {t74 : Tok}
    {t76 : Tok}
    {t78 : Tok}
    {t80 : Tok}
    {t82 : Tok}
    {t84 : Tok}
    {t86 : Tok}
    {t88 : Tok}
    {t90 : Tok}
    {t92 : Tok}
    {t94 : Tok}
    {t96 : Tok}
    {t98 : Tok}
    {t100 : Tok}
    {t102 : Tok}
    {t104 : Tok}
    {t106 : Tok}
    {t108 : Tok}
    {t110 : Tok}
    {t112 : Tok}
    {t114 : Tok}
    (a1 : PySem.W.nsIn K mainGlobals "Cursor" = some (some (.ref C_Cursor)))
    (a2 : PySem.W.findIn K (.ref C_Cursor) "__init__" = some (some (.ref f_Cursor_init)))
    (i3 : PySem.W.isFn K (.ref f_Cursor_init) = true)
    (l4 : K.lookup f_Cursor_init = some ⟨oc4, od4, .func (PySem.W.fnOf "__init__" "Cursor.__init__" (defArgs s_Cursor_init) (defBody s_Cursor_init) (defScope s_Cursor_init) .none kV4 dc4 pm4 an4 cd4 ct4), sl4⟩)
    (c4 : PySem.W.codeIn K cd4 "Cursor.__init__" = true)
    (k4 : PySem.W.keepIn K (.ref f_Cursor_init) = true)
    (pg5 : PySem.W.plainGet K C_Cursor Str.empty = true)
    (hd6 : PySem.W.hasDictIn K C_Cursor = true)
    (po7 : PySem.W.plainOver K C_Cursor = true)
    (sa8 : PySem.W.findIn K (.ref C_Cursor) "__setattr__" = some (some (.builtin "object.__setattr__")))
    (mk9 : PySem.W.makesIn K C_Cursor = true)
    (kc10 : PySem.W.keepIn K (.ref C_Cursor) = true)
    (a11 : PySem.W.findIn K (.ref C_Cursor) "at_end" = some (some (.ref f_Cursor_at_end)))
    (i12 : PySem.W.isFn K (.ref f_Cursor_at_end) = true)
    (l13 : K.lookup f_Cursor_at_end = some ⟨oc13, od13, .func (PySem.W.fnOf "at_end" "Cursor.at_end" (defArgs s_Cursor_at_end) (defBody s_Cursor_at_end) (defScope s_Cursor_at_end) .none kV13 dc13 pm13 an13 cd13 ct13), sl13⟩)
    (c13 : PySem.W.codeIn K cd13 "Cursor.at_end" = true)
    (k13 : PySem.W.keepIn K (.ref f_Cursor_at_end) = true)
    (a14 : PySem.W.findIn K (.ref C_Cursor) "peek" = some (some (.ref f_Cursor_peek)))
    (i15 : PySem.W.isFn K (.ref f_Cursor_peek) = true)
    (l16 : K.lookup f_Cursor_peek = some ⟨oc16, od16, .func (PySem.W.fnOf "peek" "Cursor.peek" (defArgs s_Cursor_peek) (defBody s_Cursor_peek) (defScope s_Cursor_peek) .none kV16 dc16 pm16 an16 cd16 ct16), sl16⟩)
    (c16 : PySem.W.codeIn K cd16 "Cursor.peek" = true)
    (k16 : PySem.W.keepIn K (.ref f_Cursor_peek) = true)
    (a17 : PySem.W.findIn K (.ref C_Cursor) "take" = some (some (.ref f_Cursor_take)))
    (i18 : PySem.W.isFn K (.ref f_Cursor_take) = true)
    (l19 : K.lookup f_Cursor_take = some ⟨oc19, od19, .func (PySem.W.fnOf "take" "Cursor.take" (defArgs s_Cursor_take) (defBody s_Cursor_take) (defScope s_Cursor_take) .none kV19 dc19 pm19 an19 cd19 ct19), sl19⟩)
    (c19 : PySem.W.codeIn K cd19 "Cursor.take" = true)
    (k19 : PySem.W.keepIn K (.ref f_Cursor_take) = true)
    (a20 : PySem.W.findIn K (.ref C_Cursor) "take_between" = some (some (.ref f_Cursor_take_between)))
    (i21 : PySem.W.isFn K (.ref f_Cursor_take_between) = true)
    (l22 : K.lookup f_Cursor_take_between = some ⟨oc22, od22, .func (PySem.W.fnOf "take_between" "Cursor.take_between" (defArgs s_Cursor_take_between) (defBody s_Cursor_take_between) (defScope s_Cursor_take_between) .none kV22 dc22 pm22 an22 cd22 ct22), sl22⟩)
    (c22 : PySem.W.codeIn K cd22 "Cursor.take_between" = true)
    (k22 : PySem.W.keepIn K (.ref f_Cursor_take_between) = true)
    (n23 : PySem.W.findIn K (.ref C_Cursor) "data" = some none)
    (n24 : PySem.W.findIn K (.ref C_Cursor) "at" = some none)
    (a25 : PySem.W.nsIn K mainGlobals "Atom" = some (some (.ref C_Atom)))
    (a26 : PySem.W.findIn K (.ref C_Atom) "__init__" = some (some (.ref f_Atom_init)))
    (i27 : PySem.W.isFn K (.ref f_Atom_init) = true)
    (l28 : K.lookup f_Atom_init = some ⟨oc28, od28, .func (PySem.W.fnOf "__init__" "Atom.__init__" (defArgs s_Atom_init) (defBody s_Atom_init) (defScope s_Atom_init) .none kV28 dc28 pm28 an28 cd28 ct28), sl28⟩)
    (c28 : PySem.W.codeIn K cd28 "Atom.__init__" = true)
    (k28 : PySem.W.keepIn K (.ref f_Atom_init) = true)
    (pg29 : PySem.W.plainGet K C_Atom Str.empty = true)
    (hd30 : PySem.W.hasDictIn K C_Atom = true)
    (po31 : PySem.W.plainOver K C_Atom = true)
    (sa32 : PySem.W.findIn K (.ref C_Atom) "__setattr__" = some (some (.builtin "object.__setattr__")))
    (mk33 : PySem.W.makesIn K C_Atom = true)
    (kc34 : PySem.W.keepIn K (.ref C_Atom) = true)
    (n35 : PySem.W.findIn K (.ref C_Atom) "kind" = some none)
    (n36 : PySem.W.findIn K (.ref C_Atom) "what" = some none)
    (n37 : PySem.W.findIn K (.ref C_Atom) "denied" = some none)
    (a38 : PySem.W.nsIn K mainGlobals "take_small_letter" = some (some (.ref f_take_small_letter)))
    (l39 : K.lookup f_take_small_letter = some ⟨oc39, od39, .func (PySem.W.fnOf "take_small_letter" "take_small_letter" (defArgs s_take_small_letter) (defBody s_take_small_letter) (defScope s_take_small_letter) .none kV39 dc39 pm39 an39 cd39 ct39), sl39⟩)
    (c39 : PySem.W.codeIn K cd39 "take_small_letter" = true)
    (k39 : PySem.W.keepIn K (.ref f_take_small_letter) = true)
    (a40 : PySem.W.nsIn K mainGlobals "read_letters" = some (some (.ref f_read_letters)))
    (l41 : K.lookup f_read_letters = some ⟨oc41, od41, .func (PySem.W.fnOf "read_letters" "read_letters" (defArgs s_read_letters) (defBody s_read_letters) (defScope s_read_letters) .none kV41 dc41 pm41 an41 cd41 ct41), sl41⟩)
    (c41 : PySem.W.codeIn K cd41 "read_letters" = true)
    (k41 : PySem.W.keepIn K (.ref f_read_letters) = true)
    (a42 : PySem.W.nsIn K mainGlobals "read_number" = some (some (.ref f_read_number)))
    (l43 : K.lookup f_read_number = some ⟨oc43, od43, .func (PySem.W.fnOf "read_number" "read_number" (defArgs s_read_number) (defBody s_read_number) (defScope s_read_number) .none kV43 dc43 pm43 an43 cd43 ct43), sl43⟩)
    (c43 : PySem.W.codeIn K cd43 "read_number" = true)
    (k43 : PySem.W.keepIn K (.ref f_read_number) = true)
    (a44 : PySem.W.nsIn K mainGlobals "read_name_behind" = some (some (.ref f_read_name_behind)))
    (l45 : K.lookup f_read_name_behind = some ⟨oc45, od45, .func (PySem.W.fnOf "read_name_behind" "read_name_behind" (defArgs s_read_name_behind) (defBody s_read_name_behind) (defScope s_read_name_behind) .none kV45 dc45 pm45 an45 cd45 ct45), sl45⟩)
    (c45 : PySem.W.codeIn K cd45 "read_name_behind" = true)
    (k45 : PySem.W.keepIn K (.ref f_read_name_behind) = true)
    (a46 : PySem.W.nsIn K mainGlobals "read_name" = some (some (.ref f_read_name)))
    (l47 : K.lookup f_read_name = some ⟨oc47, od47, .func (PySem.W.fnOf "read_name" "read_name" (defArgs s_read_name) (defBody s_read_name) (defScope s_read_name) .none kV47 dc47 pm47 an47 cd47 ct47), sl47⟩)
    (c47 : PySem.W.codeIn K cd47 "read_name" = true)
    (k47 : PySem.W.keepIn K (.ref f_read_name) = true)
    (a48 : PySem.W.nsIn K mainGlobals "atom_of" = some (some (.ref f_atom_of)))
    (l49 : K.lookup f_atom_of = some ⟨oc49, od49, .func (PySem.W.fnOf "atom_of" "atom_of" (defArgs s_atom_of) (defBody s_atom_of) (defScope s_atom_of) .none kV49 dc49 pm49 an49 cd49 ct49), sl49⟩)
    (c49 : PySem.W.codeIn K cd49 "atom_of" = true)
    (k49 : PySem.W.keepIn K (.ref f_atom_of) = true)
    (a50 : PySem.W.nsIn K mainGlobals "read_dots" = some (some (.ref f_read_dots)))
    (l51 : K.lookup f_read_dots = some ⟨oc51, od51, .func (PySem.W.fnOf "read_dots" "read_dots" (defArgs s_read_dots) (defBody s_read_dots) (defScope s_read_dots) .none kV51 dc51 pm51 an51 cd51 ct51), sl51⟩)
    (c51 : PySem.W.codeIn K cd51 "read_dots" = true)
    (k51 : PySem.W.keepIn K (.ref f_read_dots) = true)
    (a52 : PySem.W.nsIn K mainGlobals "read_names" = some (some (.ref f_read_names)))
    (l53 : K.lookup f_read_names = some ⟨oc53, od53, .func (PySem.W.fnOf "read_names" "read_names" (defArgs s_read_names) (defBody s_read_names) (defScope s_read_names) .none kV53 dc53 pm53 an53 cd53 ct53), sl53⟩)
    (c53 : PySem.W.codeIn K cd53 "read_names" = true)
    (k53 : PySem.W.keepIn K (.ref f_read_names) = true)
    (a54 : PySem.W.nsIn K mainGlobals "read_name_or_class" = some (some (.ref f_read_name_or_class)))
    (l55 : K.lookup f_read_name_or_class = some ⟨oc55, od55, .func (PySem.W.fnOf "read_name_or_class" "read_name_or_class" (defArgs s_read_name_or_class) (defBody s_read_name_or_class) (defScope s_read_name_or_class) .none kV55 dc55 pm55 an55 cd55 ct55), sl55⟩)
    (c55 : PySem.W.codeIn K cd55 "read_name_or_class" = true)
    (k55 : PySem.W.keepIn K (.ref f_read_name_or_class) = true)
    (a56 : PySem.W.nsIn K mainGlobals "read_atom" = some (some (.ref f_read_atom)))
    (l57 : K.lookup f_read_atom = some ⟨oc57, od57, .func (PySem.W.fnOf "read_atom" "read_atom" (defArgs s_read_atom) (defBody s_read_atom) (defScope s_read_atom) .none kV57 dc57 pm57 an57 cd57 ct57), sl57⟩)
    (c57 : PySem.W.codeIn K cd57 "read_atom" = true)
    (k57 : PySem.W.keepIn K (.ref f_read_atom) = true)
    (a58 : PySem.W.nsIn K mainGlobals "read_pattern" = some (some (.ref f_read_pattern)))
    (l59 : K.lookup f_read_pattern = some ⟨oc59, od59, .func (PySem.W.fnOf "read_pattern" "read_pattern" (defArgs s_read_pattern) (defBody s_read_pattern) (defScope s_read_pattern) .none kV59 dc59 pm59 an59 cd59 ct59), sl59⟩)
    (c59 : PySem.W.codeIn K cd59 "read_pattern" = true)
    (k59 : PySem.W.keepIn K (.ref f_read_pattern) = true)
    (a60 : PySem.W.nsIn K mainGlobals "judge" = some (some (.ref f_judge)))
    (l61 : K.lookup f_judge = some ⟨oc61, od61, .func (PySem.W.fnOf "judge" "judge" (defArgs s_judge) (defBody s_judge) (defScope s_judge) .none kV61 dc61 pm61 an61 cd61 ct61), sl61⟩)
    (c61 : PySem.W.codeIn K cd61 "judge" = true)
    (k61 : PySem.W.keepIn K (.ref f_judge) = true)
    (a63 : PySem.W.nsIn K mainGlobals "NO_BYTE" = some (some (.int (-1) t62)))
    (a65 : PySem.W.nsIn K mainGlobals "BLANK" = some (some (.int (32) t64)))
    (a67 : PySem.W.nsIn K mainGlobals "BANG" = some (some (.int (33) t66)))
    (a69 : PySem.W.nsIn K mainGlobals "STAR" = some (some (.int (42) t68)))
    (a71 : PySem.W.nsIn K mainGlobals "COMMA" = some (some (.int (44) t70)))
    (a73 : PySem.W.nsIn K mainGlobals "DOT" = some (some (.int (46) t72)))
    (a75 : PySem.W.nsIn K mainGlobals "DIGIT_0" = some (some (.int (48) t74)))
    (a77 : PySem.W.nsIn K mainGlobals "DIGIT_1" = some (some (.int (49) t76)))
    (a79 : PySem.W.nsIn K mainGlobals "DIGIT_9" = some (some (.int (57) t78)))
    (a81 : PySem.W.nsIn K mainGlobals "EQUALS" = some (some (.int (61) t80)))
    (a83 : PySem.W.nsIn K mainGlobals "CAPITAL_A" = some (some (.int (65) t82)))
    (a85 : PySem.W.nsIn K mainGlobals "CAPITAL_Z" = some (some (.int (90) t84)))
    (a87 : PySem.W.nsIn K mainGlobals "SMALL_A" = some (some (.int (97) t86)))
    (a89 : PySem.W.nsIn K mainGlobals "SMALL_Z" = some (some (.int (122) t88)))
    (a91 : PySem.W.nsIn K mainGlobals "BRACE" = some (some (.int (123) t90)))
    (a93 : PySem.W.nsIn K mainGlobals "END_BRACE" = some (some (.int (125) t92)))
    (a95 : PySem.W.nsIn K mainGlobals "MOST_DIGITS" = some (some (.int (3) t94)))
    (a97 : PySem.W.nsIn K mainGlobals "MOST_ATOMS" = some (some (.int (64) t96)))
    (a99 : PySem.W.nsIn K mainGlobals "MOST_NAMES" = some (some (.int (16) t98)))
    (a101 : PySem.W.nsIn K mainGlobals "RUN" = some (some (.str "run" t100)))
    (a103 : PySem.W.nsIn K mainGlobals "ANY" = some (some (.str "any" t102)))
    (a105 : PySem.W.nsIn K mainGlobals "ALIKE" = some (some (.str "alike" t104)))
    (a107 : PySem.W.nsIn K mainGlobals "CLASS" = some (some (.str "class" t106)))
    (a109 : PySem.W.nsIn K mainGlobals "NAMES" = some (some (.str "names" t108)))
    (a111 : PySem.W.nsIn K mainGlobals "MOST_PATTERN_BYTES" = some (some (.int (4096) t110)))
    (a113 : PySem.W.nsIn K mainGlobals "TOO_LONG" = some (some (.int (-2) t112)))
    (a115 : PySem.W.nsIn K mainGlobals "JUDGED_WRONG" = some (some (.int (-6) t114)))
    (a116 : PySem.W.nsIn K mainGlobals "len" = some none)
    : Txt K mg where
  Cursor := ⟨C_Cursor, f_Cursor_init, _, fun_mk (st := s_Cursor_init) l4 c4 k4, ⟨mk9, a2, i3, kc10⟩, ⟨pg5, hd6, po7, sa8⟩, PySem.W.mg_of X G a1⟩
  Cursor_at_end := ⟨f_Cursor_at_end, _, fun_mk (st := s_Cursor_at_end) l13 c13 k13, ⟨a11, i12, k13⟩⟩
  Cursor_peek := ⟨f_Cursor_peek, _, fun_mk (st := s_Cursor_peek) l16 c16 k16, ⟨a14, i15, k16⟩⟩
  Cursor_take := ⟨f_Cursor_take, _, fun_mk (st := s_Cursor_take) l19 c19 k19, ⟨a17, i18, k19⟩⟩
  Cursor_take_between := ⟨f_Cursor_take_between, _, fun_mk (st := s_Cursor_take_between) l22 c22 k22, ⟨a20, i21, k22⟩⟩
  Cursor_n_data := n23
  Cursor_n_at := n24
  Atom := ⟨C_Atom, f_Atom_init, _, fun_mk (st := s_Atom_init) l28 c28 k28, ⟨mk33, a26, i27, kc34⟩, ⟨pg29, hd30, po31, sa32⟩, PySem.W.mg_of X G a25⟩
  Atom_n_kind := n35
  Atom_n_what := n36
  Atom_n_denied := n37
  take_small_letter := ⟨f_take_small_letter, _, fun_mk (st := s_take_small_letter) l39 c39 k39, PySem.W.mg_of X G a38⟩
  read_letters := ⟨f_read_letters, _, fun_mk (st := s_read_letters) l41 c41 k41, PySem.W.mg_of X G a40⟩
  read_number := ⟨f_read_number, _, fun_mk (st := s_read_number) l43 c43 k43, PySem.W.mg_of X G a42⟩
  read_name_behind := ⟨f_read_name_behind, _, fun_mk (st := s_read_name_behind) l45 c45 k45, PySem.W.mg_of X G a44⟩
  read_name := ⟨f_read_name, _, fun_mk (st := s_read_name) l47 c47 k47, PySem.W.mg_of X G a46⟩
  atom_of := ⟨f_atom_of, _, fun_mk (st := s_atom_of) l49 c49 k49, PySem.W.mg_of X G a48⟩
  read_dots := ⟨f_read_dots, _, fun_mk (st := s_read_dots) l51 c51 k51, PySem.W.mg_of X G a50⟩
  read_names := ⟨f_read_names, _, fun_mk (st := s_read_names) l53 c53 k53, PySem.W.mg_of X G a52⟩
  read_name_or_class := ⟨f_read_name_or_class, _, fun_mk (st := s_read_name_or_class) l55 c55 k55, PySem.W.mg_of X G a54⟩
  read_atom := ⟨f_read_atom, _, fun_mk (st := s_read_atom) l57 c57 k57, PySem.W.mg_of X G a56⟩
  read_pattern := ⟨f_read_pattern, _, fun_mk (st := s_read_pattern) l59 c59 k59, PySem.W.mg_of X G a58⟩
  judge := ⟨f_judge, _, fun_mk (st := s_judge) l61 c61 k61, PySem.W.mg_of X G a60⟩
  g_NO_BYTE := ⟨_, PySem.W.mg_of X G a63⟩
  g_BLANK := ⟨_, PySem.W.mg_of X G a65⟩
  g_BANG := ⟨_, PySem.W.mg_of X G a67⟩
  g_STAR := ⟨_, PySem.W.mg_of X G a69⟩
  g_COMMA := ⟨_, PySem.W.mg_of X G a71⟩
  g_DOT := ⟨_, PySem.W.mg_of X G a73⟩
  g_DIGIT_0 := ⟨_, PySem.W.mg_of X G a75⟩
  g_DIGIT_1 := ⟨_, PySem.W.mg_of X G a77⟩
  g_DIGIT_9 := ⟨_, PySem.W.mg_of X G a79⟩
  g_EQUALS := ⟨_, PySem.W.mg_of X G a81⟩
  g_CAPITAL_A := ⟨_, PySem.W.mg_of X G a83⟩
  g_CAPITAL_Z := ⟨_, PySem.W.mg_of X G a85⟩
  g_SMALL_A := ⟨_, PySem.W.mg_of X G a87⟩
  g_SMALL_Z := ⟨_, PySem.W.mg_of X G a89⟩
  g_BRACE := ⟨_, PySem.W.mg_of X G a91⟩
  g_END_BRACE := ⟨_, PySem.W.mg_of X G a93⟩
  g_MOST_DIGITS := ⟨_, PySem.W.mg_of X G a95⟩
  g_MOST_ATOMS := ⟨_, PySem.W.mg_of X G a97⟩
  g_MOST_NAMES := ⟨_, PySem.W.mg_of X G a99⟩
  g_RUN := ⟨_, PySem.W.mg_of X G a101⟩
  g_ANY := ⟨_, PySem.W.mg_of X G a103⟩
  g_ALIKE := ⟨_, PySem.W.mg_of X G a105⟩
  g_CLASS := ⟨_, PySem.W.mg_of X G a107⟩
  g_NAMES := ⟨_, PySem.W.mg_of X G a109⟩
  g_MOST_PATTERN_BYTES := ⟨_, PySem.W.mg_of X G a111⟩
  g_TOO_LONG := ⟨_, PySem.W.mg_of X G a113⟩
  g_JUDGED_WRONG := ⟨_, PySem.W.mg_of X G a115⟩
  b_len := PySem.W.mg_none_of X G a116
end Sg
open PySem PySem.W PyProof.Rows
set_option maxRecDepth 100000 in
set_option maxHeartbeats 0 in
theorem PySem.Challenge.cw_signsearch_s01_judge_holds : PySem.Challenge.rw_signsearch_s01_judge.Holds := by
  w_on; k_headS; (case hw => exact ⟨[.list []], by decide +kernel, by decide +kernel⟩)
  k_fillS
  refine L2.walk_specK (r := PySem.Challenge.rw_signsearch_s01_judge) (k := 10) (CX := L2.CX0) (ps := ["p"]) (sp := Sg.spJudge) (by decide +kernel) rfl rfl ⟨rfl, by decide, by decide⟩ (fun w h Y => PySem.W.kIn_of Y) ?F ?S (fun _ _ _ _ z => z)
  case F =>
    intro w mg fa h Y KX G hmg
    have T : Sg.Txt (L2.KOf KX) mg := by
      dsimp only [L2.KOf]
      refine' Sg.txt_mk KX G ?a1 ?a2 ?i3 ?l4 ?c4 ?k4 ?pg5 ?hd6 ?po7 ?sa8 ?mk9 ?kc10 ?a11 ?i12 ?l13 ?c13 ?k13 ?a14 ?i15 ?l16 ?c16 ?k16 ?a17 ?i18 ?l19 ?c19 ?k19 ?a20 ?i21 ?l22 ?c22 ?k22 ?n23 ?n24 ?a25 ?a26 ?i27 ?l28 ?c28 ?k28 ?pg29 ?hd30 ?po31 ?sa32 ?mk33 ?kc34 ?n35 ?n36 ?n37 ?a38 ?l39 ?c39 ?k39 ?a40 ?l41 ?c41 ?k41 ?a42 ?l43 ?c43 ?k43 ?a44 ?l45 ?c45 ?k45 ?a46 ?l47 ?c47 ?k47 ?a48 ?l49 ?c49 ?k49 ?a50 ?l51 ?c51 ?k51 ?a52 ?l53 ?c53 ?k53 ?a54 ?l55 ?c55 ?k55 ?a56 ?l57 ?c57 ?k57 ?a58 ?l59 ?c59 ?k59 ?a60 ?l61 ?c61 ?k61 ?a63 ?a65 ?a67 ?a69 ?a71 ?a73 ?a75 ?a77 ?a79 ?a81 ?a83 ?a85 ?a87 ?a89 ?a91 ?a93 ?a95 ?a97 ?a99 ?a101 ?a103 ?a105 ?a107 ?a109 ?a111 ?a113 ?a115 ?a116
      (case a1 => k_is); (case a2 => k_is); (case i3 => k_is); (case l4 => k_is); (case c4 => k_is); (case k4 => k_is)
      (case pg5 => k_is); (case hd6 => k_is); (case po7 => k_is); (case sa8 => k_is); (case mk9 => k_is); (case kc10 => k_is)
      (case a11 => k_is); (case i12 => k_is); (case l13 => k_is); (case c13 => k_is); (case k13 => k_is); (case a14 => k_is)
      (case i15 => k_is); (case l16 => k_is); (case c16 => k_is); (case k16 => k_is); (case a17 => k_is); (case i18 => k_is)
      (case l19 => k_is); (case c19 => k_is); (case k19 => k_is); (case a20 => k_is); (case i21 => k_is); (case l22 => k_is)
      (case c22 => k_is); (case k22 => k_is); (case n23 => k_is); (case n24 => k_is); (case a25 => k_is); (case a26 => k_is)
      (case i27 => k_is); (case l28 => k_is); (case c28 => k_is); (case k28 => k_is); (case pg29 => k_is); (case hd30 => k_is)
      (case po31 => k_is); (case sa32 => k_is); (case mk33 => k_is); (case kc34 => k_is); (case n35 => k_is); (case n36 => k_is)
      (case n37 => k_is); (case a38 => k_is); (case l39 => k_is); (case c39 => k_is); (case k39 => k_is); (case a40 => k_is)
      (case l41 => k_is); (case c41 => k_is); (case k41 => k_is); (case a42 => k_is); (case l43 => k_is); (case c43 => k_is)
      (case k43 => k_is); (case a44 => k_is); (case l45 => k_is); (case c45 => k_is); (case k45 => k_is); (case a46 => k_is)
      (case l47 => k_is); (case c47 => k_is); (case k47 => k_is); (case a48 => k_is); (case l49 => k_is); (case c49 => k_is)
      (case k49 => k_is); (case a50 => k_is); (case l51 => k_is); (case c51 => k_is); (case k51 => k_is); (case a52 => k_is)
      (case l53 => k_is); (case c53 => k_is); (case k53 => k_is); (case a54 => k_is); (case l55 => k_is); (case c55 => k_is)
      (case k55 => k_is); (case a56 => k_is); (case l57 => k_is); (case c57 => k_is); (case k57 => k_is); (case a58 => k_is)
      (case l59 => k_is); (case c59 => k_is); (case k59 => k_is); (case a60 => k_is); (case l61 => k_is); (case c61 => k_is)
      (case k61 => k_is); (case a63 => k_is); (case a65 => k_is); (case a67 => k_is); (case a69 => k_is); (case a71 => k_is)
      (case a73 => k_is); (case a75 => k_is); (case a77 => k_is); (case a79 => k_is); (case a81 => k_is); (case a83 => k_is)
      (case a85 => k_is); (case a87 => k_is); (case a89 => k_is); (case a91 => k_is); (case a93 => k_is); (case a95 => k_is)
      (case a97 => k_is); (case a99 => k_is); (case a101 => k_is); (case a103 => k_is); (case a105 => k_is); (case a107 => k_is)
      (case a109 => k_is); (case a111 => k_is); (case a113 => k_is); (case a115 => k_is); (case a116 => k_is)
    have e0 := hmg.symm.trans T.judge.g
    cases e0
    exact ⟨_, Sg.bt_judge T, fun base _ _ => Sg.ok_judge T⟩
  case S =>
    intro K H xs a hO hwi hask hx
    cases hx with
    | cons h1 h2 =>
      cases h2
      cases h1 with
      | lst hs ha =>
        have e := L2.ints_dw a.1 _ ha
        subst e
        have q : ((Codec.inLen 0 4200 a.1 && a.1.all (Codec.inInt 0 255)) && true) = true := hwi
        rw [Bool.and_eq_true, Bool.and_eq_true] at q
        have hb : ∀ z ∈ a.1, 0 ≤ z ∧ z ≤ 255 := fun z hz => Codec.inInt_iff.mp (List.all_eq_true.mp q.1.2 z hz)
        rw [Sg.text_bv hb] at hs
        exact ⟨_, a.1, _, rfl, hs, rfl, fun H' p hp => .lst (L2.SqL.of hp) (L2.dw_ints _)⟩
