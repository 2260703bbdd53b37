import PyProof.Rows.All
import Wide.All
import OpenK.AllK
import Wide.FinOn
import Lean
import PyProof.EqAt
import PyProof.EqKinds
import PyProof.TupleCall
import PySem.Challenge.RW_jamroad_k09_refused
set_option Elab.async false
set_option linter.all false
set_option genSizeOf false
set_option maxRecDepth 100000
namespace L2
open PySem PySem.Spec PyProof.Rows

noncomputable abbrev Key := Sum Int Str
noncomputable def keyIs : Key → Value → Bool
  | .inl k, v => Value.isInt k v
  | .inr x, v => Value.isStrOf x v
noncomputable def keyH (w : World) : Key → Int
  | .inl k => hashInt k
  | .inr x => hashStr w x
theorem keyIs_shape : ∀ {k : Key} {v : Value}, keyIs k v = true → (∃ i t, k = Sum.inl i ∧ v = Value.int i t) ∨ (∃ x t, k = Sum.inr x ∧ v = Value.str x t)
  | .inl i, v, h => by
    obtain ⟨t, e⟩ := Value.isInt_shape (k := i) (v := v) h
    exact .inl ⟨i, t, rfl, e⟩
  | .inr x, v, h => by
    obtain ⟨t, e⟩ := Value.isStrOf_shape (x := x) (v := v) h
    exact .inr ⟨x, t, rfl, e⟩
theorem keyIs_int (i : Int) (t : Tok) : keyIs (.inl i) (.int i t) = true := by simp [keyIs, Value.isInt]
theorem keyIs_str (x : Str) (t : Tok) : keyIs (.inr x) (.str x t) = true := by simp [keyIs, Value.isStrOf]
theorem key_ll (a b : Int) : decide ((Sum.inl a : Key) = Sum.inl b) = (a == b) := by
  by_cases e : a = b
  · subst e; simp
  · have h : ¬ (Sum.inl a : Key) = Sum.inl b := fun q => e (Sum.inl.inj q)
    rw [decide_eq_false h]
    exact (beq_eq_false_iff_ne.mpr e).symm
theorem key_rr (a b : Str) : decide ((Sum.inr a : Key) = Sum.inr b) = decide (a = b) := by
  by_cases e : a = b
  · subst e; simp
  · have h : ¬ (Sum.inr a : Key) = Sum.inr b := fun q => e (Sum.inr.inj q)
    rw [decide_eq_false h, decide_eq_false e]
theorem key_lr (a : Int) (b : Str) : decide ((Sum.inl a : Key) = Sum.inr b) = false := decide_eq_false (fun q => nomatch q)
theorem key_rl (a : Str) (b : Int) : decide ((Sum.inr a : Key) = Sum.inl b) = false := decide_eq_false (fun q => nomatch q)

noncomputable def mixKind (prog : Program) (w : World) : PySem.KeyKind prog w Key where
  is := keyIs
  hash := keyH w
  inj := fun v a b ha hb => by
    rcases keyIs_shape ha with ⟨i, t, rfl, rfl⟩ | ⟨x, t, rfl, rfl⟩
    · rcases keyIs_shape hb with ⟨j, u, rfl, e⟩ | ⟨y, u, rfl, e⟩
      · injection e with e1 _; rw [e1]
      · exact nomatch e
    · rcases keyIs_shape hb with ⟨j, u, rfl, e⟩ | ⟨y, u, rfl, e⟩
      · exact nomatch e
      · injection e with e1 _; rw [e1]
  byValue := fun k v h => by
    rcases keyIs_shape h with ⟨i, t, rfl, rfl⟩ | ⟨x, t, rfl, rfl⟩ <;> rfl
  pyHash := fun hv h => by
    rcases keyIs_shape hv with ⟨i, t, rfl, rfl⟩ | ⟨x, t, rfl, rfl⟩
    · exact wpAny_pyHash_int h
    · exact wpAny_pyHash_str h
  eqBool := fun hu hv h => by
    rcases keyIs_shape hu with ⟨i, t, rfl, rfl⟩ | ⟨x, t, rfl, rfl⟩
    · rcases keyIs_shape hv with ⟨j, u, rfl, rfl⟩ | ⟨y, u, rfl, rfl⟩
      · rw [key_ll] at h; exact wpAny_eqBool_int h
      · rw [key_lr] at h; exact SeqAt.EqAt.int_str i t y u _ _ _ _ h
    · rcases keyIs_shape hv with ⟨j, u, rfl, rfl⟩ | ⟨y, u, rfl, rfl⟩
      · rw [key_rl] at h; exact SeqAt.EqAt.str_int x t j u _ _ _ _ h
      · rw [key_rr] at h; exact wpAny_eqBool_str h
  «strs» := fun k x t v h => by
    rcases keyIs_shape h with ⟨i, u, rfl, e⟩ | ⟨y, u, rfl, e⟩
    · exact nomatch e
    · injection e with e1 _
      subst e1
      cases v <;> rfl

theorem mixKind_int (prog : Program) (w : World) (i : Int) (t : Tok) : (mixKind prog w).is (.inl i) (.int i t) = true := keyIs_int i t
theorem mixKind_str (prog : Program) (w : World) (x : Str) (t : Tok) : (mixKind prog w).is (.inr x) (.str x t) = true := keyIs_str x t
end L2

namespace L2
open PySem PySem.Spec PyProof.Rows

inductive V where
  | non | bl (b : Bool) | int (i : Int) | str (x : Str) | byt (b : Array UInt8) | flt (b : UInt64) | ref (a : Addr) | ty (n : String)
noncomputable instance : DecidableEq V := fun _ _ => Classical.propDecidable _

noncomputable def RelV : V → Value → Prop
  | .non, u => u = Value.none
  | .bl b, u => u = Value.bool b
  | .int i, u => ∃ t, u = Value.int i t
  | .str x, u => ∃ t, u = Value.str x t
  | .byt b, u => ∃ t, u = Value.bytes b t
  | .flt b, u => ∃ t, u = Value.float b t
  | .ref a, u => u = Value.ref a
  | .ty n, u => u = Value.type n

noncomputable abbrev Vals : List V → List Value → Prop := Paired RelV
theorem Vals.length {xs : List V} {us : List Value} (r : Vals xs us) : xs.length = us.length := Paired.length r
theorem Vals.get : ∀ {xs : List V} {us : List Value} {i : Nat} {x : V}, Vals xs us → xs[i]? = some x → ∃ u, us[i]? = some u ∧ RelV x u
  | _, _, _, _, .nil, e => by simp at e
  | _, _, 0, _, .cons r _, e => by simp at e; subst e; exact ⟨_, rfl, r⟩
  | _, _, i + 1, x, .cons _ t, e => by
    obtain ⟨u, h1, h2⟩ := Vals.get (i := i) (x := x) t (by simpa using e)
    exact ⟨u, by simpa using h1, h2⟩
theorem Vals.append : ∀ {xs ys : List V} {us ws : List Value}, Vals xs us → Vals ys ws → Vals (xs ++ ys) (us ++ ws)
  | _, _, _, _, .nil, s => s
  | _, _, _, _, .cons r t, s => .cons r (Vals.append t s)
theorem Vals.take : ∀ {xs : List V} {us : List Value} (n : Nat), Vals xs us → Vals (xs.take n) (us.take n)
  | _, _, 0, _ => .nil
  | _, _, _ + 1, .nil => .nil
  | _, _, n + 1, .cons r t => .cons r (Vals.take n t)
theorem Vals.drop : ∀ {xs : List V} {us : List Value} (n : Nat), Vals xs us → Vals (xs.drop n) (us.drop n)
  | _, _, 0, r => r
  | _, _, _ + 1, .nil => .nil
  | _, _, n + 1, .cons _ t => Vals.drop n t
noncomputable def RelO : Option V → Option Value → Prop
  | some v, some u => RelV v u
  | none, none => True
  | _, _ => False
noncomputable def KV {κ : Type} : List (κ × V) → List (κ × Value) → Prop := Paired fun (p : κ × V) (q : κ × Value) => p.1 = q.1 ∧ RelV p.2 q.2

noncomputable def kV : Key → V
  | .inl i => .int i
  | .inr x => .str x

inductive HO where
  /-- a list -/
  | lst (xs : List V)
  /-- a tuple (never changes) -/
  | tup (xs : List V)
  /-- a dict whose keys are ints and texts; one whose keys are tuples of ints and texts (the empty one is both) -/
  | dK (kvs : List (Key × V)) | dT (kvs : List (List Key × V))
  /-- a set of ints: its members, its size -/
  | set (S : Int → Bool) (n : Nat)
  /-- an instance of the class at C, its dict at dx, its attributes -/
  | ins (C dx : Addr) (fs : List (Str × V))
  /-- the dict of the instance at x -/
  | own (x : Addr)
  /-- the dict of an exception -/
  | xd (fs : List (Str × V))
  /-- a bound method, f of x -/
  | met (f x : Addr)
  /-- a range object lo, lo + 1, .. below hi -/
  | rng (lo hi : Int)
  /-- a thing that is known to the object (the script; a dict while a loop walks it): read, never written while it is so -/
  | frz (o : Obj) (u : HO)
  /-- a code object's table -/
  | tbl (ps : Array Value)
  /-- any other thing, by what is true of its one object (a def of one's own: SetO a S n := HO.ext fun h => ..) -/
  | ext (φ : Heap → Prop)

noncomputable abbrev Hp := Addr → Option HO
noncomputable def upd (H : Hp) (a : Addr) (o : HO) : Hp := fun b => if b = a then some o else H b
theorem upd_same {H : Hp} {a : Addr} {o : HO} : upd H a o a = some o := by unfold upd; rw [if_pos rfl]
theorem upd_ne {H : Hp} {a b : Addr} {o : HO} (h : b ≠ a) : upd H a o b = H b := by unfold upd; rw [if_neg h]
theorem ne_of {H : Hp} {a b : Addr} {o u : HO} (h : H a = some o) (h' : H b = some u) (d : o ≠ u) : a ≠ b := by
  intro e; subst e; rw [h] at h'; exact d (Option.some.inj h')
theorem ne_of_none {H : Hp} {a b : Addr} {o : HO} (h : H a = some o) (h' : H b = none) : a ≠ b := by
  intro e; subst e; rw [h] at h'; cases h'

section
variable (P : Program) (w : World)
noncomputable def ObjOk (H : Hp) (h : Heap) (a : Addr) : HO → Prop
  | .lst xs => xs.length ≤ sizeLine ∧ ∃ (its : List Value) (n : Nat), Vals xs its ∧ h.get? a = some { cls := .type "list", data := .seq its.toArray n }
  | .tup xs => xs.length ≤ sizeLine ∧ ∃ its : List Value, Vals xs its ∧ IsTup h a its.toArray
  | .dK kvs => kvs.length ≤ sizeLine ∧ (a == sysModules) = false ∧ ∃ vs, KV kvs vs ∧ h.DictOf (mixKind P w) a vs
  | .dT kvs => kvs.length ≤ sizeLine ∧ (a == sysModules) = false ∧ ∃ xs : List (List Key × Addr × Value),
      Paired (fun (p : List Key × V) (q : List Key × Addr × Value) => p.1 = q.1 ∧ H q.2.1 = some (.tup (p.1.map kV)) ∧ RelV p.2 q.2.2) kvs xs ∧
      ∃ o es ep, h.get? a = some o ∧ o.ExactDict ∧ o.data = .dict es ep ∧ es.toList = xs.map (entryOfKey (tupleKind (mixKind P w))) ∧ (xs.map (·.1)).Nodup
  | .set S n => h.SetOf (intKind P w) a S n
  | .ins C dx fs => H dx = some (.own a) ∧ fs.length ≤ 1000 ∧ dx ≠ a ∧ h.get? a = some (PySem.W.instObj C dx) ∧
      ∃ mA, h.Ns1 dx mA ∧ (∀ f, RelO (fs.lookup f) (mA f)) ∧ PySem.Within mA (fs.map (·.1))
  | .own _ => ∃ o, h.get? a = some o
  | .xd fs => ∃ mA, h.Ns1 a mA ∧ ∀ f, RelO (fs.lookup f) (mA f)
  | .rng lo hi => ∃ t u v, h.get? a = some { cls := .type "range", data := .fields #[.int lo t, .int hi u, .int 1 v] }
  | .frz o u => h.get? a = some o ∧ ObjOk H h a u
  | .tbl ps => h.get? a = some { cls := .none, data := .fields ps }
  | .met f x => h.get? a = some (PySem.W.methodObj (.ref f) (.ref x))
  | .ext φ => φ h ∧ (∃ o, h.get? a = some o) ∧ ∀ h1 h2 : Heap, φ h1 → (∀ o, h1.get? a = some o → h2.get? a = some o) → φ h2
noncomputable def HOk (H : Hp) (h : Heap) : Prop := ∀ a o, H a = some o → ObjOk P w H h a o
end

section
variable {P : Program} {w : World} {H H' : Hp} {h h' : Heap} {a : Addr} {o : HO}
theorem ObjOk.lt (x : ObjOk P w H h a o) : a < h.objs.size := by
  cases o with
  | lst xs => obtain ⟨_, _, _, _, e⟩ := x; exact Heap.lt_size e
  | tup xs => obtain ⟨_, _, _, p⟩ := x; exact p.lt
  | dK kvs => obtain ⟨_, _, _, _, o, _, _, e, _⟩ := x; exact Heap.lt_size e
  | dT kvs => obtain ⟨_, _, _, _, o, _, _, e, _⟩ := x; exact Heap.lt_size e
  | set S n => obtain ⟨o, _, _, _, e, _⟩ := x; exact Heap.lt_size e
  | ins C dx fs => obtain ⟨_, _, _, e, _⟩ := x; exact Heap.lt_size e
  | own y => obtain ⟨_, e⟩ := x; exact Heap.lt_size e
  | xd fs => obtain ⟨_, ⟨_, _, _, e, _⟩, _⟩ := x; exact Heap.lt_size e
  | rng lo hi => obtain ⟨_, _, _, e⟩ := x; exact Heap.lt_size e
  | frz ob u => obtain ⟨e, _⟩ := x; exact Heap.lt_size e
  | tbl ps => exact Heap.lt_size (show h.get? a = some _ from x)
  | met f y => exact Heap.lt_size (show h.get? a = some _ from x)
  | ext φ => obtain ⟨_, ⟨_, e⟩, _⟩ := x; exact Heap.lt_size e
theorem Paired.mapP {α β : Type} {F G : α → β → Prop} : ∀ {l₁ : List α} {l₂ : List β}, Paired F l₁ l₂ → (∀ a b, F a b → G a b) → Paired G l₁ l₂
  | _, _, .nil, _ => .nil
  | _, _, .cons r t, f => .cons (f _ _ r) (Paired.mapP t f)
theorem ObjOk.stay (x : ObjOk P w H h a o) (k : ∀ b u, (b = a ∨ H b = some (.own a)) → h.get? b = some u → h'.get? b = some u)
    (ho : ∀ b, H b = some (.own a) → H' b = some (.own a)) (ht : ∀ b xs, H b = some (.tup xs) → H' b = some (.tup xs)) : ObjOk P w H' h' a o := by
  induction o with
  | lst xs => obtain ⟨z, its, n, r, e⟩ := x; exact ⟨z, its, n, r, k _ _ (.inl rfl) e⟩
  | tup xs => obtain ⟨z, its, r, ob, e, c⟩ := x; exact ⟨z, its, r, ob, k _ _ (.inl rfl) e, c⟩
  | dK kvs => obtain ⟨z, y, vs, r, ob, es, ep, e, c⟩ := x; exact ⟨z, y, vs, r, ob, es, ep, k _ _ (.inl rfl) e, c⟩
  | dT kvs =>
    obtain ⟨z, y, xs, r, ob, es, ep, e, c⟩ := x
    exact ⟨z, y, xs, Paired.mapP r fun p q z => ⟨z.1, ht _ _ z.2.1, z.2.2⟩, ob, es, ep, k _ _ (.inl rfl) e, c⟩
  | set S n => obtain ⟨ob, es, ep, t, e, c⟩ := x; exact ⟨ob, es, ep, t, k _ _ (.inl rfl) e, c⟩
  | ins C dx fs =>
    obtain ⟨d, z, ne, e, mA, ⟨od, es, ep, e2, c⟩, r⟩ := x
    exact ⟨ho _ d, z, ne, k _ _ (.inl rfl) e, mA, ⟨od, es, ep, k _ _ (.inr d) e2, c⟩, r⟩
  | own y => obtain ⟨ob, e⟩ := x; exact ⟨ob, k _ _ (.inl rfl) e⟩
  | xd fs => obtain ⟨mA, ⟨od, es, ep, e, c⟩, r⟩ := x; exact ⟨mA, ⟨od, es, ep, k _ _ (.inl rfl) e, c⟩, r⟩
  | rng lo hi => obtain ⟨t, u, v, e⟩ := x; exact ⟨t, u, v, k _ _ (.inl rfl) e⟩
  | frz ob u ih => obtain ⟨e, q⟩ := x; exact ⟨k _ _ (.inl rfl) e, ih q⟩
  | tbl ps =>
    have e : h.get? a = some { cls := .none, data := .fields ps } := x
    show h'.get? a = some { cls := .none, data := .fields ps }
    exact k a _ (.inl rfl) e
  | met f y =>
    have e : h.get? a = some (PySem.W.methodObj (.ref f) (.ref y)) := x
    show h'.get? a = some (PySem.W.methodObj (.ref f) (.ref y))
    exact k a _ (.inl rfl) e
  | ext φ => obtain ⟨p, ⟨o, e⟩, st⟩ := x; exact ⟨st _ _ p fun o q => k _ _ (.inl rfl) q, ⟨o, k _ _ (.inl rfl) e⟩, st⟩
theorem HOk.lt (x : HOk P w H h) (e : H a = some o) : a < h.objs.size := (x a o e).lt
theorem HOk.fresh (x : HOk P w H h) (e : h.objs.size ≤ a) : H a = none := by
  cases q : H a with
  | none => rfl
  | some u => exact absurd (Nat.lt_of_lt_of_le (x.lt q) e) (Nat.lt_irrefl _)
theorem HOk.kept (x : HOk P w H h) (k : ∀ b u, h.get? b = some u → h'.get? b = some u) : HOk P w H h' := fun a o e =>
  (x a o e).stay (fun b u _ q => k b u q) (fun _ q => q) fun _ _ q => q
theorem HOk.laid (x : HOk P w H h) (k : ∀ b u, h.get? b = some u → h'.get? b = some u) (hp : h.objs.size ≤ a) (new : ObjOk P w (upd H a o) h' a o) : HOk P w (upd H a o) h' := fun b u e => by
  have hn := x.fresh hp
  by_cases hb : b = a
  · subst hb; rw [upd_same] at e; cases e; exact new
  · rw [upd_ne hb] at e
    exact (x b u e).stay (fun c v _ q => k c v q) (fun c q => by rw [upd_ne (ne_of_none q hn)]; exact q) fun c xs q => by rw [upd_ne (ne_of_none q hn)]; exact q
end

noncomputable def Rd (H : Hp) (a : Addr) (u : HO) : Prop := H a = some u ∨ ∃ o, H a = some (.frz o u)
theorem Rd.ok {P : Program} {w : World} {H : Hp} {h : Heap} {a : Addr} {u : HO} (r : Rd H a u) (x : HOk P w H h) : ObjOk P w H h a u := by
  rcases r with r | ⟨o, r⟩
  · exact x a u r
  · obtain ⟨_, q⟩ := x a _ r
    exact q
noncomputable def Mut : Option HO → Prop
  | some (.lst _) => True
  | some (.dK _) => True
  | some (.dT _) => True
  | some (.set _ _) => True
  | some (.ins _ _ _) => True
  | some (.ext _) => True
  | _ => False
section
variable {P : Program} {w : World} {H : Hp} {h h' : Heap} {x e : Addr} {o' : HO}
theorem HOk.write (ok : HOk P w H h) (mu : Mut (H x)) (he : e = x ∨ H e = some (.own x)) (k : ∀ b u, b ≠ e → h.get? b = some u → h'.get? b = some u) (heo : ∃ u, h'.get? e = some u)
    (new : ObjOk P w (upd H x o') h' x o') : HOk P w (upd H x o') h' := fun b u q => by
  have nown : ∀ c y, H c = some (.own y) → c ≠ x := fun c y r z => by subst z; rw [r] at mu; exact mu
  have ntup : ∀ c xs, H c = some (.tup xs) → c ≠ x := fun c xs r z => by subst z; rw [r] at mu; exact mu
  by_cases hb : b = x
  · subst hb; rw [upd_same] at q; cases q; exact new
  · rw [upd_ne hb] at q
    by_cases hbe : b = e
    · have q' : H b = some (.own x) := by
        rcases he with z | z
        · exact absurd (hbe.trans z) hb
        · rw [hbe]; exact z
      rw [q] at q'; cases q'
      obtain ⟨v, hv⟩ := heo
      exact ⟨v, by rw [hbe]; exact hv⟩
    · refine (ok b u q).stay (fun c v hc r => k c v ?_ r) (fun c r => by rw [upd_ne (nown c b r)]; exact r) fun c xs r => by rw [upd_ne (ntup c xs r)]; exact r
      rcases hc with rfl | hc
      · exact hbe
      · rintro rfl
        rcases he with z | z
        · exact nown c b hc z
        · rw [hc] at z; cases z; exact hb rfl
end

structure Un (fs ex : List Addr) (H H' : Hp) (h h' : Heap) : Prop where
  keep : ∀ b o, h.get? b = some o → H b = none → b ∉ fs → b ∉ ex → h'.get? b = some o
  slot : ∀ b o, h.get? b = some o → H b = none → b ∈ fs → b ∉ ex → ∃ sl, h'.get? b = some { o with slots := sl }
  free : ∀ b o, h.get? b = some o → H b = none → b ∉ ex → H' b = none
  there : ∀ b o, h.get? b = some o → b ∉ ex → ∃ o', h'.get? b = some o'
  tups : ∀ b xs, H b = some (.tup xs) → H' b = some (.tup xs)
  frzs : ∀ b o u, H b = some (.frz o u) → H' b = some (.frz o u)
  tbls : ∀ b ps, H b = some (.tbl ps) → ∃ more, H' b = some (.tbl (ps ++ more))
section
variable {fs fs' ex ex' : List Addr} {H H1 H2 : Hp} {h h1 h2 h' : Heap} {a x e : Addr} {o : HO}
theorem Un.any (u : Un fs ex H H1 h h1) {b : Addr} {ob : Obj} (q : h.get? b = some ob) (n : H b = none) (hx : b ∉ ex) : ∃ sl, h1.get? b = some { ob with slots := sl } := by
  by_cases hb : b ∈ fs
  · exact u.slot b ob q n hb hx
  · exact ⟨ob.slots, u.keep b ob q n hb hx⟩
theorem Un.kept (k : ∀ b u, h.get? b = some u → h'.get? b = some u) : Un fs ex H H h h' :=
  ⟨fun b ob q _ _ _ => k b ob q, fun b ob q _ _ _ => ⟨ob.slots, k b ob q⟩, fun _ _ _ n _ => n, fun b ob q _ => ⟨ob, k b ob q⟩, fun _ _ q => q, fun _ _ _ q => q, fun _ ps q => ⟨#[], by rw [q]; simp⟩⟩
theorem Un.refl : Un fs ex H H h h := Un.kept fun _ _ q => q
theorem Un.laid (k : ∀ b u, h.get? b = some u → h'.get? b = some u) (hp : h.objs.size ≤ a) (hn : H a = none) : Un fs ex H (upd H a o) h h' where
  keep := fun b u q _ _ _ => k b u q
  slot := fun b u q _ _ _ => ⟨u.slots, k b u q⟩
  free := fun b u q n _ => by rw [upd_ne (Nat.ne_of_lt (Nat.lt_of_lt_of_le (Heap.lt_size q) hp))]; exact n
  there := fun b u q _ => ⟨u, k b u q⟩
  tups := fun b xs q => by rw [upd_ne (ne_of_none q hn)]; exact q
  frzs := fun b u xs q => by rw [upd_ne (ne_of_none q hn)]; exact q
  tbls := fun b ps q => ⟨#[], by rw [upd_ne (ne_of_none q hn), q]; simp⟩
theorem Un.write (mu : Mut (H x)) (he : e = x ∨ H e = some (.own x)) (k : ∀ b u, b ≠ e → h.get? b = some u → h'.get? b = some u) (heo : ∃ u, h'.get? e = some u) : Un fs ex H (upd H x o) h h' := by
  have hx : ∀ b, H b = none → b ≠ x := fun b n z => by subst z; rw [n] at mu; exact mu
  have hb : ∀ b, H b = none → b ≠ e := fun b n z => by
    subst z
    rcases he with r | r
    · exact hx b n r
    · rw [n] at r; cases r
  have hm : ∀ b u, H b = some u → ¬ Mut (some u) → b ≠ x := fun b u q nm z => by subst z; rw [q] at mu; exact nm mu
  refine ⟨fun b u q n _ _ => k b u (hb b n) q, fun b u q n _ _ => ⟨u.slots, k b u (hb b n) q⟩, fun b u q n _ => by rw [upd_ne (hx b n)]; exact n, fun b u q _ => ?_,
    fun b xs q => by rw [upd_ne (hm b _ q fun z => z)]; exact q, fun b u xs q => by rw [upd_ne (hm b _ q fun z => z)]; exact q, fun b ps q => ⟨#[], by rw [upd_ne (hm b _ q fun z => z), q]; simp⟩⟩
  by_cases hbe : b = e
  · subst hbe; exact heo
  · exact ⟨u, k b u hbe q⟩
end

noncomputable def trk (h : Heap) (H : Hp) : List Addr := (List.range h.objs.size).filter fun a => (H a).isSome
noncomputable def hidT (h : Heap) (H : Hp) : Heap := PySem.W.hideAll h (trk h H)
theorem hidT_size (h : Heap) (H : Hp) : (hidT h H).objs.size = h.objs.size := PySem.W.hideAll_size _ _
theorem hidT_get {h : Heap} {H : Hp} {b : Addr} {o : Obj} (e : h.get? b = some o) (n : H b = none) : (hidT h H).get? b = some o :=
  PySem.W.hideAll_get _ e fun hm => by
    have q : (H b).isSome = true := (List.mem_filter.mp hm).2
    rw [n] at q; simp at q
theorem of_hidT {h : Heap} {H : Hp} {b : Addr} {o : Obj} (e : (hidT h H).get? b = some o) : h.get? b = some o ∧ H b = none := by
  have e' : h.get? b = some o := PySem.W.of_hideAll (trk h H) e
  refine ⟨e', ?_⟩
  cases q : H b with
  | none => rfl
  | some x =>
    have hm : b ∈ trk h H := List.mem_filter.mpr ⟨List.mem_range.mpr (Heap.lt_size e'), by simp [q]⟩
    have z : (hidT h H).get? b = none := PySem.W.hideAll_none (trk h H) hm
    rw [z] at e; cases e

noncomputable def allNews (g h : Heap) (L : Addr) : List (Addr × Obj) := (List.range h.objs.size).filterMap fun a => if a = L ∨ (g.get? a).isSome = true then none else (h.get? a).map fun o => (a, o)
noncomputable def rest (g h : Heap) (L d : Addr) : List (Addr × Obj) := (allNews g h L).filter fun p => decide (p.1 ≠ d)
end L2

namespace L2
open PySem PySem.Spec PyProof.Rows

structure Mod (K : PySem.W.Frag) (mg : Str → Option Value) (base : Heap) : Prop where
  kin : K.In base
  glob : base.Ns mainGlobals mg
  blt : ∃ mb, base.Ns builtinsNs mb ∧ ∀ x : Str, x ≠ "__name__" → mb x = bootBuiltins x
  nolimit : base.NoLimit

set_option genInjectivity false in
structure Cx where
  prog : Program
  w : World
  K : PySem.W.Frag
  mg : Str → Option Value
  base : Heap
  A : Around
  N : List Str
  s₀ : Shared
  H₀ : Hp
  env : Env
  outer : List Env
  stack : List Env
  ex : List Addr
  fn : Str → Bool
  calm : Bool
  pn : List (Addr × Obj)
  xe : Value → Shared → Prop
noncomputable def frs (l : List Env) : List Addr := l.filterMap (·.frame)
noncomputable abbrev Cx.fs (X : Cx) : List Addr := frs X.outer

noncomputable def Vis (sc : Scope) (x : Str) : Prop := sc.names.lookup x = some .local ∨ sc.names.lookup x = some .cell ∨ sc.names.lookup x = some .free
noncomputable def Loc (sc : Scope) (x : Str) : Prop := sc.names.lookup x = some .local ∨ sc.names.lookup x = some .cell
noncomputable def Look (env : Env) (h : Heap) (m : Str → Option Value) (x : Str) (u : Value) : Prop :=
  (env.kindOf x = some .local ∧ m x = some u) ∨ ((env.kindOf x = some .cell ∨ env.kindOf x = some .free) ∧ ∃ c, env.cells.lookup x = some c ∧ h.IsCell c (some u))

structure Cx.Ok (X : Cx) : Prop where
  mod : Mod X.K X.mg X.base
  kind : X.env.scope.kind = .function
  glob : X.env.globals = mainGlobals
  blt : X.env.builtins = builtinsNs
  above : X.s₀.heap.objs.size ≤ X.env.locals
  inj : ∀ x y c, X.env.cells.lookup x = some c → X.env.cells.lookup y = some c → x = y
  has : ∀ x, (X.env.kindOf x = some .cell ∨ X.env.kindOf x = some .free) → ∃ c, X.env.cells.lookup x = some c
  cab : ∀ x c, X.fn x = true → X.env.cells.lookup x = some c → X.s₀.heap.objs.size ≤ c
  hd : X.calm = true → X.A.handled = none
  frames : X.A.frames = some X.stack
  stk : X.stack = X.outer ∨ (X.stack = X.env :: X.outer ∧ X.env.frame = some X.env.locals)
  exf : ∀ b ∈ X.ex, b ≠ X.env.locals ∧ ∀ x c, X.env.cells.lookup x = some c → c ≠ b
  bs : ∀ b o, X.base.get? b = some o → X.s₀.heap.get? b = some o ∧ X.H₀ b = none
  bsz : X.base.objs.size ≤ X.s₀.heap.objs.size
  noex : ∀ b o, X.base.get? b = some o → b ∉ X.ex
  exfs : ∀ b ∈ X.ex, b ∉ X.fs
  funs : X.s₀.heap.FunFrames X.base X.outer
  frf : ∀ b ∈ X.fs, X.H₀ b = none

structure Inv (X : Cx) (pins : List (Addr × Obj)) (σ : List (Option V)) (H : Hp) (s : Shared) : Prop where
  ok : X.Ok
  os : s.os = X.s₀.os
  bare : AllBare s.gens
  base : Un X.fs X.ex X.H₀ H X.s₀.heap s.heap
  loc : ∃ m, s.heap.Ns X.env.locals m ∧ ∀ (i : Nat) (x : Str) (v : V), X.N[i]? = some x → σ[i]? = some (some v) → Vis X.env.scope x → ∃ u, RelV v u ∧ Look X.env s.heap m x u
  cell : ∀ x c, X.env.cells.lookup x = some c → ∃ v, s.heap.IsCell c v
  free : H X.env.locals = none
  freeC : ∀ x c, X.env.cells.lookup x = some c → H c = none
  pin : ∀ p ∈ X.pn ++ pins, s.heap.get? p.1 = some p.2 ∧ H p.1 = none ∧ p.1 ≠ X.env.locals ∧ p.1 ∉ X.fs ∧ ∀ v, p.2.data ≠ .cell v
  hok : HOk X.prog X.w H s.heap
  len : σ.length = X.N.length

section
variable {X : Cx} {pins : List (Addr × Obj)} {σ : List (Option V)} {H H' : Hp} {s : Shared} {h' : Heap}

theorem Cx.Ok.nofr (ok : X.Ok) {b : Addr} {o : Obj} (e : X.base.get? b = some o) : b ∉ X.fs := fun hb => by
  have := (ok.funs.mem hb).1
  rw [e] at this; cases this
theorem Inv.bs (I : Inv X pins σ H s) : ∀ b o, X.base.get? b = some o → s.heap.get? b = some o ∧ H b = none := fun b o e =>
  ⟨I.base.keep b o (I.ok.bs b o e).1 (I.ok.bs b o e).2 (I.ok.nofr e) (I.ok.noex b o e), I.base.free b o (I.ok.bs b o e).1 (I.ok.bs b o e).2 (I.ok.noex b o e)⟩
theorem Inv.bk (I : Inv X pins σ H s) : ∀ b o, X.base.get? b = some o → s.heap.get? b = some o := fun b o e => (I.bs b o e).1
theorem Inv.mod (I : Inv X pins σ H s) : Mod X.K X.mg X.base := I.ok.mod
theorem Inv.kIn (I : Inv X pins σ H s) : X.K.In s.heap := I.ok.mod.kin.keeps I.bk
theorem Inv.lt (I : Inv X pins σ H s) : X.env.locals < s.heap.objs.size := let ⟨_, hn, _⟩ := I.loc; hn.lt
theorem Inv.sz (I : Inv X pins σ H s) : X.s₀.heap.objs.size ≤ s.heap.objs.size := Nat.le_trans I.ok.above (Nat.le_of_lt I.lt)
theorem Inv.nofs (I : Inv X pins σ H s) {a : Addr} (h : s.heap.objs.size ≤ a) : a ∉ X.fs := fun hb => by
  obtain ⟨_, o, ho, _⟩ := I.ok.funs.mem hb
  exact absurd (Nat.lt_of_lt_of_le (Heap.lt_size ho) (Nat.le_trans I.sz h)) (Nat.lt_irrefl _)
theorem Inv.cne (I : Inv X pins σ H s) : ∀ x c, X.env.cells.lookup x = some c → c ≠ X.env.locals := fun x c e z => by
  obtain ⟨v, o, ho, hd⟩ := I.cell x c e
  obtain ⟨m, ⟨o', es, ep, ho', hd', _⟩, _⟩ := I.loc
  rw [z, ho'] at ho; cases ho; rw [hd'] at hd; cases hd
theorem Inv.funs (I : Inv X pins σ H s) : s.heap.FunFrames X.base X.outer := by
  have all : ∀ (l : List Env), (∀ b ∈ frs l, b ∈ X.fs) → X.s₀.heap.FunFrames X.base l → s.heap.FunFrames X.base l := by
    intro l
    induction l with
    | nil => intro _ _; trivial
    | cons env r ih =>
      intro hs hl
      obtain ⟨hk, ⟨L, o, hf, hn, ho, hd⟩, hr⟩ := hl
      have hL : L ∈ X.fs := hs L (by unfold frs; rw [List.filterMap_cons, hf]; exact List.mem_cons_self)
      obtain ⟨sl, e⟩ := I.base.slot L o ho (I.ok.frf L hL) hL fun z => I.ok.exfs L z hL
      exact ⟨hk, ⟨L, _, hf, hn, e, hd⟩, ih (fun b hb => hs b (by unfold frs; rw [List.filterMap_cons, hf]; exact List.mem_cons_of_mem _ hb)) hr⟩
  exact all X.outer (fun _ hb => hb) I.ok.funs

theorem Inv.stack (I : Inv X pins σ H s) : s.heap.FunFrames X.base X.stack := by
  rcases I.ok.stk with e | ⟨e, hf⟩
  · rw [e]; exact I.funs
  · rw [e]
    obtain ⟨m, hn, _⟩ := I.loc
    refine .cons (by rw [I.ok.kind]; decide) hf hn ?_ I.funs
    exact Heap.get?_none_of_le (Nat.le_trans I.ok.bsz I.ok.above)
theorem Inv.stkSub (I : Inv X pins σ H s) : ∀ b ∈ frs X.stack, b ∈ X.env.locals :: X.fs := fun b hb => by
  rcases I.ok.stk with e | ⟨e, hf⟩
  · rw [e] at hb; exact List.mem_cons_of_mem _ hb
  · rw [e] at hb
    unfold frs at hb
    rw [List.filterMap_cons, hf] at hb
    exact hb
theorem Inv.stkFree (I : Inv X pins σ H s) : ∀ b ∈ frs X.stack, H b = none := fun b hb => by
  rcases List.mem_cons.mp (I.stkSub b hb) with e | hb
  · rw [e]; exact I.free
  · obtain ⟨_, o, ho, _⟩ := I.ok.funs.mem hb
    exact I.base.free b o ho (I.ok.frf b hb) fun z => I.ok.exfs b z hb

theorem Inv.step {g' : Array GenState} {t' : Nat} {d' : Drawn} {ch : List Addr} (I : Inv X pins σ H s)
    (hch : ∀ b ∈ ch, (b ∈ X.ex ∨ X.s₀.heap.objs.size ≤ b) ∧ b ≠ X.env.locals ∧ (∀ x c, X.env.cells.lookup x = some c → c ≠ b) ∧ ∀ p ∈ X.pn ++ pins, p.1 ≠ b)
    (keep : ∀ b o, b ≠ X.env.locals → b ∉ X.fs → b ∉ ch → s.heap.get? b = some o → H b = none → h'.get? b = some o)
    (slot : ∀ b o, b ≠ X.env.locals → b ∈ X.fs → b ∉ ch → s.heap.get? b = some o → H b = none → ∃ sl, h'.get? b = some { o with slots := sl }) (free : ∀ b o, b ∉ ch → s.heap.get? b = some o → H b = none → H' b = none)
    (there : ∀ b o, b ∉ ch → s.heap.get? b = some o → ∃ o', h'.get? b = some o')
    (tups : ∀ b xs, H b = some (.tup xs) → H' b = some (.tup xs)) (frzs : ∀ b o u, H b = some (.frz o u) → H' b = some (.frz o u)) (tbls : ∀ b ps, H b = some (.tbl ps) → ∃ more, H' b = some (.tbl (ps ++ more)))
    (ns : ∀ m, s.heap.Ns X.env.locals m → h'.Ns X.env.locals m) (hok : HOk X.prog X.w H' h') (hg : AllBare g') :
    Inv X pins σ H' { s with heap := h', gens := g', drawn := d', toks := t' } := by
  have neL : ∀ b o, X.s₀.heap.get? b = some o → b ≠ X.env.locals := fun b o e => Nat.ne_of_lt (Nat.lt_of_lt_of_le (Heap.lt_size e) I.ok.above)
  have neC : ∀ b o, X.s₀.heap.get? b = some o → b ∉ X.ex → b ∉ ch := fun b o e hx hb => by
    rcases (hch b hb).1 with z | z
    · exact hx z
    · exact absurd (Nat.lt_of_lt_of_le (Heap.lt_size e) z) (Nat.lt_irrefl _)
  have cellK : ∀ x c, X.env.cells.lookup x = some c → ∀ v, s.heap.IsCell c v → h'.IsCell c v := fun x c e v ⟨o, ho, hd⟩ => by
    have nch : c ∉ ch := fun z => (hch c z).2.2.1 x c e rfl
    by_cases hc : c ∈ X.fs
    · obtain ⟨sl, q⟩ := slot c o (I.cne x c e) hc nch ho (I.freeC x c e)
      exact ⟨_, q, hd⟩
    · exact ⟨o, keep c o (I.cne x c e) hc nch ho (I.freeC x c e), hd⟩
  refine ⟨I.ok, I.os, hg, ⟨fun b o e n hb hx => ?_, fun b o e n hb hx => ?_, fun b o e n hx => ?_, fun b o e hx => ?_, fun b xs e => tups b xs (I.base.tups b xs e), fun b o xs e => frzs b o xs (I.base.frzs b o xs e), fun b ps e => ?_⟩, ?_, fun x c e => ?_, ?_, fun x c e => ?_, fun p hp => ?_, hok, I.len⟩
  · exact keep b o (neL b o e) hb (neC b o e hx) (I.base.keep b o e n hb hx) (I.base.free b o e n hx)
  · obtain ⟨sl, e1⟩ := I.base.slot b o e n hb hx
    obtain ⟨sl', e2⟩ := slot b _ (neL b o e) hb (neC b o e hx) e1 (I.base.free b o e n hx)
    exact ⟨sl', e2⟩
  · obtain ⟨o', e1⟩ := I.base.there b o e hx
    exact free b o' (neC b o e hx) e1 (I.base.free b o e n hx)
  · obtain ⟨o', e1⟩ := I.base.there b o e hx
    exact there b o' (neC b o e hx) e1
  · obtain ⟨m1, e1⟩ := I.base.tbls b ps e
    obtain ⟨m2, e2⟩ := tbls b _ e1
    exact ⟨m1 ++ m2, by rw [e2, Array.append_assoc]⟩
  · obtain ⟨m, hn, hl⟩ := I.loc
    refine ⟨m, ns m hn, fun i x v e1 e2 e3 => ?_⟩
    obtain ⟨u, r, l⟩ := hl i x v e1 e2 e3
    refine ⟨u, r, ?_⟩
    rcases l with l | ⟨k, c, e, z⟩
    · exact .inl l
    · exact .inr ⟨k, c, e, cellK x c e _ z⟩
  · obtain ⟨v, z⟩ := I.cell x c e
    exact ⟨v, cellK x c e v z⟩
  · obtain ⟨m, ⟨o, _, _, ho, _⟩, _⟩ := I.loc
    exact free _ o (fun z => (hch _ z).2.1 rfl) ho I.free
  · obtain ⟨v, o, ho, hd⟩ := I.cell x c e
    exact free c o (fun z => (hch c z).2.2.1 x c e rfl) ho (I.freeC x c e)
  · obtain ⟨e, n, ne, nf, d⟩ := I.pin p hp
    have nch : p.1 ∉ ch := fun z => (hch p.1 z).2.2.2 p hp rfl
    exact ⟨keep p.1 p.2 ne nf nch e n, free p.1 p.2 nch e n, ne, nf, d⟩
theorem Inv.un {t' : Nat} (I : Inv X pins σ H s) (u : Un X.fs [] H H' s.heap h') (hok : HOk X.prog X.w H' h') : Inv X pins σ H' { s with heap := h', toks := t' } := by
  obtain ⟨m, ⟨o, es, ep, ho, r⟩, _⟩ := id I.loc
  obtain ⟨sl, hL⟩ := u.any ho I.free (by simp)
  exact I.step (g' := s.gens) (d' := s.drawn) (ch := []) (fun _ z => nomatch z) (fun b o _ hb _ e n => u.keep b o e n hb (by simp)) (fun b o _ hb _ e n => u.slot b o e n hb (by simp)) (fun b o _ e n => u.free b o e n (by simp)) (fun b o _ e => u.there b o e (by simp)) u.tups u.frzs u.tbls (fun m' hm => by
    obtain ⟨o', es', ep', ho', r'⟩ := hm
    rw [ho] at ho'; cases ho'
    exact ⟨_, es', ep', hL, r'⟩) hok I.bare
theorem Inv.call {g' : Array GenState} {t' : Nat} {d' : Drawn} {ch : List Addr} (I : Inv X pins σ H s) (u : Un (frs X.stack) ch H H' s.heap h') (hok : HOk X.prog X.w H' h') (hg : AllBare g')
    (hch : ∀ b ∈ ch, (b ∈ X.ex ∨ X.s₀.heap.objs.size ≤ b) ∧ b ≠ X.env.locals ∧ (∀ x c, X.env.cells.lookup x = some c → c ≠ b) ∧ ∀ p ∈ X.pn ++ pins, p.1 ≠ b) :
    Inv X pins σ H' { s with heap := h', gens := g', drawn := d', toks := t' } := by
  obtain ⟨m, ⟨o, es, ep, ho, r⟩, _⟩ := id I.loc
  obtain ⟨sl, hL⟩ := u.any ho I.free fun z => (hch _ z).2.1 rfl
  exact I.step (ch := ch) hch (fun b o hL hb hc e n => u.keep b o e n (fun z => (List.mem_cons.mp (I.stkSub b z)).elim hL hb) hc) (fun b o _ _ hc e n => u.any e n hc) (fun b o hc e n => u.free b o e n hc) (fun b o hc e => u.there b o e hc) u.tups u.frzs u.tbls (fun m' hm => by
    obtain ⟨o', es', ep', ho', r'⟩ := hm
    rw [ho] at ho'; cases ho'
    exact ⟨_, es', ep', hL, r'⟩) hok hg
theorem Inv.turned {t' : Nat} {it : Addr} (I : Inv X pins σ H s) (k : ∀ b o, b ≠ it → s.heap.get? b = some o → h'.get? b = some o) (hn : H it = none) (hL : it ≠ X.env.locals)
    (h1 : it ∈ X.ex ∨ X.s₀.heap.objs.size ≤ it) (h2 : ∀ x c, X.env.cells.lookup x = some c → c ≠ it) (h3 : ∀ p ∈ X.pn ++ pins, p.1 ≠ it) : Inv X pins σ H { s with heap := h', toks := t' } := by
  have nit : ∀ b u, H b = some u → b ≠ it := fun b u e z => by rw [z, hn] at e; cases e
  refine I.step (g' := s.gens) (d' := s.drawn) (ch := [it]) (fun b hb => ?_) (fun b o _ _ hc e _ => k b o (fun z => hc (by simp [z])) e) (fun b o _ _ hc e _ => ⟨o.slots, k b o (fun z => hc (by simp [z])) e⟩) (fun _ _ _ _ n => n)
    (fun b o hc e => ⟨o, k b o (fun z => hc (by simp [z])) e⟩) (fun _ _ e => e) (fun _ _ _ e => e) (fun b ps e => ⟨#[], by rw [e]; simp⟩) (fun m hm => ?_) (fun b u e => ?_) I.bare
  · have e : b = it := by simpa using hb
    subst e
    exact ⟨h1, hL, h2, h3⟩
  · obtain ⟨o, es, ep, ho, r⟩ := hm
    exact ⟨o, es, ep, k _ o (Ne.symm hL) ho, r⟩
  · refine (I.hok b u e).stay (fun c v hc q => k c v ?_ q) (fun _ q => q) fun _ _ q => q
    rcases hc with z | z
    · rw [z]; exact nit b u e
    · exact nit c _ z
theorem Inv.tok (I : Inv X pins σ H s) (t : Nat) : Inv X pins σ H { s with toks := t } := I.un (h' := s.heap) (t' := t) Un.refl I.hok
theorem Inv.kept {t' : Nat} (I : Inv X pins σ H s) (k : ∀ b u, s.heap.get? b = some u → h'.get? b = some u) : Inv X pins σ H { s with heap := h', toks := t' } := I.un (Un.kept k) (I.hok.kept k)
theorem Inv.laid {a : Addr} {o : HO} {t' : Nat} (I : Inv X pins σ H s) (k : ∀ b u, s.heap.get? b = some u → h'.get? b = some u) (hp : s.heap.objs.size ≤ a) (new : ObjOk X.prog X.w (upd H a o) h' a o) :
    Inv X pins σ (upd H a o) { s with heap := h', toks := t' } := I.un (Un.laid k hp (I.hok.fresh hp)) (I.hok.laid k hp new)
theorem Inv.write {x e : Addr} {o : HO} {t' : Nat} (I : Inv X pins σ H s) (mu : Mut (H x)) (he : e = x ∨ H e = some (.own x)) (k : ∀ b u, b ≠ e → s.heap.get? b = some u → h'.get? b = some u) (heo : ∃ u, h'.get? e = some u)
    (new : ObjOk X.prog X.w (upd H x o) h' x o) : Inv X pins σ (upd H x o) { s with heap := h', toks := t' } := I.un (Un.write mu he k heo) (I.hok.write mu he k heo new)
theorem Inv.pins_of {pins' : List (Addr × Obj)} (I : Inv X pins σ H s) (h : ∀ p ∈ pins', s.heap.get? p.1 = some p.2 ∧ H p.1 = none ∧ p.1 ≠ X.env.locals ∧ p.1 ∉ X.fs ∧ ∀ v, p.2.data ≠ .cell v) : Inv X pins' σ H s :=
  ⟨I.ok, I.os, I.bare, I.base, I.loc, I.cell, I.free, I.freeC, fun p hp => (List.mem_append.mp hp).elim (fun z => I.pin p (List.mem_append_left _ z)) (h p), I.hok, I.len⟩

theorem nodup_ix {N : List Str} (hN : N.Nodup) {i j : Nat} {x : Str} (a : N[i]? = some x) (b : N[j]? = some x) : i = j := by
  obtain ⟨h1, e1⟩ := List.getElem?_eq_some_iff.mp a
  obtain ⟨h2, e2⟩ := List.getElem?_eq_some_iff.mp b
  exact (List.getElem_inj hN).mp (e1.trans e2.symm)

theorem store_ok2 {M : Model} {A : Around} {E : Value → Shared → Prop} {i : Nat} {x : Str} {v : V} {u : Value} {Q : Unit → Shared → Prop} (I : Inv X pins σ H s) (hN : X.N.Nodup) (hi : X.N[i]? = some x) (hx : Loc X.env.scope x) (r : RelV v u)
    (h : ∀ s', Inv X pins (σ.set i (some v)) H s' → (∃ a, Heap.SameBut a s.heap s'.heap ∧ (a = X.env.locals ∨ X.env.cells.lookup x = some a)) → Q () s') (hf : X.fn x = true ∨ X.env.scope.names.lookup x = some .local := by first | exact .inl rfl | exact .inr rfl | assumption) : wpAny M A (storeName X.env x u) Q E s := by
  obtain ⟨m, hn, hl⟩ := id I.loc
  have hcls : (X.env.scope.kind == .class || (X.env.scope.kind == .module && X.env.locals != X.env.globals)) = false := by rw [I.ok.kind]; rfl
  have hiσ : i < σ.length := by rw [I.len]; exact (List.getElem?_eq_some_iff.mp hi).1
  have cne := I.cne
  have tracked : ∀ {a : Addr} {h' : Heap}, (∃ o, s.heap.get? a = some o ∧ H a = none) → Heap.SameBut a s.heap h' → HOk X.prog X.w H h' := fun {a h'} ha hs b ob e => by
    obtain ⟨_, _, hfree⟩ := ha
    refine (I.hok b ob e).stay (fun c w' hc q => (hs.2 c ?_).trans q) (fun _ q => q) fun _ _ q => q
    rintro rfl
    rcases hc with rfl | hc
    · rw [hfree] at e; cases e
    · rw [hfree] at hc; cases hc
  rcases hx with hk | hk
  · refine wpAny_storeName_local hk hn (fun h' hn' hs => ?_) hcls
    obtain ⟨oL, _, _, hoL, _⟩ := id hn
    refine h _ ⟨I.ok, I.os, I.bare, ⟨fun b o e n hb hx => ?_, fun b o e n hb hx => ?_, I.base.free, fun b o e hx => ?_, I.base.tups, I.base.frzs, I.base.tbls⟩, ⟨_, hn', fun j y v' e1 e2 e3 => ?_⟩, fun y c e => ?_, I.free, I.freeC, fun p hp => ?_, tracked ⟨oL, hoL, I.free⟩ hs, by simpa using I.len⟩ ⟨_, hs, .inl rfl⟩
    · exact (hs.2 b (Nat.ne_of_lt (Nat.lt_of_lt_of_le (Heap.lt_size e) I.ok.above))).trans (I.base.keep b o e n hb hx)
    · obtain ⟨sl, e1⟩ := I.base.slot b o e n hb hx
      exact ⟨sl, (hs.2 b (Nat.ne_of_lt (Nat.lt_of_lt_of_le (Heap.lt_size e) I.ok.above))).trans e1⟩
    · obtain ⟨o', e1⟩ := I.base.there b o e hx
      exact ⟨o', (hs.2 b (Nat.ne_of_lt (Nat.lt_of_lt_of_le (Heap.lt_size e) I.ok.above))).trans e1⟩
    · by_cases hj : j = i
      · subst hj
        rw [hi] at e1; cases e1
        rw [List.getElem?_set_self hiσ] at e2
        cases e2
        exact ⟨u, r, .inl ⟨hk, by simp⟩⟩
      · rw [List.getElem?_set_ne (Ne.symm hj)] at e2
        obtain ⟨u', r', q⟩ := hl j y v' e1 e2 e3
        refine ⟨u', r', ?_⟩
        rcases q with ⟨k, e⟩ | ⟨k, c, e, z⟩
        · refine .inl ⟨k, ?_⟩
          have : y ≠ x := fun e => hj (nodup_ix hN e1 (e ▸ hi))
          simp [this, e]
        · exact .inr ⟨k, c, e, z.sameBut hs (cne y c e)⟩
    · obtain ⟨w', z⟩ := I.cell y c e
      exact ⟨w', z.sameBut hs (cne y c e)⟩
    · obtain ⟨e, n, ne, nf, d⟩ := I.pin p hp
      exact ⟨(hs.2 p.1 ne).trans e, n, ne, nf, d⟩
  · have hfn : X.fn x = true := by
      rcases hf with z | z
      · exact z
      · rw [z] at hk; cases hk
    obtain ⟨c, hc⟩ := I.ok.has x (.inl hk)
    obtain ⟨w', z⟩ := I.cell x c hc
    refine wpAny_storeName_cell I.ok.kind hk hc z (fun h' hc' hs => ?_)
    obtain ⟨oc, hoc, hocd⟩ := id z
    refine h { s with heap := h' } ⟨I.ok, I.os, I.bare, ⟨fun b o e n hb hx => ?_, fun b o e n hb hx => ?_, I.base.free, fun b o e hx => ?_, I.base.tups, I.base.frzs, I.base.tbls⟩, ⟨m, hn.sameBut hs (Ne.symm (cne x c hc)), fun j y v' e1 e2 e3 => ?_⟩, fun y c' e => ?_, I.free, I.freeC, fun p hp => ?_, tracked ⟨oc, hoc, I.freeC x c hc⟩ hs, by simpa using I.len⟩ ⟨c, hs, .inr hc⟩
    · exact (hs.2 b (Nat.ne_of_lt (Nat.lt_of_lt_of_le (Heap.lt_size e) (I.ok.cab x c hfn hc)))).trans (I.base.keep b o e n hb hx)
    · obtain ⟨sl, e1⟩ := I.base.slot b o e n hb hx
      exact ⟨sl, (hs.2 b (Nat.ne_of_lt (Nat.lt_of_lt_of_le (Heap.lt_size e) (I.ok.cab x c hfn hc)))).trans e1⟩
    · obtain ⟨o', e1⟩ := I.base.there b o e hx
      exact ⟨o', (hs.2 b (Nat.ne_of_lt (Nat.lt_of_lt_of_le (Heap.lt_size e) (I.ok.cab x c hfn hc)))).trans e1⟩
    · by_cases hj : j = i
      · subst hj
        rw [hi] at e1; cases e1
        rw [List.getElem?_set_self hiσ] at e2
        cases e2
        exact ⟨u, r, .inr ⟨.inl hk, c, hc, hc'⟩⟩
      · rw [List.getElem?_set_ne (Ne.symm hj)] at e2
        obtain ⟨u', r', q⟩ := hl j y v' e1 e2 e3
        refine ⟨u', r', ?_⟩
        rcases q with q | ⟨k, c', e, z'⟩
        · exact .inl q
        · refine .inr ⟨k, c', e, z'.sameBut hs ?_⟩
          rintro rfl
          exact hj (nodup_ix hN e1 (I.ok.inj _ _ _ e hc ▸ hi))
    · by_cases hcc : c' = c
      · subst hcc; exact ⟨_, hc'⟩
      · obtain ⟨w2, z2⟩ := I.cell y c' e
        exact ⟨w2, z2.sameBut hs hcc⟩
    · obtain ⟨e, n, ne, nf, d⟩ := I.pin p hp
      refine ⟨(hs.2 p.1 ?_).trans e, n, ne, nf, d⟩
      intro q
      rw [q, hoc] at e
      have q' : oc = p.2 := Option.some.inj e
      exact d w' (by rw [← q']; exact hocd)
theorem store_ok {M : Model} {A : Around} {E : Value → Shared → Prop} {i : Nat} {x : Str} {v : V} {u : Value} {Q : Unit → Shared → Prop} (I : Inv X pins σ H s) (hN : X.N.Nodup) (hi : X.N[i]? = some x) (hx : Loc X.env.scope x) (r : RelV v u)
    (h : ∀ s', Inv X pins (σ.set i (some v)) H s' → Q () s') (hf : X.fn x = true ∨ X.env.scope.names.lookup x = some .local := by first | exact .inl rfl | exact .inr rfl | assumption) : wpAny M A (storeName X.env x u) Q E s :=
  store_ok2 I hN hi hx r (fun s' I' _ => h s' I') hf
theorem Inv.call' {s' : Shared} {ch : List Addr} (I : Inv X pins σ H s) (ho : s'.os = s.os) (u : Un (frs X.stack) ch H H' s.heap s'.heap) (hok : HOk X.prog X.w H' s'.heap) (hg : AllBare s'.gens)
    (hch : ∀ b ∈ ch, (b ∈ X.ex ∨ X.s₀.heap.objs.size ≤ b) ∧ b ≠ X.env.locals ∧ (∀ x c, X.env.cells.lookup x = some c → c ≠ b) ∧ ∀ p ∈ X.pn ++ pins, p.1 ≠ b) : Inv X pins σ H' s' := by
  obtain ⟨h', g', d', t', o'⟩ := s'
  have e : o' = s.os := ho
  subst e
  exact I.call (g' := g') (t' := t') (d' := d') u hok hg hch
end

noncomputable abbrev XK := Value → Option Addr → Hp → Prop
noncomputable abbrev St := List (Option V)
noncomputable abbrev VK := V → Hp → Prop
noncomputable abbrev TE := St → Hp → VK → Prop
noncomputable abbrev TT := St → Hp → (Bool → Hp → Prop) → Prop
noncomputable abbrev TA := St → Hp → (List V → Hp → Prop) → Prop
structure Ends where
  nx : St → Hp → Prop
  rt : VK
  bk : St → Hp → Prop := fun _ _ => False
  ct : St → Hp → Prop := fun _ _ => False
noncomputable abbrev TS := Ends → St → Hp → Prop

noncomputable def EP (X : Cx) (pins : List (Addr × Obj)) (σ : St) (Q : VK) (u : Value) (s' : Shared) : Prop := ∃ v H', Inv X pins σ H' s' ∧ RelV v u ∧ Q v H'
noncomputable def TP (X : Cx) (pins : List (Addr × Obj)) (σ : St) (Q : Bool → Hp → Prop) (b : Bool) (s' : Shared) : Prop := ∃ H', Inv X pins σ H' s' ∧ Q b H'
noncomputable def AP (X : Cx) (pins : List (Addr × Obj)) (σ : St) (Q : List V → Hp → Prop) (us : List Value) (s' : Shared) : Prop := ∃ vs H', Inv X pins σ H' s' ∧ Vals vs us ∧ Q vs H'
noncomputable def SP (X : Cx) (pins : List (Addr × Obj)) (D : Ends) (f : Flow) (s' : Shared) : Prop :=
  match f with
  | .next => ∃ σ' H', Inv X pins σ' H' s' ∧ D.nx σ' H'
  | .brk => ∃ σ' H', Inv X pins σ' H' s' ∧ D.bk σ' H'
  | .cont => ∃ σ' H', Inv X pins σ' H' s' ∧ D.ct σ' H'
  | .ret u => ∃ v σ' H', Inv X pins σ' H' s' ∧ RelV v u ∧ D.rt v H'

noncomputable def PE (X : Cx) (e : Expr) (t : TE) : Prop :=
  ∀ (pins : List (Addr × Obj)) (s : Shared) (σ : St) (H : Hp) (Q : VK), Inv X pins σ H s → t σ H Q → wpAny (model X.prog X.w) X.A (eval e X.env) (EP X pins σ Q) X.xe s
noncomputable def PT (X : Cx) (e : Expr) (t : TT) : Prop :=
  ∀ (pins : List (Addr × Obj)) (s : Shared) (σ : St) (H : Hp) (Q : Bool → Hp → Prop), Inv X pins σ H s → t σ H Q → wpAny (model X.prog X.w) X.A (isTrue e X.env (eval e X.env)) (TP X pins σ Q) X.xe s
noncomputable def PW (X : Cx) (e : Expr) (t : TT) : Prop :=
  ∀ (whole : Sem Value) (pins : List (Addr × Obj)) (s : Shared) (σ : St) (H : Hp) (Q : Bool → Hp → Prop), Inv X pins σ H s → t σ H Q → wpAny (model X.prog X.w) X.A (isTrue e X.env whole) (TP X pins σ Q) X.xe s
theorem PW.pt {X : Cx} {e : Expr} {t : TT} (h : PW X e t) : PT X e t := h _
noncomputable def PA (X : Cx) (es : List Expr) (t : TA) : Prop :=
  ∀ (pos : Pos) (pins : List (Addr × Obj)) (s : Shared) (σ : St) (H : Hp) (Q : List V → Hp → Prop), Inv X pins σ H s → t σ H Q → wpAny (model X.prog X.w) X.A (spliced (backTo pos (starEach es X.env))) (AP X pins σ Q) X.xe s
noncomputable def PS (X : Cx) (st : Stmt) (t : TS) : Prop :=
  ∀ (pins : List (Addr × Obj)) (s : Shared) (σ : St) (H : Hp) (D : Ends), Inv X pins σ H s → t D σ H → wpAny (model X.prog X.w) X.A (exec st X.env) (SP X pins D) X.xe s
noncomputable def PSs (X : Cx) (st : List Stmt) (t : TS) : Prop :=
  ∀ (pins : List (Addr × Obj)) (s : Shared) (σ : St) (H : Hp) (D : Ends), Inv X pins σ H s → t D σ H → wpAny (model X.prog X.w) X.A (execs st X.env) (SP X pins D) X.xe s
theorem thn {α : Type} {t : Sem α} {Q Q' : α → Shared → Prop} {M : Model} {A : Around} {E : Value → Shared → Prop} {s : Shared} (h : wpAny M A t Q E s) (hQ : ∀ a s, Q a s → Q' a s) : wpAny M A t Q' E s := wpAny_mono h hQ fun _ _ x => x
end L2

namespace L2
open PySem PySem.Spec PyProof.Rows
section
variable {X : Cx}

noncomputable def tVar (i : Nat) : TE := fun σ H Q => ∃ v, σ[i]? = some (some v) ∧ Q v H
noncomputable def tC (v : V) : TE := fun _ H Q => Q v H
theorem pe_var {i : Nat} {x : Str} {pos : Pos} (hN : X.N[i]? = some x) (hv : Vis X.env.scope x) (hd : (x == ("__debug__" : Str)) = false := by decide) (hcd : (x == ("__classdict__" : Str)) = false := by decide) : PE X (.Name x pos) (tVar i) := by
  intro pins s σ H Q I h
  obtain ⟨v, e, h⟩ := h
  obtain ⟨m, hn, hl⟩ := I.loc
  obtain ⟨u, r, l⟩ := hl i x v hN e hv
  have fin : EP X pins σ Q u s := ⟨v, H, I, r, h⟩
  rcases l with ⟨hk, hm⟩ | ⟨hk, c, hc, hcell⟩
  · exact wpAny_Name (wpAny_loadName_local I.ok.kind hk hn hm fin) hd
  · rcases hk with hk | hk
    · exact wpAny_Name (wpAny_loadName_cell I.ok.kind hk hc hcell fin) hd
    · exact wpAny_Name (wpAny_loadName_free I.ok.kind hk hc hcell fin hcd) hd
theorem pe_int {i j pos} : PE X (.Constant (.int i) j pos) (tC (.int i)) := fun _ _ _ H _ I h => wpAny_Constant_int ⟨.int i, H, I.tok _, ⟨_, rfl⟩, h⟩
theorem pe_bl {b j pos} : PE X (.Constant (.bool b) j pos) (tC (.bl b)) := fun _ _ _ H _ I h => Constant_bool ⟨.bl b, H, I, rfl, h⟩
theorem pe_non {j pos} : PE X (.Constant .none j pos) (tC .non) := fun _ _ _ H _ I h => Constant_none ⟨.non, H, I, rfl, h⟩
theorem pe_str {x j pos} : PE X (.Constant (.str x) j pos) (tC (.str x)) := fun _ _ _ H _ I h => Calls.Constant_str ⟨.str x, H, I.tok _, ⟨_, rfl⟩, h⟩

noncomputable def Gl (X : Cx) (x : Str) : Prop := X.env.kindOf x = some .globalImplicit
theorem ld_glob {E : Value → Shared → Prop} {pins : List (Addr × Obj)} {s : Shared} {σ : St} {H : Hp} {x : Str} {u : Value} {pos : Pos} {Q : Value → Shared → Prop} (I : Inv X pins σ H s) (hg : Gl X x) (hm : X.mg x = some u) (h : Q u s)
    (hd : (x == ("__debug__" : Str)) = false := by decide) : wpAny (model X.prog X.w) X.A (eval (.Name x pos) X.env) Q E s :=
  Calls.Name_function_global I.ok.kind hg (Calls.loadGlobal_global (by rw [I.ok.glob]; exact I.mod.glob.keeps I.bk) hm h) hd
theorem ld_blt {E : Value → Shared → Prop} {pins : List (Addr × Obj)} {s : Shared} {σ : St} {H : Hp} {x : Str} {u : Value} {pos : Pos} {Q : Value → Shared → Prop} (I : Inv X pins σ H s) (hg : Gl X x) (hm : X.mg x = none) (hv : bootBuiltins x = some u) (h : Q u s)
    (hn : x ≠ "__name__" := by decide) (hd : (x == ("__debug__" : Str)) = false := by decide) : wpAny (model X.prog X.w) X.A (eval (.Name x pos) X.env) Q E s := by
  obtain ⟨mb, h1, h2⟩ := I.mod.blt
  exact Calls.Name_function_global I.ok.kind hg (Calls.loadGlobal_builtin (by rw [I.ok.glob]; exact I.mod.glob.keeps I.bk) hm (by rw [I.ok.blt]; exact h1.keeps I.bk) ((h2 x hn).trans hv) h) hd
theorem pe_glob {x : Str} {v : V} {u : Value} {pos : Pos} (hg : Gl X x) (hm : X.mg x = some u) (r : RelV v u) (hd : (x == ("__debug__" : Str)) = false := by decide) : PE X (.Name x pos) (tC v) :=
  fun _ _ _ H _ I h => ld_glob I hg hm ⟨v, H, I, r, h⟩ hd
theorem pe_bltn {x : Str} {v : V} {u : Value} {pos : Pos} (hg : Gl X x) (hm : X.mg x = none) (hv : bootBuiltins x = some u) (r : RelV v u) (hn : x ≠ "__name__" := by decide) (hd : (x == ("__debug__" : Str)) = false := by decide) : PE X (.Name x pos) (tC v) :=
  fun _ _ _ H _ I h => ld_blt I hg hm hv ⟨v, H, I, r, h⟩ hn hd

variable {a b : Expr} {ta tb : TE} {pos : Pos}
noncomputable def PC (X : Cx) (op : CmpOp) (a b : Expr) (t : TE) : Prop :=
  ∀ (pins : List (Addr × Obj)) (s : Shared) (σ : St) (H : Hp) (Q : VK), Inv X pins σ H s → t σ H Q →
    wpAny (model X.prog X.w) X.A (eval a X.env) (fun v s₁ => wpAny (model X.prog X.w) X.A (eval b X.env) (fun u s₂ => wpAny (model X.prog X.w) X.A (compareOp op v u) (EP X pins σ Q) X.xe s₂) X.xe s₁) X.xe s
noncomputable def tB (t : TE) : TT := fun σ H Q => t σ H fun x H1 => ∃ c, x = .bl c ∧ Q c H1
theorem pt_cmp {op : CmpOp} {t : TE} (h : PC X op a b t) (h1 : behindInMarks op b = false := by first | exact nobehind _ (by decide) (by decide) | rfl) : PT X (.Compare a [op] [b] pos) (tB t) := by
  intro pins s σ H Q I hw
  refine wpAny_isTrue_Compare1 (thn (h pins s σ H _ I hw) fun v s1 h1 => thn h1 fun u s2 h2 => thn h2 fun c s3 ⟨x, H1, I1, r1, q1⟩ => ?_) h1
  obtain ⟨d, rfl, q⟩ := q1
  cases r1
  exact wpAny_truthy_bool ⟨H1, I1, q⟩
theorem pt_val {e : Expr} {t : TE} (h : PE X e t) (he : ∀ whole, isTrue e X.env whole = (do let v ← whole; standAt e.pos; holding [v] (truthy v)) := by intro _; rfl) : PT X e (tB t) := by
  intro pins s σ H Q I hw
  refine isTrue_plain (thn (h pins s σ H _ I hw) fun v s1 ⟨x, H1, I1, r1, q1⟩ => ?_) (he _)
  obtain ⟨d, rfl, q⟩ := q1
  cases r1
  exact wpAny_truthy_bool ⟨H1, I1, q⟩

variable {tA tB' : TT} {rest : List Expr}
noncomputable def tAnd (t u : TT) : TT := fun σ H Q => t σ H fun c H1 => if c = true then u σ H1 Q else Q false H1
noncomputable def tOr (t u : TT) : TT := fun σ H Q => t σ H fun c H1 => if c = true then Q true H1 else u σ H1 Q
noncomputable def tNot (t : TT) : TT := fun σ H Q => t σ H fun c H1 => Q (!c) H1
theorem pw_and1 (ha : PT X a tA) : PW X (.BoolOp .And [a] pos) tA := by
  intro wh pins s σ H Q I h
  refine isTrue_and (thn (ha pins s σ H Q I h) fun c s1 e => ?_)
  cases c with
  | true => exact isTrue_and_nil e
  | false => exact e
theorem pw_or1 (ha : PT X a tA) : PW X (.BoolOp .Or [a] pos) tA := by
  intro wh pins s σ H Q I h
  refine isTrue_or (thn (ha pins s σ H Q I h) fun c s1 e => ?_)
  cases c with
  | false => exact isTrue_or_nil e
  | true => exact e
theorem pw_and (ha : PT X a tA) (hb : PW X (.BoolOp .And (b :: rest) pos) tB') : PW X (.BoolOp .And (a :: b :: rest) pos) (tAnd tA tB') := by
  intro wh pins s σ H Q I h
  refine isTrue_and (thn (ha pins s σ H _ I h) fun c s1 ⟨H1, I1, q1⟩ => ?_)
  cases c with
  | true => exact hb wh pins s1 σ H1 Q I1 q1
  | false => exact ⟨H1, I1, q1⟩
theorem pw_or (ha : PT X a tA) (hb : PW X (.BoolOp .Or (b :: rest) pos) tB') : PW X (.BoolOp .Or (a :: b :: rest) pos) (tOr tA tB') := by
  intro wh pins s σ H Q I h
  refine isTrue_or (thn (ha pins s σ H _ I h) fun c s1 ⟨H1, I1, q1⟩ => ?_)
  cases c with
  | true => exact ⟨H1, I1, q1⟩
  | false => exact hb wh pins s1 σ H1 Q I1 q1
theorem pt_not (ha : PT X a tA) : PT X (.UnaryOp .Not a pos) (tNot tA) := by
  intro pins s σ H Q I h
  exact isTrue_not (ha pins s σ H (fun c H1 => Q (!c) H1) I h)
noncomputable def tAndV (ta tb : TE) : TE := fun σ H Q => ta σ H fun x H1 => ∃ c, x = .bl c ∧ if c = true then tb σ H1 Q else Q (.bl false) H1
noncomputable def tNotV (ta : TE) : TE := fun σ H Q => ta σ H fun x H1 => ∃ c, x = .bl c ∧ Q (.bl (!c)) H1
theorem pe_one {op} {t : TE} (h : PE X a t) : PE X (.BoolOp op [a] pos) t := fun pins s σ H Q I hw => BoolOp_one (h pins s σ H Q I hw)
theorem pe_and (ha : PE X a ta) (hb : PE X (.BoolOp .And (b :: rest) pos) tb) : PE X (.BoolOp .And (a :: b :: rest) pos) (tAndV ta tb) := by
  intro pins s σ H Q I h
  refine BoolOp_and (thn (ha pins s σ H _ I h) fun v s1 ⟨x, H1, I1, r1, q1⟩ => ?_)
  obtain ⟨c, rfl, q1⟩ := q1
  cases r1
  refine wpAny_truthy_bool ?_
  cases c with
  | true => exact hb pins s1 σ H1 Q I1 q1
  | false => exact ⟨.bl false, H1, I1, rfl, q1⟩
theorem pe_not (ha : PE X a ta) : PE X (.UnaryOp .Not a pos) (tNotV ta) := by
  intro pins s σ H Q I h
  refine UnaryOp_ (thn (ha pins s σ H _ I h) fun v s1 ⟨x, H1, I1, r1, q1⟩ => ?_)
  obtain ⟨c, rfl, q1⟩ := q1
  cases r1
  exact not_of (wpAny_truthy_bool ⟨.bl (!c), H1, I1, rfl, q1⟩)
noncomputable def tIf (t : TT) (ta tb : TE) : TE := fun σ H Q => t σ H fun c H1 => if c = true then ta σ H1 Q else tb σ H1 Q
theorem pe_ifExp {c : Expr} (hc : PT X c tA) (ha : PE X a ta) (hb : PE X b tb) : PE X (.IfExp c a b pos) (tIf tA ta tb) := by
  intro pins s σ H Q I h
  refine wpAny_IfExp (thn (hc pins s σ H _ I h) fun d s1 ⟨H1, I1, q1⟩ => ?_)
  cases d with
  | true => exact ha pins s1 σ H1 Q I1 q1
  | false => exact hb pins s1 σ H1 Q I1 q1
end
end L2

namespace L2
open PySem PySem.Spec PyProof.Rows

noncomputable def SqL (K : PySem.W.Frag) (H : Hp) (a : Addr) (xs : List V) : Prop :=
  Rd H a (.lst xs) ∨
    ∃ (o : Obj) (its : Array Value) (n : Nat), K.lookup a = some o ∧ o.cls = .type "list" ∧ o.dict = none ∧ o.data = .seq its n ∧ its.size ≤ sizeLine ∧ Vals xs its.toList
noncomputable def SqT (K : PySem.W.Frag) (H : Hp) (a : Addr) (xs : List V) : Prop :=
  Rd H a (.tup xs) ∨
    ∃ (o : Obj) (its : Array Value) (n : Nat), K.lookup a = some o ∧ o.cls = .type "tuple" ∧ o.data = .seq its n ∧ its.size ≤ sizeLine ∧ Vals xs its.toList
noncomputable def absV : Value → Option V
  | .none => some .non
  | .bool b => some (.bl b)
  | .int i _ => some (.int i)
  | .str x _ => some (.str x)
  | .bytes b _ => some (.byt b)
  | .float b _ => some (.flt b)
  | .ref a => some (.ref a)
  | .type n => some (.ty n)
  | _ => none
theorem RelV.abs {x : V} {u : Value} (r : RelV x u) : absV u = some x := by
  cases x with
  | non => cases r; rfl
  | bl _ => cases r; rfl
  | int _ => obtain ⟨t, rfl⟩ := r; rfl
  | str _ => obtain ⟨t, rfl⟩ := r; rfl
  | byt _ => obtain ⟨t, rfl⟩ := r; rfl
  | flt _ => obtain ⟨t, rfl⟩ := r; rfl
  | ref _ => cases r; rfl
  | ty _ => cases r; rfl
theorem RelV.inj {x y : V} {u : Value} (r : RelV x u) (q : RelV y u) : x = y := Option.some.inj (r.abs.symm.trans q.abs)
theorem Vals.inj : ∀ {xs ys : List V} {us : List Value}, Vals xs us → Vals ys us → xs = ys
  | _, _, _, .nil, .nil => rfl
  | _, _, _, .cons r t, .cons r' t' => by rw [r.inj r', Vals.inj t t']
section
variable {X : Cx} {pins : List (Addr × Obj)} {σ : St} {H : Hp} {s : Shared} {a : Addr} {xs ys : List V}
theorem SqL.of {K : PySem.W.Frag} (h : H a = some (.lst xs)) : SqL K H a xs := .inl (.inl h)
theorem SqT.of {K : PySem.W.Frag} (h : H a = some (.tup xs)) : SqT K H a xs := .inl (.inl h)
theorem Inv.list (I : Inv X pins σ H s) (h : SqL X.K H a xs) : ∃ its : List Value, Vals xs its ∧ PlainL s.heap a its.toArray ∧ xs.length ≤ sizeLine := by
  rcases h with h | ⟨o, its, n, hk, hc, hd, hs, hz, r⟩
  · obtain ⟨z, its, n, r, e⟩ := h.ok I.hok
    exact ⟨its, r, ⟨_, n, e, rfl, rfl, rfl⟩, z⟩
  · refine ⟨its.toList, r, ⟨o, n, I.kIn a o hk, hc, hd, by simpa using hs⟩, ?_⟩
    have e := r.length
    simp only [Array.length_toList] at e
    (first | lia | omega)
theorem Inv.tuple (I : Inv X pins σ H s) (h : SqT X.K H a xs) : ∃ its : List Value, Vals xs its ∧ IsTup s.heap a its.toArray ∧ xs.length ≤ sizeLine := by
  rcases h with h | ⟨o, its, n, hk, hc, hs, hz, r⟩
  · obtain ⟨z, its, r, p⟩ := h.ok I.hok
    exact ⟨its, r, p, z⟩
  · refine ⟨its.toList, r, ⟨o, I.kIn a o hk, hc, n, by simpa using hs⟩, ?_⟩
    have e := r.length
    simp only [Array.length_toList] at e
    (first | lia | omega)
theorem Inv.list_inj (I : Inv X pins σ H s) (h : SqL X.K H a xs) (h' : SqL X.K H a ys) : xs = ys := by
  obtain ⟨its, r, ⟨o, n, e, _, _, d⟩, _⟩ := I.list h
  obtain ⟨its', r', ⟨o', n', e', _, _, d'⟩, _⟩ := I.list h'
  rw [e] at e'; cases e'
  rw [d] at d'
  injection d' with d1 _
  have : its = its' := by simpa using congrArg Array.toList d1
  subst this
  exact r.inj r'
end

noncomputable abbrev Cx.wish (X : Cx) (E : Value → Shared → Prop) : Cx := { X with xe := E }
noncomputable abbrev Cx.nox (X : Cx) : Cx := X.wish fun _ _ => False
theorem Cx.Ok.wish {X : Cx} (ok : X.Ok) (E : Value → Shared → Prop) : (X.wish E).Ok :=
  ⟨ok.mod, ok.kind, ok.glob, ok.blt, ok.above, ok.inj, ok.has, ok.cab, ok.hd, ok.frames, ok.stk, ok.exf, ok.bs, ok.bsz, ok.noex, ok.exfs, ok.funs, ok.frf⟩
theorem Cx.Ok.unwish {X : Cx} {E : Value → Shared → Prop} (ok : (X.wish E).Ok) : X.Ok :=
  ⟨ok.mod, ok.kind, ok.glob, ok.blt, ok.above, ok.inj, ok.has, ok.cab, ok.hd, ok.frames, ok.stk, ok.exf, ok.bs, ok.bsz, ok.noex, ok.exfs, ok.funs, ok.frf⟩
section
variable {X : Cx} {pins : List (Addr × Obj)} {σ : St} {H : Hp} {s : Shared} {E : Value → Shared → Prop}
theorem Inv.wish (I : Inv X pins σ H s) (E : Value → Shared → Prop) : Inv (X.wish E) pins σ H s := ⟨I.ok.wish E, I.os, I.bare, I.base, I.loc, I.cell, I.free, I.freeC, I.pin, I.hok, I.len⟩
theorem Inv.unwish (I : Inv (X.wish E) pins σ H s) : Inv X pins σ H s := ⟨I.ok.unwish, I.os, I.bare, I.base, I.loc, I.cell, I.free, I.freeC, I.pin, I.hok, I.len⟩
theorem SP.unwish {D : Ends} {f : Flow} {s' : Shared} (h : SP (X.wish E) pins D f s') : SP X pins D f s' := by
  cases f with
  | next => obtain ⟨σ', H', I, q⟩ := h; exact ⟨σ', H', I.unwish, q⟩
  | brk => obtain ⟨σ', H', I, q⟩ := h; exact ⟨σ', H', I.unwish, q⟩
  | cont => obtain ⟨σ', H', I, q⟩ := h; exact ⟨σ', H', I.unwish, q⟩
  | ret u => obtain ⟨v, σ', H', I, r, q⟩ := h; exact ⟨v, σ', H', I.unwish, r, q⟩
theorem PSs.nox {st : List Stmt} {t : TS} (h : PSs X.nox st t) : PSs X st t := fun pins s σ H D I hw =>
  wpAny_mono (h pins s σ H D (I.wish _) hw) (fun _ _ q => q.unwish) fun _ _ z => False.elim z
end

section
variable {X : Cx} {st : Stmt} {rest : List Stmt} {t u : TS} {e : Expr} {te : TE} {pos : Pos}
noncomputable def tNext : TS := fun D σ H => D.nx σ H
noncomputable def tSeq (t u : TS) : TS := fun D σ H => t { D with nx := u D } σ H
theorem pss_nil : PSs X [] tNext := fun _ _ σ H _ I h => wpAny_execs_nil ⟨σ, H, I, h⟩
theorem pss_cons (h1 : PS X st t) (h2 : PSs X rest u) : PSs X (st :: rest) (tSeq t u) := by
  intro pins s σ H D I h
  refine wpAny_execs_cons (thn (h1 pins s σ H { D with nx := u D } I h) fun f s1 q => ?_)
  cases f with
  | next =>
    obtain ⟨σ', H', I', q⟩ := q
    exact h2 pins s1 σ' H' D I' q
  | ret v => exact q
  | brk => exact q
  | cont => exact q
theorem pss_one (h1 : PS X st t) : PSs X [st] t := by
  intro pins s σ H D I h
  refine wpAny_execs_cons (thn (h1 pins s σ H D I h) fun f s1 q => ?_)
  cases f with
  | next => exact wpAny_execs_nil q
  | ret v => exact q
  | brk => exact q
  | cont => exact q
theorem Inv.quiet {pins : List (Addr × Obj)} {σ : St} {H : Hp} {s : Shared} (I : Inv X pins σ H s) : interactive X.env = false := by simp [interactive, I.ok.kind]
noncomputable def tDrop (te : TE) : TS := fun D σ H => te σ H fun _ H1 => D.nx σ H1
theorem ps_expr (he : PE X e te) (hs : swapsWith e none pos.line X.env = pure false := by rfl) : PS X (.Expr e pos) (tDrop te) := by
  intro pins s σ H D I h
  exact wpAny_Expr_any (thn (he pins s σ H _ I h) fun v s1 ⟨x, H1, I1, r1, q1⟩ => ⟨σ, H1, I1, q1⟩) I.quiet hs
noncomputable def tRet (te : TE) : TS := fun D σ H => te σ H D.rt
theorem ps_ret (he : PE X e te) : PS X (.Return (some e) pos) (tRet te) := by
  intro pins s σ H D I h
  exact wpAny_Return_some (thn (he pins s σ H _ I h) fun v s1 ⟨x, H1, I1, r1, q1⟩ => ⟨x, σ, H1, I1, r1, q1⟩)
noncomputable def tIfS (c : TT) (t u : TS) : TS := fun D σ H => c σ H fun b H1 => if b = true then t D σ H1 else u D σ H1
theorem ps_if {c : Expr} {a b : List Stmt} {tc : TT} (hc : PT X c tc) (ha : PSs X a t) (hb : PSs X b u) : PS X (.If c a b pos) (tIfS tc t u) := by
  intro pins s σ H D I h
  refine wpAny_If (thn (hc pins s σ H _ I h) fun d s1 ⟨H1, I1, q1⟩ => ?_)
  cases d with
  | true => exact ha pins s1 σ H1 D I1 q1
  | false => exact hb pins s1 σ H1 D I1 q1
noncomputable def tNever : TS := fun _ _ _ => False
theorem pss_never {sts : List Stmt} : PSs X sts tNever := fun _ _ _ _ _ _ h => h.elim
end

noncomputable abbrev TG := V → St → Hp → (St → Hp → Prop) → Prop
noncomputable abbrev TGs := List V → St → Hp → (St → Hp → Prop) → Prop
noncomputable def PG (X : Cx) (target : Expr) (t : TG) : Prop :=
  ∀ (pins : List (Addr × Obj)) (s : Shared) (σ : St) (H : Hp) (v : V) (u : Value) (Q : St → Hp → Prop), Inv X pins σ H s → RelV v u → t v σ H Q →
    wpAny (model X.prog X.w) X.A (assign target X.env u) (fun _ s' => ∃ σ' H', Inv X pins σ' H' s' ∧ Q σ' H') X.xe s
noncomputable def PGs (X : Cx) (ts : List Expr) (t : TGs) : Prop :=
  ∀ (pins : List (Addr × Obj)) (s : Shared) (σ : St) (H : Hp) (vs : List V) (us : List Value) (Q : St → Hp → Prop), Inv X pins σ H s → Vals vs us → t vs σ H Q →
    wpAny (model X.prog X.w) X.A (assignInOrder ((assignEach ts X.env).map (·.2)) us) (fun _ s' => ∃ σ' H', Inv X pins σ' H' s' ∧ Q σ' H') X.xe s
noncomputable abbrev TIp := V → V → Hp → VK → Prop
noncomputable def PIp (X : Cx) (op : Operator) (t : TIp) : Prop :=
  ∀ (pins : List (Addr × Obj)) (s : Shared) (σ : St) (H : Hp) (x y : V) (v u : Value) (Q : VK), Inv X pins σ H s → RelV x v → RelV y u → t x y H Q →
    wpAny (model X.prog X.w) X.A (inplaceOp op v u) (EP X pins σ Q) X.xe s
section
variable {X : Cx} {pos : Pos}
noncomputable def gName (i : Nat) : TG := fun v σ H Q => Q (σ.set i (some v)) H
theorem pg_name {i : Nat} {x : Str} (hN : X.N.Nodup) (hi : X.N[i]? = some x) (hx : Loc X.env.scope x) (hf : X.fn x = true ∨ X.env.scope.names.lookup x = some .local := by first | exact .inl rfl | exact .inr rfl | assumption) : PG X (.Name x pos) (gName i) := by
  intro pins s σ H v u Q I r h
  exact wpAny_assign_Name (store_ok I hN hi hx r (fun s' I' => ⟨_, H, I', h⟩) hf)
noncomputable def gNil : TGs := fun vs σ H Q => vs = [] ∧ Q σ H
noncomputable def gCons (t : TG) (u : TGs) : TGs := fun vs σ H Q => ∃ v r, vs = v :: r ∧ t v σ H fun σ' H' => u r σ' H' Q
theorem pgs_nil : PGs X [] gNil := by
  intro pins s σ H vs us Q I r h
  obtain ⟨e, h⟩ := h
  subst e
  cases r
  exact assignInOrder_nil ⟨σ, H, I, h⟩
theorem pgs_cons {e : Expr} {es : List Expr} {t : TG} {u : TGs} (h1 : PG X e t) (h2 : PGs X es u)
    (hs : (assignEach (e :: es) X.env).map (·.2) = assign e X.env :: (assignEach es X.env).map (·.2) := by rfl) : PGs X (e :: es) (gCons t u) := by
  intro pins s σ H vs us Q I r h
  obtain ⟨v, vr, e1, h⟩ := h
  subst e1
  cases r with
  | cons r rr =>
    rw [hs]
    refine assignInOrder_cons (thn (h1 pins s σ H _ _ _ I r h) fun _ s1 ⟨σ1, H1, I1, q1⟩ => ?_)
    exact h2 pins s1 σ1 H1 _ _ Q I1 rr q1
noncomputable def gTup (K : PySem.W.Frag) (n : Nat) (t : TGs) : TG := fun v σ H Q => ∃ a xs, v = .ref a ∧ SqT K H a xs ∧ xs.length = n ∧ t xs σ H Q
theorem pg_tup {es : List Expr} {k : Nat} {t : TGs} {n : Nat} (hc : X.calm = true) (h : PGs X es t)
    (hn : (assignEach es X.env).length = n := by rfl) (hst : (assignEach es X.env).findIdx? (·.1) = none := by rfl) : PG X (.Tuple es k pos) (gTup X.K n t) := by
  intro pins s σ H v u Q I r hw
  obtain ⟨a, xs, e1, hq, hl, hw⟩ := hw
  subst e1
  cases r
  obtain ⟨its, rv, ht, hz⟩ := I.tuple hq
  refine assign_Tuple_tuple (I.ok.hd hc) ht (by simp [hn, ← hl, rv.length]) hst fun h' hx => ?_
  have I1 : Inv X pins σ H { s with heap := h' } := I.kept (t' := s.toks) fun b o e => hx b o (Nat.ne_of_lt (Heap.lt_size e)) e
  exact h pins _ σ H xs _ Q I1 (by simpa using rv) hw
noncomputable def tAsg (te : TE) (g : TG) : TS := fun D σ H => te σ H fun x H1 => g x σ H1 D.nx
theorem ps_set {i : Nat} {x : Str} {e : Expr} {te : TE} {pos' : Pos} (hN : X.N.Nodup) (hi : X.N[i]? = some x) (hx : Loc X.env.scope x) (he : PE X e te) (hs : swapsWith e (some (.Name x pos')) pos.line X.env = pure false := by rfl) (hf : X.fn x = true ∨ X.env.scope.names.lookup x = some .local := by first | exact .inl rfl | exact .inr rfl | assumption) :
    PS X (.Assign [.Name x pos'] e pos) (tAsg te (gName i)) := by
  intro pins s σ H D I h
  refine wpAny_Assign_Name (thn (he pins s σ H _ I h) fun v s1 ⟨y, H1, I1, r1, q1⟩ => ?_) hs
  exact store_ok I1 hN hi hx r1 (fun s2 I2 => ⟨_, H1, I2, q1⟩) hf
noncomputable def tAug (i : Nat) (te : TE) (ti : TIp) : TS := fun D σ H => ∃ x, σ[i]? = some (some x) ∧ te σ H fun y H1 => ti x y H1 fun z H2 => D.nx (σ.set i (some z)) H2
theorem ps_aug {i : Nat} {x : Str} {e : Expr} {te : TE} {op : Operator} {ti : TIp} {pos' : Pos} (hN : X.N.Nodup) (hi : X.N[i]? = some x) (hx : Loc X.env.scope x) (he : PE X e te) (ho : PIp X op ti) (hf : X.fn x = true ∨ X.env.scope.names.lookup x = some .local := by first | exact .inl rfl | exact .inr rfl | assumption) :
    PS X (.AugAssign (.Name x pos') op e pos) (tAug i te ti) := by
  intro pins s σ H D I h
  obtain ⟨v, e1, h⟩ := h
  obtain ⟨m, hn, hl⟩ := I.loc
  have vis : Vis X.env.scope x := by rcases hx with k | k; exact .inl k; exact .inr (.inl k)
  obtain ⟨u, r, l⟩ := hl i x v hi e1 vis
  refine wpAny_AugAssign_Name ?_
  have go : wpAny (model X.prog X.w) X.A (eval e X.env) (fun w s₂ => wpAny (model X.prog X.w) X.A (inplaceOp op u w) (fun r s₃ => wpAny (model X.prog X.w) X.A (storeName X.env x r) (fun _ => SP X pins D .next) X.xe s₃) X.xe s₂) X.xe s := by
    refine thn (he pins s σ H _ I h) fun w s1 ⟨y, H1, I1, r1, q1⟩ => ?_
    refine thn (ho pins s1 σ H1 v y u w _ I1 r r1 q1) fun z s2 ⟨zv, H2, I2, r2, q2⟩ => ?_
    exact store_ok I2 hN hi hx r2 (fun s3 I3 => ⟨_, H2, I3, q2⟩) hf
  rcases l with ⟨hk, hm⟩ | ⟨hk, c, hc, hcell⟩
  · exact wpAny_loadName_local I.ok.kind hk hn hm go
  · rcases hk with hk | hk
    · exact wpAny_loadName_cell I.ok.kind hk hc hcell go
    · rcases hx with k | k
      · have : X.env.scope.names.lookup x = some .free := hk
        rw [k] at this; cases this
      · have : X.env.scope.names.lookup x = some .free := hk
        rw [k] at this; cases this
noncomputable def ipI (f : Int → Int → Int) : TIp := fun x y H Q => ∃ i j, x = .int i ∧ y = .int j ∧ Q (.int (f i j)) H
theorem ip_add : PIp X .Add (ipI fun i j => i + j) := by
  intro pins s σ H x y v u Q I r1 r2 h
  obtain ⟨i, j, e1, e2, q⟩ := h
  subst e1; subst e2
  obtain ⟨t, rfl⟩ := r1
  obtain ⟨t', rfl⟩ := r2
  exact iadd_int ⟨.int _, H, I.tok _, ⟨_, rfl⟩, q⟩
end

section
variable {X : Cx} {pos : Pos}
noncomputable def tWhile (c : TT) (tb : TS) : TS := fun D σ H => ∃ W : Nat → St → Hp → Prop, (∃ m, W m σ H) ∧ ∀ m σ H, W m σ H →
  c σ H fun b H1 => if b = true then ∃ N : St → Hp → Prop, (∀ σ' H', N σ' H' → ∃ m', m' < m ∧ W m' σ' H') ∧ tb { D with nx := N, ct := N, bk := D.nx } σ H1 else D.nx σ H1
theorem ps_while {c : Expr} {body : List Stmt} {tc : TT} {tb : TS} (hp : PassesOwn (model X.prog X.w) X.A X.env X.xe) (hc : PT X c tc) (hb : PSs X body tb) : PS X (.While c body [] pos) (tWhile tc tb) := by
  intro pins s σ H D I h
  obtain ⟨W, ⟨m0, w0⟩, turn⟩ := h
  refine wpAny_While (codeAny_whileLoop (fun n s' => ∃ σ' H', Inv X pins σ' H' s' ∧ W n σ' H') ?_ m0 ⟨σ, H, I, w0⟩)
  rintro n s1 ⟨σ1, H1, I1, w1⟩
  refine wpAny_passesOwn hp (thn (hc pins s1 σ1 H1 _ I1 (turn n σ1 H1 w1)) fun b s2 ⟨H2, I2, q2⟩ => ?_)
  cases b with
  | true =>
    obtain ⟨N, hN, q2⟩ := q2
    rw [if_pos rfl]
    refine wpAny_passesOwn hp (thn (hb pins s2 σ1 H2 _ I2 q2) fun f s3 q3 => ?_)
    cases f with
    | next =>
      obtain ⟨σ3, H3, I3, n3⟩ := q3
      obtain ⟨m', hm, w3⟩ := hN σ3 H3 n3
      exact ⟨m', hm, σ3, H3, I3, w3⟩
    | cont =>
      obtain ⟨σ3, H3, I3, n3⟩ := q3
      obtain ⟨m', hm, w3⟩ := hN σ3 H3 n3
      exact ⟨m', hm, σ3, H3, I3, w3⟩
    | brk => exact q3
    | ret v => exact q3
  | false =>
    rw [if_neg Bool.false_ne_true]
    exact wpAny_execs_nil ⟨σ1, H2, I2, q2⟩
end

structure It where
  go : Nat → Hp → Prop
  yld : Nat → Hp → V → Hp → Prop
  stop : Nat → Hp → Prop
noncomputable def FpOk (X : Cx) (pins : List (Addr × Obj)) (H : Hp) (b : Addr) : Prop :=
  H b = none ∧ b ≠ X.env.locals ∧ b ∉ X.fs ∧ (b ∈ X.ex ∨ X.s₀.heap.objs.size ≤ b) ∧ (∀ x c, X.env.cells.lookup x = some c → c ≠ b) ∧ ∀ p ∈ X.pn ++ pins, p.1 ≠ b
theorem Inv.fpOk {X : Cx} {pins : List (Addr × Obj)} {σ : St} {H H' : Hp} {s : Shared} {b : Addr} (I : Inv X pins σ H s) (hb : s.heap.objs.size ≤ b) (hn : H' b = none) : FpOk X pins H' b := by
  refine ⟨hn, Nat.ne_of_gt (Nat.lt_of_lt_of_le I.lt hb), I.nofs hb, .inr (Nat.le_trans I.sz hb), fun x c e z => ?_, fun p hp z => ?_⟩
  · obtain ⟨v, q⟩ := I.cell x c e
    exact absurd (Nat.lt_of_lt_of_le q.lt (by rw [z]; exact hb)) (Nat.lt_irrefl _)
  · exact absurd (Nat.lt_of_lt_of_le (Heap.lt_size (I.pin p hp).1) (by rw [z]; exact hb)) (Nat.lt_irrefl _)
structure Turn (P : Program) (w : World) (K : PySem.W.Frag) (tg : Expr) (J : It) (fp : List Addr) (it : Addr) (tn : Nat → Heap → Prop) : Prop where
  mem : it ∈ fp
  obj : ∀ i h, tn i h → ∀ b ∈ fp, ∃ o, h.get? b = some o ∧ ∀ v, o.data ≠ .cell v
  keep : ∀ i h h', tn i h → (∀ b ∈ fp, ∀ o, h.get? b = some o → h'.get? b = some o) → tn i h'
  item : ∀ (X : Cx), X.prog = P → X.w = w → X.K = K → X.calm = true → ∀ (i : Nat) (pins : List (Addr × Obj)) (s : Shared) (σ : St) (H : Hp) (E : Value → Shared → Prop), Inv X pins σ H s → (∀ b ∈ fp, FpOk X pins H b) → tn i s.heap → J.go i H →
    wpAny (model P w) X.A (pyNext (.ref it)) (fun r s1 => ∃ u, r = some u ∧
      wpAny (model P w) X.A (letOwnedTupleGo tg (.ref it) u) (fun _ s2 => ∃ x H', Inv X pins σ H' s2 ∧ RelV x u ∧ J.yld i H x H' ∧ tn (i + 1) s2.heap ∧ ∀ b ∈ fp, H' b = none) E s1) E s
  done : ∀ (X : Cx), X.prog = P → X.w = w → X.K = K → X.calm = true → ∀ (i : Nat) (pins : List (Addr × Obj)) (s : Shared) (σ : St) (H : Hp) (E : Value → Shared → Prop), Inv X pins σ H s → (∀ b ∈ fp, FpOk X pins H b) → tn i s.heap → J.stop i H →
    wpAny (model P w) X.A (pyNext (.ref it)) (fun r s1 => r = none ∧ Inv X pins σ H s1) E s
  self : ∀ (A : Around) (i : Nat) (s : Shared) (Q : Value → Shared → Prop) (E : Value → Shared → Prop), tn i s.heap → Q (.ref it) s → wpAny (model P w) A (pyIter (.ref it)) Q E s
noncomputable abbrev TI := St → Hp → (It → Hp → Prop) → Prop
noncomputable def PIE (X : Cx) (pins : List (Addr × Obj)) (σ : St) (tg : Expr) (R : It → Hp → Prop) (itv : Value) (s2 : Shared) : Prop :=
  ∃ (it : Addr) (fp : List Addr) (tn : Nat → Heap → Prop) (J : It) (H' : Hp), itv = .ref it ∧ Inv X pins σ H' s2 ∧ Turn X.prog X.w X.K tg J fp it tn ∧ tn 0 s2.heap ∧ (∀ b ∈ fp, FpOk X pins H' b) ∧ R J H'
noncomputable def PI (X : Cx) (tg iter : Expr) (wi : TI) : Prop :=
  ∀ (pins : List (Addr × Obj)) (s : Shared) (σ : St) (H : Hp) (R : It → Hp → Prop), Inv X pins σ H s → wi σ H R →
    wpAny (model X.prog X.w) X.A (eval iter X.env) (fun v s1 => wpAny (model X.prog X.w) X.A (pyIter v) (PIE X pins σ tg R) X.xe s1) X.xe s

theorem go_of {M : Model} {A : Around} {E : Value → Shared → Prop} {s : Shared} {tg : Expr} {it : Addr} {u : Value} {o : Obj} {n : String} {vs : Array Value} {Q : Unit → Shared → Prop} (ho : s.heap.get? it = some o) (hc : o.cls = .type n) (hd : o.data = .fields vs)
    (hn : ["enumerate", "zip", "dict_itemiterator", "dict_reverseitemiterator", "odict_iterator", "itertools.zip_longest", "itertools.pairwise"].contains n = false) (hQ : Q () s) : wpAny M A (letOwnedTupleGo tg (.ref it) u) Q E s := by
  unfold letOwnedTupleGo
  cases tg <;> first
    | exact wpAny_pure hQ
    | (cases u <;> first
        | exact wpAny_pure hQ
        | (refine wpAny_bind (wpAny_load ho ?_)
           rw [hc, hd]
           show wpAny M A (if (["enumerate", "zip", "dict_itemiterator", "dict_reverseitemiterator", "odict_iterator", "itertools.zip_longest", "itertools.pairwise"].contains n && vs[0]? == some (rawInt _)) = true then _ else _) Q E s
           rw [if_neg (by intro h; rw [hn, Bool.false_and] at h; cases h)]
           exact wpAny_pure hQ))

noncomputable def Itl (K : PySem.W.Frag) (a : Addr) : It :=
  ⟨fun i H => ∃ xs x, SqL K H a xs ∧ xs[i]? = some x, fun i H x H' => H' = H ∧ ∀ xs, SqL K H a xs → xs[i]? = some x, fun i H => ∃ xs, SqL K H a xs ∧ xs.length ≤ i⟩
noncomputable def Itr (lo : Int) (n : Nat) : It := ⟨fun i _ => i < n, fun i H x H' => H' = H ∧ x = .int (lo + i), fun i _ => n ≤ i⟩
theorem turn_list {P : Program} {w : World} {K : PySem.W.Frag} {tg : Expr} (a it : Addr) : Turn P w K tg (Itl K a) [it] it (fun i h => h.IsListIter it a i) where
  mem := by simp
  obj := fun i h st b hb => by
    have e : b = it := by simpa using hb
    subst e
    obtain ⟨o, e, c, d⟩ := st
    exact ⟨o, e, fun v z => by rw [d] at z; cases z⟩
  keep := fun i h h' st k => st.at fun o e => k it (by simp) o e
  item := by
    intro X hP hw hK hc i pins s σ H E I hf st hg
    subst hP hw hK
    obtain ⟨xs, x, hq, hx⟩ := hg
    obtain ⟨its, rv, p, hz⟩ := I.list hq
    obtain ⟨u, hu, ru⟩ := rv.get hx
    obtain ⟨f0, f1, f2, f3, f4, f5⟩ := hf it (by simp)
    refine wpAny_pyNext_list_item st p.isList (x := u) (by simpa using hu) fun h' st' sb => ?_
    have I1 : Inv X pins σ H { s with heap := h' } := I.turned (t' := s.toks) (fun b o hb e => (sb.2 b hb).trans e) f0 f1 f3 f4 f5
    obtain ⟨o, e, c, d⟩ := id st'
    exact ⟨u, rfl, go_of (s := { s with heap := h' }) e c d (by decide) ⟨x, H, I1, ru, ⟨rfl, fun ys hy => by rw [I.list_inj hy hq]; exact hx⟩, st', fun b hb => (hf b hb).1⟩⟩
  done := by
    intro X hP hw hK hc i pins s σ H E I hf st hg
    subst hP hw hK
    obtain ⟨xs, hq, hx⟩ := hg
    obtain ⟨its, rv, p, hz⟩ := I.list hq
    obtain ⟨f0, f1, f2, f3, f4, f5⟩ := hf it (by simp)
    have hl := rv.length
    exact wpAny_pyNext_list_end (I.ok.hd hc) st p.isList (by simp; (first | lia | omega)) fun h' eb => ⟨rfl, I.turned (t' := s.toks) (fun b o hb e => eb b o hb e) f0 f1 f3 f4 f5⟩
  self := fun _ _ _ _ _ st h => wpAny_pyIter_listiter st h
theorem turn_range {P : Program} {w : World} {K : PySem.W.Frag} {tg : Expr} (it : Addr) (lo : Int) (n : Nat) : Turn P w K tg (Itr lo n) [it] it (fun i h => IsRangeIter h it (lo + (i : Nat) * 1) ((n : Int) - (i : Nat)) 1) where
  mem := by simp
  obj := fun i h st b hb => by
    have e : b = it := by simpa using hb
    subst e
    exact ⟨_, st, fun v z => by
      have z' : Data.fields _ = Data.cell v := z
      cases z'⟩
  keep := fun i h h' st k => k it (by simp) _ st
  item := by
    intro X hP hw hK hc i pins s σ H E I hf st hg
    subst hP hw hK
    obtain ⟨f0, f1, f2, f3, f4, f5⟩ := hf it (by simp)
    have W := Walks.range (prog := X.prog) (w := X.w) (I.ok.hd hc) it lo 1 n
    refine W.item i s _ _ hg st fun v h' tk hv st' kk => ?_
    obtain ⟨t, rfl⟩ := hv
    have I1 : Inv X pins σ H { s with heap := h', toks := tk } := I.turned (fun b o hb e => kk b o (by simpa using hb) e) f0 f1 f3 f4 f5
    refine ⟨_, rfl, go_of (s := { s with heap := h', toks := tk }) (n := "range_iterator") st' rfl rfl (by decide) ⟨.int (lo + i), H, I1, ⟨t, ?_⟩, ⟨rfl, rfl⟩, st', fun b hb => (hf b hb).1⟩⟩
    rw [Int.mul_one]
  done := by
    intro X hP hw hK hc i pins s σ H E I hf st hg
    subst hP hw hK
    obtain ⟨f0, f1, f2, f3, f4, f5⟩ := hf it (by simp)
    exact wpAny_pyNext_range_end (I.ok.hd hc) st (by have : n ≤ i := hg; (first | lia | omega)) fun h' eb => ⟨rfl, I.turned (t' := s.toks) (fun b o hb e => eb b o hb e) f0 f1 f3 f4 f5⟩
  self := fun _ _ _ _ _ st h => wpAny_pyIter_rangeiter st h
end L2

namespace L2
open PySem PySem.Spec PyProof.Rows
section
variable {X : Cx} {tg : Expr}
noncomputable def iList (K : PySem.W.Frag) (tl : TE) : TI := fun σ H R => tl σ H fun x H1 => ∃ a, x = .ref a ∧ (∃ xs, SqL K H1 a xs) ∧ R (Itl K a) H1
theorem pi_list {l : Expr} {tl : TE} (hl : PE X l tl) : PI X tg l (iList X.K tl) := by
  intro pins s σ H R I h
  refine thn (hl pins s σ H _ I h) fun v s1 ⟨x, H1, I1, r1, q1⟩ => ?_
  obtain ⟨a, e, ⟨xs, hq⟩, q⟩ := q1
  subst e
  cases r1
  obtain ⟨its, rv, p, hz⟩ := I1.list hq
  refine wpAny_pyIter_list p.isList ?_
  refine ⟨s1.heap.objs.size, [s1.heap.objs.size], _, _, H1, rfl, I1.kept (t' := s1.toks) fun b o e => Heap.get?_push_of_some _ e, turn_list a _, ⟨_, Heap.get?_push_size _ rfl, rfl, rfl⟩, fun b hb => ?_, q⟩
  have e : b = s1.heap.objs.size := by simpa using hb
  subst e
  exact I1.fpOk (Nat.le_refl _) (I1.hok.fresh (Nat.le_refl _))
theorem range_it {pins : List (Addr × Obj)} {σ : St} {H : Hp} {s : Shared} {R : It → Hp → Prop} {E : Value → Shared → Prop} {lo hi : Int} {t u v : Tok} {tk : Nat} (I : Inv X pins σ H s) (h1 : -(2 ^ 62) ≤ lo) (h2 : lo < 2 ^ 62) (h3 : -(2 ^ 62) ≤ hi) (h4 : hi < 2 ^ 62)
    (q : R (Itr lo (hi - lo).toNat) H) : wpAny (model X.prog X.w) X.A (pyIter (.ref s.heap.objs.size)) (PIE X pins σ tg R) E { s with heap := s.heap.push { cls := .type "range", data := .fields #[.int lo t, .int hi u, .int 1 v] }, toks := tk } := by
  refine wpAny_pyIter_range (IsRange.new ..) (small_one h1 h2 h3 h4) ?_
  have I1 : Inv X pins σ H { s with heap := s.heap.push { cls := .type "range", data := .fields #[.int lo t, .int hi u, .int 1 v] }, toks := tk } := I.kept fun b o e => Heap.get?_push_of_some _ e
  refine ⟨(s.heap.push { cls := .type "range", data := .fields #[.int lo t, .int hi u, .int 1 v] }).objs.size, [(s.heap.push { cls := .type "range", data := .fields #[.int lo t, .int hi u, .int 1 v] }).objs.size], _, _, H, rfl,
    I1.kept (t' := tk) fun b o e => Heap.get?_push_of_some _ e, turn_range _ lo (hi - lo).toNat, ?_, fun b hb => ?_, q⟩
  · have e1 : lo + ((0 : Nat) : Int) * 1 = lo := by simp
    have e2 : (((hi - lo).toNat : Nat) : Int) - ((0 : Nat) : Int) = Builtin.Range.rangeSize lo hi 1 := by rw [rangeSize_one]; split <;> (first | lia | omega)
    show IsRangeIter _ _ (lo + ((0 : Nat) : Int) * 1) ((((hi - lo).toNat : Nat) : Int) - ((0 : Nat) : Int)) 1
    rw [e1, e2]
    exact Heap.get?_push_size _ rfl
  · have e : b = (s.heap.push { cls := .type "range", data := .fields #[.int lo t, .int hi u, .int 1 v] }).objs.size := by simpa using hb
    subst e
    exact I1.fpOk (Nat.le_refl _) (I1.hok.fresh (Nat.le_refl _))
noncomputable def iRng1 (ta : TA) : TI := fun σ H R => ta σ H fun vs H1 => ∃ j : Int, vs = [.int j] ∧ -(2 ^ 62) ≤ j ∧ j < 2 ^ 62 ∧ R (Itr 0 j.toNat) H1
theorem pi_range1 {a : Expr} {ta : TA} {p pos : Pos} (hg : Gl X "range") (hm : X.mg "range" = none) (ha : PA X [a] ta) (hs : starEach [a] X.env = [(false, eval a X.env)] := by rfl) : PI X tg (.Call (.Name "range" p) [a] [] pos) (iRng1 ta) := by
  intro pins s σ H R I h
  refine Call_ (ld_blt I hg hm boot_range (PyProof.Rows.callWith_type1 (thn (ha pos pins s σ H _ I h) fun us s1 ⟨vs, H1, I1, r1, q1⟩ => ?_) hs rfl))
  obtain ⟨j, e, q1, q2, q⟩ := q1
  subst e
  cases r1 with
  | cons r rr =>
    cases rr
    obtain ⟨t, rfl⟩ := r
    exact call_range_1 (range_it I1 (by (first | lia | omega)) (by (first | lia | omega)) q1 q2 (by simpa using q))
noncomputable def tFor (wi : TI) (g : TG) (tb : TS) : TS := fun D σ H => wi σ H fun J H1 => ∃ W : Nat → Nat → St → Hp → Prop, (∃ m, W 0 m σ H1) ∧ ∀ i m σ H, W i m σ H →
  (J.stop i H ∧ D.nx σ H) ∨ (J.go i H ∧ ∃ N : St → Hp → Prop, (∀ σ' H', N σ' H' → ∃ m', m' < m ∧ W (i + 1) m' σ' H') ∧ ∀ x H', J.yld i H x H' → g x σ H' fun σ2 H2 => tb { D with nx := N, ct := N, bk := D.nx } σ2 H2)
noncomputable def pinsAt (fp : List Addr) (h : Heap) : List (Addr × Obj) := fp.filterMap fun b => (h.get? b).map fun o => (b, o)
theorem mem_pinsAt {fp : List Addr} {h : Heap} {b : Addr} {o : Obj} (hb : b ∈ fp) (e : h.get? b = some o) : (b, o) ∈ pinsAt fp h := List.mem_filterMap.mpr ⟨b, hb, by rw [e]; rfl⟩
theorem of_pinsAt {fp : List Addr} {h : Heap} {p : Addr × Obj} (hp : p ∈ pinsAt fp h) : p.1 ∈ fp ∧ h.get? p.1 = some p.2 := by
  obtain ⟨b, hb, e⟩ := List.mem_filterMap.mp hp
  cases q : h.get? b with
  | none => rw [q] at e; cases e
  | some o =>
    rw [q] at e
    have e' : (b, o) = p := Option.some.inj e
    subst e'
    exact ⟨hb, q⟩
theorem Inv.pinned {pins : List (Addr × Obj)} {σ : St} {H : Hp} {s : Shared} {fp : List Addr} (I : Inv X pins σ H s) (hf : ∀ b ∈ fp, FpOk X pins H b) (ho : ∀ b ∈ fp, ∃ o, s.heap.get? b = some o ∧ ∀ v, o.data ≠ .cell v) : Inv X (pins ++ pinsAt fp s.heap) σ H s :=
  I.pins_of fun p hp => (List.mem_append.mp hp).elim (fun z => I.pin p (List.mem_append_right _ z)) fun z => by
    obtain ⟨hb, e⟩ := of_pinsAt z
    obtain ⟨f0, f1, f2, _⟩ := hf p.1 hb
    obtain ⟨o, e', d⟩ := ho p.1 hb
    rw [e] at e'; cases e'
    exact ⟨e, f0, f1, f2, d⟩
theorem Inv.unpinned {pins pl : List (Addr × Obj)} {σ : St} {H : Hp} {s : Shared} (I : Inv X (pins ++ pl) σ H s) : Inv X pins σ H s := I.pins_of fun p hp => I.pin p (List.mem_append_right _ (List.mem_append_left _ hp))
theorem ps_for {iter : Expr} {body : List Stmt} {wi : TI} {g : TG} {tb : TS} {pos : Pos} (hp : PassesOwn (model X.prog X.w) X.A X.env X.xe) (hc : X.calm = true) (hi : PI X tg iter wi) (hg : PG X tg g) (hb : PSs X body tb)
    (hs : ∀ x, foldedSetIterable iter X.env x = pure x := by intro _; rfl) : PS X (.For tg iter body [] pos) (tFor wi g tb) := by
  intro pins s σ H D I h
  refine wpAny_For (thn (hi pins s σ H _ I h) fun v s1 h1 => thn h1 fun itv s2 h2 => ?_) hs
  obtain ⟨it, fp, tn, J, H2, e, I2, T, st2, f2, W, ⟨m0, w0⟩, turn⟩ := h2
  subst e
  -- what stays true of the iterator's objects through the loop
  have stat : ∀ {H' : Hp}, (∀ b ∈ fp, H' b = none) → ∀ b ∈ fp, FpOk X pins H' b := fun hn b hb => ⟨hn b hb, (f2 b hb).2⟩
  refine codeAny_forLoop_any (fun n s' => ∃ i σ' H', Inv X pins σ' H' s' ∧ tn i s'.heap ∧ (∀ b ∈ fp, H' b = none) ∧ W i n σ' H') ?_ m0 ⟨0, σ, H2, I2, st2, fun b hb => (f2 b hb).1, w0⟩
  rintro n s3 ⟨i, σ3, H3, I3, st3, fr3, w3⟩
  rcases turn i n σ3 H3 w3 with ⟨stop, qn⟩ | ⟨go, N, hN, step⟩
  · refine wpAny_passesOwn hp (thn (T.done X rfl rfl rfl hc i pins s3 σ3 H3 X.xe I3 (stat fr3) st3 stop) fun r s4 ⟨hr, I4⟩ => ?_)
    subst hr
    exact wpAny_execs_nil ⟨σ3, H3, I4, qn⟩
  · refine wpAny_passesOwn hp (thn (T.item X rfl rfl rfl hc i pins s3 σ3 H3 X.xe I3 (stat fr3) st3 go) fun r s4 ⟨u, hr, h4⟩ => ?_)
    subst hr
    refine wpAny_passesOwn hp (thn h4 fun _ s5 ⟨x, H5, I5, r5, y5, st5, fr5⟩ => ?_)
    have I5' := I5.pinned (stat fr5) (T.obj _ _ st5)
    refine wpAny_passesOwn hp (thn (hg _ s5 σ3 H5 x u _ I5' r5 (step x H5 y5)) fun _ s6 ⟨σ6, H6, I6, q6⟩ => ?_)
    refine wpAny_passesOwn hp (thn (hb _ s6 σ6 H6 _ I6 q6) fun f s7 q7 => ?_)
    have again : ∀ {σ7 : St} {H7 : Hp}, Inv X (pins ++ pinsAt fp s5.heap) σ7 H7 s7 → N σ7 H7 → ∃ m, m < n ∧ ∃ i σ' H', Inv X pins σ' H' s7 ∧ tn i s7.heap ∧ (∀ b ∈ fp, H' b = none) ∧ W i m σ' H' := fun {σ7 H7} I7 n7 => by
      obtain ⟨m', hm, w7⟩ := hN σ7 H7 n7
      refine ⟨m', hm, i + 1, σ7, H7, I7.unpinned, T.keep _ _ _ st5 fun b hb o e => (I7.pin (b, o) (List.mem_append_right _ (List.mem_append_right _ (mem_pinsAt hb e)))).1, fun b hb => ?_, w7⟩
      obtain ⟨o, e, d⟩ := T.obj _ _ st5 b hb
      exact (I7.pin (b, o) (List.mem_append_right _ (List.mem_append_right _ (mem_pinsAt hb e)))).2.1
    cases f with
    | next => obtain ⟨σ7, H7, I7, n7⟩ := q7; exact again I7 n7
    | cont => obtain ⟨σ7, H7, I7, n7⟩ := q7; exact again I7 n7
    | brk => obtain ⟨σ7, H7, I7, q7⟩ := q7; exact ⟨σ7, H7, I7.unpinned, q7⟩
    | ret v => obtain ⟨x7, σ7, H7, I7, r7, q7⟩ := q7; exact ⟨x7, σ7, H7, I7.unpinned, r7, q7⟩
end

end L2

namespace L2
open PySem PySem.Spec PyProof.Rows

noncomputable abbrev R2 := V → V → Hp → VK → Prop
noncomputable def OpR (X : Cx) (f : Value → Value → Sem Value) (r : R2) : Prop :=
  ∀ (pins : List (Addr × Obj)) (s : Shared) (σ : St) (H : Hp) (x y : V) (v u : Value) (Q : VK), Inv X pins σ H s → RelV x v → RelV y u → r x y H Q →
    wpAny (model X.prog X.w) X.A (f v u) (EP X pins σ Q) X.xe s
noncomputable def UnR (X : Cx) (f : Value → Sem Value) (r : V → Hp → VK → Prop) : Prop :=
  ∀ (pins : List (Addr × Obj)) (s : Shared) (σ : St) (H : Hp) (x : V) (v : Value) (Q : VK), Inv X pins σ H s → RelV x v → r x H Q →
    wpAny (model X.prog X.w) X.A (f v) (EP X pins σ Q) X.xe s
noncomputable def CallR (X : Cx) (f : Value) (r : List V → Hp → VK → Prop) : Prop :=
  ∀ (pins : List (Addr × Obj)) (s : Shared) (σ : St) (H : Hp) (xs : List V) (us : List Value) (Q : VK), Inv X pins σ H s → Vals xs us → r xs H Q →
    wpAny (model X.prog X.w) X.A (call f us) (EP X pins σ Q) X.xe s
noncomputable def tOp (r : R2) (ta tb : TE) : TE := fun σ H Q => ta σ H fun x H1 => tb σ H1 fun y H2 => r x y H2 Q
noncomputable def tUn (r : V → Hp → VK → Prop) (ta : TE) : TE := fun σ H Q => ta σ H fun x H1 => r x H1 Q
noncomputable def rI (C : Int → Int → Prop) (g : Int → Int → V) : R2 := fun x y H Q => ∃ i j, x = .int i ∧ y = .int j ∧ C i j ∧ Q (g i j) H
noncomputable def rI0 (g : Int → Int → V) : R2 := fun x y H Q => ∃ i j, x = .int i ∧ y = .int j ∧ Q (g i j) H
noncomputable def rU (g : Int → V) : V → Hp → VK → Prop := fun x H Q => ∃ i, x = .int i ∧ Q (g i) H

section
variable {X : Cx} {a b c : Expr} {ta tb tc : TE} {pos : Pos}

theorem binT (ha : PE X a ta) (hb : PE X b tb) {pins : List (Addr × Obj)} {s : Shared} {σ : St} {H : Hp} {R : V → V → Hp → Prop} (I : Inv X pins σ H s)
    (h : ta σ H fun x H1 => tb σ H1 fun y H2 => R x y H2) {Q : Value → Shared → Prop} {f : Value → Value → Sem Value}
    (hf : ∀ v u s2 x y H2, Inv X pins σ H2 s2 → RelV x v → RelV y u → R x y H2 → wpAny (model X.prog X.w) X.A (f v u) Q X.xe s2) :
    wpAny (model X.prog X.w) X.A (eval a X.env) (fun v s₁ => wpAny (model X.prog X.w) X.A (eval b X.env) (fun u s₂ => wpAny (model X.prog X.w) X.A (f v u) Q X.xe s₂) X.xe s₁) X.xe s := by
  refine thn (ha pins s σ H _ I h) fun v s1 ⟨x, H1, I1, r1, q1⟩ => ?_
  refine thn (hb pins s1 σ H1 _ I1 q1) fun u s2 ⟨y, H2, I2, r2, q2⟩ => ?_
  exact hf v u s2 x y H2 I2 r1 r2 q2

theorem pe_op {op : Operator} {r : R2} (ho : OpR X (binaryOp op) r) (ha : PE X a ta) (hb : PE X b tb) : PE X (.BinOp a op b pos) (tOp r ta tb) := by
  intro pins s σ H Q I h
  exact wpAny_BinOp (binT ha hb I h fun v u s2 x y H2 I2 rx ry q => ho pins s2 σ H2 x y v u Q I2 rx ry q)
theorem pe_un {op : UnaryOp} {r : V → Hp → VK → Prop} (ho : UnR X (unaryOp op) r) (ha : PE X a ta) : PE X (.UnaryOp op a pos) (tUn r ta) := by
  intro pins s σ H Q I h
  exact UnaryOp_ (thn (ha pins s σ H _ I h) fun v s1 ⟨x, H1, I1, r1, q1⟩ => ho pins s1 σ H1 x v Q I1 r1 q1)
theorem opI {f : Value → Value → Sem Value} {C : Int → Int → Prop} {g : Int → Int → Int}
    (rule : ∀ (i j : Int) (t u : Tok) (s : Shared) (Q : Value → Shared → Prop) (E : Value → Shared → Prop), C i j → Q (.int (g i j) s.toks) { s with toks := s.toks + 1 } → wpAny (model X.prog X.w) X.A (f (.int i t) (.int j u)) Q E s) :
    OpR X f (rI C fun i j => .int (g i j)) := by
  intro pins s σ H x y v u Q I rx ry h
  obtain ⟨i, j, rfl, rfl, hc, q⟩ := h
  obtain ⟨t, rfl⟩ := rx
  obtain ⟨t', rfl⟩ := ry
  exact rule i j t t' s _ _ hc ⟨.int (g i j), H, I.tok _, ⟨_, rfl⟩, q⟩
theorem opI0 {f : Value → Value → Sem Value} {g : Int → Int → Int}
    (rule : ∀ (i j : Int) (t u : Tok) (s : Shared) (Q : Value → Shared → Prop) (E : Value → Shared → Prop), Q (.int (g i j) s.toks) { s with toks := s.toks + 1 } → wpAny (model X.prog X.w) X.A (f (.int i t) (.int j u)) Q E s) :
    OpR X f (rI0 fun i j => .int (g i j)) := by
  intro pins s σ H x y v u Q I rx ry h
  obtain ⟨i, j, rfl, rfl, q⟩ := h
  obtain ⟨t, rfl⟩ := rx
  obtain ⟨t', rfl⟩ := ry
  exact rule i j t t' s _ _ ⟨.int (g i j), H, I.tok _, ⟨_, rfl⟩, q⟩
theorem opB0 {f : Value → Value → Sem Value} {g : Int → Int → Bool}
    (rule : ∀ (i j : Int) (t u : Tok) (s : Shared) (Q : Value → Shared → Prop) (E : Value → Shared → Prop), Q (.bool (g i j)) s → wpAny (model X.prog X.w) X.A (f (.int i t) (.int j u)) Q E s) :
    OpR X f (rI0 fun i j => .bl (g i j)) := by
  intro pins s σ H x y v u Q I rx ry h
  obtain ⟨i, j, rfl, rfl, q⟩ := h
  obtain ⟨t, rfl⟩ := rx
  obtain ⟨t', rfl⟩ := ry
  exact rule i j t t' s _ _ ⟨.bl (g i j), H, I, rfl, q⟩

noncomputable def CDiv (i j : Int) : Prop := 0 < j ∧ j < 1073741824
noncomputable def CPow (i j : Int) : Prop := 0 ≤ j ∧ j ≤ 1000000 ∧ i.natAbs < 2 ^ 64
noncomputable def CMul (i j : Int) : Prop := (-(2 ^ 64) < i ∧ i < 2 ^ 64) ∨ (-(2 ^ 64) < j ∧ j < 2 ^ 64)
theorem CMul.ok {i j : Int} (h : CMul i j) : IntMulOk i j := by
  rcases h with ⟨h1, h2⟩ | ⟨h1, h2⟩
  · exact .of_left (intBits_le_64 h1 h2)
  · exact .of_right (intBits_le_64 h1 h2)
theorem op_add : OpR X (binaryOp .Add) (rI0 fun i j => .int (i + j)) := opI0 fun _ _ _ _ _ _ _ q => add_int q
theorem op_sub : OpR X (binaryOp .Sub) (rI0 fun i j => .int (i - j)) := opI0 fun _ _ _ _ _ _ _ q => sub_int q
theorem op_mul : OpR X (binaryOp .Mult) (rI CMul fun i j => .int (i * j)) := opI fun _ _ _ _ _ _ _ hc q => mul_int q hc.ok
theorem op_fdiv : OpR X (binaryOp .FloorDiv) (rI CDiv fun i j => .int (i / j)) := opI fun i j _ _ _ _ _ hc q => by
  have h1 : (0 : Int) < j := hc.1
  have h2 : j < 1073741824 := hc.2
  exact floordiv_int (by (first | lia | omega)) (by rw [Int.fdiv_eq_ediv_of_nonneg i (by (first | lia | omega))]; exact q) (.inl (PyProof.noPylong_small (by (first | lia | omega))))
theorem op_mod : OpR X (binaryOp .Mod) (rI (fun _ j => 0 < j) fun i j => .int (i % j)) := opI fun i j _ _ _ _ _ hc q => by
  have h1 : (0 : Int) < j := hc
  exact mod_int' (by (first | lia | omega)) (by rw [Int.fmod_eq_emod_of_nonneg i (by (first | lia | omega))]; exact q)
theorem op_pow : OpR X (binaryOp .Pow) (rI CPow fun i j => .int (i ^ j.toNat)) := opI fun _ _ _ _ _ _ _ hc q => pow_int_small hc.1 hc.2.1 hc.2.2 q
theorem unI {f : Value → Sem Value} {g : Int → Int}
    (rule : ∀ (i : Int) (t : Tok) (s : Shared) (Q : Value → Shared → Prop) (E : Value → Shared → Prop), Q (.int (g i) s.toks) { s with toks := s.toks + 1 } → wpAny (model X.prog X.w) X.A (f (.int i t)) Q E s) :
    UnR X f (rU fun i => .int (g i)) := by
  intro pins s σ H x v Q I rx h
  obtain ⟨i, rfl, q⟩ := h
  obtain ⟨t, rfl⟩ := rx
  exact rule i t s _ _ ⟨.int (g i), H, I.tok _, ⟨_, rfl⟩, q⟩
theorem un_neg : UnR X (unaryOp .USub) (rU fun i => .int (-i)) := unI fun _ _ _ _ _ q => neg_int q
end

noncomputable def scal : V → V → Bool
  | .non, .non => true | .non, .int _ => true | .int _, .non => true | .non, .bl _ => true | .bl _, .non => true | .non, .str _ => true | .str _, .non => true
  | .int _, .int _ => true | .bl _, .bl _ => true | .str _, .str _ => true | .byt _, .byt _ => true
  | .int _, .str _ => true | .str _, .int _ => true | .bl _, .str _ => true | .str _, .bl _ => true
  | _, _ => false
noncomputable def rEq : R2 := fun x y H Q => scal x y = true ∧ Q (.bl (decide (x = y))) H
theorem dec_int {i j : Int} : decide (V.int i = V.int j) = (i == j) := by
  rw [Bool.eq_iff_iff]
  simp
theorem dec_bl {i j : Bool} : decide (V.bl i = V.bl j) = (i == j) := by
  rw [Bool.eq_iff_iff]
  simp
theorem dec_str {i j : Str} : decide (V.str i = V.str j) = (i == j) := by
  rw [Bool.eq_iff_iff]
  simp
theorem dec_byt {i j : Array UInt8} : decide (V.byt i = V.byt j) = (i.toList == j.toList) := by
  rw [Bool.eq_iff_iff]
  cases i
  cases j
  simp

section
variable {X : Cx} {a b c : Expr} {ta tb tc : TE} {pos : Pos}
theorem fin_bl {pins : List (Addr × Obj)} {σ : St} {H : Hp} {s : Shared} {Q : VK} {k k' : Bool} (I : Inv X pins σ H s) (q : Q (.bl k) H) (e : k = k') : EP X pins σ Q (.bool k') s := by
  subst e
  exact ⟨.bl k, H, I, rfl, q⟩
theorem op_eq : OpR X (compareOp .Eq) rEq := by
  intro pins s σ H x y v u Q I rx ry h
  obtain ⟨hs, q⟩ := h
  cases x with
  | non =>
    cases rx
    cases y with
    | non => cases ry; exact PySem.EqNone.eq_none_none (fin_bl I q (by simp))
    | bl j => cases ry; exact PySem.EqNone.eq_none_bool (fin_bl I q (by simp))
    | int j => obtain ⟨t', rfl⟩ := ry; exact PySem.EqNone.eq_none_int (fin_bl I q (by simp))
    | str j => obtain ⟨t', rfl⟩ := ry; exact PySem.EqNone.eq_none_str (fin_bl I q (by simp))
    | _ => exact absurd (show false = true from hs) Bool.false_ne_true
  | bl i =>
    cases rx
    cases y with
    | non => cases ry; exact PySem.EqNone.eq_bool_none (fin_bl I q (by simp))
    | bl j => cases ry; exact eq_bool (fin_bl I q dec_bl)
    | str j => obtain ⟨t', rfl⟩ := ry; exact PySem.EqMixed.eq_bool_str (fin_bl I q (by simp))
    | _ => exact absurd (show false = true from hs) Bool.false_ne_true
  | int i =>
    obtain ⟨t, rfl⟩ := rx
    cases y with
    | non => cases ry; exact PySem.EqNone.eq_int_none (fin_bl I q (by simp))
    | int j => obtain ⟨t', rfl⟩ := ry; exact eq_int (fin_bl I q dec_int)
    | str j => obtain ⟨t', rfl⟩ := ry; exact PySem.EqMixed.eq_int_str (fin_bl I q (by simp))
    | _ => exact absurd (show false = true from hs) Bool.false_ne_true
  | str i =>
    obtain ⟨t, rfl⟩ := rx
    cases y with
    | non => cases ry; exact PySem.EqNone.eq_str_none (fin_bl I q (by simp))
    | bl j => cases ry; exact PySem.EqMixed.eq_str_bool (fin_bl I q (by simp))
    | int j => obtain ⟨t', rfl⟩ := ry; exact PySem.EqMixed.eq_str_int (fin_bl I q (by simp))
    | str j => obtain ⟨t', rfl⟩ := ry; exact eq_str (fin_bl I q dec_str)
    | _ => exact absurd (show false = true from hs) Bool.false_ne_true
  | byt i =>
    obtain ⟨t, rfl⟩ := rx
    cases y with
    | byt j => obtain ⟨t', rfl⟩ := ry; exact PySem.W.eq_bytes (fin_bl I q dec_byt)
    | _ => exact absurd (show false = true from hs) Bool.false_ne_true
  | _ => cases y <;> exact absurd (show false = true from hs) Bool.false_ne_true
theorem op_lt : OpR X (compareOp .Lt) (rI0 fun i j => .bl (decide (i < j))) := opB0 fun _ _ _ _ _ _ _ q => lt_int q
theorem op_le : OpR X (compareOp .LtE) (rI0 fun i j => .bl (decide (i ≤ j))) := opB0 fun _ _ _ _ _ _ _ q => le_int q
theorem op_gt : OpR X (compareOp .Gt) (rI0 fun i j => .bl (decide (j < i))) := opB0 fun _ _ _ _ _ _ _ q => gt_int q
theorem op_ge : OpR X (compareOp .GtE) (rI0 fun i j => .bl (decide (j ≤ i))) := opB0 fun _ _ _ _ _ _ _ q => ge_int q
theorem nomark (b : Expr) {op : CmpOp} (h : op ≠ .In := by decide) (h2 : op ≠ .NotIn := by decide) : behindInMarks op b = false := by
  have e1 : (op == CmpOp.In) = false := by cases op <;> first | rfl | exact absurd rfl h
  have e2 : (op == CmpOp.NotIn) = false := by cases op <;> first | rfl | exact absurd rfl h2
  cases b <;> simp [behindInMarks, e1, e2]
theorem pe_cmpR {op : CmpOp} {r : R2} (ho : OpR X (compareOp op) r) (ha : PE X a ta) (hb : PE X b tb) (hm : behindInMarks op b = false) : PE X (.Compare a [op] [b] pos) (tOp r ta tb) := by
  intro pins s σ H Q I h
  exact wpAny_Compare1 (binT ha hb I h fun v u s2 x y H2 I2 rx ry q => ho pins s2 σ H2 x y v u Q I2 rx ry q) hm
noncomputable def tTest (t : TE) : TT := fun σ H Q => t σ H fun x H' => ∃ k, x = .bl k ∧ Q k H'
theorem pt_cmpR {op : CmpOp} {r : R2} (ho : OpR X (compareOp op) r) (ha : PE X a ta) (hb : PE X b tb) (hm : behindInMarks op b = false) : PT X (.Compare a [op] [b] pos) (tTest (tOp r ta tb)) := by
  intro pins s σ H Q I h
  refine wpAny_isTrue_Compare1 (thn (ha pins s σ H _ I h) fun v s1 ⟨x, H1, I1, r1, q1⟩ => thn (hb pins s1 σ H1 _ I1 q1) fun u s2 ⟨y, H2, I2, r2, q2⟩ =>
    thn (ho pins s2 σ H2 x y v u _ I2 r1 r2 q2) fun c s3 ⟨z, H3, I3, r3, k, e, q3⟩ => ?_) hm
  subst e
  cases r3
  exact wpAny_truthy_bool ⟨H3, I3, q3⟩
noncomputable def tChain (r r' : R2) (ta tb tc : TE) : TE := fun σ H Q => ta σ H fun x H1 => tb σ H1 fun y H2 => r x y H2 fun z H3 => ∃ k, z = .bl k ∧
  (if k = true then tc σ H3 fun w' H4 => r' y w' H4 Q else Q (.bl false) H3)
theorem pe_chain {op op' : CmpOp} {r r' : R2} (ho : OpR X (compareOp op) r) (ho' : OpR X (compareOp op') r') (ha : PE X a ta) (hb : PE X b tb) (hc : PE X c tc)
    (hm : lastMarks [op, op'] [b, c] = false := by with_unfolding_all rfl) : PE X (.Compare a [op, op'] [b, c] pos) (tChain r r' ta tb tc) := by
  intro pins s σ H Q I h
  refine Compare_chain (thn (ha pins s σ H _ I h) fun v s1 ⟨x, H1, I1, r1, q1⟩ => chain_link (thn (hb pins s1 σ H1 _ I1 q1) fun u s2 ⟨y, H2, I2, r2, q2⟩ =>
    thn (ho pins s2 σ H2 x y v u _ I2 r1 r2 q2) fun d s3 ⟨z, H3, I3, r3, k, e, q3⟩ => ?_)) hm
  subst e
  cases r3
  refine wpAny_truthy_bool ?_
  cases k with
  | false => exact ite_ff ⟨.bl false, H3, I3, rfl, q3⟩
  | true => exact ite_tt (chain_last (thn (hc pins s3 σ H3 _ I3 q3) fun w' s4 ⟨z', H4, I4, r4, q4⟩ => ho' pins s4 σ H4 y z' u w' Q I4 r2 r4 q4))
theorem line63 : (sizeLine : Nat) < 2 ^ 63 := by rw [sizeLine_eq]; decide
theorem op_add_str : OpR X (binaryOp .Add) (fun x y H Q => ∃ i j, x = .str i ∧ y = .str j ∧ i.length + j.length ≤ sizeLine ∧ Q (.str (i ++ j)) H) := by
  intro pins s σ H x y v u Q I rx ry h
  obtain ⟨i, j, rfl, rfl, hz, q⟩ := h
  obtain ⟨t, rfl⟩ := rx
  obtain ⟨t', rfl⟩ := ry
  exact add_str (fun t' tk => ⟨.str (i ++ j), H, I.tok _, ⟨_, rfl⟩, q⟩) hz
theorem vals1 {x : V} {us : List Value} (r : Vals [x] us) : ∃ u, us = [u] ∧ RelV x u := by
  cases r with
  | cons r1 r2 => cases r2; exact ⟨_, rfl, r1⟩
theorem vals2 {x y : V} {us : List Value} (r : Vals [x, y] us) : ∃ u w', us = [u, w'] ∧ RelV x u ∧ RelV y w' := by
  cases r with
  | cons r1 r2 =>
    cases r2 with
    | cons r3 r4 => cases r4; exact ⟨_, _, rfl, r1, r3⟩
noncomputable def LenV (K : PySem.W.Frag) (x : V) (H : Hp) (n : Nat) : Prop :=
  match x with
  | .str y => y.length ≤ sizeLine ∧ n = y.length
  | .byt y => y.size ≤ sizeLine ∧ n = y.size
  | .ref p => (∃ xs, SqL K H p xs ∧ n = xs.length) ∨ ∃ xs, SqT K H p xs ∧ n = xs.length
  | _ => False
theorem call_len : CallR X (.builtin "len") (fun xs H Q => ∃ x n, xs = [x] ∧ LenV X.K x H n ∧ Q (.int n) H) := by
  intro pins s σ H xs us Q I r h
  obtain ⟨x, n, rfl, e, q⟩ := h
  obtain ⟨u, rfl, rx⟩ := vals1 r
  have hl := line63
  have hs : sizeLine = 16777216 := sizeLine_eq
  cases x with
  | str y =>
    obtain ⟨t, rfl⟩ := rx
    obtain ⟨hy, e'⟩ : y.length ≤ sizeLine ∧ n = y.length := e
    subst e'
    exact len_str (by (first | lia | omega)) ⟨.int _, H, I.tok _, ⟨_, rfl⟩, q⟩
  | byt y =>
    obtain ⟨t, rfl⟩ := rx
    obtain ⟨hy, e'⟩ : y.size ≤ sizeLine ∧ n = y.size := e
    subst e'
    exact PySem.W.len_bytes (by (first | lia | omega)) ⟨.int _, H, I.tok _, ⟨_, rfl⟩, q⟩
  | ref p =>
    cases rx
    have e' : (∃ xs, SqL X.K H p xs ∧ n = xs.length) ∨ ∃ xs, SqT X.K H p xs ∧ n = xs.length := e
    rcases e' with ⟨xs, hx, e'⟩ | ⟨xs, hx, e'⟩
    · subst e'
      obtain ⟨its, r', pl, hz⟩ := I.list hx
      have hlen := r'.length
      exact Calls.call_len_list pl.isList (by simp only [List.size_toArray]; (first | lia | omega)) ⟨.int xs.length, H, I.tok _, ⟨_, by simp only [List.size_toArray]; rw [hlen]⟩, q⟩
    · subst e'
      obtain ⟨its, r', pl, hz⟩ := I.tuple hx
      have hlen := r'.length
      exact len_tuple pl (by simp only [List.size_toArray]; (first | lia | omega)) ⟨.int xs.length, H, I.tok _, ⟨_, by simp only [List.size_toArray]; rw [hlen]⟩, q⟩
  | _ => exact (show False from e).elim
end
end L2

namespace L2
open PySem PySem.Spec PyProof.Rows

structure ObjM (h : Heap) (x dx C : Addr) (mA : Str → Option Value) : Prop where
  obj : h.get? x = some (PySem.W.instObj C dx)
  ns : h.Ns1 dx mA
  ne : dx ≠ x

theorem lookIn_ns {h : Heap} {dx : Addr} {mA : Str → Option Value} (n : h.Ns1 dx mA) : ∃ od, h.get? dx = some od ∧ ∀ name, PySem.W.lookIn name od = some (mA name) := by
  obtain ⟨o, es, ep, ho, hd, hk, _, hm⟩ := n
  refine ⟨o, ho, fun name => ?_⟩
  have e := hm name
  unfold nsFind findBy at e
  rw [← Array.find?_toList] at e
  unfold PySem.W.lookIn
  rw [hd]
  dsimp only
  split
  · rename_i y q
    rw [q] at e
    exact congrArg some e
  · rename_i q
    rw [q] at e
    have a : es.toList.any (·.refKey) = false := by
      rw [List.any_eq_false]
      intro y hy
      obtain ⟨z, t, hkey⟩ := hk y (Array.mem_toList_iff.mp hy)
      simp [DictEntry.refKey, hkey]
    have a' : ¬ es.toList.any (·.refKey) = true := by rw [a]; exact Bool.false_ne_true
    rw [if_neg a']
    exact congrArg some e

theorem ObjM.look {h : Heap} {x dx C : Addr} {mA : Str → Option Value} (I : ObjM h x dx C mA) : ∃ od, PySem.W.InstAt h x (PySem.W.instObj C dx) C (some od) ∧ ∀ name, PySem.W.lookIn name od = some (mA name) :=
  let ⟨od, ho, hl⟩ := lookIn_ns I.ns
  ⟨od, ⟨I.obj, rfl, rfl, ho⟩, hl⟩

section
variable {prog : Program} {w : World} {A : Around} {E : Value → Shared → Prop} {s : Shared} {K : PySem.W.Frag} {x dx C f : Addr} {mA : Str → Option Value} {name : Str} {v : Value}

end

section
variable {P : Program} {w : World} {H H' : Hp} {h h' : Heap} {a C dx : Addr} {fs fs' : List (Str × V)}
theorem ins_get (hok : HOk P w H h) (e : H a = some (.ins C dx fs)) : ∃ mA, ObjM h a dx C mA ∧ (∀ f, RelO (fs.lookup f) (mA f)) ∧ PySem.Within mA (fs.map (·.1)) ∧ fs.length ≤ 1000 ∧ H dx = some (.own a) := by
  obtain ⟨d, z, ne, ob, mA, n, r, q⟩ := (show ObjOk P w H h a (.ins C dx fs) from hok a _ e)
  exact ⟨mA, ⟨ob, n, ne⟩, r, q, z, d⟩
end

structure Cls (K : PySem.W.Frag) (C : Addr) : Prop where
  pg : PySem.W.plainGet K C Str.empty = true
  hd : PySem.W.hasDictIn K C = true
  po : PySem.W.plainOver K C = true
  sa : PySem.W.findIn K (.ref C) "__setattr__" = some (some (.builtin "object.__setattr__"))
theorem Cls.get {K : PySem.W.Frag} {C : Addr} (c : Cls K C) (f : Str) : PySem.W.plainGet K C f = true := c.pg
structure Con (K : PySem.W.Frag) (C : Addr) (f : Str) (v : V) (u : Value) : Prop where
  at_ : PySem.W.findIn K (.ref C) f = some (some u)
  rel : RelV v u
  get : PySem.W.specialIn K u "__get__" = some none
  cp : PySem.W.copiedNames.contains f = false
structure Meth (K : PySem.W.Frag) (C : Addr) (m : Str) (f : Addr) : Prop where
  at_ : PySem.W.findIn K (.ref C) m = some (some (.ref f))
  fn : PySem.W.isFn K (.ref f) = true
  kp : PySem.W.keepIn K (.ref f) = true

section
variable {X : Cx} {pins : List (Addr × Obj)} {σ : St} {H : Hp} {s : Shared} {a C dx : Addr} {fs : List (Str × V)} {f : Str} {v : V} {A : Around} {E : Value → Shared → Prop}

end

section
variable {X : Cx} {o e value : Expr} {f : Str} {pos pos' tpos : Pos} {ta tv : TE}
end

section
variable {X : Cx} {pins : List (Addr × Obj)} {σ : St} {H : Hp} {s : Shared} {A : Around} {E : Value → Shared → Prop} {Q : Value → Shared → Prop} {c : Value} {b : Bool}
inductive TyOf (K : PySem.W.Frag) (H : Hp) : V → Value → Prop where
  | non : TyOf K H .non (.type "NoneType")
  | bl (x : Bool) : TyOf K H (.bl x) (.type "bool")
  | int (i : Int) : TyOf K H (.int i) (.type "int")
  | str (x : Str) : TyOf K H (.str x) (.type "str")
  | flt (x : UInt64) : TyOf K H (.flt x) (.type "float")
  | lst {a : Addr} {xs : List V} (e : H a = some (.lst xs)) : TyOf K H (.ref a) (.type "list")
  | frz {a : Addr} {o : Obj} {xs : List V} (e : H a = some (.frz o (.lst xs))) : TyOf K H (.ref a) (.type "list")
  | tup {a : Addr} {xs : List V} (e : H a = some (.tup xs)) : TyOf K H (.ref a) (.type "tuple")
  | dK {a : Addr} {kvs : List (Key × V)} (e : H a = some (.dK kvs)) : TyOf K H (.ref a) (.type "dict")
  | dT {a : Addr} {kvs : List (List Key × V)} (e : H a = some (.dT kvs)) : TyOf K H (.ref a) (.type "dict")
  | ins {a C dx : Addr} {fs : List (Str × V)} (e : H a = some (.ins C dx fs)) (cl : Cls K C) (ha : PySem.W.findIn K (.ref C) "__class__" = some (some (.builtin "object.__class__")))
      (hn : PySem.W.specialIn K (.builtin "object.__class__") "__get__" = some (some (.builtin "getset_descriptor.__get__"))) (htk : PySem.W.takesIn K (.builtin "object.__class__") = some true)
      (hm : PySem.W.mroIn K C (.type "object") = some true) : TyOf K H (.ref a) (.ref C)
theorem isinst_ok {x : V} {u t : Value} (I : Inv X pins σ H s) (rx : RelV x u) (ty : TyOf X.K H x t) (e : PySem.W.kitOne X.K t c = some b) (h : ∀ tk, Q (.bool b) { s with toks := tk }) :
    wpAny (model X.prog X.w) A (call (.builtin "isinstance") [u, c]) Q E s := by
  cases ty with
  | non => cases (show u = Value.none from rx); exact PySem.W.kia_one PySem.W.kitx_none I.kIn True.intro e (fun z => nomatch z) h
  | bl y => cases (show u = Value.bool y from rx); exact PySem.W.kia_one PySem.W.kitx_bool I.kIn True.intro e (fun z => nomatch z) h
  | int i => obtain ⟨t, q⟩ := (show ∃ t, u = Value.int i t from rx); cases q; exact PySem.W.kia_one PySem.W.kitx_int I.kIn True.intro e (fun z => nomatch z) h
  | str y => obtain ⟨t, q⟩ := (show ∃ t, u = Value.str y t from rx); cases q; exact PySem.W.kia_one PySem.W.kitx_str I.kIn True.intro e (fun z => nomatch z) h
  | flt y => obtain ⟨t, q⟩ := (show ∃ t, u = Value.float y t from rx); cases q; exact PySem.W.kia_one PySem.W.kitx_float I.kIn True.intro e (fun z => nomatch z) h
  | @lst a xs ea =>
    cases (show u = Value.ref a from rx)
    obtain ⟨_, _, n, _, h1⟩ := (show ObjOk X.prog X.w H s.heap a (.lst xs) from I.hok a _ ea)
    exact PySem.W.kia_one PySem.W.kitx_list I.kIn ⟨_, h1, rfl⟩ e (fun z => nomatch z) h
  | @frz a ob xs ea =>
    cases (show u = Value.ref a from rx)
    obtain ⟨_, _, _, n, _, h1⟩ := (show ObjOk X.prog X.w H s.heap a (.frz ob (.lst xs)) from I.hok a _ ea)
    exact PySem.W.kia_one PySem.W.kitx_list I.kIn ⟨_, h1, rfl⟩ e (fun z => nomatch z) h
  | @tup a xs ea =>
    cases (show u = Value.ref a from rx)
    obtain ⟨_, _, _, p⟩ := (show ObjOk X.prog X.w H s.heap a (.tup xs) from I.hok a _ ea)
    obtain ⟨o, h1, h2, _⟩ := p
    exact PySem.W.kia_one PySem.W.kitx_tuple I.kIn ⟨o, h1, h2⟩ e (fun z => nomatch z) h
  | @dK a kvs ea =>
    cases (show u = Value.ref a from rx)
    obtain ⟨_, _, vs, _, p⟩ := (show ObjOk X.prog X.w H s.heap a (.dK kvs) from I.hok a _ ea)
    obtain ⟨o, es, ep, h1, h2, _⟩ := p
    exact PySem.W.kia_one PySem.W.kitx_dict I.kIn ⟨o, h1, h2.1⟩ e (fun z => nomatch z) h
  | @dT a kvs ea =>
    cases (show u = Value.ref a from rx)
    obtain ⟨_, _, xs, _, o, es, ep, h1, h2, _⟩ := (show ObjOk X.prog X.w H s.heap a (.dT kvs) from I.hok a _ ea)
    exact PySem.W.kia_one PySem.W.kitx_dict I.kIn ⟨o, h1, h2.1⟩ e (fun z => nomatch z) h
  | @ins a C dx fs ea cl ha hn htk hm =>
    cases (show u = Value.ref a from rx)
    obtain ⟨mA, O, _⟩ := ins_get I.hok ea
    obtain ⟨od, J, _⟩ := O.look
    exact PySem.W.kia_one (PySem.W.kitx_own (cl.get _) cl.hd ha hn htk hm) I.kIn J e (fun z => nomatch z) h
end
end L2

namespace L2
open PySem PySem.Spec PyProof.Rows

structure Room (k : Nat) (A : Around) : Prop where
  hd : A.handled = none
  dp : A.depth + 3 * k + 5 < recursionLimit
  un : A.units + 16 * k + 200 < cLine
theorem Room.mono {j k : Nat} {A : Around} (r : Room k A) (h : j ≤ k) : Room j A := ⟨r.hd, by have := r.dp; omega, by have := r.un; omega⟩
theorem Room.deeper {k : Nat} {A : Around} (r : Room (k + 1) A) (env : Env) : Room k (A.deeper env) :=
  ⟨r.hd, by have := r.dp; show A.depth + 1 + 3 * k + 5 < _; (first | lia | omega), by have := r.un; show A.units + 3 + 16 * k + 200 < _; (first | lia | omega)⟩
theorem Room.depth {k : Nat} {A : Around} (r : Room k A) : A.depth < recursionLimit := by have := r.dp; (first | lia | omega)
theorem Room.units {k : Nat} {A : Around} (r : Room k A) : A.units + 64 < cLine := by have := r.un; (first | lia | omega)
noncomputable def tNil : TA := fun _ H Q => Q [] H
noncomputable def tCons (ta : TE) (tr : TA) : TA := fun σ H Q => ta σ H fun x H1 => tr σ H1 fun xs H2 => Q (x :: xs) H2
section
variable {X : Cx} {e : Expr} {es : List Expr} {te : TE} {t : TA} {pos : Pos}
theorem pa_nil : PA X [] tNil := fun _ _ _ _ H Q I h => Calls.spliced_nil ⟨[], H, I, .nil, h⟩
theorem pa_cons (ha : PE X e te) (hr : PA X es t) (hs : starEach (e :: es) X.env = (false, eval e X.env) :: starEach es X.env := by rfl) : PA X (e :: es) (tCons te t) := by
  intro pos pins s σ H Q I h
  rw [hs]
  show wpAny _ _ (spliced ((false, eval e X.env) :: backTo pos (starEach es X.env))) _ _ s
  refine Calls.spliced_cons (thn (ha pins s σ H _ I h) fun u s1 ⟨x, H1, I1, r1, q1⟩ => ?_)
  exact thn (hr pos pins s1 σ H1 _ I1 q1) fun us s2 ⟨xs, H2, I2, r2, q2⟩ => ⟨x :: xs, H2, I2, .cons r1 r2, q2⟩

noncomputable def tTup (t : TA) : TE := fun σ H Q => t σ H fun xs H1 => xs.length ≤ sizeLine ∧ ∀ p, H1 p = none → Q (.ref p) (upd H1 p (.tup xs))
noncomputable def tLst (t : TA) : TE := fun σ H Q => t σ H fun xs H1 => xs.length ≤ sizeLine ∧ ∀ p, H1 p = none → Q (.ref p) (upd H1 p (.lst xs))
theorem pe_tup {x1} (h : PA X es t) : PE X (.Tuple es x1 pos) (tTup t) := by
  intro pins s σ H Q I hq
  refine wpAny_Tuple_spliced (thn (h pos pins s σ H _ I hq) fun us s1 ⟨xs, H1, I1, r, z, q⟩ => ⟨by rw [← r.length]; exact z, ?_⟩)
  have hf : H1 s1.heap.objs.size = none := I1.hok.fresh (Nat.le_refl _)
  refine ⟨.ref s1.heap.objs.size, upd H1 s1.heap.objs.size (.tup xs), I1.laid (t' := s1.toks) (fun b u e => Heap.get?_push_of_some _ e) (Nat.le_refl _) ?_, rfl, q _ hf⟩
  exact ⟨z, us, r, ⟨_, Heap.get?_push_size _ rfl, rfl, _, rfl⟩⟩
theorem pe_lst (h : PA X es t) : PE X (.List es pos) (tLst t) := by
  intro pins s σ H Q I hq
  refine wpAny_List_spliced (thn (h pos pins s σ H _ I hq) fun us s1 ⟨xs, H1, I1, r, z, q⟩ => ⟨by rw [← r.length]; exact z, ?_⟩)
  have hf : H1 s1.heap.objs.size = none := I1.hok.fresh (Nat.le_refl _)
  refine ⟨.ref s1.heap.objs.size, upd H1 s1.heap.objs.size (.lst xs), I1.laid (t' := s1.toks) (fun b u e => Heap.get?_push_of_some _ e) (Nat.le_refl _) ?_, rfl, q _ hf⟩
  exact ⟨z, us, 0, r, Heap.get?_push_size _ rfl⟩
end

noncomputable abbrev Sp := List V → Hp → VK → XK → Prop
noncomputable abbrev CXT := List Env → Hp → Shared → XK → Value → Shared → Prop

structure Env0 (P : Program) (w : World) (K : PySem.W.Frag) (mg : Str → Option Value) (base : Heap) (A : Around) (outer : List Env) (s : Shared) (H : Hp) : Prop where
  frames : A.frames = some outer
  mod : Mod K mg base
  bs : ∀ b o, base.get? b = some o → s.heap.get? b = some o ∧ H b = none
  bsz : base.objs.size ≤ s.heap.objs.size
  funs : s.heap.FunFrames base outer
  frf : ∀ b ∈ frs outer, H b = none
  hok : HOk P w H s.heap
  bare : AllBare s.gens
noncomputable def CE (outer : List Env) (P : Program) (w : World) (H : Hp) (s : Shared) (Q : VK) (u : Value) (s' : Shared) : Prop :=
  ∃ v H', s'.os = s.os ∧ AllBare s'.gens ∧ Un (frs outer) [] H H' s.heap s'.heap ∧ HOk P w H' s'.heap ∧ RelV v u ∧ Q v H'
noncomputable def CR (CX : CXT) (outer : List Env) (P : Program) (w : World) (H : Hp) (s : Shared) (Q : VK) (E : XK) (r : Result) (s' : Shared) : Prop :=
  match r with
  | .ok (.ret u) => CE outer P w H s Q u s'
  | .ok _ => False
  | .error e => CX outer H s E e s'
structure FnOk (P : Program) (w : World) (K : PySem.W.Frag) (mg : Str → Option Value) (base : Heap) (CX : CXT) (k : Nat) (f : Addr) (fd : FuncData) (ps : List Str) (sp : Sp) : Prop where
  len : ∀ vs H Q E, sp vs H Q E → vs.length = ps.length
  run : ∀ (A : Around) (outer : List Env) (s : Shared) (H : Hp) (args : Args) (us : List Value) (vs : List V) (Q : VK) (E : XK), Room k A → Env0 P w K mg base A outer s H → BindsTo s fd args (ps.zip us) → Vals vs us → sp vs H Q E →
    codeAny (model P w) A (.call (.ref f) args) (CR CX outer P w H s Q E) s
theorem FnOk.mono {P : Program} {w : World} {K : PySem.W.Frag} {mg : Str → Option Value} {base : Heap} {CX : CXT} {j k : Nat} {f : Addr} {fd : FuncData} {ps : List Str} {sp : Sp} (F : FnOk P w K mg base CX j f fd ps sp) (h : j ≤ k) :
    FnOk P w K mg base CX k f fd ps sp := ⟨F.len, fun A outer s H args us vs Q E hr => F.run A outer s H args us vs Q E (hr.mono h)⟩
theorem FnOk.imp {P : Program} {w : World} {K : PySem.W.Frag} {mg : Str → Option Value} {base : Heap} {CX : CXT} {k : Nat} {f : Addr} {fd : FuncData} {ps : List Str} {sp sp' : Sp} (F : FnOk P w K mg base CX k f fd ps sp)
    (h : ∀ vs H Q E, sp' vs H Q E → sp vs H Q E) : FnOk P w K mg base CX k f fd ps sp' :=
  ⟨fun vs H Q E q => F.len vs H Q E (h _ _ _ _ q), fun A outer s H args us vs Q E hr he hb hv hs => F.run A outer s H args us vs Q E hr he hb hv (h _ _ _ _ hs)⟩

section
variable {X : Cx} {pins : List (Addr × Obj)} {σ : St} {H : Hp} {s s' : Shared}
theorem Inv.env0 (I : Inv X pins σ H s) : Env0 X.prog X.w X.K X.mg X.base X.A X.stack s H :=
  ⟨I.ok.frames, I.ok.mod, I.bs, Nat.le_trans I.ok.bsz I.sz, I.stack, I.stkFree, I.hok, I.bare⟩
theorem Inv.after {Q : VK} {u : Value} (I : Inv X pins σ H s) (h : CE X.stack X.prog X.w H s Q u s') : EP X pins σ Q u s' := by
  obtain ⟨v, H', os, bare, un, hok, r, q⟩ := h
  obtain ⟨hh, g, d, t, os'⟩ := s'
  obtain rfl : os' = s.os := os
  exact ⟨v, H', I.call (h' := hh) (g' := g) (d' := d) (t' := t) (ch := []) un hok bare (fun b z => absurd z (by simp)), r, q⟩
end

noncomputable def tCall (sp : Sp) (dvs : List V) (E : XK) (t : TA) : TE := fun σ H Q => t σ H fun vs H1 => sp (vs ++ dvs) H1 Q E
noncomputable def Binds (K : PySem.W.Frag) (fd : FuncData) (ps : List Str) (ds : List Value) : Prop :=
  ∀ (s : Shared) (us : List Value), K.In s.heap → (us ++ ds).length = ps.length → BindsTo s fd ⟨us, []⟩ (ps.zip (us ++ ds))
theorem Binds.all {K : PySem.W.Frag} {fd : FuncData} {ps : List Str} (h : ∀ us : List Value, us.length = ps.length → bindArgs fd ⟨us, []⟩ = pure (ps.zip us)) : Binds K fd ps [] := fun s us _ hl => by
  rw [List.append_nil] at hl ⊢
  exact .of_eq (h us hl)

noncomputable def Passes (CX : CXT) (X : Cx) (E : XK) : Prop := ∀ (pins : List (Addr × Obj)) (σ : St) (H : Hp) (s : Shared) (e : Value) (s' : Shared), Inv X pins σ H s → CX X.stack H s E e s' → X.xe e s'

section
variable {X : Cx} {CX : CXT} {k : Nat} {f C : Addr} {fd : FuncData} {ps : List Str} {sp : Sp} {dvs : List V} {ds : List Value} {E : XK} {x m : Str} {p pos apos : Pos} {e o : Expr} {es : List Expr} {ta : TE} {t : TA}

theorem run_fn {pins : List (Addr × Obj)} {σ : St} {H : Hp} {s : Shared} {Q : VK} {us : List Value} {vs : List V} (F : FnOk X.prog X.w X.K X.mg X.base CX k f fd ps sp) (hr : Room k X.A) (hb : Binds X.K fd ps ds) (hd : Vals dvs ds) (hx : Passes CX X E)
    (I : Inv X pins σ H s) (r : Vals vs us) (h : sp (vs ++ dvs) H Q E) : wpAny (model X.prog X.w) X.A (call (.ref f) us) (EP X pins σ Q) X.xe s := by
  have r2 : Vals (vs ++ dvs) (us ++ ds) := r.append hd
  have hl : (us ++ ds).length = ps.length := by rw [← r2.length]; exact F.len _ _ _ _ h
  refine wpAny_call (codeAny_mono (F.run X.A X.stack s H ⟨us, []⟩ (us ++ ds) (vs ++ dvs) Q E hr I.env0 (hb s us I.kIn hl) r2 h) fun r s' hq => ?_)
  cases r with
  | error e => exact hx pins σ H s e s' I hq
  | ok fl =>
    cases fl with
    | ret u => exact I.after hq
    | next => exact False.elim hq
    | brk => exact False.elim hq
    | cont => exact False.elim hq

theorem pe_call (F : FnOk X.prog X.w X.K X.mg X.base CX k f fd ps sp) (hr : Room k X.A) (hg : Gl X x) (hm : X.mg x = some (.ref f)) (hk : PySem.W.keepIn X.K (.ref f) = true) (hb : Binds X.K fd ps ds) (hd : Vals dvs ds) (hx : Passes CX X E)
    (ha : PA X (e :: es) t) (hdb : (x == ("__debug__" : Str)) = false := by decide) (he : starEach (e :: es) X.env = (false, eval e X.env) :: starEach es X.env := by rfl) (hpl : (backTo pos (starEach es X.env)).any (·.1) = false := by rfl) :
    PE X (.Call (.Name x p) (e :: es) [] pos) (tCall sp dvs E t) := by
  intro pins s σ H Q I h
  refine wpAny_Call_Name_kw (ld_glob I hg hm ?_ hdb)
  refine PySem.W.callWith_K (h₀ := X.base) I.ok.mod.kin hk (thn (ha pos pins s σ H _ I h) fun us s1 ⟨vs, H1, I1, r, q⟩ => ⟨I1.kIn, ?_⟩) he hpl
  exact run_fn F hr hb hd hx I1 r q
structure Mk (K : PySem.W.Frag) (C f : Addr) : Prop where
  makes : PySem.W.makesIn K C = true
  init : PySem.W.findIn K (.ref C) "__init__" = some (some (.ref f))
  fn : PySem.W.isFn K (.ref f) = true
  kp : PySem.W.keepIn K (.ref C) = true

end

section
variable {X : Cx} {CX : CXT} {k : Nat} {f C : Addr} {fd : FuncData} {ps ks : List Str} {sp : Sp} {E : XK} {x m : Str} {p pos apos kpos : Pos} {e o : Expr} {es : List Expr} {kws : List Keyword} {te ta : TE} {t tk : TA} {nm : Option Str}
structure KBinds (K : PySem.W.Frag) (fd : FuncData) (ps ks : List Str) (g : List Value → List Value → List Value) (gV : List V → List V → List V) : Prop where
  to : ∀ (s : Shared) (us ws : List Value), K.In s.heap → (g us ws).length = ps.length → BindsTo s fd ⟨us, ks.zip ws⟩ (ps.zip (g us ws))
  rel : ∀ {vs : List V} {us : List Value} {zs : List V} {ws : List Value}, Vals vs us → Vals zs ws → Vals (gV vs zs) (g us ws)
variable {g : List Value → List Value → List Value} {gV : List V → List V → List V}
end

structure FnScope (N P : List Str) (sc : Scope) : Prop where
  kind : sc.kind = .function
  co : sc.isCoroutine = false
  gen : sc.isGenerator = false
  nd : N.Nodup
  pre : N.take P.length = P
  par : ∀ x ∈ P, sc.names.lookup x = some .local ∨ sc.names.lookup x = some .cell
  nofree : ∀ y ∈ sc.names, y.2 ≠ .free

theorem bindL_out {kindOf : Str → Option NameKind} {x : Str} : ∀ {binds : List (Str × Value)} {m : Str → Option Value}, (∀ v, (x, v) ∉ binds) → bindL kindOf binds m x = m x
  | [], _, _ => rfl
  | (n, v) :: r, m, h => by
    unfold bindL
    rw [bindL_out fun w hw => h w (List.mem_cons_of_mem _ hw)]
    split
    · have : x ≠ n := by rintro rfl; exact h v List.mem_cons_self
      simp [this]
    · rfl
theorem bindC_out {kindOf : Str → Option NameKind} {x : Str} : ∀ {binds : List (Str × Value)} {m : Str → Option Value}, (∀ v, (x, v) ∉ binds) → bindC kindOf binds m x = m x
  | [], _, _ => rfl
  | (n, v) :: r, m, h => by
    unfold bindC
    rw [bindC_out fun w hw => h w (List.mem_cons_of_mem _ hw)]
    split
    · rfl
    · have : x ≠ n := by rintro rfl; exact h v List.mem_cons_self
      simp [this]
theorem bindL_get {kindOf : Str → Option NameKind} {x : Str} {v : Value} : ∀ {P : List Str} {vs : List Value} {i : Nat} {m : Str → Option Value}, P.Nodup → P[i]? = some x → vs[i]? = some v → kindOf x = some .local →
    bindL kindOf (P.zip vs) m x = some v
  | [], _, _, _, _, h, _, _ => by simp at h
  | _ :: _, [], _, _, _, _, h, _ => by simp at h
  | p :: P, w :: vs, 0, m, nd, h1, h2, hk => by
    simp at h1 h2; subst h1; subst h2
    show bindL kindOf ((p, w) :: P.zip vs) m p = _
    unfold bindL
    rw [bindL_out fun v hv => (List.nodup_cons.mp nd).1 (List.of_mem_zip hv).1, if_pos hk]
    simp
  | p :: P, w :: vs, i + 1, m, nd, h1, h2, hk => by
    show bindL kindOf ((p, w) :: P.zip vs) m x = _
    unfold bindL
    exact bindL_get (i := i) (List.nodup_cons.mp nd).2 (by simpa using h1) (by simpa using h2) hk
theorem bindC_get {kindOf : Str → Option NameKind} {x : Str} {v : Value} : ∀ {P : List Str} {vs : List Value} {i : Nat} {m : Str → Option Value}, P.Nodup → P[i]? = some x → vs[i]? = some v → kindOf x ≠ some .local →
    bindC kindOf (P.zip vs) m x = some v
  | [], _, _, _, _, h, _, _ => by simp at h
  | _ :: _, [], _, _, _, _, h, _ => by simp at h
  | p :: P, w :: vs, 0, m, nd, h1, h2, hk => by
    simp at h1 h2; subst h1; subst h2
    show bindC kindOf ((p, w) :: P.zip vs) m p = _
    unfold bindC
    rw [bindC_out fun v hv => (List.nodup_cons.mp nd).1 (List.of_mem_zip hv).1, if_neg hk]
    simp
  | p :: P, w :: vs, i + 1, m, nd, h1, h2, hk => by
    show bindC kindOf ((p, w) :: P.zip vs) m x = _
    unfold bindC
    exact bindC_get (i := i) (List.nodup_cons.mp nd).2 (by simpa using h1) (by simpa using h2) hk

noncomputable def start (N : List Str) (vs : List V) : St := vs.map some ++ List.replicate (N.length - vs.length) none

noncomputable def cxOf (CX : CXT) (P : Program) (w : World) (K : PySem.W.Frag) (mg : Str → Option Value) (base : Heap) (N : List Str) (qual : Str) (scope : Scope) (f : Addr) (cd : Value) (A : Around) (outer : List Env) (s : Shared) (H : Hp) (E : XK) : Cx where
  prog := P
  w := w
  K := K
  mg := mg
  base := base
  A := A.deeper (envOfC qual scope s.heap.objs.size f cd)
  N := N
  s₀ := s
  H₀ := H
  env := envOfC qual scope s.heap.objs.size f cd
  outer := outer
  stack := envOfC qual scope s.heap.objs.size f cd :: outer
  ex := []
  calm := true
  fn := fun _ => true
  pn := []
  xe := fun e s' => wpAny (model P w) (A.deeper (envOfC qual scope s.heap.objs.size f cd)) (leaving (envOfC qual scope s.heap.objs.size f cd) e) (fun _ s'' => CX outer H s E e s'') (fun e' s'' => CX outer H s E e' s'') s'

theorem cell_has {sc : Scope} {n : Nat} {x : Str} (h : sc.names.lookup x = some .cell) : ∃ c, (cellsFrom n sc.names []).lookup x = some c := by
  have q := PySem.W.cellsFrom_some sc.names n [] (.inl h)
  exact Option.isSome_iff_exists.mp q

theorem inv_start {CX : CXT} {P : Program} {w : World} {K : PySem.W.Frag} {mg : Str → Option Value} {base : Heap} {N ps : List Str} {qual : Str} {scope : Scope} {f : Addr} {cd : Value} {A : Around} {outer : List Env} {s s1 : Shared} {H : Hp} {E : XK} {us : List Value} {vs : List V}
    (S : FnScope N ps scope) (hd : A.handled = none) (e0 : Env0 P w K mg base A outer s H) (hl : vs.length = ps.length) (r : Vals vs us)
    (x : InCallC s s.heap.objs.size (bindL (envOfC qual scope s.heap.objs.size f cd).kindOf (ps.zip us) fun _ => none) (cellsFrom (s.heap.objs.size + 1) scope.names []) (bindC (envOfC qual scope s.heap.objs.size f cd).kindOf (ps.zip us) fun _ => none) s1) :
    Inv (cxOf CX P w K mg base N qual scope f cd A outer s H E) [] (start N vs) H s1 := by
  have hpl : ps.length ≤ N.length := by have := congrArg List.length S.pre; rw [List.length_take] at this; (first | lia | omega)
  obtain ⟨h1, tk, rfl, hk⟩ := x.done
  have noA : ∀ b : Addr, b ∉ (cxOf CX P w K mg base N qual scope f cd A outer s H E).ex := fun b z => absurd (show b ∈ ([] : List Addr) from z) (by simp)
  refine ⟨⟨e0.mod, S.kind, rfl, rfl, Nat.le_refl _, fun y z c h1 h2 => ?_, fun y hy => ?_, fun y c _ h => ?_, fun _ => hd, Around.frames_deeper e0.frames, .inr ⟨rfl, rfl⟩, fun b z => absurd z (noA b), e0.bs, e0.bsz, fun b _ _ => noA b, fun b z => absurd z (noA b), e0.funs, e0.frf⟩,
    rfl, e0.bare, Un.kept hk, ⟨_, x.toInCall.ns, fun i y v h1 h2 h3 => ?_⟩, fun y c h => ⟨_, x.cell y c h⟩, e0.hok.fresh (Nat.le_refl _), fun y c h => ?_, fun p hp => absurd (show p ∈ ([] : List (Addr × Obj)) from hp) (by simp), e0.hok.kept hk, ?_⟩
  · exact name_of_addr x.apart (PySem.mem_of_lookup h1) (PySem.mem_of_lookup h2)
  · have hy : scope.names.lookup y = some .cell ∨ scope.names.lookup y = some .free := hy
    rcases hy with hy | hy
    · exact cell_has hy
    · exact absurd rfl (S.nofree _ (PySem.mem_of_lookup hy))
  · exact Nat.le_of_lt (x.above y c (PySem.mem_of_lookup h))
  · have hi : i < vs.length := by
      unfold start at h2
      by_cases hi : i < vs.length
      · exact hi
      · rw [List.getElem?_append_right (by simpa using hi)] at h2
        rw [List.getElem?_replicate] at h2
        split at h2 <;> cases h2
    have ha : vs[i]? = some v := by
      unfold start at h2
      rw [List.getElem?_append_left (by simpa using hi), List.getElem?_map] at h2
      cases e : vs[i]? with
      | none => rw [e] at h2; cases h2
      | some a => rw [e] at h2; cases h2; rfl
    obtain ⟨u, hu, rv⟩ := r.get ha
    have hp : ps[i]? = some y := by
      rw [← S.pre, List.getElem?_take_of_lt (by (first | lia | omega))]; exact h1
    have ndP : ps.Nodup := by rw [← S.pre]; exact S.nd.sublist (List.take_sublist _ _)
    refine ⟨u, rv, ?_⟩
    rcases S.par y (List.mem_of_getElem? hp) with k | k
    · exact .inl ⟨k, bindL_get ndP hp hu k⟩
    · obtain ⟨c, e⟩ := cell_has (n := s.heap.objs.size + 1) k
      refine .inr ⟨.inl k, c, e, ?_⟩
      have q := x.cell y c e
      rw [bindC_get ndP hp hu (by show scope.names.lookup y ≠ _; rw [k]; decide)] at q
      exact q
  · exact e0.hok.fresh (Nat.le_of_lt (x.above y c (PySem.mem_of_lookup h)))
  · unfold start
    show _ = N.length
    rw [List.length_append, List.length_map, List.length_replicate]
    (first | lia | omega)

theorem fn_of {CX : CXT} {P : Program} {w : World} {K : PySem.W.Frag} {mg : Str → Option Value} {base : Heap} {k : Nat} {f : Addr} {name qual : Str} {params : Arguments} {body : List Stmt} {scope : Scope} {dV kV doc pm cdv ct oc : Value} {an od : Option Addr}
    {osl : Array (Option Value)} {N ps : List Str} {sp : Sp} (lk : K.lookup f = some ⟨oc, od, .func (PySem.W.fnOf name qual params body scope dV kV doc pm an cdv ct), osl⟩) (hcd : PySem.W.codeIn K cdv qual = true) (S : FnScope N ps scope)
    (len : ∀ vs H Q E, sp vs H Q E → vs.length = ps.length)
    (hbody : ∀ (A : Around) (outer : List Env) (s : Shared) (H : Hp) (vs : List V) (Q : VK) (E : XK), Room k (A.deeper (envOfC qual scope s.heap.objs.size f cdv)) → sp vs H Q E →
      ∃ t, PSs (cxOf CX P w K mg base N qual scope f cdv A outer s H E) body t ∧ t { nx := fun _ H' => Q .non H', rt := Q } (start N vs) H) :
    FnOk P w K mg base CX (k + 1) f (PySem.W.fnOf name qual params body scope dV kV doc pm an cdv ct) ps sp := by
  refine ⟨len, fun A outer s H args us vs Q E hr e0 hb r hsp => ?_⟩
  have hl := len _ _ _ _ hsp
  have KX : K.In s.heap := e0.mod.kin.keeps fun b o e => (e0.bs b o e).1
  have lim : s.heap.NoLimit := e0.mod.nolimit.keeps fun b o e => (e0.bs b o e).1
  have hkind : ∀ y ∈ ps.zip us, scope.names.lookup y.1 = some .local ∨ (scope.names.lookup y.1 = some .cell ∧ ((cellsFrom (s.heap.objs.size + 1) scope.names []).lookup y.1).isSome = true) := fun ⟨n, v⟩ hy => by
    rcases S.par n (List.of_mem_zip hy).1 with q | q
    · exact .inl q
    · exact .inr ⟨q, PySem.W.cellsFrom_some _ _ _ (.inl q)⟩
  refine codeAny_call_function hr.depth (KX _ _ lk) rfl S.co S.gen rfl (PySem.W.codeRec_of KX hcd) (hb _ _ _ _ ?_)
  refine wpAny_newFunctionEnv_cells S.kind hkind fun env he s1 x => ?_
  subst he
  refine ⟨lim.keeps x.toInCall.keep, codeAny_func ?_⟩
  obtain ⟨t, ht, hq⟩ := hbody A outer s H vs Q E (hr.deeper _) hsp
  have I : Inv (cxOf CX P w K mg base N qual scope f cdv A outer s H E) [] (start N vs) H s1 := inv_start S hr.hd e0 hl r x
  refine wpAny_mono (ht [] s1 (start N vs) H _ I hq) (fun fl s' hs => ?_) fun e s' hs => hs
  have fin : ∀ {σ' : St} {H' : Hp} {v : V} {u : Value}, Inv (cxOf CX P w K mg base N qual scope f cdv A outer s H E) [] σ' H' s' → RelV v u → Q v H' → CE outer P w H s Q u s' :=
    fun {σ' H' v u} J rv q => ⟨v, H', J.os, J.bare, J.base, J.hok, rv, q⟩
  cases fl with
  | ret u =>
    obtain ⟨v, σ', H', J, rv, q⟩ := hs
    exact fin J rv q
  | next =>
    obtain ⟨σ', H', J, q⟩ := hs
    exact fin (v := V.non) (u := Value.none) J rfl q
  | brk =>
    obtain ⟨_, _, _, q⟩ := hs
    exact False.elim q
  | cont =>
    obtain ⟨_, _, _, q⟩ := hs
    exact False.elim q
end L2

namespace L2
open PySem PySem.Spec PyProof.Rows
section
variable {X : Cx} {x : Str} {p pos : Pos} {e : Expr} {es : List Expr} {t : TA} {id T : String} {r : List V → Hp → VK → Prop}

noncomputable def tCB (r : List V → Hp → VK → Prop) (t : TA) : TE := fun σ H Q => t σ H fun vs H1 => r vs H1 Q
theorem pe_callB (hc : CallR X (.builtin id) r) (hg : Gl X x) (hm : X.mg x = none) (hv : bootBuiltins x = some (.builtin id)) (ha : PA X (e :: es) t) (hn : x ≠ "__name__" := by decide) (hdb : (x == ("__debug__" : Str)) = false := by decide)
    (he : starEach (e :: es) X.env = (false, eval e X.env) :: starEach es X.env := by rfl) (hpl : (backTo pos (starEach es X.env)).any (·.1) = false := by rfl) : PE X (.Call (.Name x p) (e :: es) [] pos) (tCB r t) := by
  intro pins s σ H Q I h
  refine wpAny_Call_Name_kw (ld_blt I hg hm hv ?_ hn hdb)
  exact PyProof.Rows.callWith_builtin1 (thn (ha pos pins s σ H _ I h) fun us s1 ⟨vs, H1, I1, r1, q1⟩ => hc pins s1 σ H1 vs us Q I1 r1 q1) he hpl
end
end L2

namespace HT
open PySem PyProof.Rows

section
open PySem.SeqAt
open PySem.AutoSeq1 (wpAny_loadPart')
open PySem.MeetsSeq PySem.MeetsSeq2 PySem.MeetsSeq3

end

section
variable {prog : Program} {w : World} {A : Around} {E : Value → Shared → Prop} {s : Shared}

noncomputable def sIx (n d : Nat) : Option Int → Nat
  | none => d
  | some v => if v < 0 then (v + (n : Int)).toNat else min v.toNat n
theorem sIx_none (n d : Nat) : sIx n d none = d := rfl
theorem sIx_nat (n d k : Nat) : sIx n d (some (k : Int)) = min k n := by
  show (if (k : Int) < 0 then ((k : Int) + (n : Int)).toNat else min (k : Int).toNat n) = min k n
  rw [if_neg (by (first | lia | omega)), Int.toNat_natCast]
end
end HT

namespace L2
open PySem PySem.Spec PyProof.Rows

noncomputable abbrev TO := St → Hp → (Option Int → Hp → Prop) → Prop
noncomputable def PO (X : Cx) (e : Option Expr) (t : TO) : Prop :=
  ∀ (pins : List (Addr × Obj)) (s : Shared) (σ : St) (H : Hp) (Q : Option Int → Hp → Prop), Inv X pins σ H s → t σ H Q →
    wpAny (model X.prog X.w) X.A (evalPart e X.env) (fun u s' => ∃ o H', Inv X pins σ H' s' ∧ IsPart u o ∧ Q o H') X.xe s
noncomputable def tNoPart : TO := fun _ H Q => Q none H
noncomputable def tPart (t : TE) : TO := fun σ H Q => t σ H fun x H1 => ∃ i, x = .int i ∧ Q (some i) H1

theorem intsAre_of {ns : List Int} : ∀ {us : List Value}, Vals (ns.map V.int) us → IntsAre us ns := by
  induction ns with
  | nil => intro us r; rw [List.map_nil] at r; cases r; exact .nil
  | cons n ns ih =>
    intro us r
    rw [List.map_cons] at r
    cases r with
    | cons r1 r2 =>
      obtain ⟨t, e⟩ := r1
      subst e
      exact .cons n t (ih r2)

section
variable {X : Cx} {e : Expr} {te : TE} {lo hi : Option Expr} {tl th : TO} {pos p2 : Pos}

theorem po_none : PO X none tNoPart := by
  intro pins s σ H Q I h
  rw [evalPart_none]
  exact wpAny_pure ⟨none, H, I, .none, h⟩
theorem po_some (h : PE X e te) : PO X (some e) (tPart te) := by
  intro pins s σ H Q I hw
  rw [evalPart_some]
  refine thn (h pins s σ H _ I hw) fun u s1 ⟨x, H1, I1, r1, q1⟩ => ?_
  obtain ⟨i, rfl, q⟩ := q1
  obtain ⟨t, rfl⟩ := r1
  exact ⟨some i, H1, I1, .int i t, q⟩

noncomputable def SlR (X : Cx) (r : V → Option Int → Option Int → Hp → VK → Prop) : Prop :=
  ∀ (pins : List (Addr × Obj)) (s : Shared) (σ : St) (H : Hp) (x : V) (v vl vu : Value) (lo hi : Option Int) (sl : Addr) (Q : VK), Inv X pins σ H s → RelV x v → s.heap.IsSliceOf sl vl vu .none → IsPart vl lo → IsPart vu hi → r x lo hi H Q →
    ∃ T id, typeLookup (.type T) "__getitem__" = pure (some (.builtin id)) ∧ s.TypeIs v T ∧ wpAny (model X.prog X.w) X.A (getItem v (.ref sl)) (EP X pins σ Q) X.xe s
noncomputable def tSl (r : V → Option Int → Option Int → Hp → VK → Prop) (te : TE) (tl th : TO) : TE := fun σ H Q => te σ H fun x H1 => tl σ H1 fun l H2 => th σ H2 fun u H3 => r x l u H3 Q
theorem pe_slice {r : V → Option Int → Option Int → Hp → VK → Prop} (hr : SlR X r) (he : PE X e te) (hl : PO X lo tl) (hu : PO X hi th) : PE X (.Subscript e (.Slice lo hi none p2) pos) (tSl r te tl th) := by
  intro pins s σ H Q I h
  refine Subscript_ (thn (he pins s σ H _ I h) fun v s1 ⟨x, H1, I1, r1, q1⟩ => ?_)
  refine wpAny_Slice (thn (hl pins s1 σ H1 _ I1 q1) fun vl s2 ⟨l, H2, I2, pl, q2⟩ => thn (hu pins s2 σ H2 _ I2 q2) fun vu s3 ⟨u, H3, I3, pu, q3⟩ => ?_)
  rw [evalPart_none]
  refine wpAny_pure ?_
  have I4 : Inv X pins σ H3 { s3 with heap := s3.heap.push { cls := .type "slice", data := .fields #[vl, vu, .none] } } := I3.kept (t' := s3.toks) fun b ob q => Heap.get?_push_of_some _ q
  obtain ⟨T, id, hT, ht, hg⟩ := hr pins { s3 with heap := s3.heap.push { cls := .type "slice", data := .fields #[vl, vu, .none] } } σ H3 x v vl vu l u s3.heap.objs.size Q I4 r1 (Heap.IsSliceOf.new ..) pl pu q3
  show wpAny (model X.prog X.w) X.A (subscriptTail e (.Slice lo hi none p2) v (.ref s3.heap.objs.size)) (EP X pins σ Q) X.xe { s3 with heap := s3.heap.push { cls := .type "slice", data := .fields #[vl, vu, .none] } }
  exact tail_any (ops := [.ref s3.heap.objs.size, v]) ht hT hg (by with_unfolding_all rfl)

noncomputable def cutV (xs : List V) (lo hi : Option Int) : List V := (xs.drop (HT.sIx xs.length 0 lo)).take (HT.sIx xs.length xs.length hi - HT.sIx xs.length 0 lo)
theorem cutV_length (xs : List V) (lo hi : Option Int) : (cutV xs lo hi).length ≤ xs.length := by
  unfold cutV
  rw [List.length_take, List.length_drop]
  (first | lia | omega)
end
end L2

namespace L2
open PySem PySem.Spec PyProof.Rows

noncomputable def ixN (n : Nat) (i : Int) : Option Nat := if 0 ≤ i then (if i < n then some i.toNat else none) else if -(n : Int) ≤ i then some (i + n).toNat else none
noncomputable def atI {α : Type} (xs : List α) (i : Int) : Option α := (ixN xs.length i).bind fun j => xs[j]?
theorem ixN_seq {n : Nat} {i : Int} {j : Nat} (h : ixN n i = some j) : seqIndex? i n = some j ∧ j < n ∧ -(n : Int) ≤ i ∧ i < n := by
  unfold ixN at h
  by_cases h0 : 0 ≤ i
  · rw [if_pos h0] at h
    by_cases h1 : i < n
    · rw [if_pos h1] at h
      have e : i.toNat = j := Option.some.inj h
      exact ⟨by rw [seqIndex_of h0 h1, e], by (first | lia | omega), by (first | lia | omega), h1⟩
    · rw [if_neg h1] at h; cases h
  · rw [if_neg h0] at h
    by_cases h1 : -(n : Int) ≤ i
    · rw [if_pos h1] at h
      have e : (i + n).toNat = j := Option.some.inj h
      exact ⟨by rw [seqIndex_neg (by (first | lia | omega)) h1, e], by (first | lia | omega), h1, by (first | lia | omega)⟩
    · rw [if_neg h1] at h; cases h
theorem atI_get {α : Type} {xs : List α} {i : Int} {v : α} (h : atI xs i = some v) : ∃ j, seqIndex? i xs.length = some j ∧ xs[j]? = some v ∧ j < xs.length ∧ -(xs.length : Int) ≤ i ∧ i < xs.length := by
  unfold atI at h
  cases e : ixN xs.length i with
  | none => rw [e] at h; cases h
  | some j =>
    rw [e] at h
    obtain ⟨h1, h2, h3, h4⟩ := ixN_seq e
    exact ⟨j, h1, h, h2, h3, h4⟩
theorem atI_nat {α : Type} {xs : List α} {j : Nat} {v : α} (h : xs[j]? = some v) : atI xs (j : Int) = some v := by
  have hj : j < xs.length := (List.getElem?_eq_some_iff.mp h).1
  have e : ixN xs.length (j : Int) = some j := by
    unfold ixN
    rw [if_pos (by (first | lia | omega)), if_pos (by (first | lia | omega))]; simp
  unfold atI; rw [e]; exact h
theorem atI_last {α : Type} (xs : List α) (v : α) : atI (xs ++ [v]) (-1) = some v := by
  have hl : (xs ++ [v]).length = xs.length + 1 := by simp
  have e : ixN (xs ++ [v]).length (-1) = some xs.length := by
    unfold ixN
    rw [hl, if_neg (by decide), if_pos (by (first | lia | omega))]
    congr 1
    (first | lia | omega)
  unfold atI
  rw [e]
  show (xs ++ [v])[xs.length]? = some v
  simp

noncomputable def PlainIx (b : Expr) : Prop := ∀ o i, subscripted b false o i = operate [o, i] (getItem o i)
noncomputable def IxR (X : Cx) (r : R2) : Prop :=
  ∀ (value slice : Expr) (pins : List (Addr × Obj)) (s : Shared) (σ : St) (H : Hp) (x y : V) (v u : Value) (Q : VK), Inv X pins σ H s → RelV x v → RelV y u → r x y H Q →
    subscripted slice false v u = operate [v, u] (getItem v u) → wpAny (model X.prog X.w) X.A (subscriptTail value slice v u) (EP X pins σ Q) X.xe s
noncomputable def MtR (X : Cx) (id : String) (r : V → List V → Hp → VK → Prop) : Prop :=
  ∀ (pins : List (Addr × Obj)) (s : Shared) (σ : St) (H : Hp) (x : V) (xs : List V) (v : Value) (us : List Value) (Q : VK), Inv X pins σ H s → RelV x v → Vals xs us → r x xs H Q →
    wpAny (model X.prog X.w) X.A (call (.builtin id) (v :: us)) (EP X pins σ Q) X.xe s
section
variable {X : Cx} {a b : Expr} {ta tb : TE} {pos : Pos}
theorem pe_ix {r : R2} (hr : IxR X r) (ha : PE X a ta) (hb : PE X b tb) (hs : PlainIx b) : PE X (.Subscript a b pos) (tOp r ta tb) := by
  intro pins s σ H Q I h
  exact Subscript_ (binT ha hb I h fun v u s2 x y H2 I2 rx ry q => hr a b pins s2 σ H2 x y v u Q I2 rx ry q (hs _ _))

noncomputable def rIxL (K : PySem.W.Frag) : R2 := fun x y H Q => ∃ p xs i v, x = .ref p ∧ y = .int i ∧ SqL K H p xs ∧ atI xs i = some v ∧ Q v H
noncomputable def rIxS : R2 := fun x y H Q => ∃ z i c, x = .str z ∧ y = .int i ∧ z.length ≤ sizeLine ∧ atI z.cps.toList i = some c ∧ Q (.str ⟨#[c]⟩) H
theorem ix_list : IxR X (rIxL X.K) := by
  intro value slice pins s σ H x y v u Q I rx ry h hs
  obtain ⟨p, xs, i, z, rfl, rfl, hq, he, q⟩ := h
  cases rx
  obtain ⟨t, rfl⟩ := ry
  obtain ⟨its, r, pl, hz⟩ := I.list hq
  obtain ⟨j, h1, h2, h3, h4, h5⟩ := atI_get he
  obtain ⟨w, ew, rw'⟩ := r.get h2
  have hl := r.length
  have hn := line63
  have fin : EP X pins σ Q w s := ⟨z, H, I, rw', q⟩
  by_cases h0 : 0 ≤ i
  · have hj : i.toNat = j := by
      rw [seqIndex_of h0 h5] at h1
      exact Option.some.inj h1
    exact item_listR pl.isList h0 (by (first | lia | omega)) (by rw [hj]; simpa using ew) fin hs
  · have hj : (i + (its.toArray.size : Int)).toNat = j := by
      rw [seqIndex_neg (by (first | lia | omega)) h4] at h1
      rw [List.size_toArray, ← hl]
      exact Option.some.inj h1
    exact subscriptTail_builtinR (x := w) pl.isList.typeIs slot_list_getitem.lookup
      (wpAny_getItem_list_neg (Q := fun r s' => r = w ∧ EP X pins σ Q r s') pl.isList (by (first | lia | omega)) (by rw [List.size_toArray] <;> (first | lia | omega)) (by (first | lia | omega)) (by rw [hj]; simpa using ew) ⟨rfl, fin⟩) hs
theorem ix_str : IxR X rIxS := by
  intro value slice pins s σ H x y v u Q I rx ry h hs
  obtain ⟨z, i, c, rfl, rfl, hz, he, q⟩ := h
  obtain ⟨t, rfl⟩ := rx
  obtain ⟨t', rfl⟩ := ry
  obtain ⟨j, h1, h2, h3, h4, h5⟩ := atI_get he
  have hl : z.cps.toList.length = z.length := by simp [Str.length]
  rw [hl] at h1 h4 h5
  have hn := line63
  exact tail_any (typeIs_str s z t) slot_str_getitem.lookup (getItem_str (c := c) (by
    have e1 : decide (i < -(2 ^ 63 : Int)) = false := decide_eq_false (by (first | lia | omega))
    have e2 : decide (i ≥ 2 ^ 63) = false := decide_eq_false (by (first | lia | omega))
    rw [e1, e2, Bool.or_false]) (by rw [h1]; simpa using h2) ⟨.str ⟨#[c]⟩, H, I.tok _, ⟨_, rfl⟩, q⟩) hs
theorem slice_bounds (lo hi : Option Int) (n : Nat) : (sliceBounds lo hi none n).1 = ((HT.sIx n 0 lo : Nat) : Int) ∧ (sliceBounds lo hi none n).2.1 = ((HT.sIx n n hi : Nat) : Int) ∧ (sliceBounds lo hi none n).2.2 = 1 := by
  refine ⟨?_, ?_, rfl⟩
  · cases lo with
    | none => simp [sliceBounds, HT.sIx]
    | some i =>
      simp only [sliceBounds, HT.sIx, Option.getD_none, show (1 : Int) > 0 by decide, if_true]
      by_cases h : i < 0
      · simp only [h, if_true] <;> (first | lia | omega)
      · simp only [h, if_false] <;> (first | lia | omega)
  · cases hi with
    | none => simp [sliceBounds, HT.sIx]
    | some i =>
      simp only [sliceBounds, HT.sIx, Option.getD_none, show (1 : Int) > 0 by decide, if_true]
      by_cases h : i < 0
      · simp only [h, if_true] <;> (first | lia | omega)
      · simp only [h, if_false] <;> (first | lia | omega)
theorem slicePick_cut (its : List Value) (lo hi : Option Int) : slicePick its.toArray lo hi none = ((its.drop (HT.sIx its.length 0 lo)).take (HT.sIx its.length its.length hi - HT.sIx its.length 0 lo)).toArray := by
  obtain ⟨h1, h2, h3⟩ := slice_bounds lo hi its.toArray.size
  unfold slicePick
  rw [h1, h2, h3]
  simp only [sliceRange_one, pick_run, List.size_toArray] <;> rfl
noncomputable def rSlL (K : PySem.W.Frag) : V → Option Int → Option Int → Hp → VK → Prop := fun x lo hi H Q => ∃ a xs, x = .ref a ∧ SqL K H a xs ∧ ∀ p, H p = none → Q (.ref p) (upd H p (.lst (cutV xs lo hi)))
theorem sl_list : SlR X (rSlL X.K) := by
  intro pins s σ H x v vl vu lo hi sl Q I rx hs pl pu h
  obtain ⟨a, xs, rfl, hx, q⟩ := h
  cases rx
  obtain ⟨its, r, ht, hz⟩ := I.list hx
  have hlen := r.length
  refine ⟨"list", _, slot_list_getitem.lookup, ht.isList.typeIs, ?_⟩
  refine wpAny_getItem_list_slice ht.isList hs pl pu .none (by simp) ?_ (by rw [List.size_toArray] <;> (first | lia | omega))
  rw [slicePick_cut, ← hlen]
  refine ⟨.ref s.heap.objs.size, _, I.laid (t' := s.toks) (o := .lst (cutV xs lo hi)) (fun b ob q => Heap.get?_push_of_some _ q) (Nat.le_refl _) ?_, rfl, q _ (I.hok.fresh (Nat.le_refl _))⟩
  exact ⟨Nat.le_trans (cutV_length xs lo hi) hz, _, 0, (r.drop (HT.sIx xs.length 0 lo)).take (HT.sIx xs.length xs.length hi - HT.sIx xs.length 0 lo), Heap.get?_push_size _ rfl⟩

theorem call_len_seq : CallR X (.builtin "len") (fun xs H Q => ∃ p ys, xs = [.ref p] ∧ (SqL X.K H p ys ∨ SqT X.K H p ys) ∧ Q (.int ys.length) H) := by
  intro pins s σ H xs us Q I r h
  obtain ⟨p, ys, rfl, hq, q⟩ := h
  obtain ⟨u, rfl, rx⟩ := vals1 r
  cases rx
  have hn := line63
  rcases hq with hq | hq
  · obtain ⟨its, r', pl, hz⟩ := I.list hq
    have hlen := r'.length
    exact Calls.call_len_list pl.isList (by simp only [List.size_toArray] <;> (first | lia | omega)) ⟨.int ys.length, H, I.tok _, ⟨s.toks + 1, by rw [List.size_toArray, hlen]⟩, q⟩
  · obtain ⟨its, r', pl, hz⟩ := I.tuple hq
    have hlen := r'.length
    exact len_tuple pl (by simp only [List.size_toArray] <;> (first | lia | omega)) ⟨.int ys.length, H, I.tok _, ⟨s.toks + 1, by rw [List.size_toArray, hlen]⟩, q⟩
noncomputable def tyV (K : PySem.W.Frag) (T : String) (x : V) (H : Hp) : Prop := match x with
  | .str _ => T = "str"
  | .int _ => T = "int"
  | .ref p => (T = "list" ∧ ∃ xs, SqL K H p xs) ∨ (T = "tuple" ∧ ∃ o, K.lookup p = some o ∧ o.cls = .type "tuple" ∧ o.dict = none) ∨
      (T = "dict" ∧ ((∃ kvs, H p = some (.dK kvs)) ∨ ∃ kvs, H p = some (.dT kvs))) ∨ (T = "set" ∧ ∃ S n, H p = some (.set S n))
  | _ => False
theorem tyV_is {pins : List (Addr × Obj)} {σ : St} {H : Hp} {s : Shared} {T : String} {x : V} {v : Value} (I : Inv X pins σ H s) (r : RelV x v) (ty : tyV X.K T x H) :
    s.TypeIs v T ∧ ∀ a, v = .ref a → ∃ ob, s.heap.get? a = some ob ∧ ob.dict = none := by
  cases x with
  | str z =>
    obtain ⟨t, rfl⟩ := r
    cases (show T = "str" from ty)
    exact ⟨typeIs_str s z t, fun _ e => nomatch e⟩
  | int i =>
    obtain ⟨t, rfl⟩ := r
    cases (show T = "int" from ty)
    exact ⟨typeIs_int s i t, fun _ e => nomatch e⟩
  | ref p =>
    cases r
    rcases ty with ⟨rfl, xs, hq⟩ | ⟨rfl, o, hk, hc, hd⟩ | ⟨rfl, hk⟩ | ⟨rfl, S, n, hk⟩
    · obtain ⟨its, _, pl, _⟩ := I.list hq
      refine ⟨pl.isList.typeIs, fun a e => ?_⟩
      cases e
      obtain ⟨o, n, e, c, hd, _⟩ := pl
      exact ⟨o, e, hd⟩
    · refine ⟨⟨o, I.kIn p o hk, hc⟩, fun a e => ?_⟩
      cases e
      exact ⟨o, I.kIn _ o hk, hd⟩
    · have z : ∃ o, s.heap.get? p = some o ∧ o.ExactDict := by
        rcases hk with ⟨kvs, hk⟩ | ⟨kvs, hk⟩
        · obtain ⟨_, _, _, _, o, _, _, e, ex, _⟩ := I.hok p _ hk
          exact ⟨o, e, ex⟩
        · obtain ⟨_, _, _, _, o, _, _, e, ex, _⟩ := I.hok p _ hk
          exact ⟨o, e, ex⟩
      obtain ⟨o, e, ex⟩ := z
      refine ⟨⟨o, e, ex.1⟩, fun a e2 => ?_⟩
      cases e2
      exact ⟨o, e, ex.2.1⟩
    · obtain ⟨o, _, _, _, e, ex, _⟩ := I.hok p _ hk
      refine ⟨⟨o, e, ex.1⟩, fun a e2 => ?_⟩
      cases e2
      exact ⟨o, e, ex.2.1⟩
  | _ => exact False.elim ty
noncomputable def tBM0 (K : PySem.W.Frag) (T : String) (r : V → List V → Hp → VK → Prop) (to : TE) : TE := fun σ H Q => to σ H fun x H1 => tyV K T x H1 ∧ r x [] H1 Q
noncomputable def tBM (K : PySem.W.Frag) (T : String) (r : V → List V → Hp → VK → Prop) (to : TE) (t : TA) : TE := fun σ H Q => to σ H fun x H1 => tyV K T x H1 ∧ t σ H1 fun xs H2 => r x xs H2 Q
variable {o e : Expr} {es : List Expr} {to : TE} {t : TA} {name : Str} {apos cpos : Pos} {T id : String} {r : V → List V → Hp → VK → Prop}
theorem pe_bm0 (pa : PlainAttrs T) (slot : Slot T name id) (hty : typeOf (.builtin id) = pure (.type "method_descriptor")) (hm : MtR X id r) (ho : PE X o to)
    (hbase : attributeBase o name X.env (eval o X.env) = eval o X.env := by rfl) (hline : (apos.endLine == cpos.line) = true := by rfl) : PE X (.Call (.Attribute o name apos) [] [] cpos) (tBM0 X.K T r to) := by
  intro pins s σ H Q I h
  refine wpAny_Call_method0_late hbase hline (thn (ho pins s σ H _ I h) fun v s1 ⟨x, H1, I1, r1, ty, q1⟩ => ?_)
  obtain ⟨h1, h2⟩ := tyV_is I1 r1 ty
  exact ⟨T, id, pa, slot, hty, h1, h2, Calls.callWith_builtin rfl (PySem.evalArgs_none (hm pins s1 σ H1 x [] v [] Q I1 r1 .nil q1))⟩
theorem pe_bm (pa : PlainAttrs T) (slot : Slot T name id) (hty : typeOf (.builtin id) = pure (.type "method_descriptor")) (hm : MtR X id r) (ho : PE X o to) (ha : PA X (e :: es) t)
    (hbase : attributeBase o name X.env (eval o X.env) = eval o X.env := by rfl)
    (hfew : ((backTo cpos (starEach (e :: es) X.env)).all (fun x => !x.1) && (backToKw cpos (keywordEach [] X.env)).all (fun x => x.1.isSome)
      && decide ((e :: es).length + ([] : List Keyword).length + (if ([] : List Keyword).isEmpty then 0 else 1) < 30)) = true := by rfl)
    (hline : (apos.endLine == cpos.line) = true := by rfl) (hs : starEach (e :: es) X.env = (false, eval e X.env) :: starEach es X.env := by rfl) (hplain : (backTo cpos (starEach es X.env)).any (·.1) = false := by rfl) :
    PE X (.Call (.Attribute o name apos) (e :: es) [] cpos) (tBM X.K T r to t) := by
  intro pins s σ H Q I h
  refine wpAny_Call_method_late hbase hfew hline rfl (thn (ho pins s σ H _ I h) fun v s1 ⟨x, H1, I1, r1, ty, q1⟩ => ?_)
  obtain ⟨h1, h2⟩ := tyV_is I1 r1 ty
  refine ⟨T, id, pa, slot, hty, h1, h2, ?_⟩
  have hA := ha cpos pins s1 σ H1 _ I1 q1
  rw [hs] at hA ⊢
  refine Calls.callWith_builtin (by show (false || (backTo cpos (starEach es X.env)).any (·.1)) = false; rw [hplain] <;> rfl) (Calls.evalArgs_plain ?_)
  exact thn hA fun us s2 ⟨vs, H2, I2, r2, q2⟩ => hm pins s2 σ H2 x vs v us Q I2 r1 r2 q2
end
end L2

namespace L2
open PySem PySem.Spec PyProof.Rows

noncomputable def MtM (X : Cx) (id : String) (r : V → List V → Hp → VK → Prop) : Prop :=
  ∀ (pins : List (Addr × Obj)) (s : Shared) (σ : St) (H : Hp) (x : V) (xs : List V) (v : Value) (us : List Value) (Q : VK), Inv X pins σ H s → RelV x v → Vals xs us → r x xs H Q →
    wpAny (model X.prog X.w) X.A (call (.builtin id) (v :: us)) (EP X pins σ Q) X.xe s

theorem Vals.one : ∀ {x : V} {us : List Value}, Vals [x] us → ∃ u, us = [u] ∧ RelV x u
  | _, _, .cons r .nil => ⟨_, rfl, r⟩
theorem Vals.zero : ∀ {us : List Value}, Vals [] us → us = []
  | _, .nil => rfl
theorem Vals.dropLast {xs : List V} {us : List Value} (h : Vals xs us) : Vals xs.dropLast us.dropLast := by
  induction h with
  | nil => exact .nil
  | cons r t ih =>
    cases t with
    | nil => exact .nil
    | cons q t' => exact .cons r ih
theorem Vals.reverse {xs : List V} {us : List Value} (h : Vals xs us) : Vals xs.reverse us.reverse := by
  induction h with
  | nil => exact .nil
  | cons r t ih => rw [List.reverse_cons, List.reverse_cons]; exact Vals.append ih (.cons r .nil)
theorem erase_last {α : Type} (l : List α) : l.eraseIdx (l.length - 1) = l.dropLast := by
  induction l with
  | nil => rfl
  | cons a r ih =>
    cases r with
    | nil => rfl
    | cons b r =>
      have e : (a :: b :: r).length - 1 = ((b :: r).length - 1) + 1 := by
        have h1 : (a :: b :: r).length = r.length + 2 := rfl
        have h2 : (b :: r).length = r.length + 1 := rfl
        (first | lia | omega)
      rw [e, List.eraseIdx_cons_succ, ih]
      all_goals rfl
section
variable {X : Cx} {pins : List (Addr × Obj)} {σ : St} {H : Hp} {s : Shared} {l b : Addr} {xs ys zs : List V}

theorem Inv.lset {its its' : List Value} {n : Nat} {f : Array Value → Array Value} {t' : Nat} (I : Inv X pins σ H s) (hH : H l = some (.lst xs))
    (e : s.heap.get? l = some { cls := .type "list", data := .seq its.toArray n }) (hf : f its.toArray = its'.toArray) (hv : Vals ys its') (hz : ys.length ≤ sizeLine) :
    Inv X pins σ (upd H l (.lst ys)) { s with heap := s.heap.update l (Obj.mapSeq f), toks := t' } := by
  have q := PySem.IsL.update e f
  rw [hf] at q
  refine I.write (x := l) (e := l) (by rw [hH]; exact trivial) (.inl rfl) (fun b' u hb hu => (Heap.get?_update_other s.heap (Obj.mapSeq f) (Ne.symm hb)).trans hu) ⟨_, q⟩ ?_
  exact ⟨hz, its', _, hv, q⟩
theorem Inv.lnew {its : List Value} {t' : Nat} (I : Inv X pins σ H s) (hv : Vals ys its) (hz : ys.length ≤ sizeLine) :
    Inv X pins σ (upd H s.heap.objs.size (.lst ys)) { s with heap := s.heap.push { cls := .type "list", data := .seq its.toArray }, toks := t' } :=
  I.laid (fun _ _ q => Heap.get?_push_of_some _ q) (Nat.le_refl _) ⟨hz, its, 0, hv, Heap.get?_push_size _ rfl⟩
theorem Inv.fresh (I : Inv X pins σ H s) : H s.heap.objs.size = none := I.hok.fresh (Nat.le_refl _)
theorem Inv.lstM (I : Inv X pins σ H s) (hH : H l = some (.lst xs)) : xs.length ≤ sizeLine ∧ ∃ (its : List Value) (n : Nat), Vals xs its ∧ xs.length = its.length ∧ s.heap.get? l = some { cls := .type "list", data := .seq its.toArray n } := by
  obtain ⟨z, its, n, r, e⟩ := I.hok l _ hH
  exact ⟨z, its, n, r, r.length, e⟩

end

section
variable {X : Cx}

noncomputable def rAppend : V → List V → Hp → VK → Prop := fun x vs H Q => ∃ l xs y, x = .ref l ∧ vs = [y] ∧ H l = some (.lst xs) ∧ xs.length < sizeLine ∧ Q .non (upd H l (.lst (xs ++ [y])))
theorem mt_append : MtM X "list.append" rAppend := by
  intro pins s σ H x vs v us Q I rx rv h
  obtain ⟨l, xs, y, rfl, rfl, hH, hz, q⟩ := h
  cases rx
  obtain ⟨u, rfl, ru⟩ := rv.one
  obtain ⟨z, its, n, r, hl, e⟩ := I.lstM hH
  refine call_meets F.slot_list_append ⟨_, e, rfl⟩ F.entry_list_append (F.args_list_append_2 _ _) (PySem.list_append l its.toArray n u (by rw [List.size_toArray]; (first | lia | omega))) ⟨e, ?_⟩
  refine ⟨.non, _, I.lset (its' := its ++ [u]) hH e (by simp) (r.append (.cons ru .nil)) ?_, rfl, q⟩
  rw [List.length_append, List.length_singleton]
  (first | lia | omega)

noncomputable def rPop : V → List V → Hp → VK → Prop := fun x vs H Q => ∃ l xs y, x = .ref l ∧ vs = [] ∧ H l = some (.lst xs) ∧ xs[xs.length - 1]? = some y ∧ Q y (upd H l (.lst xs.dropLast))
theorem mt_pop : MtM X "list.pop" rPop := by
  intro pins s σ H x vs v us Q I rx rv h
  obtain ⟨l, xs, y, rfl, rfl, hH, hy, q⟩ := h
  cases rx
  have hus := rv.zero
  subst hus
  obtain ⟨z, its, n, r, hl, e⟩ := I.lstM hH
  obtain ⟨u, hu, ru⟩ := r.get hy
  have hy' : its.toArray[its.toArray.size - 1]? = some u := by
    show its.toArray[its.length - 1]? = some u
    rw [← Array.getElem?_toList, ← hl]
    exact hu
  refine call_meets F.slot_list_pop ⟨_, e, rfl⟩ F.entry_list_pop (F.args_list_pop_1 _) (MeetsSeq.list_pop_last l its.toArray n u hy' (by rw [List.size_toArray]; (first | lia | omega))) ⟨e, ?_⟩
  refine ⟨y, _, I.lset (its' := its.dropLast) hH e ?_ r.dropLast ?_, ru, q⟩
  · show its.toArray.eraseIdxIfInBounds (its.toArray.size - 1) = its.dropLast.toArray
    rw [List.size_toArray, List.eraseIdxIfInBounds_toArray, erase_last]
  · rw [List.length_dropLast]
    (first | lia | omega)

noncomputable def rReverse : V → List V → Hp → VK → Prop := fun x vs H Q => ∃ l xs, x = .ref l ∧ vs = [] ∧ H l = some (.lst xs) ∧ Q .non (upd H l (.lst xs.reverse))
theorem mt_reverse : MtM X "list.reverse" rReverse := by
  intro pins s σ H x vs v us Q I rx rv h
  obtain ⟨l, xs, rfl, rfl, hH, q⟩ := h
  cases rx
  have hus := rv.zero
  subst hus
  obtain ⟨z, its, n, r, hl, e⟩ := I.lstM hH
  refine call_meets F.slot_list_reverse ⟨_, e, rfl⟩ F.entry_list_reverse (F.args_list_reverse_1 _) (AutoSeq1.list_reverse_list_0 l its.toArray n (by rw [List.size_toArray]; omega)) ⟨e, ?_⟩
  refine ⟨.non, _, I.lset (its' := its.reverse) hH e (by simp) r.reverse ?_, rfl, q⟩
  rw [List.length_reverse]
  omega

noncomputable def rCat : R2 := fun x y H Q => ∃ l b xs zs, x = .ref l ∧ y = .ref b ∧ H l = some (.lst xs) ∧ H b = some (.lst zs) ∧ xs.length + zs.length ≤ sizeLine ∧ ∀ p, H p = none → Q (.ref p) (upd H p (.lst (xs ++ zs)))
theorem op_cat : OpR X (binaryOp .Add) rCat := by
  intro pins s σ H x y v u Q I rx ry h
  obtain ⟨l, b, xs, zs, rfl, rfl, hH, hB, hz, q⟩ := h
  cases rx
  cases ry
  obtain ⟨z, its, n, r, hl, e⟩ := I.lstM hH
  obtain ⟨z2, its2, n2, r2, hl2, e2⟩ := I.lstM hB
  refine PySem.P.add_list e e2 ?_ (by rw [List.size_toArray, List.size_toArray]; (first | lia | omega))
  have ea : its.toArray ++ its2.toArray = (its ++ its2).toArray := by simp
  rw [ea]
  exact ⟨.ref _, _, I.lnew (t' := s.toks) (r.append r2) (by rw [List.length_append]; (first | lia | omega)), rfl, q _ I.fresh⟩
end

section
variable {prog : Program} {w : World} {A : Around} {E : Value → Shared → Prop} {s : Shared}
set_option maxRecDepth 100000 in
end

section
variable {X : Cx}
end
end L2

namespace L2
open PySem PySem.Spec PyProof.Rows

section
variable {κ : Type} [DecidableEq κ]
noncomputable def valV (kvs : List (κ × V)) (k : κ) : Option V := (kvs.find? fun kv => decide (kv.1 = k)).map (·.2)
noncomputable def putK (kvs : List (κ × V)) (k : κ) (v : V) : List (κ × V) :=
  if (kvs.any fun kv => decide (kv.1 = k)) = true then kvs.map (fun kv => if kv.1 = k then (kv.1, v) else kv) else kvs ++ [(k, v)]
theorem valV_nil {k : κ} : valV ([] : List (κ × V)) k = none := rfl
theorem valV_pos {p : κ × V} {r : List (κ × V)} {k : κ} (e : p.1 = k) : valV (p :: r) k = some p.2 := by simp [valV, List.find?_cons, e]
theorem valV_neg {p : κ × V} {r : List (κ × V)} {k : κ} (e : ¬ p.1 = k) : valV (p :: r) k = valV r k := by simp [valV, List.find?_cons, e]
theorem valV_any (k : κ) : ∀ kvs : List (κ × V), (kvs.any fun kv => decide (kv.1 = k)) = (valV kvs k).isSome
  | [] => rfl
  | p :: r => by
    rw [List.any_cons]
    by_cases e : p.1 = k
    · simp only [valV_pos e, decide_eq_true e, Bool.true_or, Option.isSome_some]
    · rw [valV_neg e, decide_eq_false e, Bool.false_or]; exact valV_any k r
theorem valV_map (k j : κ) (y : V) : ∀ kvs : List (κ × V), valV (kvs.map fun kv => if kv.1 = k then (kv.1, y) else kv) j = (valV kvs j).map fun x => if j = k then y else x
  | [] => rfl
  | p :: r => by
    have ih := valV_map k j y r
    rw [List.map_cons]
    by_cases h : p.1 = k
    · rw [if_pos h]
      by_cases e : p.1 = j
      · rw [valV_pos (p := (p.1, y)) e, valV_pos e, Option.map_some, if_pos (e.symm.trans h)]
      · rw [valV_neg (p := (p.1, y)) e, valV_neg e, ih]
    · rw [if_neg h]
      by_cases e : p.1 = j
      · rw [valV_pos (p := p) e, valV_pos e, Option.map_some, if_neg (fun z => h (e.trans z))]
      · rw [valV_neg (p := p) e, valV_neg e, ih]
theorem valV_snoc (k j : κ) (y : V) : ∀ kvs : List (κ × V), valV kvs k = none → valV (kvs ++ [(k, y)]) j = if j = k then some y else valV kvs j
  | [], _ => by
    by_cases e : k = j
    · rw [if_pos e.symm]; exact valV_pos (p := (k, y)) e
    · rw [if_neg (fun z => e z.symm)]; exact valV_neg (p := (k, y)) e
  | p :: r, hn => by
    rw [List.cons_append]
    have hk : ¬ p.1 = k := fun z => by rw [valV_pos z] at hn; cases hn
    rw [valV_neg hk] at hn
    have ih := valV_snoc k j y r hn
    by_cases e : p.1 = j
    · rw [valV_pos e, valV_pos e, if_neg (fun z => hk (e.trans z))]
    · rw [valV_neg e, valV_neg e, ih]
theorem valV_put (kvs : List (κ × V)) (k j : κ) (y : V) : valV (putK kvs k y) j = if j = k then some y else valV kvs j := by
  unfold putK
  by_cases a : (kvs.any fun kv => decide (kv.1 = k)) = true
  · rw [if_pos a, valV_map]
    rw [valV_any] at a
    by_cases e : j = k
    · obtain ⟨x, hx⟩ := Option.isSome_iff_exists.mp a
      rw [if_pos e, e, hx, Option.map_some, if_pos rfl]
    · rw [if_neg e]
      cases valV kvs j with
      | none => rfl
      | some x => rw [Option.map_some, if_neg e]
  · rw [if_neg a]
    refine valV_snoc k j y kvs ?_
    rw [valV_any] at a
    cases q : valV kvs k with
    | none => rfl
    | some x => rw [q] at a; exact (a rfl).elim
theorem length_putK (kvs : List (κ × V)) (k : κ) (v : V) : (putK kvs k v).length ≤ kvs.length + 1 := by
  unfold putK
  split
  · rw [List.length_map]; (first | lia | omega)
  · rw [List.length_append, List.length_cons, List.length_nil]; (first | lia | omega)
theorem RelO.isSome_eq {o : Option V} {u : Option Value} (r : RelO o u) : o.isSome = u.isSome := by
  cases o with
  | none => cases u with
    | none => rfl
    | some _ => exact (show False from r).elim
  | some _ => cases u with
    | none => exact (show False from r).elim
    | some _ => rfl
theorem KV.val {kvs : List (κ × V)} {vs : List (κ × Value)} (r : KV kvs vs) (k : κ) : RelO (valV kvs k) (valueAt vs k) := by
  unfold KV at r
  induction r with
  | nil => exact True.intro
  | @cons p q ps qs h t ih =>
    obtain ⟨h1, h2⟩ := h
    by_cases e : p.1 = k
    · have e' : q.1 = k := h1.symm.trans e
      have b : valueAt (q :: qs) k = some q.2 := by simp [valueAt, List.find?_cons, e']
      rw [valV_pos e, b]; exact h2
    · have e' : ¬ q.1 = k := fun z => e (h1.trans z)
      have b : valueAt (q :: qs) k = valueAt qs k := by simp [valueAt, List.find?_cons, e']
      rw [valV_neg e, b]; exact ih
theorem KV.any {kvs : List (κ × V)} {vs : List (κ × Value)} (r : KV kvs vs) (k : κ) : (kvs.any fun kv => decide (kv.1 = k)) = vs.any fun kv => decide (kv.1 = k) := by
  unfold KV at r
  induction r with
  | nil => rfl
  | cons h t ih => rw [List.any_cons, List.any_cons, ih, h.1]
theorem KV.repl {kvs : List (κ × V)} {vs : List (κ × Value)} (r : KV kvs vs) (k : κ) {y : V} {u : Value} (ry : RelV y u) :
    KV (kvs.map fun kv => if kv.1 = k then (kv.1, y) else kv) (vs.map fun kv => if kv.1 = k then (kv.1, u) else kv) := by
  unfold KV at r ⊢
  induction r with
  | nil => exact .nil
  | @cons p q ps qs h t ih =>
    rw [List.map_cons, List.map_cons]
    refine .cons ?_ ih
    obtain ⟨h1, h2⟩ := h
    by_cases e : p.1 = k
    · rw [if_pos e, if_pos (h1.symm.trans e)]; exact ⟨h1, ry⟩
    · rw [if_neg e, if_neg (fun z => e (h1.trans z))]; exact ⟨h1, h2⟩
theorem KV.put {kvs : List (κ × V)} {vs : List (κ × Value)} (r : KV kvs vs) (k : κ) {y : V} {u : Value} (ry : RelV y u) : KV (putK kvs k y) (stored vs k u) := by
  unfold putK stored
  rw [r.any k]
  by_cases e : (vs.any fun kv => decide (kv.1 = k)) = true
  · rw [if_pos e, if_pos e]; exact r.repl k ry
  · rw [if_neg e, if_neg e]; exact Paired.snoc r ⟨rfl, ry⟩
theorem KV.length {kvs : List (κ × V)} {vs : List (κ × Value)} (r : KV kvs vs) : kvs.length = vs.length := Paired.length r
end


theorem kV_is {P : Program} {w : World} {k : Key} {u : Value} (r : RelV (kV k) u) : (mixKind P w).is k u = true := by
  cases k with
  | inl i => obtain ⟨t, e⟩ := (show ∃ t, u = Value.int i t from r); subst e; exact mixKind_int P w i t
  | inr x => obtain ⟨t, e⟩ := (show ∃ t, u = Value.str x t from r); subst e; exact mixKind_str P w x t
theorem items_are {P : Program} {w : World} : ∀ {ks : List Key} {us : List Value}, Vals (ks.map kV) us → ItemsAre (mixKind P w) ks us
  | [], _, r => by rw [List.map_nil] at r; cases r; exact .nil
  | k :: ks, _, r => by
    rw [List.map_cons] at r
    cases r with
    | cons h t => exact .cons (kV_is h) (items_are t)

noncomputable abbrev KT (H : Hp) : List (List Key × V) → List (List Key × Addr × Value) → Prop := Paired fun p q => p.1 = q.1 ∧ H q.2.1 = some (.tup (p.1.map kV)) ∧ RelV p.2 q.2.2
theorem KT.val {H : Hp} {kvs : List (List Key × V)} {xs : List (List Key × Addr × Value)} (r : KT H kvs xs) (k : List Key) : RelO (valV kvs k) ((atKey xs k).map (·.2)) := by
  induction r with
  | nil => exact True.intro
  | @cons p q ps qs h t ih =>
    obtain ⟨h1, _, h2⟩ := h
    by_cases e : p.1 = k
    · have e' : q.1 = k := h1.symm.trans e
      have b : atKey (q :: qs) k = some q.2 := by simp [atKey, List.find?_cons, e']
      rw [valV_pos e, b]; exact h2
    · have e' : ¬ q.1 = k := fun z => e (h1.trans z)
      have b : atKey (q :: qs) k = atKey qs k := by simp [atKey, List.find?_cons, e']
      rw [valV_neg e, b]; exact ih
theorem KT.repl {H : Hp} {kvs : List (List Key × V)} {xs : List (List Key × Addr × Value)} (r : KT H kvs xs) (k : List Key) {y : V} {u : Value} (ry : RelV y u) :
    KT H (kvs.map fun kv => if kv.1 = k then (kv.1, y) else kv) (xs.map (putAt k u)) := by
  induction r with
  | nil => exact .nil
  | @cons p q ps qs h t ih =>
    rw [List.map_cons, List.map_cons]
    refine .cons ?_ ih
    obtain ⟨h1, h2, h3⟩ := h
    unfold putAt
    by_cases e : p.1 = k
    · rw [if_pos e, if_pos (h1.symm.trans e)]; exact ⟨h1, h2, ry⟩
    · rw [if_neg e, if_neg (fun z => e (h1.trans z))]; exact ⟨h1, h2, h3⟩
theorem KT.put {H : Hp} {kvs : List (List Key × V)} {xs : List (List Key × Addr × Value)} (r : KT H kvs xs) (k : List Key) {b : Addr} {y : V} {u : Value} (hb : H b = some (.tup (k.map kV))) (ry : RelV y u) :
    KT H (putK kvs k y) (storedH xs k b u) := by
  have e : (kvs.any fun kv => decide (kv.1 = k)) = (atKey xs k).isSome := by
    rw [valV_any, (r.val k).isSome_eq, Option.isSome_map]
  unfold putK storedH
  rw [e]
  by_cases q : (atKey xs k).isSome = true
  · rw [if_pos q, if_pos q]; exact r.repl k ry
  · rw [if_neg q, if_neg q]; exact Paired.snoc r ⟨rfl, hb, ry⟩
theorem KT.keeps {H H' : Hp} {kvs : List (List Key × V)} {xs : List (List Key × Addr × Value)} (r : KT H kvs xs) (ht : ∀ b ys, H b = some (.tup ys) → H' b = some (.tup ys)) : KT H' kvs xs :=
  Paired.mapP r fun _ _ z => ⟨z.1, ht _ _ z.2.1, z.2.2⟩

section
variable {P : Program} {w : World} {H : Hp} {h : Heap} {a : Addr}
theorem rd_of {u : HO} (ok : HOk P w H h) (e : Rd H a u) : ObjOk P w H h a u := e.ok ok
theorem dk_rd {kvs : List (Key × V)} (ok : HOk P w H h) (e : Rd H a (.dK kvs)) : kvs.length ≤ sizeLine ∧ (a == sysModules) = false ∧ ∃ vs, KV kvs vs ∧ h.DictOf (mixKind P w) a vs :=
  show ObjOk P w H h a (.dK kvs) from rd_of ok e
theorem dk_of {kvs : List (Key × V)} (ok : HOk P w H h) (e : H a = some (.dK kvs)) : kvs.length ≤ sizeLine ∧ (a == sysModules) = false ∧ ∃ vs, KV kvs vs ∧ h.DictOf (mixKind P w) a vs := dk_rd ok (.inl e)
theorem key_of {ks : List Key} (ok : HOk P w H h) (e : H a = some (.tup (ks.map kV))) : (tupleKind (mixKind P w)).is h ks a := by
  obtain ⟨_, its, r, o, h1, h2, n, h3⟩ := (show ObjOk P w H h a (.tup (ks.map kV)) from ok a _ e)
  exact ⟨o, its.toArray, n, h1, h2, h3, by simpa using items_are r⟩
theorem dt_rd {kvs : List (List Key × V)} (ok : HOk P w H h) (e : Rd H a (.dT kvs)) : kvs.length ≤ sizeLine ∧ (a == sysModules) = false ∧
    ∃ xs, KT H kvs xs ∧ h.DictOfH (tupleKind (mixKind P w)) a xs := by
  obtain ⟨z, y, xs, r, o, es, ep, h1, h2, h3, h4, h5⟩ := (show ObjOk P w H h a (.dT kvs) from rd_of ok e)
  refine ⟨z, y, xs, r, o, es, ep, h1, h2, h3, h4, fun x hx => ?_, h5⟩
  have all : ∀ {l : List (List Key × V)} {m : List (List Key × Addr × Value)}, KT H l m → ∀ x ∈ m, (tupleKind (mixKind P w)).is h x.1 x.2.1 := by
    intro l m q
    induction q with
    | nil => intro x hx; exact nomatch hx
    | @cons p q ps qs hq t ih =>
      intro x hx
      rcases List.mem_cons.mp hx with e | hx
      · subst e
        exact key_of ok (by rw [← hq.1]; exact hq.2.1)
      · exact ih x hx
  exact all r x hx
theorem dt_of {kvs : List (List Key × V)} (ok : HOk P w H h) (e : H a = some (.dT kvs)) : kvs.length ≤ sizeLine ∧ (a == sysModules) = false ∧
    ∃ xs, KT H kvs xs ∧ h.DictOfH (tupleKind (mixKind P w)) a xs := dt_rd ok (.inl e)
end

noncomputable def DGet (H : Hp) (a : Addr) (y : V) (r : Option V) : Prop :=
  (∃ kvs k, Rd H a (.dK kvs) ∧ y = kV k ∧ r = valV kvs k) ∨ ∃ kvs k b, Rd H a (.dT kvs) ∧ y = .ref b ∧ H b = some (.tup (k.map kV)) ∧ r = valV kvs k
noncomputable def DPut (H : Hp) (a : Addr) (y v : V) (H' : Hp) : Prop :=
  (∃ kvs k, H a = some (.dK kvs) ∧ y = kV k ∧ kvs.length < sizeLine ∧ H' = upd H a (.dK (putK kvs k v))) ∨
  ∃ kvs k b, H a = some (.dT kvs) ∧ y = .ref b ∧ H b = some (.tup (k.map kV)) ∧ kvs.length < sizeLine ∧ H' = upd H a (.dT (putK kvs k v))
theorem DGet.k {H : Hp} {a : Addr} {kvs : List (Key × V)} {k : Key} (e : H a = some (.dK kvs)) : DGet H a (kV k) (valV kvs k) := .inl ⟨kvs, k, .inl e, rfl, rfl⟩
theorem DPut.k {H : Hp} {a : Addr} {kvs : List (Key × V)} {k : Key} {v : V} (e : H a = some (.dK kvs)) (hl : kvs.length < sizeLine) : DPut H a (kV k) v (upd H a (.dK (putK kvs k v))) := .inl ⟨kvs, k, e, rfl, hl, rfl⟩
section
variable {X : Cx} {pins : List (Addr × Obj)} {σ : St} {H : Hp} {s : Shared} {a : Addr} {y v : V} {u r : Value} {o : Option V} {A : Around} {E : Value → Shared → Prop}

theorem Inv.big (I : Inv X pins σ H s) : sysModules < s.heap.objs.size := by
  have h : mainGlobals < s.heap.objs.size := (I.mod.glob.keeps I.bk).lt
  exact Nat.lt_trans (by decide) h

theorem d_in {Q : Value → Shared → Prop} (hu : A.units + 1 < cLine) (I : Inv X pins σ H s) (g : DGet H a y o) (ry : RelV y u) (h : ∀ s', Inv X pins σ H s' → Q (.bool o.isSome) s') :
    wpAny (model X.prog X.w) A (compareOp .In u (.ref a)) Q E s := by
  rcases g with ⟨kvs, k, e, ey, l⟩ | ⟨kvs, k, b, e, ey, eb, l⟩
  · subst ey
    obtain ⟨z, hd, vs, rel, dd⟩ := dk_rd I.hok e
    refine wpAny_in_of (kV_is ry) hd dd.mapOf ?_
    rw [← (rel.val k).isSome_eq, ← l]
    exact h _ (I.tok _)
  · subst ey
    cases (show u = Value.ref b from ry)
    obtain ⟨z, hd, xs, rel, dd⟩ := dt_rd I.hok e
    refine wpAny_in_heap (tupleKind_room_in1 hu) (key_of I.hok eb) hd dd ?_
    have q := (rel.val k).isSome_eq
    rw [Option.isSome_map] at q
    rw [← q, ← l]
    exact h _ (I.tok _)
theorem d_write {h' : Heap} {t' : Nat} {ob : HO} (I : Inv X pins σ H s) (mu : Mut (H a)) (hs : Heap.SameBut a s.heap h') (he : ∃ q, h'.get? a = some q) (new : ObjOk X.prog X.w (upd H a ob) h' a ob) :
    Inv X pins σ (upd H a ob) { s with heap := h', toks := t' } :=
  I.write (x := a) (e := a) mu (.inl rfl) (fun b q hb z => (hs.2 b hb).trans z) he new
theorem dk_new {P : Program} {w : World} {H' : Hp} {h' : Heap} {kvs : List (Key × V)} {vs : List (Key × Value)} (z : kvs.length ≤ sizeLine) (hd : (a == sysModules) = false) (rel : KV kvs vs) (dd : h'.DictOf (mixKind P w) a vs) :
    ObjOk P w H' h' a (.dK kvs) := ⟨z, hd, vs, rel, dd⟩
theorem d_setItem {H' : Hp} {Q : Unit → Shared → Prop} (hu : A.units + 1 < cLine) (I : Inv X pins σ H s) (g : DPut H a y v H') (ry : RelV y u) (rv : RelV v r) (h : ∀ s', Inv X pins σ H' s' → Q () s') :
    wpAny (model X.prog X.w) A (setItem (.ref a) u r) Q E s := by
  rcases g with ⟨kvs, k, e, ey, l, eH⟩ | ⟨kvs, k, b, e, ey, eb, l, eH⟩
  · subst ey eH
    obtain ⟨z, hd, vs, rel, dd⟩ := dk_of I.hok e
    have hz : vs.length ≤ sizeLine := by rw [← rel.length]; exact z
    have hl : (putK kvs k v).length ≤ sizeLine := by have := length_putK kvs k v; (first | lia | omega)
    refine wpAny_setItem_pairs (hsz := hz) (kV_is ry) dd fun h' dd' hs => h _ ?_
    have he : ∃ q, h'.get? a = some q := let ⟨q, _, _, hq, _⟩ := dd'; ⟨q, hq⟩
    exact d_write I (by rw [e]; exact True.intro) hs he (dk_new hl hd (rel.put k rv) dd')
  · subst ey eH
    cases (show u = Value.ref b from ry)
    obtain ⟨z, hd, xs, rel, dd⟩ := dt_of I.hok e
    have hz : xs.length ≤ sizeLine := by rw [← Paired.length rel]; exact z
    have hl : (putK kvs k v).length ≤ sizeLine := by have := length_putK kvs k v; (first | lia | omega)
    refine wpAny_setItem_heap (hsz := hz) (tupleKind_room_in1 hu) (key_of I.hok eb) dd fun h' dd' hs => h _ ?_
    obtain ⟨q, es, ep, hq, h2, h3, h4, _, h5⟩ := dd'
    refine d_write I (by rw [e]; exact True.intro) hs ⟨q, hq⟩ ⟨hl, hd, _, (rel.put k eb rv).keeps fun c ys ec => ?_, q, es, ep, hq, h2, h3, h4, h5⟩
    rw [upd_ne (ne_of ec e (fun z => nomatch z))]
    exact ec
end

section
variable {X : Cx} {pins : List (Addr × Obj)} {σ : St} {H : Hp} {s : Shared} {a : Addr} {kvs : List (Key × V)} {k : Key} {u : Value} {A : Around} {E : Value → Shared → Prop}
end


noncomputable def tDIn (ty td : TE) : TE := fun σ H Q => ty σ H fun y H1 => td σ H1 fun x H2 => ∃ a o, x = .ref a ∧ DGet H2 a y o ∧ Q (.bl o.isSome) H2
noncomputable def sDPut (td ty tv : TE) : TS := fun D σ H => tv σ H fun v H1 => td σ H1 fun x H2 => ty σ H2 fun y H3 => ∃ a H4, x = .ref a ∧ DPut H3 a y v H4 ∧ D.nx σ H4
section
variable {X : Cx} {o i e value : Expr} {pos pos' tpos : Pos} {td ty tv : TE}
theorem pc_din (hu : X.A.units + 1 < cLine) (hi : PE X i ty) (ho : PE X o td) : PC X .In i o (tDIn ty td) := by
  intro pins s σ H Q I h
  refine thn (hi pins s σ H _ I h) fun iv s1 ⟨y, H1, I1, ry, q1⟩ => thn (ho pins s1 σ H1 _ I1 q1) fun u s2 ⟨x, H2, I2, rx, a, ov, ex, g, q2⟩ => ?_
  subst ex
  obtain rfl : u = Value.ref a := rx
  exact d_in hu I2 g ry fun s3 I3 => ⟨.bl ov.isSome, H2, I3, rfl, q2⟩
theorem ps_dput (hu : X.A.units + 1 < cLine) (ho : PE X o td) (hi : PE X i ty) (hv : PE X value tv) (hs : swapsWith value (some (.Subscript o i pos')) pos.line X.env = pure false) :
    PS X (.Assign [.Subscript o i pos'] value pos) (sDPut td ty tv) := by
  intro pins s σ H D I h
  refine wpAny_Assign_Subscript (thn (hv pins s σ H _ I h) fun r s1 ⟨v, H1, I1, rv, q1⟩ => thn (ho pins s1 σ H1 _ I1 q1) fun u s2 ⟨x, H2, I2, rx, q2⟩ => thn (hi pins s2 σ H2 _ I2 q2) fun iv s3 ⟨y, H3, I3, ry, a, H4, ex, g, q3⟩ => ?_) hs
  subst ex
  obtain rfl : u = Value.ref a := rx
  exact d_setItem hu I3 g ry rv fun s4 I4 => ⟨σ, H4, I4, q3⟩
end


theorem dk_empty {P : Program} {w : World} {H : Hp} (h : Heap) (hb : sysModules < h.objs.size) : ObjOk P w H (h.push { cls := .type "dict", data := .dict #[] }) h.objs.size (.dK []) :=
  ⟨Nat.zero_le _, beq_eq_false_iff_ne.mpr (Ne.symm (Nat.ne_of_lt hb)), [], .nil, Heap.DictOf.new h⟩
noncomputable def tDNewK : TE := fun _ H Q => ∀ p, H p = none → Q (.ref p) (upd H p (.dK []))
section
variable {X : Cx} {pos : Pos}
theorem pe_dnewK : PE X (.Dict [] [] pos) tDNewK := fun pins s σ H Q I h =>
  wpAny_Dict_empty ⟨.ref s.heap.objs.size, _, I.laid (a := s.heap.objs.size) (o := .dK []) (t' := s.toks) (fun _ _ q => Heap.get?_push_of_some _ q) (Nat.le_refl _) (dk_empty s.heap I.big), rfl, h _ (I.hok.fresh (Nat.le_refl _))⟩
end

structure M1 (X : Cx) (o : Expr) (m : Str) (apos : Pos) (e : Expr) (cpos : Pos) : Prop where
  base : attributeBase o m X.env (eval o X.env) = eval o X.env
  few : ((backTo cpos (starEach [e] X.env)).all (fun x => !x.1) && (backToKw cpos (keywordEach [] X.env)).all (fun x => x.1.isSome)
    && decide (([e] : List Expr).length + ([] : List Keyword).length + (if ([] : List Keyword).isEmpty then 0 else 1) < 30)) = true
  line : (apos.endLine == cpos.line) = true
  trees : backTo cpos (starEach [e] X.env) = [(false, eval e X.env)]
structure M2 (X : Cx) (o : Expr) (m : Str) (apos : Pos) (e f : Expr) (cpos : Pos) : Prop where
  base : attributeBase o m X.env (eval o X.env) = eval o X.env
  few : ((backTo cpos (starEach [e, f] X.env)).all (fun x => !x.1) && (backToKw cpos (keywordEach [] X.env)).all (fun x => x.1.isSome)
    && decide (([e, f] : List Expr).length + ([] : List Keyword).length + (if ([] : List Keyword).isEmpty then 0 else 1) < 30)) = true
  line : (apos.endLine == cpos.line) = true
  trees : backTo cpos (starEach [e, f] X.env) = [(false, eval e X.env), (false, eval f X.env)]

section
variable {X : Cx} {pins : List (Addr × Obj)} {σ : St} {H : Hp} {s : Shared} {a : Addr} {y d : V} {u r : Value} {o : Option V} {A : Around} {E : Value → Shared → Prop}
end

section
variable {X : Cx} {o e f : Expr} {apos cpos : Pos} {td ty tx : TE}
end

section
variable {X : Cx} {pins : List (Addr × Obj)} {σ : St} {H : Hp} {s : Shared} {a : Addr} {kvs : List (Key × V)} {A : Around} {E : Value → Shared → Prop}
end


section
variable {X : Cx} {pins : List (Addr × Obj)} {σ : St} {H : Hp} {s : Shared} {a : Addr} {y : V} {u : Value} {A : Around} {E : Value → Shared → Prop}
end
end L2

namespace Att
open PySem PySem.W PySem.Calls PyProof.Rows

theorem ints_of_wellAll {P : Params} {h : Heap} : ∀ (ns : List Int) (vs : List Value), WellAll P h vs (ns.map WData.int) → IntsAre vs ns := by
  intro ns
  induction ns with
  | nil =>
    intro vs w
    rw [List.map_nil] at w
    cases w
    exact .nil
  | cons n ns ih =>
    intro vs w
    rw [List.map_cons] at w
    cases w with
    | cons a b =>
      cases a
      exact .cons _ _ (ih _ b)

theorem script_of {l : OpenLaw} {n : Nat} (hn : l.most = some n) {P : Params} {h : Heap} {args : List WData} {vals : List Value}
    (hpre : l.row.toRowW.claim.pre args = true) (hwl : WellAll P h vals args) :
    ∃ a vs ns, vals = [Value.ref a] ∧ args = [WData.list (ns.map WData.int)] ∧ h.get? a = some { cls := .type "list", data := .seq vs.toArray } ∧ IntsAre vs ns ∧ ns.length ≤ n := by
  have hsh : WShape.hasAll [] args [.list .int] = true := (pre_splitW hpre).1
  have hc : l.pre.holds [] { args := args } = true := (pre_splitW hpre).2
  obtain ⟨d, r, rfl, h1, h2⟩ := hasAllW_cons hsh
  obtain rfl := hasAllW_nil h2
  obtain ⟨xs, rfl, h3⟩ := hasW_list h1
  obtain ⟨ns, rfl⟩ := items_int h3
  have hlen : ns.length ≤ n := by
    unfold OpenLaw.pre at hc
    have h4 : (WTm.not (.lt (.lit (.int (n : Int))) (.len (.arg 0)))).holds [] { args := [.list (ns.map .int)] } = true := by
      have h4 := (holds_andW hc).1
      rw [hn] at h4
      exact h4
    have h5 := condW_of h4 (w_not (w_lt w_lit (w_len_list (w_arg rfl))))
    rw [List.length_map] at h5
    refine Nat.le_of_not_lt fun q => ?_
    have q' : (n : Int) < ((ns.length : Nat) : Int) := by omega
    first
      | (rw [decide_eq_true q'] at h5; exact absurd h5 (by decide))
      | (simp at h5; omega)
  cases hwl with
  | cons w1 w2 =>
    cases w2
    cases w1 with
    | list ho hall => exact ⟨_, _, ns, rfl, rfl, ho, ints_of_wellAll ns _ hall, hlen⟩

theorem post_true (l : OpenLaw) (args : List WData) : l.row.toRowW.claim.post args (.bool true) args = true :=
  postW_of (r := l.row.toRowW) (X := (true == true))
    (show WShape.has [] (.bool true) .bool = true by first | rfl | decide | simp [WShape.has, WShape.arms, WShape.armsAll])
    (show (WTm.eq .res (.lit (.bool true))).value [] { args := args, res := some (.bool true), after := args } = some (.bool (true == true)) from w_eq_bool (w_res rfl) w_lit) rfl

theorem attach_call {l : OpenLaw} {n : Nat} {q : Program} {loose : List Str} {XP : (Str → Option Value) → Heap → Prop} {YP : World → Heap → Prop} {d : DefRec}
    (hn : l.most = some n) (hdf : d.params.defaults = [])
    (call : ∀ (w : World) (s₀ s₁ : Shared) (mg mb : Str → Option Value) (fa : Addr) (o : Obj) (pm cd doc : Value) (a : Addr) (vs : List Value) (ns : List Int),
      Ground q loose [] XP w s₀ mg mb s₁.heap → YP w s₁.heap →
      s₁.heap.get? fa = some o → o.data = .func (docDef d.name d.params d.body d.scope pm cd doc) → s₁.heap.CodeRec cd d.name → mg d.name = some (.ref fa) →
      s₁.heap.get? a = some { cls := .type "list", data := .seq vs.toArray } → IntsAre vs ns → ns.length ≤ n → s₁.gens = #[] →
      codeAny (model l.prog w) callerA (.call (.ref fa) ⟨[.ref a], []⟩) (fun r s' => r = .ok (.ret (.bool true)) ∧ OldK s₁.heap s'.heap ∧ s'.os = s₁.os ∧ AllBare s'.gens) s₁) :
    WalkO q loose XP YP l.row.toRowW d [] (fun f vs => PySem.call f vs) := by
  intro w s₀ s₁ mg mb G Y fa o pm cd doc dV kV ho hd hcd hD hmg hg args vals as hpre hlay hrd hwl hlo
  obtain rfl : dV = .none := Dflts.none hD hdf
  obtain rfl : kV = .none := Dflts.noKw hD
  obtain ⟨a, vs, ns, rfl, rfl, hobj, hints, hlen⟩ := script_of hn hpre hwl
  refine enter_call (codeAny_mono (call w s₀ s₁ mg mb fa o pm cd doc a vs ns G Y ho (fd_plain hd) hcd hmg hobj hints hlen hg) fun r s' hq => ?_)
  obtain ⟨rfl, h2, h3, h4⟩ := hq
  exact ⟨.inl ⟨.bool true, .bool true, [], rfl, fun _ => rfl, .bool true, post_true l _, fun _ => ⟨List.Pairwise.nil, fun _ hm => (nomatch hm)⟩⟩, h2, h3, h4⟩

section
variable {prog : Program} {w : World} {A : Around} {E : Value → Shared → Prop} {s : Shared} {K : Frag}

end
end Att

namespace L2
open PySem PySem.Spec PyProof.Rows

theorem vals_ints : ∀ {vs : List Value} {ns : List Int}, IntsAre vs ns → Vals (ns.map V.int) vs
  | _, _, .nil => .nil
  | _, _, .cons n t h => .cons ⟨t, rfl⟩ (vals_ints h)

noncomputable def Only (H : Hp) : Prop := ∀ b, H b = none ∨ ∃ o xs, H b = some (.frz o (.lst xs))

theorem law_call {P : Program} {w : World} {K : PySem.W.Frag} {mg mb : Str → Option Value} {CX : CXT} {k : Nat} {fa a : Addr} {fd : FuncData} {x : Str} {sp : Sp} {s₁ : Shared} {vs : List Value} {ns : List Int}
    (KX : K.In s₁.heap) (hns : s₁.heap.Ns mainGlobals mg) (hb : s₁.heap.Ns builtinsNs mb) (hbb : ∀ x : Str, x ≠ "__name__" → mb x = bootBuiltins x) (hlim : s₁.heap.NoLimit) (hg : s₁.gens = #[])
    (ha : s₁.heap.get? a = some { cls := .type "list", data := .seq vs.toArray }) (hi : IntsAre vs ns) (hl : ns.length ≤ sizeLine) (hr : Room k callerA)
    (F : ∀ base : Heap, K.In base → base.Ns mainGlobals mg → FnOk P w K mg base CX k fa fd [x] sp) (hbind : ∀ (s : Shared) (u : Value), BindsTo s fd ⟨[u], []⟩ [(x, u)])
    (hsp : ∀ H : Hp, Only H → SqL K H a (ns.map V.int) → sp [.ref a] H (fun v _ => v = .bl true) fun _ _ _ => False)
    (hCX : ∀ H e s', CX [] H s₁ (fun _ _ _ => False) e s' → False) :
    codeAny (model P w) callerA (.call (.ref fa) ⟨[.ref a], []⟩) (fun r s' => r = .ok (.ret (.bool true)) ∧ OldK s₁.heap s'.heap ∧ s'.os = s₁.os ∧ AllBare s'.gens) s₁ := by
  have rv := vals_ints hi
  have lenV := hi.length
  -- from an abstract heap in which nothing but the script may be tracked
  have core : ∀ H : Hp, Only H → SqL K H a (ns.map V.int) → HOk P w H s₁.heap → (∀ b, H b ≠ none → b = a) → (H a ≠ none → K.lookup a = none) →
      codeAny (model P w) callerA (.call (.ref fa) ⟨[.ref a], []⟩) (fun r s' => r = .ok (.ret (.bool true)) ∧ OldK s₁.heap s'.heap ∧ s'.os = s₁.os ∧ AllBare s'.gens) s₁ := by
    intro H hO hS hok hA hK
    have base_of : ∀ {b : Addr} {o : Obj}, s₁.heap.get? b = some o → H b = none → (hidT s₁.heap H).get? b = some o := fun e n => hidT_get e n
    have noA : ∀ {b : Addr} {o : Obj} {es : Array DictEntry} {ep : Nat}, s₁.heap.get? b = some o → o.data = .dict es ep → H b = none := fun {b o es ep} e d => by
      cases q : H b with
      | none => rfl
      | some u =>
        have e' : b = a := hA b (by rw [q]; simp)
        subst e'
        rw [ha] at e; cases e
        have d' : Data.seq vs.toArray _ = Data.dict es ep := d
        cases d'
    have nsK : ∀ {b : Addr} {m : Str → Option Value}, s₁.heap.Ns b m → (hidT s₁.heap H).Ns b m := fun {b m} ⟨o, es, ep, e, d, r⟩ => ⟨o, es, ep, base_of e (noA e d), d, r⟩
    have hKb : K.In (hidT s₁.heap H) := fun b o e => base_of (KX b o e) (by
      cases q : H b with
      | none => rfl
      | some u =>
        have e' : b = a := hA b (by rw [q]; simp)
        subst e'
        rw [hK (by rw [q]; simp)] at e; cases e)
    have hM : Mod K mg (hidT s₁.heap H) := ⟨hKb, nsK hns, ⟨mb, nsK hb, hbb⟩, let ⟨mc, h1, h2⟩ := hlim; ⟨mc, nsK h1, h2⟩⟩
    have e0 : Env0 P w K mg (hidT s₁.heap H) callerA [] s₁ H := ⟨rfl, hM, fun b o e => of_hidT e, Nat.le_of_eq (hidT_size _ _), trivial, fun b hb => absurd (show b ∈ ([] : List Addr) from hb) (by simp), hok, .of_eq hg⟩
    refine codeAny_mono ((F _ hKb (nsK hns)).run callerA [] s₁ H ⟨[.ref a], []⟩ [.ref a] [.ref a] _ _ hr e0 (hbind s₁ (.ref a)) (.cons rfl .nil) (hsp H hO hS)) fun r s' h => ?_
    cases r with
    | error e => exact (hCX H e s' h).elim
    | ok fl =>
      cases fl with
      | next => exact False.elim h
      | brk => exact False.elim h
      | cont => exact False.elim h
      | ret u =>
        obtain ⟨v, H', os, bare, un, hok', r', q⟩ := h
        have q' : v = .bl true := q
        subst q'
        obtain rfl : u = Value.bool true := r'
        refine ⟨rfl, OldK.of_keep fun b o e => ?_, os, bare⟩
        cases q : H b with
        | none => exact un.keep b o e q (by intro z; exact absurd (show b ∈ ([] : List Addr) from z) (by simp)) (by simp)
        | some u =>
          rcases hO b with z | ⟨ob, xs, z⟩
          · rw [q] at z; cases z
          · have z2 := un.frzs b ob _ z
            obtain ⟨e1, _⟩ := hok b _ z
            obtain ⟨e2, _⟩ := hok' b _ z2
            rw [e] at e1; cases e1
            exact e2
  cases hk : K.lookup a with
  | some o =>
    -- the script is one of the module's own objects
    have e := KX a o hk
    rw [ha] at e
    cases e
    refine core (fun _ => none) (fun _ => .inl rfl) (.inr ⟨_, vs.toArray, _, hk, rfl, rfl, rfl, by rw [List.size_toArray, lenV]; exact hl, by simpa using rv⟩) (fun b u z => by have z' : (none : Option HO) = some u := z; cases z') (fun b z => absurd rfl z) fun z => absurd rfl z
  | none =>
    refine core (fun b => if b = a then some (.frz { cls := .type "list", data := .seq vs.toArray } (.lst (ns.map V.int))) else none) (fun b => ?_) (.inl (.inr ⟨{ cls := .type "list", data := .seq vs.toArray }, if_pos rfl⟩)) (fun b u z => ?_) (fun b z => ?_) fun _ => hk
    · by_cases hb : b = a
      · exact .inr ⟨_, _, if_pos hb⟩
      · exact .inl (if_neg hb)
    · by_cases hb : b = a
      · have z' := (if_pos hb).symm.trans z
        cases z'
        subst hb
        exact ⟨ha, by rw [List.length_map]; exact hl, vs, _, rv, ha⟩
      · have z' := (if_neg hb).symm.trans z
        cases z'
    · by_cases hb : b = a
      · exact hb
      · exact absurd (if_neg hb) z
end L2

namespace L2
open PySem PySem.Spec PyProof.Rows

theorem walk_of {l : PySem.W.OpenLaw} {n k : Nat} {q : Program} {loose : List Str} {XP : (Str → Option Value) → Heap → Prop} {YP : World → Heap → Prop} {d : DefRec} {K : Params → PySem.W.Frag} {CX : World → CXT} {sp : World → Sp} {x : Str}
    (hn : l.most = some n) (hn2 : n ≤ sizeLine) (hdf : d.params.defaults = []) (hr : Room k callerA)
    (hY : ∀ (w : World) (h : Heap), YP w h → (K w.params).In h)
    (F : ∀ (w : World) (mg : Str → Option Value) (fa : Addr) (h : Heap), (K w.params).In h → h.Ns mainGlobals mg → mg d.name = some (.ref fa) →
      ∃ fd : FuncData, (∀ (s : Shared) (u : Value), BindsTo s fd ⟨[u], []⟩ [(x, u)]) ∧
        ∀ base : Heap, (K w.params).In base → base.Ns mainGlobals mg → FnOk l.prog w (K w.params) mg base (CX w) k fa fd [x] (sp w))
    (hsp : ∀ (w : World) (H : Hp) (a : Addr) (ns : List Int), ns.length ≤ n → Only H → SqL (K w.params) H a (ns.map V.int) → sp w [.ref a] H (fun v _ => v = .bl true) fun _ _ _ => False)
    (hCX : ∀ (w : World) (H : Hp) (s : Shared) (e : Value) (s' : Shared), CX w [] H s (fun _ _ _ => False) e s' → False) :
    PySem.W.WalkO q loose XP YP l.row.toRowW d [] (fun f vs => PySem.call f vs) := by
  refine Att.attach_call hn hdf fun w s₀ s₁ mg mb fa o pm cd doc a vs ns G Y ho hd hcd hmg hobj hints hlen hg => ?_
  have KX := hY w _ Y
  obtain ⟨fd, hb, hF⟩ := F w mg fa _ KX G.T.g hmg
  exact law_call KX G.T.g G.T.b G.T.builtins G.T.nolimit hg hobj hints (Nat.le_trans hlen hn2) hr hF hb (fun H hO hS => hsp w H a ns hlen hO hS) fun H e s' => hCX w H s₁ e s'
end L2

/- THE LAST THEOREM (shape; LID, My.* are yours):
   My.Adr: a structure of the addresses that your layer names (classes, functions); My.Txt K t: a structure (Prop) of the equations over K;
   My.txt_mk : {K} {implicit addresses ..} (e1 : nsIn K mainGlobals "law" = some (some (.ref f))) (e2 : K.lookup f = some ⟨oc, od, .func (fnOf "law" "law" params body scope dV kV doc pm an cdv ct), sl⟩) (e3 : codeIn K cdv "law" = true) .. : ∃ t, My.Txt K t

set_option maxRecDepth 100000 in
set_option maxHeartbeats 0 in
theorem PySem.Challenge.cw_LID_holds : PySem.Challenge.rw_LID.Holds := by
  w_on; o_law; k_head; (case hw => w_witness2)
  k_fill
  refine L2.walk_of (l := PySem.Challenge.rw_LID) (n := 63) (k := 40) (x := "script") (CX := fun w => ..) (sp := fun _ => My.sp_law) rfl (by decide) rfl ⟨rfl, by decide, by decide⟩ (fun w h Y => PySem.W.kIn_of Y) ?F ?S ?C
  case F =>
    intro w mg fa h KX G hmg
    have T : ∃ t, My.Txt (L2.KOf KX) t := by
      dsimp only [L2.KOf]                          -- K must stand as «<heap const> w.params» for k_is
      refine' My.txt_mk ?e1 ?e2 ?e3 ..
      (case e1 => PySem.W.k_is)                    -- in the order: a name -> its address -> its object -> its parts
      (case e2 => PySem.W.k_is)
      ..
    obtain ⟨t, T⟩ := T
    have e0 := hmg.symm.trans (PySem.W.mg_of KX G T.law)
    cases e0                                       -- fa is the law's own address
    exact ⟨_, fun s u => .of_eq rfl, fun base kb nb => My.law_fn T kb nb⟩     -- if «.of_eq rfl» comes too early: refine' ⟨_, ?b, fun base kb nb => My.law_fn T kb nb⟩; exact fun s u => .of_eq rfl
  case S => exact fun w H a ns hl hO hS => ..
  case C => exact ..
(the tactic k_is has no namespace: write k_is) -/

namespace L2
open PySem PySem.Spec PyProof.Rows

noncomputable def defArgs (s : Stmt) : Arguments := match s with
  | .FunctionDef _ a _ _ _ _ _ _ _ _ => a
  | _ => { posonlyargs := [], args := [], vararg := none, kwonlyargs := [], kw_defaults := [], kwarg := none, defaults := [] }
noncomputable def defBody (s : Stmt) : List Stmt := match s with
  | .FunctionDef _ _ b _ _ _ _ _ _ _ => b
  | _ => []
noncomputable def defScope (s : Stmt) : Scope := match s with
  | .FunctionDef _ _ _ _ _ _ sc _ _ _ => sc
  | _ => { kind := .function, names := [], isGenerator := false, isCoroutine := false }

noncomputable abbrev CX0 : CXT := fun _ _ _ _ _ _ => False
noncomputable abbrev E0 : XK := fun _ _ _ => False
theorem pass0 {X : Cx} : Passes CX0 X E0 := fun _ _ _ _ _ _ _ h => h.elim

structure Fun (K : PySem.W.Frag) (x qual : Str) (st : Stmt) (f : Addr) (fd : FuncData) : Prop where
  ex : ∃ (oc : Value) (od : Option Addr) (kV doc pm : Value) (an : Option Addr) (cdv ct : Value) (osl : Array (Option Value)),
    fd = PySem.W.fnOf x qual (defArgs st) (defBody st) (defScope st) .none kV doc pm an cdv ct ∧ K.lookup f = some ⟨oc, od, .func fd, osl⟩ ∧ PySem.W.codeIn K cdv qual = true
  kp : PySem.W.keepIn K (.ref f) = true
section
variable {P : Program} {w : World} {K : PySem.W.Frag} {mg : Str → Option Value} {base : Heap}
theorem Fun.ok {x qual : Str} {st : Stmt} {f : Addr} {fd : FuncData} {N ps : List Str} {k : Nat} {sp : Sp} (F : Fun K x qual st f fd) (S : FnScope N ps (defScope st)) (len : ∀ vs H Q E, sp vs H Q E → vs.length = ps.length)
    (hbody : ∀ (cdv : Value) (A : Around) (outer : List Env) (s : Shared) (H : Hp) (vs : List V) (Q : VK) (E : XK), Room k (A.deeper (envOfC qual (defScope st) s.heap.objs.size f cdv)) → sp vs H Q E →
      ∃ t, PSs (cxOf CX0 P w K mg base N qual (defScope st) f cdv A outer s H E).nox (defBody st) t ∧ t { nx := fun _ H' => Q .non H', rt := Q } (start N vs) H) : FnOk P w K mg base CX0 (k + 1) f fd ps sp := by
  obtain ⟨oc, od, kV, doc, pm, an, cdv, ct, osl, rfl, lk, hcd⟩ := F.ex
  refine fn_of lk hcd S len fun A outer s H vs Q E hr hsp => ?_
  obtain ⟨t, h, q⟩ := hbody cdv A outer s H vs Q E hr hsp
  exact ⟨t, h.nox, q⟩
theorem Fun.binds {x qual : Str} {st : Stmt} {f : Addr} {fd : FuncData} {ps : List Str} (F : Fun K x qual st f fd)
    (h : ∀ (kV doc pm : Value) (an : Option Addr) (cdv ct : Value) (us : List Value), us.length = ps.length → bindArgs (PySem.W.fnOf x qual (defArgs st) (defBody st) (defScope st) .none kV doc pm an cdv ct) ⟨us, []⟩ = pure (ps.zip us)) : Binds K fd ps [] := by
  obtain ⟨oc, od, kV, doc, pm, an, cdv, ct, osl, rfl, lk, hcd⟩ := F.ex
  exact .all (h kV doc pm an cdv ct)
theorem fun_mk {x qual : Str} {st : Stmt} {f : Addr} {oc : Value} {od an : Option Addr} {osl : Array (Option Value)} {kV doc pm cdv ct : Value} (l : K.lookup f = some ⟨oc, od, .func (PySem.W.fnOf x qual (defArgs st) (defBody st) (defScope st) .none kV doc pm an cdv ct), osl⟩)
    (c : PySem.W.codeIn K cdv qual = true) (k : PySem.W.keepIn K (.ref f) = true) : Fun K x qual st f (PySem.W.fnOf x qual (defArgs st) (defBody st) (defScope st) .none kV doc pm an cdv ct) := ⟨⟨oc, od, kV, doc, pm, an, cdv, ct, osl, rfl, l, c⟩, k⟩
end
theorem hu_of {A : Around} {k : Nat} (hr : Room k A) : A.units + 1 < cLine := Nat.lt_of_le_of_lt (Nat.add_le_add_left (by decide : 1 ≤ 64) _) hr.units
theorem small1000 {n : Nat} (h : n ≤ 1000) : n < sizeLine := Nat.lt_of_le_of_lt h (by decide)

section
variable {X : Cx}
theorem pv (i : Nat) {x : Str} {pos : Pos} (hN : X.N[i]? = some x := by rfl) (hv : Vis X.env.scope x := by first | exact Or.inl rfl | exact Or.inr (Or.inl rfl) | exact Or.inr (Or.inr rfl)) (hd : (x == ("__debug__" : Str)) = false := by decide)
    (hcd : (x == ("__classdict__" : Str)) = false := by decide) : PE X (.Name x pos) (tVar i) := pe_var hN hv hd hcd
end

theorem iteF {A B : Prop} (h : B) : if false = true then A else B := by
  rw [if_neg Bool.false_ne_true]
  exact h
theorem iteT {A B : Prop} (h : A) : if true = true then A else B := by
  rw [if_pos rfl]
  exact h
theorem ite2 {c A B : Prop} [Decidable c] (h1 : c → A) (h2 : ¬ c → B) : if c then A else B := by
  by_cases h : c
  · rw [if_pos h]
    exact h1 h
  · rw [if_neg h]
    exact h2 h
theorem iteNS {c A B : Prop} [Decidable c] (hc : c) (h : B) : if (!decide c) = true then A else B := by
  rw [decide_eq_true hc]
  exact iteF h

noncomputable def Same (H H' : Hp) : Prop := ∀ b o, H b = some o → H' b = some o
theorem Same.refl (H : Hp) : Same H H := fun _ _ h => h
theorem Same.trans {H H1 H2 : Hp} (a : Same H H1) (b : Same H1 H2) : Same H H2 := fun c o h => b c o (a c o h)
theorem Same.free {H H' : Hp} (e : Same H H') {l : Addr} (h : H' l = Option.none) : H l = Option.none := by
  cases q : H l with
  | none => rfl
  | some o =>
    rw [e l o q] at h
    cases h
theorem Same.seq {K : PySem.W.Frag} {H H' : Hp} {a : Addr} {xs : List V} (e : Same H H') (h : SqL K H a xs) : SqL K H' a xs := by
  rcases h with (h | ⟨o, h⟩) | h
  · exact .inl (.inl (e _ _ h))
  · exact .inl (.inr ⟨o, e _ _ h⟩)
  · exact .inr h

end L2

namespace L2
open PySem PySem.Spec PyProof.Rows
section
variable {X : Cx}
end
section
variable {κ : Type} [DecidableEq κ]
end
end L2


set_option maxHeartbeats 4000000

namespace L2
open PySem PySem.Spec PyProof.Rows

theorem lookup_mapK {f : Str × NameKind → Str × NameKind} (hf : ∀ p, (f p).1 = p.1) : ∀ (l : List (Str × NameKind)) (x : Str), (l.map f).lookup x = (l.lookup x).map fun k => (f (x, k)).2
  | [], _ => rfl
  | (n, k) :: r, x => by
    have e : f (n, k) = (n, (f (n, k)).2) := by
      have := hf (n, k)
      cases q : f (n, k) with
      | mk a b => rw [q] at this; exact congrArg (fun z => (z, b)) this
    rw [List.map_cons, e, List.lookup_cons, List.lookup_cons]
    cases h : x == n with
    | true =>
      have : x = n := by simpa using h
      subst this; rfl
    | false => exact lookup_mapK hf r x
theorem relabel_lookup (scope : Scope) (env : Env) (x : Str) : (relabel scope env).names.lookup x = (scope.names.lookup x).map fun k => if (k == .free && env.scope.kind == .function && env.kindOf x == some .cell) = true then .cell else k := by
  have h := lookup_mapK (f := fun p => if (p.2 == .free && env.scope.kind == .function && env.kindOf p.1 == some .cell) = true then (p.1, .cell) else p) (fun p => by
    by_cases c : (p.2 == .free && env.scope.kind == .function && env.kindOf p.1 == some .cell) = true
    · simp only [c, if_true]
    · simp only [c]; rfl) scope.names x
  have e : (relabel scope env).names = scope.names.map (fun p => if (p.2 == .free && env.scope.kind == .function && env.kindOf p.1 == some .cell) = true then (p.1, .cell) else p) := rfl
  rw [e, h]
  cases scope.names.lookup x with
  | none => rfl
  | some k =>
    simp only [Option.map_some]
    by_cases c : (k == .free && env.scope.kind == .function && env.kindOf x == some .cell) = true
    · simp only [c, if_true]
    · simp only [c]; rfl
theorem closure_of {env : Env} : ∀ (names : List (Str × NameKind)) (acc : List (Str × Addr)), (∀ y ∈ names, y.2 = .free → ∃ c, env.cells.lookup y.1 = some c) → (∀ x c, acc.lookup x = some c → env.cells.lookup x = some c) →
    ∃ cl, (forIn names acc fun (x : Str × NameKind) r => (do
      if (x.2 == .free) = true then do let c ← cellOf env x.1; pure (ForInStep.yield ((x.1, c) :: r)) else pure (ForInStep.yield r) : Sem (ForInStep (List (Str × Addr))))) = pure cl ∧
      (∀ x c, cl.lookup x = some c → env.cells.lookup x = some c) ∧ (∀ x, (∃ c, acc.lookup x = some c) → ∃ c, cl.lookup x = some c) ∧ ∀ y ∈ names, y.2 = .free → ∃ c, cl.lookup y.1 = some c
  | [], acc, _, h => ⟨acc, rfl, h, fun _ z => z, fun _ z => absurd z (by simp)⟩
  | (n, k) :: r, acc, hn, h => by
    by_cases hk : k = .free
    · subst hk
      obtain ⟨c, hc⟩ := hn (n, .free) List.mem_cons_self rfl
      have hc : env.cells.lookup n = some c := hc
      obtain ⟨cl, e, h1, h2, h3⟩ := closure_of r ((n, c) :: acc) (fun y hy => hn y (List.mem_cons_of_mem _ hy)) (fun x c' q => by
        rw [List.lookup_cons] at q
        cases hx : x == n with
        | true =>
          rw [hx] at q
          have : x = n := by simpa using hx
          subst this; cases q; exact hc
        | false => rw [hx] at q; exact h x c' q)
      refine ⟨cl, ?_, h1, fun x ⟨c', q⟩ => h2 x ?_, fun y hy hf => ?_⟩
      · rw [List.forIn_cons]
        have ec : cellOf env n = pure c := by unfold cellOf; rw [hc]
        simp only [beq_self_eq_true, if_true, ec, pure_bind]
        exact e
      · rw [List.lookup_cons]
        cases hx : x == n with
        | true => exact ⟨c, rfl⟩
        | false => exact ⟨c', q⟩
      · rcases List.mem_cons.mp hy with rfl | hy
        · exact h2 n ⟨c, by simp [List.lookup_cons]⟩
        · exact h3 y hy hf
    · obtain ⟨cl, e, h1, h2, h3⟩ := closure_of r acc (fun y hy => hn y (List.mem_cons_of_mem _ hy)) h
      refine ⟨cl, ?_, h1, h2, fun y hy hf => ?_⟩
      · rw [List.forIn_cons]
        have hb : (k == NameKind.free) = false := by simpa using hk
        simp only [hb, Bool.false_eq_true, if_false, pure_bind]
        exact e
      · rcases List.mem_cons.mp hy with rfl | hy
        · exact absurd hf hk
        · exact h3 y hy hf
theorem closureFor_of {scope : Scope} {env : Env} (h : ∀ y ∈ scope.names, y.2 = .free → ∃ c, env.cells.lookup y.1 = some c) :
    ∃ cl, closureFor scope env = pure cl ∧ (∀ x c, cl.lookup x = some c → env.cells.lookup x = some c) ∧ ∀ y ∈ scope.names, y.2 = .free → ∃ c, cl.lookup y.1 = some c := by
  obtain ⟨cl, e, h1, _, h3⟩ := closure_of scope.names [] h fun x c q => by simp at q
  refine ⟨cl, ?_, h1, h3⟩
  unfold closureFor
  simp only [pure_bind, bind_pure]
  exact e
structure CompSc (osc : Scope) (ON : List Str) (scope : Scope) (N : List Str) (js : List (Option Nat)) : Prop where
  kind : scope.kind = .function
  loc : ∀ y ∈ scope.names, y.2 = .local → scope.names.lookup y.1 = some .local
  nocell : ∀ y ∈ scope.names, y.2 ≠ .cell
  fr : ∀ y ∈ scope.names, y.2 = .free → osc.names.lookup y.1 = some .cell ∨ osc.names.lookup y.1 = some .free
  len : js.length = N.length
  impB : ((N.zip js).all fun q => q.2.elim true fun j => decide (ON[j]? = some q.1) && decide (scope.names.lookup q.1 = some .free)) = true
theorem CompSc.imp {osc : Scope} {ON : List Str} {scope : Scope} {N : List Str} {js : List (Option Nat)} (S : CompSc osc ON scope N js) {i j : Nat} {x : Str} (h1 : N[i]? = some x) (h2 : js[i]? = some (some j)) :
    ON[j]? = some x ∧ scope.names.lookup x = some .free := by
  have m : (x, some j) ∈ N.zip js := List.mem_of_getElem? (i := i) (by rw [List.getElem?_zip_eq_some]; exact ⟨h1, h2⟩)
  have q := List.all_eq_true.mp S.impB _ m
  simp only [Option.elim_some, Bool.and_eq_true, decide_eq_true_eq] at q
  exact q
noncomputable def cxComp (X : Cx) (N : List Str) (scope : Scope) (cl : List (Str × Addr)) (C : Addr) (fp : List Addr) (s₂ : Shared) (H₂ : Hp) : Cx where
  prog := X.prog
  w := X.w
  K := X.K
  mg := X.mg
  base := X.base
  A := X.A
  N := N
  s₀ := s₂
  H₀ := H₂
  env := compEnvC scope cl C X.env
  outer := X.stack
  stack := X.stack
  ex := fp
  fn := fun _ => false
  calm := X.calm
  pn := []
  xe := fun _ _ => False
noncomputable def impS (js : List (Option Nat)) (σ : St) : St := js.map fun o => o.bind fun j => (σ[j]?).join
noncomputable def CompW (J : It) (g : TG) (te : TE) (Q : VK) (σ : St) (H1 : Hp) (D : Addr) : Prop := ∃ W : Nat → Nat → St → Hp → Prop, (∃ m, W 0 m σ (upd H1 D (.lst []))) ∧ ∀ i m σ' H', W i m σ' H' →
  (J.stop i H' ∧ Q (.ref D) H') ∨ (J.go i H' ∧ ∃ Nx : St → Hp → Prop, (∀ σ2 H5, Nx σ2 H5 → ∃ m', m' < m ∧ W (i + 1) m' σ2 H5) ∧ ∀ x H2, J.yld i H' x H2 → g x σ' H2 fun σ2 H3 => te σ2 H3 fun v H4 => ∃ xs, H4 D = some (.lst xs) ∧ xs.length < sizeLine ∧ Nx σ2 (upd H4 D (.lst (xs ++ [v]))))
noncomputable def tComp (js : List (Option Nat)) (wi : TI) (g : TG) (te : TE) : TE := fun σ H Q => wi σ H fun J H1 => ∀ D, H1 D = none → CompW J g te Q (impS js σ) H1 D
theorem compLoop_tup {prog : Program} {w : World} {A : Around} {R : Result → Shared → Prop} {s : Shared} {elt target iter : Expr} {scope : Scope} {pos : Pos} {it acc : Value} {env : Env} (I : Nat → Shared → Prop)
    (turn : ∀ n s, I n s → wpAny (model prog w) A (pyNext it) (fun r s₁ => match r with
      | none => R (.ok .next) s₁
      | some v => wpAny (model prog w) A (letOwnedTupleGo target it v) (fun _ s₁ => wpAny (model prog w) A (assign target env v) (fun _ s₂ => wpAny (model prog w) A (eval elt env) (fun x s₃ =>
          wpAny (model prog w) A (call (.builtin "list.append") [acc, x]) (fun _ s₄ => ∃ m, m < n ∧ I m s₄) (notedBy (model prog w) A env fun e s' => R (.error e) s') s₃)
          (notedBy (model prog w) A env fun e s' => R (.error e) s') s₂) (notedBy (model prog w) A env fun e s' => R (.error e) s') s₁) (notedBy (model prog w) A env fun e s' => R (.error e) s') s₁) (notedBy (model prog w) A env fun e s' => R (.error e) s') s)
    (n : Nat) (h : I n s) :
    codeAny (model prog w) A (.compLoop (.ListComp elt [⟨target, iter, [], 0⟩] scope pos) 0 it acc env) R s := by
  refine codeAny_loop rfl I (fun n s hI => ?_) n h
  show wpAny _ _ ((compTurn (.ListComp elt [⟨target, iter, [], 0⟩] scope pos) 0 it acc env).onRaise (fun x => do noteFrame x env; theTreesLotGoes x)) _ _ s
  refine wpAny_noted ?_
  rw [compTurn_list1]
  refine wpAny_bind (wpAny_standAt (wpAny_bind (wpAny_mono (turn n s hI) (fun r s₁ h₁ => ?_) fun _ _ h' => h')))
  cases r with
  | none => exact wpAny_pure h₁
  | some v =>
    refine wpAny_bind (wpAny_mono h₁ (fun _ s₁' h₁' => ?_) fun _ _ h' => h')
    exact wpAny_bind (wpAny_mono h₁' (fun _ s₂ h₂ => wpAny_bind (wpAny_bind (wpAny_mono h₂ (fun x s₃ h₃ => wpAny_bind (wpAny_mono h₃
      (fun _ s₄ h₄ => wpAny_pure (wpAny_pure ⟨rfl, h₄⟩)) fun _ _ h' => h')) fun _ _ h' => h'))) fun _ _ h' => h')
section
variable {X : Cx} {tg elt iter : Expr} {scope : Scope} {pos : Pos} {N : List Str} {js : List (Option Nat)} {wi : TI} {g : TG} {te : TE}
theorem comp_start {pins : List (Addr × Obj)} {σ : St} {H₂ : Hp} {s₂ : Shared} {fp : List Addr} {cl : List (Str × Addr)} {h₁ : Heap} {m₁ : Str → Option Value} {C D : Addr} {tk : Nat} (S : CompSc X.env.scope X.N scope N js) (I : Inv X pins σ H₂ s₂) (hf : ∀ b ∈ fp, FpOk X pins H₂ b)
    (hlt : ∀ b ∈ fp, b < s₂.heap.objs.size) (h1 : ∀ x c, cl.lookup x = some c → X.env.cells.lookup x = some c) (h3 : ∀ y ∈ scope.names, y.2 = .free → ∃ c, cl.lookup y.1 = some c)
    (hD : s₂.heap.objs.size ≤ D) (hC : s₂.heap.objs.size ≤ C) (hDC : D ≠ C) (old : ∀ b o, s₂.heap.get? b = some o → h₁.get? b = some o) (hns : h₁.Ns C m₁) (hacc : h₁.get? D = some { cls := .type "list", data := .seq #[] 0 }) :
    Inv (cxComp X N scope cl C fp s₂ H₂) [] (impS js σ) (upd H₂ D (.lst [])) { s₂ with heap := h₁, toks := tk } := by
  have rl := relabel_lookup scope X.env
  -- a captured name of the block is free in its scope
  have isfree : ∀ x, ((relabel scope X.env).names.lookup x = some .cell ∨ (relabel scope X.env).names.lookup x = some .free) → scope.names.lookup x = some .free := fun x hx => by
    rw [rl x] at hx
    cases q : scope.names.lookup x with
    | none => rw [q] at hx; simp at hx
    | some k =>
      rw [q] at hx
      by_cases hk : k = .free
      · rw [hk]
      · have hb : (k == NameKind.free) = false := by simpa using hk
        simp only [Option.map_some, hb, Bool.false_and, Bool.false_eq_true, if_false, Option.some.injEq] at hx
        rcases hx with z | z
        · exact absurd z (S.nocell _ (PySem.mem_of_lookup q))
        · exact absurd z hk
  have isvis : ∀ x, scope.names.lookup x = some .free → (relabel scope X.env).names.lookup x = some .cell ∨ (relabel scope X.env).names.lookup x = some .free := fun x hx => by
    rw [rl x, hx]
    simp only [Option.map_some]
    split
    · exact .inl rfl
    · exact .inr rfl
  have clt : ∀ x c, cl.lookup x = some c → c < s₂.heap.objs.size := fun x c e => by
    obtain ⟨v, z⟩ := I.cell x c (h1 x c e)
    exact z.lt
  have hnew : H₂ D = none := I.hok.fresh hD
  refine ⟨⟨I.ok.mod, S.kind, I.ok.glob, I.ok.blt, hC, fun x y c e1 e2 => I.ok.inj x y c (h1 x c e1) (h1 y c e2), fun x hx => ?_, (fun x c z => absurd (show false = true from z) (by decide)), I.ok.hd, I.ok.frames, .inl rfl, fun b hb => ?_, I.bs, Nat.le_trans I.ok.bsz I.sz, fun b o e hb => ?_, fun b hb z => ?_, I.stack, I.stkFree⟩,
    rfl, I.bare, Un.laid old hD hnew, ⟨m₁, hns, fun i x v e1 e2 e3 => ?_⟩, fun x c e => ?_, ?_, fun x c e => ?_, fun p hp => absurd hp (by simp [cxComp]), I.hok.laid old hD ?_, ?_⟩
  · exact h3 (x, .free) (PySem.mem_of_lookup (isfree x hx)) rfl
  · exact ⟨Nat.ne_of_lt (Nat.lt_of_lt_of_le (hlt b hb) hC), fun x c e => (hf b hb).2.2.2.2.1 x c (h1 x c e)⟩
  · rcases (hf b hb).2.2.2.1 with z | z
    · exact I.ok.noex b o e z
    · exact absurd (Nat.lt_of_lt_of_le (Heap.lt_size e) (Nat.le_trans I.ok.bsz z)) (Nat.lt_irrefl _)
  · rcases List.mem_cons.mp (I.stkSub b z) with q | q
    · exact (hf b hb).2.1 q
    · exact (hf b hb).2.2.1 q
  · -- a captured name's value
    have e2' : (js[i]?).map (fun o => o.bind fun j => (σ[j]?).join) = some (some v) := by
      have : (impS js σ)[i]? = some (some v) := e2
      unfold impS at this
      rw [List.getElem?_map] at this
      exact this
    cases q : js[i]? with
    | none => rw [q] at e2'; cases e2'
    | some o =>
      rw [q] at e2'
      cases o with
      | none => simp at e2'
      | some j =>
        obtain ⟨a1, a2⟩ := S.imp e1 q
        have a3 : σ[j]? = some (some v) := by
          simp only [Option.map_some, Option.bind_some, Option.some.injEq] at e2'
          cases z : σ[j]? with
          | none => rw [z] at e2'; cases e2'
          | some w => rw [z] at e2'; simp only [Option.join_some] at e2'; rw [e2']
        have kx := S.fr (x, .free) (PySem.mem_of_lookup a2) rfl
        have vx : Vis X.env.scope x := kx.elim (fun z => .inr (.inl z)) fun z => .inr (.inr z)
        obtain ⟨m, hn, hl⟩ := I.loc
        obtain ⟨u, ru, look⟩ := hl j x v a1 a3 vx
        refine ⟨u, ru, .inr ⟨isvis x a2, ?_⟩⟩
        rcases look with ⟨z, _⟩ | ⟨_, c, ec, ic⟩
        · rcases kx with y | y
          · exact absurd (z.symm.trans y) (by decide)
          · exact absurd (z.symm.trans y) (by decide)
        · obtain ⟨c', ec'⟩ := h3 (x, .free) (PySem.mem_of_lookup a2) rfl
          have : c' = c := Option.some.inj ((h1 x c' ec').symm.trans ec)
          subst this
          obtain ⟨o, ho, hd⟩ := ic
          exact ⟨c', ec', o, old _ o ho, hd⟩
  · obtain ⟨v, o, ho, hd⟩ := I.cell x c (h1 x c e)
    exact ⟨v, o, old _ o ho, hd⟩
  · show upd H₂ D (.lst []) C = none
    rw [upd_ne (Ne.symm hDC)]
    exact I.hok.fresh hC
  · show upd H₂ D (.lst []) c = none
    rw [upd_ne (Nat.ne_of_lt (Nat.lt_of_lt_of_le (clt x c e) hD))]
    exact I.freeC x c (h1 x c e)
  · exact ⟨Nat.zero_le _, [], 0, .nil, hacc⟩
  · show (impS js σ).length = N.length
    unfold impS
    rw [List.length_map, S.len]
theorem pe_comp (hc : X.calm = true) (S : CompSc X.env.scope X.N scope N js) (hi : PI X tg iter wi) (hg : ∀ cl C fp s H, PG (cxComp X N scope cl C fp s H) tg g) (he : ∀ cl C fp s H, PE (cxComp X N scope cl C fp s H) elt te)
    (hs : ∀ x, foldedSetIterable iter X.env x = pure x := by intro _; rfl) : PE X (.ListComp elt [⟨tg, iter, [], 0⟩] scope pos) (tComp js wi g te) := by
  intro pins s σ H Q I h
  obtain ⟨cl, hclos, h1, h3⟩ := closureFor_of (scope := scope) (env := X.env) fun y hy hf => I.ok.has y.1 (S.fr y hy hf)
  rw [eval_ListComp]
  refine wpAny_comprehension_free (use := none) rfl hs hclos S.kind S.loc (thn (hi pins s σ H _ I h) fun v s1 q1 => thn q1 fun itv s2 q2 => ?_)
  obtain ⟨it, fp, tn, J, H2, e, I2, T, st2, f2, R⟩ := q2
  subst e
  have hlt : ∀ b ∈ fp, b < s2.heap.objs.size := fun b hb => by
    obtain ⟨o, ho, _⟩ := T.obj 0 _ st2 b hb
    exact Heap.lt_size ho
  refine wpAny_newObj_type (wpAny_newFunctionEnv S.nocell (by intro y hy; simp at hy) (fun h₁ hns₁ hsb₁ => ?_) S.kind)
  dsimp only at hns₁ hsb₁ ⊢
  generalize hH2 : s2.heap.push { cls := .type "list", dict := none, data := .seq ([] : List Value).toArray } = P2 at hns₁ hsb₁ ⊢
  have hCe : P2.objs.size = s2.heap.objs.size + 1 := by rw [← hH2, Heap.size_push]
  have hDC : s2.heap.objs.size ≠ P2.objs.size := by rw [hCe]; exact Nat.ne_of_lt (Nat.lt_succ_self _)
  have hCle : s2.heap.objs.size ≤ P2.objs.size := by rw [hCe]; exact Nat.le_succ _
  have old : ∀ b o, s2.heap.get? b = some o → h₁.get? b = some o := fun b o e => hsb₁.extBut b o (Nat.ne_of_lt (Nat.lt_of_lt_of_le (Heap.lt_size e) hCle)) (Heap.get?_push_of_some _ (hH2 ▸ Heap.get?_push_of_some _ e))
  have hacc : h₁.get? s2.heap.objs.size = some { cls := .type "list", data := .seq #[] 0 } := hsb₁.extBut _ _ hDC (Heap.get?_push_of_some _ (hH2 ▸ Heap.get?_push_size _ rfl))
  have I3 := comp_start (tk := s2.toks + ([] : List (Str × Value)).length) S I2 f2 hlt h1 h3 (Nat.le_refl _) hCle hDC old hns₁ hacc
  have st3 : tn 0 h₁ := T.keep 0 _ _ st2 fun b _ o e => old b o e
  have hn2 : H2 s2.heap.objs.size = none := I2.hok.fresh (Nat.le_refl _)
  obtain ⟨W, ⟨m0, w0⟩, turn⟩ := R s2.heap.objs.size hn2
  have stat : ∀ {H' : Hp}, (∀ b ∈ fp, H' b = none) → ∀ b ∈ fp, FpOk (cxComp X N scope cl P2.objs.size fp s2 H2) [] H' b := fun {H'} hn b hb =>
    ⟨hn b hb, (I3.ok.exf b hb).1, I3.ok.exfs b hb, .inl hb, (I3.ok.exf b hb).2, fun p hp => absurd hp (by simp [cxComp])⟩
  have fin : ∀ {σ' : St} {H' : Hp} {s' : Shared}, Inv (cxComp X N scope cl P2.objs.size fp s2 H2) [] σ' H' s' → Q (.ref s2.heap.objs.size) H' →
      compPost (model X.prog X.w) X.A X.xe none (EP X pins σ Q) (.ref s2.heap.objs.size) P2.objs.size (.ok .next) s' := fun {σ' H' s'} J' q => by
    obtain ⟨m, hn, _⟩ := J'.loc
    refine ⟨m, hn, fun h' hs' => ?_⟩
    have bs : Un (frs X.stack) fp H2 H' s2.heap s'.heap := J'.base
    have ne : ∀ b o, s2.heap.get? b = some o → b ≠ P2.objs.size := fun b o e => Nat.ne_of_lt (Nat.lt_of_lt_of_le (Heap.lt_size e) hCle)
    have fr : H' P2.objs.size = none := J'.free
    refine ⟨.ref s2.heap.objs.size, H', I2.call' (s' := { s' with heap := h' }) (ch := fp) J'.os ⟨fun b o e n hb hx => ?_, fun b o e n hb hx => ?_, bs.free, fun b o e hx => ?_, bs.tups, bs.frzs, bs.tbls⟩ (fun b u e => ?_) J'.bare (fun b hb => ?_), rfl, q⟩
    · exact (hs'.2 b (ne b o e)).trans (bs.keep b o e n hb hx)
    · obtain ⟨sl, z⟩ := bs.slot b o e n hb hx
      exact ⟨sl, (hs'.2 b (ne b o e)).trans z⟩
    · obtain ⟨o', z⟩ := bs.there b o e hx
      exact ⟨o', (hs'.2 b (ne b o e)).trans z⟩
    · refine (J'.hok b u e).stay (fun c w' hc' z => (hs'.2 c ?_).trans z) (fun _ z => z) fun _ _ z => z
      rintro rfl
      rcases hc' with rfl | hc'
      · rw [fr] at e; cases e
      · rw [fr] at hc'; cases hc'
    · obtain ⟨_, a1, _, a3, a4, a5⟩ := f2 b hb
      exact ⟨a3, a1, a4, a5⟩
  have loop : ∀ s₃ : Shared, s₃ = { s2 with heap := h₁, toks := s2.toks + ([] : List (Str × Value)).length } →
      codeAny (model X.prog X.w) X.A (.compLoop (.ListComp elt [⟨tg, iter, [], 0⟩] scope pos) 0 (.ref it) (.ref s2.heap.objs.size) (compEnvC scope cl P2.objs.size X.env))
        (compPost (model X.prog X.w) X.A X.xe none (EP X pins σ Q) (.ref s2.heap.objs.size) P2.objs.size) s₃ := by
    rintro s₃ rfl
    refine compLoop_tup (fun n s' => ∃ i σ' H', Inv (cxComp X N scope cl P2.objs.size fp s2 H2) [] σ' H' s' ∧ tn i s'.heap ∧ (∀ b ∈ fp, H' b = none) ∧ W i n σ' H') ?_ m0
      ⟨0, _, _, I3, st3, fun b hb => by rw [upd_ne (Nat.ne_of_lt (hlt b hb))]; exact (f2 b hb).1, w0⟩
    rintro n s4 ⟨i, σ4, H4, I4, st4, fr4, w4⟩
    rcases turn i n σ4 H4 w4 with ⟨stop, q⟩ | ⟨go, Nx, hN, step⟩
    · refine thn (T.done (cxComp X N scope cl P2.objs.size fp s2 H2) rfl rfl rfl hc i [] s4 σ4 H4 _ I4 (stat fr4) st4 stop) fun r s5 ⟨hr, I5⟩ => ?_
      subst hr
      exact fin I5 q
    · refine thn (T.item (cxComp X N scope cl P2.objs.size fp s2 H2) rfl rfl rfl hc i [] s4 σ4 H4 _ I4 (stat fr4) st4 go) fun r s5 ⟨u, hr, h5⟩ => ?_
      subst hr
      refine thn h5 fun _ s6 ⟨x, H6, I6, r6, y6, st6, fr6⟩ => ?_
      have I6' := I6.pinned (stat fr6) (T.obj _ _ st6)
      refine wpAny_mono (hg cl P2.objs.size fp s2 H2 _ s6 σ4 H6 x u _ I6' r6 (step x H6 y6)) (fun _ s7 ⟨σ7, H7, I7, q7⟩ => ?_) fun _ _ z => z.elim
      refine wpAny_mono (he cl P2.objs.size fp s2 H2 _ s7 σ7 H7 _ I7 q7) (fun y s8 ⟨v8, H8, I8, r8, xs, e8, l8, n8⟩ => ?_) fun _ _ z => z.elim
      refine wpAny_mono (mt_append (X := cxComp X N scope cl P2.objs.size fp s2 H2) _ s8 σ7 H8 (.ref s2.heap.objs.size) [v8] (.ref s2.heap.objs.size) [y] (fun _ H9 => H9 = upd H8 s2.heap.objs.size (.lst (xs ++ [v8]))) I8 rfl (.cons r8 .nil) ⟨_, xs, v8, rfl, rfl, e8, l8, rfl⟩) (fun _ s9 ⟨v9, H9, I9, _, e9⟩ => ?_) fun _ _ z => z.elim
      subst e9
      obtain ⟨m', hm, w8⟩ := hN _ _ n8
      have pin : ∀ b o, b ∈ fp → s6.heap.get? b = some o → s9.heap.get? b = some o ∧ upd H8 s2.heap.objs.size (.lst (xs ++ [v8])) b = none := fun b o hb e => by
        have z := I9.pin (b, o) (List.mem_append_right _ (List.mem_append_right _ (mem_pinsAt hb e)))
        exact ⟨z.1, z.2.1⟩
      refine ⟨m', hm, i + 1, σ7, _, I9.unpinned, T.keep _ _ _ st6 fun b hb o e => (pin b o hb e).1, fun b hb => ?_, w8⟩
      obtain ⟨o, e, _⟩ := T.obj _ _ st6 b hb
      exact (pin b o hb e).2
  exact codeAny_compStart_list (loop _ rfl) (T.self _ 0 _ _ _ st3 (loop _ rfl))
end
end L2

namespace L2
open PySem PySem.Spec PyProof.Rows

section
variable {X : Cx} {pins : List (Addr × Obj)} {σ : St} {H : Hp} {s : Shared} {h' : Heap}
theorem Inv.turnedL {t' : Nat} {ch : List Addr} (I : Inv X pins σ H s) (hf : ∀ b ∈ ch, FpOk X pins H b) (k : ∀ b o, b ∉ ch → s.heap.get? b = some o → h'.get? b = some o) : Inv X pins σ H { s with heap := h', toks := t' } := by
  have nit : ∀ b u, H b = some u → b ∉ ch := fun b u e z => by rw [(hf b z).1] at e; cases e
  refine I.step (g' := s.gens) (d' := s.drawn) (ch := ch) (fun b hb => ?_) (fun b o _ _ hc e _ => k b o hc e) (fun b o _ _ hc e _ => ⟨o.slots, k b o hc e⟩) (fun _ _ _ _ n => n)
    (fun b o hc e => ⟨o, k b o hc e⟩) (fun _ _ e => e) (fun _ _ _ e => e) (fun b ps e => ⟨#[], by rw [e]; simp⟩) (fun m hm => ?_) (fun b u e => ?_) I.bare
  · obtain ⟨_, a1, _, a3, a4, a5⟩ := hf b hb
    exact ⟨a3, a1, a4, a5⟩
  · obtain ⟨o, es, ep, ho, r⟩ := hm
    exact ⟨o, es, ep, k _ o (fun z => (hf _ z).2.1 rfl) ho, r⟩
  · refine (I.hok b u e).stay (fun c v hc q => k c v ?_ q) (fun _ q => q) fun _ _ q => q
    rcases hc with z | z
    · rw [z]; exact nit b u e
    · exact nit c _ z
theorem Inv.turnLay {t' : Nat} {ch : List Addr} {T : Addr} {o : HO} (I : Inv X pins σ H s) (hf : ∀ b ∈ ch, FpOk X pins H b) (k : ∀ b o, b ∉ ch → s.heap.get? b = some o → h'.get? b = some o) (hT : s.heap.objs.size ≤ T)
    (new : ObjOk X.prog X.w (upd H T o) h' T o) : Inv X pins σ (upd H T o) { s with heap := h', toks := t' } := by
  have nit : ∀ b u, H b = some u → b ∉ ch := fun b u e z => by rw [(hf b z).1] at e; cases e
  have hn : H T = none := I.hok.fresh hT
  have neT : ∀ b o, s.heap.get? b = some o → b ≠ T := fun b o e => Nat.ne_of_lt (Nat.lt_of_lt_of_le (Heap.lt_size e) hT)
  refine I.step (g' := s.gens) (d' := s.drawn) (ch := ch) (fun b hb => ?_) (fun b o _ _ hc e _ => k b o hc e) (fun b o _ _ hc e _ => ⟨o.slots, k b o hc e⟩) (fun b o _ e n => by rw [upd_ne (neT b o e)]; exact n)
    (fun b o hc e => ⟨o, k b o hc e⟩) (fun b xs e => by rw [upd_ne (ne_of_none e hn)]; exact e) (fun b u xs e => by rw [upd_ne (ne_of_none e hn)]; exact e) (fun b ps e => ⟨#[], by rw [upd_ne (ne_of_none e hn), e]; simp⟩) (fun m hm => ?_) (fun b u e => ?_) I.bare
  · obtain ⟨_, a1, _, a3, a4, a5⟩ := hf b hb
    exact ⟨a3, a1, a4, a5⟩
  · obtain ⟨o, es, ep, ho, r⟩ := hm
    exact ⟨o, es, ep, k _ o (fun z => (hf _ z).2.1 rfl) ho, r⟩
  · by_cases hb : b = T
    · subst hb; rw [upd_same] at e; cases e; exact new
    · rw [upd_ne hb] at e
      refine (I.hok b u e).stay (fun c v hc q => k c v ?_ q) (fun c q => by rw [upd_ne (ne_of_none q hn)]; exact q) fun c xs q => by rw [upd_ne (ne_of_none q hn)]; exact q
      rcases hc with z | z
      · rw [z]; exact nit b u e
      · exact nit c _ z
end

noncomputable def Ite (K : PySem.W.Frag) (a : Addr) : It :=
  ⟨fun i H => ∃ xs x, SqL K H a xs ∧ xs[i]? = some x, fun i H v H' => ∃ p x, v = .ref p ∧ H p = none ∧ H' = upd H p (.tup [.int i, x]) ∧ ∀ xs, SqL K H a xs → xs[i]? = some x, fun i H => ∃ xs, SqL K H a xs ∧ xs.length ≤ i⟩
noncomputable def Itz (K : PySem.W.Frag) (a b : Addr) : It :=
  ⟨fun i H => ∃ xs ys x y, SqL K H a xs ∧ SqL K H b ys ∧ xs[i]? = some x ∧ ys[i]? = some y,
   fun i H v H' => ∃ p x y, v = .ref p ∧ H p = none ∧ H' = upd H p (.tup [x, y]) ∧ (∀ xs, SqL K H a xs → xs[i]? = some x) ∧ ∀ ys, SqL K H b ys → ys[i]? = some y,
   fun i H => ∃ xs ys, SqL K H a xs ∧ SqL K H b ys ∧ (xs.length ≤ i ∨ ys.length ≤ i)⟩
theorem two_le_line : (2 : Nat) ≤ sizeLine := by rw [sizeLine_eq]; decide
theorem turn_enum {P : Program} {w : World} {K : PySem.W.Frag} {elts : List Expr} {k : Nat} {pos : Pos} (a e it : Addr) (hei : e ≠ it) :
    Turn P w K (.Tuple elts k pos) (Ite K a) [e, it] e (fun i h => (∃ old, IsEnum h e it i old) ∧ h.IsListIter it a i) where
  mem := by simp
  obj := fun i h st b hb => by
    obtain ⟨⟨old, he⟩, ⟨o, eo, c, d⟩⟩ := st
    rcases List.mem_cons.mp hb with rfl | hb
    · exact ⟨_, he, fun v z => by
        have z' : Data.fields _ = Data.cell v := z
        cases z'⟩
    · have e : b = it := by simpa using hb
      subst e
      exact ⟨o, eo, fun v z => by rw [d] at z; cases z⟩
  keep := fun i h h' st kk => ⟨let ⟨old, he⟩ := st.1; ⟨old, kk e (by simp) _ he⟩, st.2.at fun o eo => kk it (by simp) o eo⟩
  item := by
    intro X hP hw hK hc i pins s σ H E I hf st hg
    subst hP hw hK
    obtain ⟨⟨old, he⟩, hit⟩ := st
    obtain ⟨xs, x, hq, hx⟩ := hg
    obtain ⟨its, rv, p, hz⟩ := I.list hq
    obtain ⟨u, hu, ru⟩ := rv.get hx
    refine wpAny_pyNext_enum_item he hit p.isList (x := u) (by simpa using hu) hei fun h1 he1 hit1 ht1 hs1 hk1 => ?_
    refine ⟨_, rfl, wpAny_letOwnedTupleGo_enum he1 fun h2 he2 hs2 => ?_⟩
    have elt : e < s.heap.objs.size := Heap.lt_size he
    have ilt : it < s.heap.objs.size := by obtain ⟨_, y, _⟩ := hit; exact Heap.lt_size y
    have keep2 : ∀ b o, b ∉ [e, it] → s.heap.get? b = some o → h2.get? b = some o := fun b o hb y =>
      (hs2.2 b fun z => hb (by simp [z])).trans (hk1 b o (fun z => hb (by simp [z])) (fun z => hb (by simp [z])) y)
    have hT2 : h2.get? s.heap.objs.size = some { cls := .type "tuple", data := .seq #[.int i s.toks, u] } := (hs2.2 _ (Nat.ne_of_gt elt)).trans ht1
    refine ⟨.ref s.heap.objs.size, upd H s.heap.objs.size (.tup [.int i, x]), I.turnLay (ch := [e, it]) hf keep2 (Nat.le_refl _) ⟨two_le_line, [.int i s.toks, u], .cons ⟨_, rfl⟩ (.cons ru .nil), ⟨_, hT2, rfl, _, rfl⟩⟩, rfl,
      ⟨_, x, rfl, I.hok.fresh (Nat.le_refl _), rfl, fun ys hy => by rw [I.list_inj hy hq]; exact hx⟩, ⟨⟨_, by simpa using he2⟩, hit1.extBut hs2.extBut (Ne.symm hei)⟩, fun b hb => ?_⟩
    have blt : b < s.heap.objs.size := by
      rcases List.mem_cons.mp hb with rfl | hb
      · exact elt
      · have e : b = it := by simpa using hb
        rw [e]; exact ilt
    rw [upd_ne (Nat.ne_of_lt blt)]
    exact (hf b hb).1
  done := by
    intro X hP hw hK hc i pins s σ H E I hf st hg
    subst hP hw hK
    obtain ⟨⟨old, he⟩, hit⟩ := st
    obtain ⟨xs, hq, hx⟩ := hg
    obtain ⟨its, rv, p, hz⟩ := I.list hq
    have hl := rv.length
    exact wpAny_pyNext_enum_end (I.ok.hd hc) he hit p.isList (by simp; (first | lia | omega)) fun h' eb => ⟨rfl, I.turnedL (t' := s.toks) (ch := [e, it]) hf fun b o hb y => eb b o (fun z => hb (by simp [z])) y⟩
  self := fun _ _ _ _ _ st h => let ⟨_, he⟩ := st.1; wpAny_pyIter_enum he h
theorem turn_zip {P : Program} {w : World} {K : PySem.W.Frag} {elts : List Expr} {k : Nat} {pos : Pos} (a b z TI TO i1 i2 : Addr) (D : ZipApart z TI TO i1 i2 a b) :
    Turn P w K (.Tuple elts k pos) (Itz K a b) [z, TI, TO, i1, i2] z (fun i h => IsZip h z TI TO .none ∧ IsPair h TI (.ref i1) (.ref i2) ∧ (∃ u v, IsPair h TO u v) ∧ h.IsListIter i1 a i ∧ h.IsListIter i2 b i) where
  mem := by simp
  obj := fun i h st c hc => by
    obtain ⟨hz, hTI, ⟨u, v, hTO⟩, ⟨o1, e1, _, d1⟩, ⟨o2, e2, _, d2⟩⟩ := st
    have nf : ∀ {vs : Array Value} (v : Option Value), Data.fields vs ≠ Data.cell v := fun v z => by cases z
    have ns : ∀ {vs : Array Value} {n : Nat} (v : Option Value), Data.seq vs n ≠ Data.cell v := fun v z => by cases z
    simp only [List.mem_cons, List.not_mem_nil, or_false] at hc
    rcases hc with rfl | rfl | rfl | rfl | rfl
    · exact ⟨_, hz, fun v => nf v⟩
    · exact ⟨_, hTI, fun v => ns v⟩
    · exact ⟨_, hTO, fun v => ns v⟩
    · exact ⟨o1, e1, fun v => by rw [d1]; exact nf v⟩
    · exact ⟨o2, e2, fun v => by rw [d2]; exact nf v⟩
  keep := fun i h h' st kk => by
    obtain ⟨hz, hTI, ⟨u, v, hTO⟩, h1, h2⟩ := st
    exact ⟨kk z (by simp) _ hz, kk TI (by simp) _ hTI, ⟨u, v, kk TO (by simp) _ hTO⟩, h1.at fun o e => kk i1 (by simp) o e, h2.at fun o e => kk i2 (by simp) o e⟩
  item := by
    intro X hP hw hK hc i pins s σ H E I hf st hg
    subst hP hw hK
    obtain ⟨hz, hTI, ⟨u0, v0, hTO⟩, h1, h2⟩ := st
    obtain ⟨xs, ys, x, y, hq, hq', hx, hy⟩ := hg
    obtain ⟨its, rv, p, hzz⟩ := I.list hq
    obtain ⟨u, hu, ru⟩ := rv.get hx
    obtain ⟨its', rv', p', hzz'⟩ := I.list hq'
    obtain ⟨u', hu', ru'⟩ := rv'.get hy
    refine wpAny_pyNext_zip_item D hz hTI hTO h1 h2 p.isList p'.isList (x := u) (y := u') (by simpa using hu) (by simpa using hu') fun h3 a1 a2 a3 a4 a5 a6 hk => ?_
    refine ⟨_, rfl, wpAny_letOwnedTupleGo_zip a1 fun h4 hz4 hs4 => ?_⟩
    have lt : ∀ {c o}, s.heap.get? c = some o → c < s.heap.objs.size := fun e => Heap.lt_size e
    have zlt := lt hz
    have keep2 : ∀ b o, b ∉ [z, TI, TO, i1, i2] → s.heap.get? b = some o → h4.get? b = some o := fun b o hb e =>
      (hs4.2 b fun q => hb (by simp [q])).trans (hk b o (fun q => hb (by simp [q])) (fun q => hb (by simp [q])) (fun q => hb (by simp [q])) (fun q => hb (by simp [q])) e)
    have hT4 : IsPair h4 s.heap.objs.size u u' := (hs4.2 _ (Nat.ne_of_gt zlt)).trans a5
    refine ⟨.ref s.heap.objs.size, upd H s.heap.objs.size (.tup [x, y]), I.turnLay (t' := s.toks) (ch := [z, TI, TO, i1, i2]) hf keep2 (Nat.le_refl _) ⟨two_le_line, [u, u'], .cons ru (.cons ru' .nil), ⟨_, hT4, rfl, _, rfl⟩⟩, rfl,
      ⟨_, x, y, rfl, I.hok.fresh (Nat.le_refl _), rfl, fun zs hzs => by rw [I.list_inj hzs hq]; exact hx, fun zs hzs => by rw [I.list_inj hzs hq']; exact hy⟩,
      ⟨hz4, (hs4.2 _ D.TIz).trans (hk _ _ D.TIz D.TITO D.TIi1 D.TIi2 hTI), ⟨_, _, (hs4.2 _ D.TOz).trans a2⟩, a3.extBut hs4.extBut D.i1z, a4.extBut hs4.extBut D.i2z⟩, fun c hc => ?_⟩
    have clt : c < s.heap.objs.size := by
      obtain ⟨_, e1, _⟩ := h1
      obtain ⟨_, e2, _⟩ := h2
      simp only [List.mem_cons, List.not_mem_nil, or_false] at hc
      rcases hc with rfl | rfl | rfl | rfl | rfl
      · exact zlt
      · exact lt hTI
      · exact lt hTO
      · exact lt e1
      · exact lt e2
    rw [upd_ne (Nat.ne_of_lt clt)]
    exact (hf c hc).1
  done := by
    intro X hP hw hK hc i pins s σ H E I hf st hg
    subst hP hw hK
    obtain ⟨hz, hTI, ⟨u0, v0, hTO⟩, h1, h2⟩ := st
    obtain ⟨xs, ys, hq, hq', hend⟩ := hg
    obtain ⟨its, rv, p, hzz⟩ := I.list hq
    obtain ⟨its', rv', p', hzz'⟩ := I.list hq'
    have hl := rv.length
    have hl' := rv'.length
    refine wpAny_pyNext_zip_end (I.ok.hd hc) D hz hTI hTO h1 h2 p.isList p'.isList ?_ fun h' hk => ⟨rfl, I.turnedL (t' := s.toks) (ch := [z, TI, TO, i1, i2]) hf fun b o hb e => hk b o (fun q => hb (by simp [q])) (fun q => hb (by simp [q])) (fun q => hb (by simp [q])) (fun q => hb (by simp [q])) e⟩
    rcases hend with q | q
    · exact .inl (by simp; (first | lia | omega))
    · exact .inr (by simp; (first | lia | omega))
  self := fun _ _ _ _ _ st h => wpAny_pyIter_zip st.1 h
section
variable {X : Cx}
noncomputable def iEnum (K : PySem.W.Frag) (ta : TA) : TI := fun σ H R => ta σ H fun vs H1 => ∃ a xs, vs = [.ref a] ∧ SqL K H1 a xs ∧ R (Ite K a) H1
noncomputable def iZip (K : PySem.W.Frag) (ta : TA) : TI := fun σ H R => ta σ H fun vs H1 => ∃ a b xs ys, vs = [.ref a, .ref b] ∧ SqL K H1 a xs ∧ SqL K H1 b ys ∧ R (Itz K a b) H1
theorem pi_enum {elts : List Expr} {k : Nat} {tpos : Pos} {a : Expr} {ta : TA} {p pos : Pos} (hg : Gl X "enumerate") (hm : X.mg "enumerate" = none) (ha : PA X [a] ta) (hs : starEach [a] X.env = [(false, eval a X.env)] := by rfl) :
    PI X (.Tuple elts k tpos) (.Call (.Name "enumerate" p) [a] [] pos) (iEnum X.K ta) := by
  intro pins s σ H R I h
  refine Call_ (ld_blt I hg hm boot_enumerate (PyProof.Rows.callWith_type1 (thn (ha pos pins s σ H _ I h) fun us s1 ⟨vs, H1, I1, r1, q1⟩ => ?_) hs rfl))
  obtain ⟨l, xs, e, hq, q⟩ := q1
  subst e
  cases r1 with
  | cons r rr =>
    cases rr
    cases r
    obtain ⟨its, rv, p, hz⟩ := I1.list hq
    refine call_enumerate_list p.isList fun h' he hit hsz hk => ?_
    refine wpAny_pyIter_enum he ?_
    have I2 : Inv X pins σ H1 { s1 with heap := h' } := I1.kept (t' := s1.toks) hk
    refine ⟨s1.heap.objs.size + 1, [s1.heap.objs.size + 1, s1.heap.objs.size], _, _, H1, rfl, I2, turn_enum l _ _ (Nat.succ_ne_self _), ⟨⟨_, he⟩, hit⟩, fun b hb => ?_, q⟩
    have hb' : s1.heap.objs.size ≤ b := by
      rcases List.mem_cons.mp hb with rfl | hb
      · exact Nat.le_succ _
      · have e : b = s1.heap.objs.size := by simpa using hb
        rw [e]; exact Nat.le_refl _
    exact I1.fpOk hb' (I1.hok.fresh hb')
theorem pi_zip {elts : List Expr} {k : Nat} {tpos : Pos} {a b : Expr} {ta : TA} {p pos : Pos} (hg : Gl X "zip") (hm : X.mg "zip" = none) (ha : PA X [a, b] ta) (hs : starEach [a, b] X.env = [(false, eval a X.env), (false, eval b X.env)] := by rfl) (hs2 : starEach [b] X.env = [(false, eval b X.env)] := by rfl) :
    PI X (.Tuple elts k tpos) (.Call (.Name "zip" p) [a, b] [] pos) (iZip X.K ta) := by
  intro pins s σ H R I h
  refine Call_ (ld_blt I hg hm boot_zip (PyProof.Rows.callWith_type1 (thn (ha pos pins s σ H _ I h) fun us s1 ⟨vs, H1, I1, r1, q1⟩ => ?_) (by rw [hs, hs2]) (by rw [hs2]; rfl)))
  obtain ⟨l, l', xs, ys, e, hq, hq', q⟩ := q1
  subst e
  cases r1 with
  | cons r rr =>
    cases rr with
    | cons r' rr =>
      cases rr
      cases r
      cases r'
      obtain ⟨its, rv, p, hz⟩ := I1.list hq
      obtain ⟨its', rv', p', hz'⟩ := I1.list hq'
      have ll : l < s1.heap.objs.size := by obtain ⟨_, e, _⟩ := p.isList; exact Heap.lt_size e
      have ll' : l' < s1.heap.objs.size := by obtain ⟨_, e, _⟩ := p'.isList; exact Heap.lt_size e
      refine call_zip_2 p.isList p'.isList fun h' a1 a2 a3 a4 a5 hsz hk => ?_
      refine wpAny_pyIter_zip a1 ?_
      have I2 : Inv X pins σ H1 { s1 with heap := h' } := I1.kept (t' := s1.toks) hk
      refine ⟨s1.heap.objs.size + 4, [s1.heap.objs.size + 4, s1.heap.objs.size + 2, s1.heap.objs.size + 3, s1.heap.objs.size, s1.heap.objs.size + 1], _, _, H1, rfl, I2, turn_zip l l' _ _ _ _ _ (zipApart_new ll ll'), ⟨a1, a2, ⟨_, _, a3⟩, a4, a5⟩, fun b hb => ?_, q⟩
      have hb' : s1.heap.objs.size ≤ b := by
        simp only [List.mem_cons, List.not_mem_nil, or_false] at hb
        rcases hb with rfl | rfl | rfl | rfl | rfl
        · exact Nat.le_add_right _ _
        · exact Nat.le_add_right _ _
        · exact Nat.le_add_right _ _
        · exact Nat.le_refl _
        · exact Nat.le_add_right _ _
      exact I1.fpOk hb' (I1.hok.fresh hb')
end

noncomputable def Itd (hi : Int) (n : Nat) : It := ⟨fun i _ => i < n, fun i H x H' => H' = H ∧ x = .int (hi - i), fun i _ => n ≤ i⟩
theorem turn_down {P : Program} {w : World} {K : PySem.W.Frag} {tg : Expr} (it : Addr) (hi : Int) (n : Nat) : Turn P w K tg (Itd hi n) [it] it (fun i h => IsRangeIter h it (hi + (i : Nat) * (-1)) ((n : Int) - (i : Nat)) (-1)) where
  mem := by simp
  obj := fun i h st b hb => by
    have e : b = it := by simpa using hb
    subst e
    exact ⟨_, st, fun v z => by
      have z' : Data.fields _ = Data.cell v := z
      cases z'⟩
  keep := fun i h h' st k => k it (by simp) _ st
  item := by
    intro X hP hw hK hc i pins s σ H E I hf st hg
    subst hP hw hK
    have W := Walks.range (prog := X.prog) (w := X.w) (I.ok.hd hc) it hi (-1) n
    refine W.item i s _ _ hg st fun v h' tk hv st' kk => ?_
    obtain ⟨t, rfl⟩ := hv
    have I1 : Inv X pins σ H { s with heap := h', toks := tk } := I.turnedL hf fun b o hb e => kk b o hb e
    refine ⟨_, rfl, go_of (s := { s with heap := h', toks := tk }) (n := "range_iterator") st' rfl rfl (by decide) ⟨.int (hi - i), H, I1, ⟨t, ?_⟩, ⟨rfl, rfl⟩, st', fun b hb => (hf b hb).1⟩⟩
    have e : hi + (i : Int) * (-1) = hi - i := by (first | lia | omega)
    rw [e]
  done := by
    intro X hP hw hK hc i pins s σ H E I hf st hg
    subst hP hw hK
    exact wpAny_pyNext_range_end (I.ok.hd hc) st (by have : n ≤ i := hg; (first | lia | omega)) fun h' eb => ⟨rfl, I.turnedL (t' := s.toks) hf fun b o hb e => eb b o (by simpa using hb) e⟩
  self := fun _ _ _ _ _ st h => wpAny_pyIter_rangeiter st h
section
variable {X : Cx} {tg : Expr}
noncomputable def iRngD (ta : TA) : TI := fun σ H R => ta σ H fun vs H1 => ∃ i j : Int, vs = [.int i, .int j, .int (-1)] ∧ (-(2 ^ 62) ≤ i ∧ i < 2 ^ 62 ∧ -(2 ^ 62) ≤ j ∧ j < 2 ^ 62) ∧ R (Itd i (i - j).toNat) H1
theorem pi_rangeD {a b c : Expr} {ta : TA} {p pos : Pos} (hg : Gl X "range") (hm : X.mg "range" = none) (ha : PA X [a, b, c] ta) (hs : starEach [a, b, c] X.env = [(false, eval a X.env), (false, eval b X.env), (false, eval c X.env)] := by rfl)
    (hs2 : starEach [b, c] X.env = [(false, eval b X.env), (false, eval c X.env)] := by rfl) : PI X tg (.Call (.Name "range" p) [a, b, c] [] pos) (iRngD ta) := by
  intro pins s σ H R I h
  refine Call_ (ld_blt I hg hm boot_range (PyProof.Rows.callWith_type1 (thn (ha pos pins s σ H _ I h) fun us s1 ⟨vs, H1, I1, r1, q1⟩ => ?_) (by rw [hs, hs2]) (by rw [hs2]; rfl)))
  obtain ⟨i, j, e, ⟨q1, q2, q3, q4⟩, q⟩ := q1
  subst e
  cases r1 with
  | cons r rr =>
    cases rr with
    | cons r' rr =>
      cases rr with
      | cons r'' rr =>
        cases rr
        obtain ⟨t, rfl⟩ := r
        obtain ⟨t', rfl⟩ := r'
        obtain ⟨t'', rfl⟩ := r''
        refine call_range_3 (by decide) ?_ (.inl (PyProof.noPylong_small (by decide)))
        refine wpAny_pyIter_range (IsRange.new ..) (PySem.W.small_down q1 q2 q3 q4) ?_
        have I2 : Inv X pins σ H1 { s1 with heap := s1.heap.push { cls := .type "range", data := .fields #[.int i t, .int j t', .int (-1) t''] } } := I1.kept (t' := s1.toks) fun b o e => Heap.get?_push_of_some _ e
        refine ⟨(s1.heap.push { cls := .type "range", data := .fields #[.int i t, .int j t', .int (-1) t''] }).objs.size, [(s1.heap.push { cls := .type "range", data := .fields #[.int i t, .int j t', .int (-1) t''] }).objs.size], _, _, H1, rfl,
          I2.kept (t' := s1.toks) fun b o e => Heap.get?_push_of_some _ e, turn_down _ i (i - j).toNat, ?_, fun b hb => ?_, q⟩
        · have e1 : i + ((0 : Nat) : Int) * (-1) = i := by simp
          have e2 : (((i - j).toNat : Nat) : Int) - ((0 : Nat) : Int) = Builtin.Range.rangeSize i j (-1) := by rw [PySem.W.rangeSize_downNat]; (first | lia | omega)
          show IsRangeIter _ _ (i + ((0 : Nat) : Int) * (-1)) ((((i - j).toNat : Nat) : Int) - ((0 : Nat) : Int)) (-1)
          rw [e1, e2]
          exact Heap.get?_push_size _ rfl
        · have e : b = (s1.heap.push { cls := .type "range", data := .fields #[.int i t, .int j t', .int (-1) t''] }).objs.size := by simpa using hb
          subst e
          exact I2.fpOk (Nat.le_refl _) (I2.hok.fresh (Nat.le_refl _))
end

theorem for_by {J : It} {n : Nat} {g : TG} {tb : TS} {D : Ends} {σ : St} {H : Hp} (Pv : Nat → St → Hp → Prop) (h0 : Pv 0 σ H) (hgo : ∀ i σ H, i < n → Pv i σ H → J.go i H) (hst : ∀ σ H, Pv n σ H → J.stop n H)
    (hs : ∀ i x σ H H', i < n → Pv i σ H → J.yld i H x H' → g x σ H' fun σ2 H2 => tb { D with nx := Pv (i + 1), ct := Pv (i + 1), bk := D.nx } σ2 H2) (hd : ∀ σ H, Pv n σ H → D.nx σ H) :
    ∃ W : Nat → Nat → St → Hp → Prop, (∃ m, W 0 m σ H) ∧ ∀ i m σ H, W i m σ H →
      (J.stop i H ∧ D.nx σ H) ∨ (J.go i H ∧ ∃ N : St → Hp → Prop, (∀ σ' H', N σ' H' → ∃ m', m' < m ∧ W (i + 1) m' σ' H') ∧ ∀ x H', J.yld i H x H' → g x σ H' fun σ2 H2 => tb { D with nx := N, ct := N, bk := D.nx } σ2 H2) := by
  refine ⟨fun i m σ H => m = n - i ∧ i ≤ n ∧ Pv i σ H, ⟨n, by simp, Nat.zero_le _, h0⟩, ?_⟩
  rintro i m σ H ⟨rfl, hi, p⟩
  by_cases hlt : i < n
  · exact .inr ⟨hgo i σ H hlt p, Pv (i + 1), fun σ' H' p' => ⟨n - (i + 1), by (first | lia | omega), rfl, hlt, p'⟩, fun x H' y => hs i x σ H H' hlt p y⟩
  · have e : i = n := by (first | lia | omega)
    subst e
    exact .inl ⟨hst σ H p, hd σ H p⟩
theorem comp_by {J : It} {n : Nat} {g : TG} {te : TE} {Q : VK} {σ : St} {H : Hp} {D : Addr} (Pv : Nat → St → Hp → Prop) (h0 : Pv 0 σ (upd H D (.lst []))) (hgo : ∀ i σ H, i < n → Pv i σ H → J.go i H) (hst : ∀ σ H, Pv n σ H → J.stop n H)
    (hs : ∀ i x σ H H', i < n → Pv i σ H → J.yld i H x H' → g x σ H' fun σ2 H3 => te σ2 H3 fun v H4 => ∃ xs, H4 D = some (.lst xs) ∧ xs.length < sizeLine ∧ Pv (i + 1) σ2 (upd H4 D (.lst (xs ++ [v])))) (hd : ∀ σ H, Pv n σ H → Q (.ref D) H) :
    CompW J g te Q σ H D := by
  refine ⟨fun i m σ H => m = n - i ∧ i ≤ n ∧ Pv i σ H, ⟨n, by simp, Nat.zero_le _, h0⟩, ?_⟩
  rintro i m σ H ⟨rfl, hi, p⟩
  by_cases hlt : i < n
  · exact .inr ⟨hgo i σ H hlt p, Pv (i + 1), fun σ' H' p' => ⟨n - (i + 1), by (first | lia | omega), rfl, hlt, p'⟩, fun x H' y => hs i x σ H H' hlt p y⟩
  · have e : i = n := by (first | lia | omega)
    subst e
    exact .inl ⟨hst σ H p, hd σ H p⟩

section
variable {X : Cx}
theorem call_all (hc : X.calm = true) : CallR X (.builtin "all") (fun xs H Q => ∃ (p : Addr) (bs : List Bool), xs = [.ref p] ∧ SqL X.K H p (bs.map V.bl) ∧ Q (.bl (bs.all id)) H) := by
  intro pins s σ H xs us Q I r h
  obtain ⟨p, bs, rfl, hq, q⟩ := h
  obtain ⟨u, rfl, ru⟩ := vals1 r
  cases ru
  obtain ⟨its, rv, pl, hz⟩ := I.list hq
  have hlen : bs.length = its.length := by have := rv.length; rwa [List.length_map] at this
  refine call_all_walk (wpAny_pyIter_list pl.isList ?_)
  have plt : p < s.heap.objs.size := by obtain ⟨_, e, _⟩ := pl.isList; exact Heap.lt_size e
  refine ⟨s.heap.objs.size, _, _, _, _, _, fun i => bs.getD i false, rfl, Walks.list (A := X.A.in1) (I.ok.hd hc) s.heap.objs.size p (Nat.ne_of_lt plt) its.toArray, ⟨⟨_, Heap.get?_push_size _ rfl, rfl, rfl⟩, pl.isList.at fun o e => Heap.get?_push_of_some _ e⟩, ?_, fun h' tk hk => ?_⟩
  · intro i v s' Q' E' hv hq'
    have hv' : its[i]? = some v := by simpa using hv
    have hi : i < bs.length := by rw [hlen]; exact (List.getElem?_eq_some_iff.mp hv').1
    obtain ⟨u, hu, ru⟩ := rv.get (i := i) (x := .bl (bs.getD i false)) (by simp [hi])
    rw [hv'] at hu
    cases hu
    cases (show v = Value.bool _ from ru)
    exact wpAny_pure hq'
  · refine ⟨.bl (bs.all id), H, I.kept fun b o e => hk b o (by simp; exact Nat.ne_of_lt (Heap.lt_size e)) (Heap.get?_push_of_some _ e), ?_, q⟩
    show Value.bool _ = Value.bool _
    congr 1
    rw [show its.toArray.size = bs.length by simp [hlen]]
    rw [Bool.eq_iff_iff]
    simp only [List.all_eq_true, List.mem_range, id]
    constructor
    · intro h b hb
      obtain ⟨i, hi, e⟩ := List.mem_iff_getElem.mp hb
      have := h i hi
      simpa [List.getD, hi, e] using this
    · intro h i hi
      have := h (bs.getD i false) (by simp [hi])
      exact this
theorem call_isi : CallR X (.builtin "isinstance") (fun xs H Q => ∃ x n t b, xs = [x, .ty n] ∧ TyOf X.K H x t ∧ PySem.W.kitOne X.K t (.type n) = some b ∧ Q (.bl b) H) := by
  intro pins s σ H xs us Q I r h
  obtain ⟨x, n, t, b, rfl, ty, e, q⟩ := h
  obtain ⟨u, u', rfl, ru, ru'⟩ := vals2 r
  cases (show u' = Value.type n from ru')
  exact isinst_ok I ru ty e fun tk => ⟨.bl b, H, I.tok tk, rfl, q⟩
noncomputable def rNeL (K : PySem.W.Frag) : R2 := fun x y H Q => ∃ (a b : Addr) (ns ms : List Int), x = .ref a ∧ y = .ref b ∧ SqL K H a (ns.map V.int) ∧ SqL K H b (ms.map V.int) ∧ Q (.bl (!decide (ns = ms))) H
theorem op_neL (hu : X.A.units + 64 < cLine) : OpR X (compareOp .NotEq) (rNeL X.K) := by
  intro pins s σ H x y v u Q I rx ry h
  obtain ⟨a, b, ns, ms, rfl, rfl, h1, h2, q⟩ := h
  cases rx
  cases ry
  obtain ⟨its, rv, p, _⟩ := I.list h1
  obtain ⟨its', rv', p', _⟩ := I.list h2
  exact PySem.W.ke_ne_ints p.isList p'.isList (intsAre_of rv) (intsAre_of rv') hu ⟨.bl _, H, I, rfl, q⟩
end
end L2

namespace J
noncomputable abbrev g (xs : List Int) (i : Nat) : Int := xs.getD i 0
noncomputable def step (xs : List Int) : List Int := xs.map fun c => if c + 1 ∈ xs then c else c + 1
noncomputable def run : Nat → List Int → List Int
  | 0, xs => xs
  | n + 1, xs => step (run n xs)
noncomputable def Rising (xs : List Int) : Prop := ∀ i : Nat, i + 1 < xs.length → g xs i < g xs (i + 1)
theorem g_get {xs : List Int} {i : Nat} (h : i < xs.length) : xs[i]? = some (g xs i) := by
  simp [g, List.getD, h]
theorem g_mem {xs : List Int} {i : Nat} (h : i < xs.length) : g xs i ∈ xs := List.mem_of_getElem? (g_get h)
theorem g_map {f : Int → Int} {xs : List Int} {i : Nat} (h : i < xs.length) : g (xs.map f) i = f (g xs i) := by
  simp [g, List.getD, h]
theorem ext_g {xs ys : List Int} (hl : xs.length = ys.length) (h : ∀ i, i < xs.length → g xs i = g ys i) : xs = ys := by
  apply List.ext_getElem? ; intro i
  by_cases hi : i < xs.length
  · rw [g_get hi, g_get (by (first | lia | omega)), h i hi]
  · rw [List.getElem?_eq_none (by (first | lia | omega)), List.getElem?_eq_none (by (first | lia | omega))]
theorem mem_g {xs : List Int} {v : Int} (h : v ∈ xs) : ∃ i, i < xs.length ∧ g xs i = v := by
  obtain ⟨i, hi, e⟩ := List.mem_iff_getElem.mp h
  exact ⟨i, hi, by simp [g, List.getD, hi, e]⟩
theorem mono {xs : List Int} (r : Rising xs) : ∀ d i : Nat, i + d + 1 < xs.length → g xs i < g xs (i + d + 1)
  | 0, i, h => r i h
  | d + 1, i, h => by
    have h1 := mono r d i (by omega)
    have h2 := r (i + d + 1) (by omega)
    have e : i + (d + 1) + 1 = i + d + 1 + 1 := by omega
    rw [e]; omega
theorem mono' {xs : List Int} (r : Rising xs) {i j : Nat} (h : i < j) (hj : j < xs.length) : g xs i < g xs j := by
  obtain ⟨d, rfl⟩ : ∃ d, j = i + d + 1 := ⟨j - i - 1, by omega⟩
  exact mono r d i hj
theorem mem_next {xs : List Int} (r : Rising xs) {i : Nat} (h : i < xs.length) : g xs i + 1 ∈ xs ↔ i + 1 < xs.length ∧ g xs (i + 1) = g xs i + 1 := by
  constructor
  · intro m
    obtain ⟨j, hj, e⟩ := mem_g m
    have hij : i < j := by
      rcases Nat.lt_trichotomy i j with q | q | q
      · exact q
      · subst q; (first | lia | omega)
      · have := mono' r q h; (first | lia | omega)
    have h1 : i + 1 < xs.length := by (first | lia | omega)
    refine ⟨h1, ?_⟩
    have a := r i h1
    rcases Nat.lt_or_ge (i + 1) j with q | q
    · have := mono' r q hj; (first | lia | omega)
    · have : j = i + 1 := by (first | lia | omega)
      subst this; exact e
  · rintro ⟨h1, e⟩
    rw [← e]; exact g_mem h1
theorem step_len (xs : List Int) : (step xs).length = xs.length := by simp [step]
theorem step_get {xs : List Int} (r : Rising xs) {i : Nat} (h : i < xs.length) : g (step xs) i = if i + 1 < xs.length ∧ g xs (i + 1) = g xs i + 1 then g xs i else g xs i + 1 := by
  unfold step
  rw [g_map h]
  have m := mem_next r h
  by_cases c : i + 1 < xs.length ∧ g xs (i + 1) = g xs i + 1
  · rw [if_pos c, if_pos (m.mpr c)]
  · rw [if_neg c, if_neg fun z => c (m.mp z)]
theorem step_rising {xs : List Int} (r : Rising xs) : Rising (step xs) := by
  intro i h
  rw [step_len] at h
  rw [step_get r (by omega), step_get r h]
  have := r i h
  split <;> split <;> omega
theorem run_len (n : Nat) (xs : List Int) : (run n xs).length = xs.length := by
  induction n with
  | zero => rfl
  | succ n ih => show (step (run n xs)).length = _; rw [step_len, ih]
theorem run_rising {xs : List Int} (r : Rising xs) (n : Nat) : Rising (run n xs) := by
  induction n with
  | zero => exact r
  | succ n ih => exact step_rising ih
noncomputable def key (xs : List Int) (j : Nat) : Int := g xs j - 2 * (j : Int)
structure IsMin (xs : List Int) (n i : Nat) (v : Int) : Prop where
  ex : ∃ j, i ≤ j ∧ j ≤ i + n ∧ j < xs.length ∧ key xs j = v
  le : ∀ j, i ≤ j → j ≤ i + n → j < xs.length → v ≤ key xs j
theorem IsMin.uniq {xs : List Int} {n i : Nat} {v u : Int} (a : IsMin xs n i v) (b : IsMin xs n i u) : v = u := by
  obtain ⟨j, h1, h2, h3, e⟩ := a.ex
  obtain ⟨j', h1', h2', h3', e'⟩ := b.ex
  have := a.le j' h1' h2' h3'
  have := b.le j h1 h2 h3
  (first | lia | omega)
theorem run_min {xs : List Int} (r : Rising xs) (n : Nat) : ∀ i, i < xs.length → IsMin xs n i (g (run n xs) i - n - 2 * i) := by
  induction n with
  | zero =>
    intro i hi
    refine ⟨⟨i, Nat.le_refl _, Nat.le_refl _, hi, ?_⟩, fun j h1 h2 h3 => ?_⟩
    · simp only [run, key]; (first | lia | omega)
    · have : j = i := by (first | lia | omega)
      subst this; simp only [run, key]; (first | lia | omega)
  | succ n ih =>
    intro i hi
    have rn := run_rising r n
    have ln := run_len n xs
    have sg := step_get rn (i := i) (by (first | lia | omega))
    have A := ih i hi
    have e : g (run (n + 1) xs) i = g (step (run n xs)) i := rfl
    rw [e, sg]
    by_cases h1 : i + 1 < xs.length
    · have B := ih (i + 1) h1
      have ris := rn i (by (first | lia | omega))
      obtain ⟨ja, a1, a2, a3, a4⟩ := A.ex
      obtain ⟨jb, b1, b2, b3, b4⟩ := B.ex
      have al := A.le
      have bl := B.le
      by_cases c : g (run n xs) (i + 1) = g (run n xs) i + 1
      · rw [if_pos ⟨by (first | lia | omega), c⟩]
        refine ⟨⟨jb, by (first | lia | omega), by (first | lia | omega), b3, by (first | lia | omega)⟩, fun j h1 h2 h3 => ?_⟩
        by_cases hj : i + 1 ≤ j
        · have := bl j hj (by (first | lia | omega)) h3; (first | lia | omega)
        · have := al j h1 (by (first | lia | omega)) h3; (first | lia | omega)
      · rw [if_neg fun z => c z.2]
        refine ⟨⟨ja, a1, by (first | lia | omega), a3, by (first | lia | omega)⟩, fun j h1 h2 h3 => ?_⟩
        by_cases hj : i + 1 ≤ j
        · have := bl j hj (by (first | lia | omega)) h3; (first | lia | omega)
        · have := al j h1 (by (first | lia | omega)) h3; (first | lia | omega)
    · rw [if_neg fun z => h1 (by (first | lia | omega))]
      obtain ⟨ja, a1, a2, a3, a4⟩ := A.ex
      refine ⟨⟨ja, a1, by (first | lia | omega), a3, by (first | lia | omega)⟩, fun j h1 h2 h3 => ?_⟩
      have := A.le j h1 (by (first | lia | omega)) h3; (first | lia | omega)
structure Hold (xs : List Int) (n : Nat) (i b : Nat) : Prop where
  ge : i ≤ b
  lt : b < xs.length
  win : b ≤ i + n
  le : ∀ j, i ≤ j → j ≤ i + n → j < xs.length → key xs b ≤ key xs j
  near : ∀ j, i ≤ j → j < b → key xs b < key xs j
theorem Hold.run {xs : List Int} (r : Rising xs) {n i b : Nat} (h : Hold xs n i b) : g (run n xs) i = key xs b + n + 2 * i := by
  have hi : i < xs.length := Nat.lt_of_le_of_lt h.ge h.lt
  have A := run_min r n i hi
  have B : IsMin xs n i (key xs b) := ⟨⟨b, h.ge, h.win, h.lt, rfl⟩, h.le⟩
  have := A.uniq B
  (first | lia | omega)
theorem Hold.more {xs : List Int} {n m i b : Nat} (h : Hold xs n i b) (hn : xs.length ≤ i + n + 1) (hm : n ≤ m) : Hold xs m i b :=
  ⟨h.ge, h.lt, by have := h.win; (first | lia | omega), fun j h1 h2 h3 => h.le j h1 (by (first | lia | omega)) h3, h.near⟩
theorem hold_ex (xs : List Int) (n i : Nat) (hi : i < xs.length) : ∃ b, Hold xs n i b := by
  induction n generalizing i with
  | zero => exact ⟨i, Nat.le_refl _, hi, by (first | lia | omega), fun j h1 h2 h3 => by
      have : j = i := by (first | lia | omega)
      subst this; exact Int.le_refl _, fun j h1 h2 => by (first | lia | omega)⟩
  | succ n ih =>
    by_cases h1 : i + 1 < xs.length
    · obtain ⟨b, h⟩ := ih (i + 1) h1
      by_cases c : key xs b < key xs i
      · exact ⟨b, by have := h.ge; (first | lia | omega), h.lt, by have := h.win; (first | lia | omega), fun j a1 a2 a3 => by
          by_cases hj : i + 1 ≤ j
          · exact h.le j hj (by (first | lia | omega)) a3
          · have : j = i := by (first | lia | omega)
            subst this; (first | lia | omega), fun j a1 a2 => by
          by_cases hj : i + 1 ≤ j
          · exact h.near j hj a2
          · have : j = i := by (first | lia | omega)
            subst this; (first | lia | omega)⟩
      · exact ⟨i, Nat.le_refl _, hi, by (first | lia | omega), fun j a1 a2 a3 => by
          by_cases hj : i + 1 ≤ j
          · have := h.le j hj (by (first | lia | omega)) a3; (first | lia | omega)
          · have : j = i := by (first | lia | omega)
            subst this; exact Int.le_refl _, fun j a1 a2 => by (first | lia | omega)⟩
    · exact ⟨i, Nat.le_refl _, hi, by (first | lia | omega), fun j a1 a2 a3 => by
        have : j = i := by (first | lia | omega)
        subst this; exact Int.le_refl _, fun j a1 a2 => by (first | lia | omega)⟩
theorem run_far {xs : List Int} (r : Rising xs) {i : Nat} (hi : i < xs.length) (k : Nat) : g (run (xs.length + k) xs) i = g (run xs.length xs) i + k := by
  obtain ⟨b, h⟩ := hold_ex xs xs.length i hi
  have h2 := h.more (m := xs.length + k) (by (first | lia | omega)) (by (first | lia | omega))
  rw [h.run r, h2.run r]
  (first | lia | omega)
noncomputable def stay (xs : List Int) (t i : Nat) : Prop := g (run (t + 1) xs) i = g (run t xs) i
noncomputable instance (xs : List Int) (t i : Nat) : Decidable (stay xs t i) := inferInstanceAs (Decidable (_ = _))
noncomputable def stays (xs : List Int) (i : Nat) : Nat → Int
  | 0 => 0
  | t + 1 => if stay xs t i then stays xs i t + 1 else stays xs i t
noncomputable def free (xs : List Int) (i : Nat) : Nat → Int
  | 0 => 0
  | t + 1 => if stay xs t i then (t : Int) + 1 else free xs i t
theorem run_succ {xs : List Int} (r : Rising xs) {t i : Nat} (hi : i < xs.length) : g (run (t + 1) xs) i = g (run t xs) i ∨ g (run (t + 1) xs) i = g (run t xs) i + 1 := by
  have rn := run_rising r t
  have sg := step_get rn (i := i) (by rw [run_len]; omega)
  have e : g (run (t + 1) xs) i = g (step (run t xs)) i := rfl
  rw [e, sg]
  split
  · exact .inl rfl
  · exact .inr rfl
theorem stays_eq {xs : List Int} (r : Rising xs) {i : Nat} (hi : i < xs.length) (t : Nat) : stays xs i t = t - (g (run t xs) i - g xs i) := by
  induction t with
  | zero => simp [stays, run]
  | succ t ih =>
    simp only [stays]
    by_cases c : stay xs t i
    · rw [if_pos c, ih]; unfold stay at c; (first | lia | omega)
    · rw [if_neg c, ih]
      have c' : ¬ g (run (t + 1) xs) i = g (run t xs) i := c
      rcases run_succ r (t := t) hi with q | q
      · exact absurd q c'
      · (first | lia | omega)
theorem Hold.stays {xs : List Int} (r : Rising xs) {i b : Nat} (h : Hold xs xs.length i b) : stays xs i xs.length = key xs i - key xs b := by
  rw [stays_eq r (Nat.lt_of_le_of_lt h.ge h.lt), h.run r]
  unfold key; (first | lia | omega)
theorem Hold.cut {xs : List Int} {n i b : Nat} (h : Hold xs n i b) {m : Nat} (h1 : b ≤ i + m) (h2 : m ≤ n) : Hold xs m i b :=
  ⟨h.ge, h.lt, h1, fun j a1 a2 a3 => h.le j a1 (by (first | lia | omega)) a3, h.near⟩
theorem Hold.free {xs : List Int} (r : Rising xs) {i b : Nat} (h : Hold xs xs.length i b) : ∀ t, b ≤ i + t → free xs i t = (b : Int) - i := by
  have hi : i < xs.length := Nat.lt_of_le_of_lt h.ge h.lt
  have val : ∀ t, b ≤ i + t → g (J.run t xs) i = key xs b + t + 2 * i := fun t ht => by
    by_cases c : t ≤ xs.length
    · exact (h.cut ht c).run r
    · exact (h.more (m := t) (by (first | lia | omega)) (by (first | lia | omega))).run r
  intro t
  induction t with
  | zero =>
    intro ht
    have := h.ge
    have : b = i := by (first | lia | omega)
    subst this; simp [J.free]
  | succ t ih =>
    intro ht
    simp only [J.free]
    by_cases c : b ≤ i + t
    · have v1 := val t c
      have v2 := val (t + 1) ht
      rw [if_neg (by unfold stay; (first | lia | omega))]
      exact ih c
    · have e : b = i + t + 1 := by (first | lia | omega)
      have v2 := val (t + 1) ht
      have A := run_min r t i hi
      obtain ⟨j, a1, a2, a3, a4⟩ := A.ex
      have nj := h.near j a1 (by (first | lia | omega))
      rw [if_pos ?_]
      · (first | lia | omega)
      · unfold stay
        rcases run_succ r (t := t) hi with q | q
        · exact q
        · (first | lia | omega)
end J
namespace J
structure DQ (xs : List Int) (n i : Nat) (L : List Nat) : Prop where
  mem : ∀ l ∈ L, i ≤ l ∧ l < xs.length ∧ l ≤ i + n
  ord : L.Pairwise fun a b => b < a ∧ key xs a < key xs b
  dom : ∀ j, i ≤ j → j < xs.length → j ≤ i + n → ∃ l ∈ L, l ≤ j ∧ key xs l ≤ key xs j
structure DQ1 (xs : List Int) (n c : Nat) (L : List Nat) : Prop where
  mem : ∀ l ∈ L, c ≤ l ∧ l < xs.length
  ord : L.Pairwise fun a b => b < a ∧ key xs a < key xs b
  dom : ∀ j, c ≤ j → j < xs.length → j ≤ c + n → ∃ l ∈ L, l ≤ j ∧ key xs l ≤ key xs j
theorem DQ.start (xs : List Int) (n : Nat) : DQ xs n xs.length [] :=
  ⟨fun l h => by simp at h, .nil, fun j h1 h2 => by omega⟩
theorem DQ.pop {xs : List Int} {n c : Nat} {A R : List Nat} (d : DQ xs n (c + 1) (A ++ R)) (hc : c < xs.length) (hR : ∀ r ∈ R, key xs c ≤ key xs r) (hA : ∀ a, A.getLast? = some a → key xs a < key xs c) : DQ1 xs n c (A ++ [c]) := by
  have oA : A.Pairwise fun a b => b < a ∧ key xs a < key xs b := (List.pairwise_append.mp d.ord).1
  have kA : ∀ a ∈ A, key xs a < key xs c := by
    intro a ha
    have hne : A ≠ [] := by intro z; rw [z] at ha; simp at ha
    have hl := hA _ (List.getLast?_eq_some_getLast hne)
    have e := (List.dropLast_concat_getLast hne).symm
    rw [e] at ha oA
    rcases List.mem_append.mp ha with q | q
    · have := ((List.pairwise_append.mp oA).2.2 a q (A.getLast hne) (by simp)).2; (first | lia | omega)
    · have : a = A.getLast hne := by simpa using q
      rw [this]; exact hl
  refine ⟨fun l hl => ?_, ?_, fun j h1 h2 h3 => ?_⟩
  · rcases List.mem_append.mp hl with q | q
    · have := d.mem l (List.mem_append_left _ q); (first | lia | omega)
    · have : l = c := by simpa using q
      (first | lia | omega)
  · refine List.pairwise_append.mpr ⟨oA, by simp, fun a ha b hb => ?_⟩
    have : b = c := by simpa using hb
    subst this
    have := d.mem a (List.mem_append_left _ ha)
    exact ⟨by (first | lia | omega), kA a ha⟩
  · by_cases hj : c + 1 ≤ j
    · obtain ⟨l, hl, l1, l2⟩ := d.dom j hj h2 (by (first | lia | omega))
      rcases List.mem_append.mp hl with q | q
      · exact ⟨l, List.mem_append_left _ q, l1, l2⟩
      · have := hR l q
        exact ⟨c, by simp, by (first | lia | omega), by (first | lia | omega)⟩
    · have : j = c := by (first | lia | omega)
      subst this
      exact ⟨j, by simp, Nat.le_refl _, Int.le_refl _⟩
theorem DQ1.front {xs : List Int} {n c h : Nat} {B L : List Nat} (d : DQ1 xs n c (B ++ h :: L)) (hB : ∀ b ∈ B, c + n < b) (hh : h ≤ c + n) : DQ xs n c (h :: L) := by
  have oL := (List.pairwise_append.mp d.ord).2.1
  refine ⟨fun l hl => ?_, oL, fun j h1 h2 h3 => ?_⟩
  · have m := d.mem l (List.mem_append_right _ hl)
    refine ⟨m.1, m.2, ?_⟩
    rcases List.mem_cons.mp hl with q | q
    · (first | lia | omega)
    · have := ((List.pairwise_cons.mp oL).1 l q).1; (first | lia | omega)
  · obtain ⟨l, hl, l1, l2⟩ := d.dom j h1 h2 h3
    rcases List.mem_append.mp hl with q | q
    · have := hB l q; (first | lia | omega)
    · exact ⟨l, q, l1, l2⟩
theorem DQ.hold {xs : List Int} {n c h : Nat} {L : List Nat} (d : DQ xs n c (h :: L)) : Hold xs n c h := by
  have m := d.mem h (by simp)
  have key_le : ∀ l ∈ h :: L, key xs h ≤ key xs l := fun l hl => by
    rcases List.mem_cons.mp hl with q | q
    · subst q; exact Int.le_refl _
    · have := ((List.pairwise_cons.mp d.ord).1 l q).2; (first | lia | omega)
  refine ⟨m.1, m.2.1, m.2.2, fun j h1 h2 h3 => ?_, fun j h1 h2 => ?_⟩
  · obtain ⟨l, hl, l1, l2⟩ := d.dom j h1 h3 h2
    have := key_le l hl; (first | lia | omega)
  · obtain ⟨l, hl, l1, l2⟩ := d.dom j h1 (by (first | lia | omega)) (by (first | lia | omega))
    rcases List.mem_cons.mp hl with q | q
    · (first | lia | omega)
    · have := ((List.pairwise_cons.mp d.ord).1 l q).2; (first | lia | omega)
theorem after_eq {xs : List Int} (r : Rising xs) {n : Nat} {bs : List Nat} (hl : bs.length = xs.length) (h : ∀ i b, bs[i]? = some b → Hold xs n i b) {ys : List Int} (hy : ys.length = xs.length)
    (e : ∀ i b, bs[i]? = some b → g ys i = g xs b + n - 2 * ((b : Int) - i)) : ys = run n xs := by
  refine ext_g (by rw [run_len, hy]) fun i hi => ?_
  have hb : bs[i]? = some (bs[i]'(by (first | lia | omega))) := by simp [show i < bs.length by (first | lia | omega)]
  rw [e i _ hb, (h i _ hb).run r]
  unfold key; (first | lia | omega)
end J

namespace L2
open PySem PySem.Spec PyProof.Rows
structure Def (P : Program) (w : World) (K : PySem.W.Frag) (mg : Str → Option Value) (base : Heap) (x : Str) (k : Nat) (ps : List Str) (sp : Sp) : Prop where
  ex : ∃ (f : Addr) (fd : FuncData), FnOk P w K mg base CX0 k f fd ps sp ∧ mg x = some (.ref f) ∧ PySem.W.keepIn K (.ref f) = true ∧ Binds K fd ps []
section
variable {X : Cx} {x : Str} {k : Nat} {ps : List Str} {sp : Sp} {p pos : Pos} {e : Expr} {es : List Expr} {t : TA}
theorem pe_def (D : Def X.prog X.w X.K X.mg X.base x k ps sp) (hr : Room k X.A) (ha : PA X (e :: es) t) (hg : Gl X x := by rfl) (hdb : (x == ("__debug__" : Str)) = false := by decide)
    (he : starEach (e :: es) X.env = (false, eval e X.env) :: starEach es X.env := by rfl) (hpl : (backTo pos (starEach es X.env)).any (·.1) = false := by rfl) : PE X (.Call (.Name x p) (e :: es) [] pos) (tCall sp [] E0 t) := by
  obtain ⟨f, fd, F, a, b, c⟩ := D.ex
  exact pe_call F hr hg a b c .nil pass0 ha hdb he hpl
end
theorem pg_pair {X : Cx} (K : PySem.W.Frag) {i j : Nat} {x y : Str} {p1 p2 pos : Pos} {k : Nat} (hc : X.calm = true) (hN : X.N.Nodup) (hi : X.N[i]? = some x) (hj : X.N[j]? = some y) (hx : X.env.scope.names.lookup x = some .local) (hy : X.env.scope.names.lookup y = some .local) (hK : X.K = K := by rfl) :
    PG X (.Tuple [.Name x p1, .Name y p2] k pos) (gTup K 2 (gCons (gName i) (gCons (gName j) gNil))) :=
  hK ▸ pg_tup hc (pgs_cons (pg_name hN hi (Or.inl hx) (.inr hx)) (pgs_cons (pg_name hN hj (Or.inl hy) (.inr hy)) pgs_nil))
theorem ix_listK {X : Cx} (K : PySem.W.Frag) (hK : X.K = K := by rfl) : IxR X (rIxL K) := hK ▸ ix_list
noncomputable def kitTT (T c : String) : Option Bool := if ((Value.type T) == .type c) = true then some true else if PySem.W.kitMeta c = true then (fastBuiltinMro T).map (·.contains (.type c)) else none
theorem kit_tt (K : PySem.W.Frag) (T c : String) : PySem.W.kitOne K (.type T) (.type c) = kitTT T c := rfl
theorem boot_int : bootBuiltins "int" = some (.type "int") := by decide +kernel
theorem boot_bool : bootBuiltins "bool" = some (.type "bool") := by decide +kernel
theorem boot_listT : bootBuiltins "list" = some (.type "list") := by decide +kernel
theorem Same.upd {H H' : Hp} (e : Same H H') {p : Addr} {o : HO} (h : H p = none) : Same H (upd H' p o) := fun b u q => by
  rw [upd_ne (ne_of_none q h)]
  exact e b u q
theorem Same.new (H : Hp) {p : Addr} {o : HO} (h : H p = none) : Same H (L2.upd H p o) := (Same.refl H).upd h
theorem Same.at {H H' : Hp} (e : Same H H') {a : Addr} {o : HO} (h : H a = some o) : H' a = some o := e a o h
noncomputable abbrev ivs (ns : List Int) : List V := ns.map V.int
theorem small63 {n : Nat} (h : n ≤ 900) : n < sizeLine := small1000 (by (first | lia | omega))
theorem le63 {n : Nat} (h : n ≤ 900) : n ≤ sizeLine := Nat.le_of_lt (small63 h)
theorem ivs_get {ns : List Int} {i : Nat} (h : i < ns.length) : (ivs ns)[i]? = some (.int (J.g ns i)) := by
  simp [ivs, J.g, List.getD, h]
theorem itl_int {K : PySem.W.Frag} {H H' : Hp} {a : Addr} {ns : List Int} {i : Nat} {x : V} (h : H a = some (.lst (ivs ns))) (hi : i < ns.length) (y : (Itl K a).yld i H x H') : H' = H ∧ x = .int (J.g ns i) := by
  obtain ⟨e, y⟩ := y
  have := y _ (SqL.of h)
  rw [ivs_get hi] at this
  exact ⟨e, (Option.some.inj this).symm⟩
end L2

namespace L2
open PySem PySem.Spec PyProof.Rows
section
variable {X : Cx} {pins : List (Addr × Obj)} {σ : St} {H : Hp} {s : Shared} {h' : Heap}
theorem Inv.turnedC {t' : Nat} {c : Addr} (I : Inv X pins σ H s) (f : FpOk X pins H c) (k : ∀ b o, b ≠ c → s.heap.get? b = some o → h'.get? b = some o) : Inv X pins σ H { s with heap := h', toks := t' } :=
  I.turned k f.1 f.2.1 f.2.2.2.1 f.2.2.2.2.1 f.2.2.2.2.2
end
section
variable {X : Cx} {tg elt iter : Expr} {scope : Scope} {pos : Pos} {N : List Str} {js : List (Option Nat)} {wi : TI} {g : TG} {te : TE}
end
end L2

namespace L2
open PySem PySem.Spec PyProof.Rows
noncomputable def CompWI (J : It) (g : TG) (tt : TT) (te : TE) (Q : VK) (σ : St) (H1 : Hp) (D : Addr) : Prop := ∃ W : Nat → Nat → St → Hp → Prop, (∃ m, W 0 m σ (upd H1 D (.lst []))) ∧ ∀ i m σ' H', W i m σ' H' →
  (J.stop i H' ∧ Q (.ref D) H') ∨ (J.go i H' ∧ ∃ Nx : St → Hp → Prop, (∀ σ2 H5, Nx σ2 H5 → ∃ m', m' < m ∧ W (i + 1) m' σ2 H5) ∧ ∀ x H2, J.yld i H' x H2 → g x σ' H2 fun σ2 H3 => tt σ2 H3 fun ok H3' => if ok = true then te σ2 H3' fun v H4 => ∃ xs, H4 D = some (.lst xs) ∧ xs.length < sizeLine ∧ Nx σ2 (upd H4 D (.lst (xs ++ [v]))) else Nx σ2 H3')
noncomputable def tCompIf (js : List (Option Nat)) (wi : TI) (g : TG) (tt : TT) (te : TE) : TE := fun σ H Q => wi σ H fun J H1 => ∀ D, H1 D = none → CompWI J g tt te Q (impS js σ) H1 D
theorem compLoop_tst {prog : Program} {w : World} {A : Around} {R : Result → Shared → Prop} {s : Shared} {elt target iter tst : Expr} {scope : Scope} {pos : Pos} {it acc : Value} {env : Env} (I : Nat → Shared → Prop)
    (turn : ∀ n s, I n s → wpAny (model prog w) A (pyNext it) (fun r s₁ => match r with
      | none => R (.ok .next) s₁
      | some v => wpAny (model prog w) A (letOwnedTupleGo target it v) (fun _ s₁ => wpAny (model prog w) A (assign target env v) (fun _ s₂ => wpAny (model prog w) A (isTrue tst env (eval tst env)) (fun ok s₂' => if ok = true then wpAny (model prog w) A (eval elt env) (fun x s₃ =>
          wpAny (model prog w) A (call (.builtin "list.append") [acc, x]) (fun _ s₄ => ∃ m, m < n ∧ I m s₄) (notedBy (model prog w) A env fun e s' => R (.error e) s') s₃)
          (notedBy (model prog w) A env fun e s' => R (.error e) s') s₂' else ∃ m, m < n ∧ I m s₂') (notedBy (model prog w) A env fun e s' => R (.error e) s') s₂) (notedBy (model prog w) A env fun e s' => R (.error e) s') s₁) (notedBy (model prog w) A env fun e s' => R (.error e) s') s₁) (notedBy (model prog w) A env fun e s' => R (.error e) s') s)
    (n : Nat) (h : I n s) :
    codeAny (model prog w) A (.compLoop (.ListComp elt [⟨target, iter, [tst], 0⟩] scope pos) 0 it acc env) R s := by
  refine codeAny_loop rfl I (fun n s hI => ?_) n h
  show wpAny _ _ ((compTurn (.ListComp elt [⟨target, iter, [tst], 0⟩] scope pos) 0 it acc env).onRaise (fun x => do noteFrame x env; theTreesLotGoes x)) _ _ s
  refine wpAny_noted ?_
  rw [compTurn_list]
  refine wpAny_bind (wpAny_standAt (wpAny_bind (wpAny_mono (turn n s hI) (fun r s₁ h₁ => ?_) fun _ _ h' => h')))
  cases r with
  | none => exact wpAny_pure h₁
  | some v =>
    refine wpAny_bind (wpAny_mono h₁ (fun _ s₁' h₁' => ?_) fun _ _ h' => h')
    refine wpAny_bind (wpAny_mono h₁' (fun _ s₂ h₂ => wpAny_bind (wpAny_mono (wpAny_tests_one h₂) (fun ok s₃ h₃ => ?_) fun _ _ h' => h')) fun _ _ h' => h')
    cases ok with
    | false => exact wpAny_pure ⟨rfl, h₃⟩
    | true =>
      exact wpAny_bind (wpAny_bind (wpAny_mono h₃ (fun x s₄ h₄ => wpAny_bind (wpAny_mono h₄ (fun _ s₅ h₅ => wpAny_pure (wpAny_pure ⟨rfl, h₅⟩)) fun _ _ h' => h')) fun _ _ h' => h'))
section
variable {X : Cx} {tg elt iter tst : Expr} {scope : Scope} {pos : Pos} {N : List Str} {js : List (Option Nat)} {wi : TI} {g : TG} {tt : TT} {te : TE}
end
theorem compI_by {J : It} {n : Nat} {g : TG} {tt : TT} {te : TE} {Q : VK} {σ : St} {H : Hp} {D : Addr} (Pv : Nat → St → Hp → Prop) (h0 : Pv 0 σ (upd H D (.lst []))) (hgo : ∀ i σ H, i < n → Pv i σ H → J.go i H) (hst : ∀ σ H, Pv n σ H → J.stop n H)
    (hs : ∀ i x σ H H', i < n → Pv i σ H → J.yld i H x H' → g x σ H' fun σ2 H3 => tt σ2 H3 fun ok H3' => if ok = true then te σ2 H3' fun v H4 => ∃ xs, H4 D = some (.lst xs) ∧ xs.length < sizeLine ∧ Pv (i + 1) σ2 (upd H4 D (.lst (xs ++ [v]))) else Pv (i + 1) σ2 H3') (hd : ∀ σ H, Pv n σ H → Q (.ref D) H) :
    CompWI J g tt te Q σ H D := by
  refine ⟨fun i m σ H => m = n - i ∧ i ≤ n ∧ Pv i σ H, ⟨n, by simp, Nat.zero_le _, h0⟩, ?_⟩
  rintro i m σ H ⟨rfl, hi, p⟩
  by_cases hlt : i < n
  · exact .inr ⟨hgo i σ H hlt p, Pv (i + 1), fun σ' H' p' => ⟨n - (i + 1), by (first | lia | omega), rfl, hlt, p'⟩, fun x H' y => hs i x σ H H' hlt p y⟩
  · have e : i = n := by (first | lia | omega)
    subst e
    exact .inl ⟨hst σ H p, hd σ H p⟩
end L2

namespace L2
open PySem PySem.Spec PyProof.Rows
theorem strsAre_of {ys : List Str} : ∀ {us : List Value}, Vals (ys.map V.str) us → StrsAre us ys := by
  induction ys with
  | nil => intro us h; cases h; exact .nil
  | cons y r ih =>
    intro us h
    cases h with
    | cons a b =>
      obtain ⟨t, rfl⟩ := a
      exact .cons y t (ih b)
section
variable {X : Cx}
theorem mt_join (K : PySem.W.Frag) (hK : X.K = K := by rfl) : MtM X "str.join" (fun x vs H Q => ∃ (z : Str) (p : Addr) (ys : List Str), x = .str z ∧ vs = [.ref p] ∧ SqL K H p (ys.map V.str) ∧ (ys.map (·.length)).sum + ys.length * z.length ≤ 16777216 ∧ Q (.str (Txt.join z ys)) H) := by
  subst hK
  intro pins s σ H x xs v us Q I rx rv h
  obtain ⟨z, p, ys, rfl, rfl, hq, hz, q⟩ := h
  obtain ⟨t, rfl⟩ := rx
  obtain ⟨u, rfl, ru⟩ := Vals.one rv
  cases ru
  obtain ⟨its, ri, pl, _⟩ := I.list hq
  exact join_list pl.isList (by simpa using strsAre_of ri) hz fun t' k => ⟨.str _, H, I.tok k, ⟨t', rfl⟩, q⟩
theorem mt_count : MtM X "str.count" (fun x vs H Q => ∃ z y, x = .str z ∧ vs = [.str y] ∧ Q (.int (Txt.count z y)) H) := by
  intro pins s σ H x xs v us Q I rx rv h
  obtain ⟨z, y, rfl, rfl, q⟩ := h
  obtain ⟨t, rfl⟩ := rx
  obtain ⟨u, rfl, ru⟩ := Vals.one rv
  obtain ⟨t', rfl⟩ := ru
  exact SC.count ⟨.int _, H, I.tok _, ⟨_, rfl⟩, q⟩
end
end L2

namespace L2
open PySem PySem.Spec PyProof.Rows
section
variable {X : Cx} {tg : Expr}
end
section
variable {X : Cx} {e st : Expr} {te : TE} {lo hi : Option Expr} {tl th ts : TO} {pos p2 : Pos}
end
section
variable {X : Cx}
end
end L2

namespace J
noncomputable abbrev LF (n : Nat) (f : Nat → Int) : List Int := (List.range n).map f
theorem LF_len (n : Nat) (f : Nat → Int) : (LF n f).length = n := by simp [LF]
theorem LF_g {n : Nat} {f : Nat → Int} {i : Nat} (h : i < n) : g (LF n f) i = f i := by simp [g, LF, List.getD, h]
theorem eq_LF {n : Nat} {f : Nat → Int} {xs : List Int} (hl : xs.length = n) (h : ∀ i, i < n → g xs i = f i) : xs = LF n f := by
  refine ext_g (by simp [LF, hl]) fun i hi => ?_
  rw [hl] at hi
  rw [LF_g hi, h i hi]
noncomputable def delaysF (ns : List Int) : List Int := LF ns.length fun i => stays ns i ns.length
noncomputable def freeF (ns : List Int) : List Int := LF ns.length fun i => free ns i ns.length
end J

namespace J
noncomputable def near (ns : List Int) (c : Nat) : Int := g ns (c + 1) - stays ns (c + 1) ns.length - g ns c
theorem free_nn (ns : List Int) (i : Nat) : ∀ t, 0 ≤ free ns i t
  | 0 => by simp [free]
  | t + 1 => by
    simp only [free]
    have := free_nn ns i t
    split <;> omega
end J

namespace R
noncomputable abbrev Rg := Int → Bool
noncomputable def Per (n : Nat) (s : Rg) : Prop := ∀ p, s (p + n) = s p
noncomputable def stp (s : Rg) : Rg := fun p => if s p then s (p + 1) else s (p - 1)
noncomputable def stps : Nat → Rg → Rg
  | 0, s => s
  | t + 1, s => stps t (stp s)
theorem stps_succ (t : Nat) (s : Rg) : stps (t + 1) s = stp (stps t s) := by
  induction t generalizing s with
  | zero => rfl
  | succ t ih => show stps (t + 1) (stp s) = _; rw [ih]; rfl
theorem stps_add (a b : Nat) (s : Rg) : stps b (stps a s) = stps (a + b) s := by
  induction b with
  | zero => rfl
  | succ b ih => rw [stps_succ, ih, ← stps_succ]; rfl
noncomputable def b2 (b : Bool) : Nat := if b then 1 else 0
noncomputable def cnt (s : Rg) (a : Int) : Nat → Nat
  | 0 => 0
  | l + 1 => cnt s a l + b2 (s (a + l))
theorem cnt_front (s : Rg) (a : Int) (l : Nat) : cnt s a (l + 1) = b2 (s a) + cnt s (a + 1) l := by
  induction l with
  | zero => simp [cnt]
  | succ l ih =>
    rw [show cnt s a (l + 1 + 1) = cnt s a (l + 1) + b2 (s (a + (l + 1 : Nat))) from rfl, ih]
    rw [show cnt s (a + 1) (l + 1) = cnt s (a + 1) l + b2 (s (a + 1 + l)) from rfl]
    rw [show a + ((l + 1 : Nat) : Int) = a + 1 + l by (first | lia | omega)]
    (first | lia | omega)
theorem Per.stp {n : Nat} {s : Rg} (h : Per n s) : Per n (stp s) := fun p => by
  unfold R.stp
  rw [h p, show p + n + 1 = (p + 1) + n by (first | lia | omega), h (p + 1), show p + n - 1 = (p - 1) + n by (first | lia | omega), h (p - 1)]
theorem Per.stps {n : Nat} {s : Rg} (h : Per n s) (t : Nat) : Per n (stps t s) := by
  induction t generalizing s with
  | zero => exact h
  | succ t ih => exact ih h.stp
theorem Per.cnt {n : Nat} {s : Rg} (h : Per n s) (a : Int) : R.cnt s (a + 1) n = R.cnt s a n := by
  have h1 := cnt_front s a n
  have h2 : R.cnt s a (n + 1) = R.cnt s a n + b2 (s (a + n)) := rfl
  rw [h a] at h2
  (first | lia | omega)
theorem Per.cnt_nat {n : Nat} {s : Rg} (h : Per n s) (a : Int) (k : Nat) : R.cnt s (a + k) n = R.cnt s a n := by
  induction k with
  | zero => simp
  | succ k ih => rw [show a + ((k + 1 : Nat) : Int) = a + k + 1 by (first | lia | omega), h.cnt, ih]
theorem Per.cnt_any {n : Nat} {s : Rg} (h : Per n s) (a b : Int) : R.cnt s a n = R.cnt s b n := by
  rcases Int.le_total a b with q | q
  · have := h.cnt_nat a (b - a).toNat
    rw [show a + ((b - a).toNat : Int) = b by (first | lia | omega)] at this
    exact this.symm
  · have := h.cnt_nat b (a - b).toNat
    rw [show b + ((a - b).toNat : Int) = a by (first | lia | omega)] at this
    exact this
noncomputable def mv (s : Rg) : Rg := fun p => s p && !s (p + 1)
noncomputable def cc (s : Rg) : Rg := fun p => s p && s (p + 1)
noncomputable def gg (s : Rg) : Rg := fun p => !s p && !s (p + 1)
theorem stp_mv (s : Rg) (p : Int) : b2 (stp s p) + b2 (mv s p) = b2 (s p) + b2 (mv s (p - 1)) := by
  unfold stp mv
  rw [show p - 1 + 1 = p by (first | lia | omega)]
  cases s p <;> cases s (p + 1) <;> cases s (p - 1) <;> rfl
theorem cnt_stp (s : Rg) (a : Int) (l : Nat) : cnt (stp s) a l + b2 (mv s (a + l - 1)) = cnt s a l + b2 (mv s (a - 1)) := by
  induction l with
  | zero => simp [cnt]
  | succ l ih =>
    have h := stp_mv s (a + l)
    show cnt (stp s) a l + b2 (stp s (a + l)) + b2 (mv s (a + ((l + 1 : Nat) : Int) - 1)) = cnt s a l + b2 (s (a + l)) + _
    rw [show a + ((l + 1 : Nat) : Int) - 1 = a + l by (first | lia | omega)]
    (first | lia | omega)
theorem Per.mv {n : Nat} {s : Rg} (h : Per n s) : Per n (mv s) := fun p => by
  unfold R.mv
  rw [h p, show p + n + 1 = (p + 1) + n by (first | lia | omega), h (p + 1)]
theorem cars_stp {n : Nat} {s : Rg} (h : Per n s) (a : Int) : cnt (stp s) a n = cnt s a n := by
  have h1 := cnt_stp s a n
  have h2 := h.mv (a - 1)
  rw [show a - 1 + (n : Int) = a + n - 1 by (first | lia | omega)] at h2
  rw [h2] at h1
  (first | lia | omega)
theorem cars_stps {n : Nat} {s : Rg} (h : Per n s) (a : Int) (t : Nat) : cnt (stps t s) a n = cnt s a n := by
  induction t generalizing s with
  | zero => rfl
  | succ t ih => show cnt (stps t (stp s)) a n = _; rw [ih h.stp, cars_stp h]
theorem cc_back {s : Rg} {p : Int} (h : cc (stp s) p = true) : cc s (p + 1) = true := by
  unfold cc stp at *
  rw [show p + 1 - 1 = p by (first | lia | omega)] at h
  revert h
  cases s p <;> cases s (p + 1) <;> cases s (p + 1 + 1) <;> cases s (p - 1) <;> simp
noncomputable def ex (s : Rg) : Rg := fun p => !s (-p)
theorem cnt_ex (s : Rg) (a : Int) (l : Nat) : cnt (ex s) a l + cnt s (-a - l + 1) l = l := by
  induction l with
  | zero => rfl
  | succ l ih =>
    have f := cnt_front s (-a - ((l + 1 : Nat) : Int) + 1) l
    rw [show -a - ((l + 1 : Nat) : Int) + 1 + 1 = -a - l + 1 by (first | lia | omega)] at f
    have e : cnt (ex s) a (l + 1) = cnt (ex s) a l + b2 (!s (-(a + l))) := rfl
    rw [show -(a + (l : Int)) = -a - ((l + 1 : Nat) : Int) + 1 by (first | lia | omega)] at e
    rw [e, f]
    cases s (-a - ((l + 1 : Nat) : Int) + 1) <;> simp [b2] <;> (first | lia | omega)
theorem cars_ex {n : Nat} {s : Rg} (h : Per n s) (a : Int) : cnt (ex s) a n + cnt s 0 n = n := by
  have := cnt_ex s a n
  rw [h.cnt_any (-a - n + 1) 0] at this
  exact this
theorem cars_eq (s : Rg) (a : Int) (l : Nat) : cnt s a l = cnt (mv s) a l + cnt (cc s) a l := by
  induction l with
  | zero => rfl
  | succ l ih =>
    show cnt s a l + b2 (s (a + l)) = cnt (mv s) a l + b2 (mv s (a + l)) + (cnt (cc s) a l + b2 (cc s (a + l)))
    have : b2 (s (a + l)) = b2 (mv s (a + l)) + b2 (cc s (a + l)) := by
      unfold mv cc
      cases s (a + l) <;> cases s (a + l + 1) <;> rfl
    (first | lia | omega)
theorem gaps_eq (s : Rg) (a : Int) (l : Nat) : l + b2 (s a) = cnt s a l + cnt (mv s) a l + cnt (gg s) a l + b2 (s (a + l)) := by
  induction l with
  | zero => simp [cnt]
  | succ l ih =>
    show l + 1 + b2 (s a) = cnt s a l + b2 (s (a + l)) + (cnt (mv s) a l + b2 (mv s (a + l))) + (cnt (gg s) a l + b2 (gg s (a + l))) + b2 (s (a + ((l + 1 : Nat) : Int)))
    have : 1 + b2 (s (a + l)) = b2 (s (a + l)) + b2 (mv s (a + l)) + b2 (gg s (a + l)) + b2 (s (a + ((l + 1 : Nat) : Int))) := by
      rw [show a + ((l + 1 : Nat) : Int) = a + l + 1 by (first | lia | omega)]
      unfold mv gg
      cases s (a + l) <;> cases s (a + l + 1) <;> rfl
    (first | lia | omega)
theorem cnt_zero {s : Rg} {a : Int} {l : Nat} : cnt s a l = 0 ↔ ∀ i : Nat, i < l → s (a + i) = false := by
  induction l with
  | zero => exact ⟨fun _ i h => by (first | lia | omega), fun _ => rfl⟩
  | succ l ih =>
    constructor
    · intro h i hi
      have h : cnt s a l + b2 (s (a + l)) = 0 := h
      by_cases e : i = l
      · subst e
        cases q : s (a + i) with
        | false => rfl
        | true => rw [q] at h; simp [b2] at h
      · exact ih.mp (by (first | lia | omega)) i (by (first | lia | omega))
    · intro h
      show cnt s a l + b2 (s (a + l)) = 0
      rw [ih.mpr fun i hi => h i (by (first | lia | omega)), h l (by (first | lia | omega))]
      rfl
theorem Per.nat {n : Nat} {s : Rg} (h : Per n s) (p : Int) (k : Nat) : s (p + (n : Int) * k) = s p := by
  induction k with
  | zero => simp
  | succ k ih =>
    rw [show p + (n : Int) * ((k + 1 : Nat) : Int) = p + (n : Int) * k + n by rw [show ((k + 1 : Nat) : Int) = (k : Int) + 1 by (first | lia | omega), Int.mul_add]; (first | lia | omega), h, ih]
theorem Per.mod {n : Nat} {s : Rg} (h : Per n s) (hn : 0 < n) (p : Int) : s (p % n) = s p := by
  have d := Int.emod_add_mul_ediv p n
  rcases Int.le_total 0 (p / n) with q | q
  · have := h.nat (p % n) (p / n).toNat
    rw [show ((p / (n : Int)).toNat : Int) = p / n by (first | lia | omega), d] at this
    exact this.symm
  · have := h.nat p (-(p / n)).toNat
    rw [show ((-(p / (n : Int))).toNat : Int) = -(p / n) by (first | lia | omega), Int.mul_neg] at this
    rw [show p + -((n : Int) * (p / n)) = p % n by (first | lia | omega)] at this
    exact this
theorem all_false {n : Nat} {s : Rg} (h : Per n s) (hn : 0 < n) : cnt s 0 n = 0 ↔ ∀ p, s p = false := by
  rw [cnt_zero]
  constructor
  · intro q p
    rw [← h.mod hn p]
    have h1 := Int.emod_nonneg p (show (n : Int) ≠ 0 by (first | lia | omega))
    have h2 := Int.emod_lt_of_pos p (show (0 : Int) < n by (first | lia | omega))
    have := q (p % n).toNat (by (first | lia | omega))
    rw [show (0 : Int) + ((p % (n : Int)).toNat : Int) = p % n by (first | lia | omega)] at this
    exact this
  · exact fun q i _ => q _
theorem Per.cc {n : Nat} {s : Rg} (h : Per n s) : Per n (cc s) := fun p => by
  unfold R.cc
  rw [h p, show p + n + 1 = (p + 1) + n by (first | lia | omega), h (p + 1)]
theorem Per.gg {n : Nat} {s : Rg} (h : Per n s) : Per n (gg s) := fun p => by
  unfold R.gg
  rw [h p, show p + n + 1 = (p + 1) + n by (first | lia | omega), h (p + 1)]
noncomputable def cars (n : Nat) (s : Rg) : Nat := cnt s 0 n
noncomputable def flw (n : Nat) (s : Rg) : Nat := cnt (mv s) 0 n
theorem flow_cars {n : Nat} {s : Rg} (h : Per n s) (hn : 0 < n) : flw n s ≤ cars n s ∧ (flw n s = cars n s ↔ ∀ p, cc s p = false) := by
  have e := cars_eq s 0 n
  have z := all_false h.cc hn
  unfold flw cars
  constructor
  · (first | lia | omega)
  · rw [← z]; (first | lia | omega)
theorem flow_gaps {n : Nat} {s : Rg} (h : Per n s) (hn : 0 < n) : flw n s + cars n s ≤ n ∧ (flw n s + cars n s = n ↔ ∀ p, gg s p = false) := by
  have e := gaps_eq s 0 n
  rw [h 0] at e
  have z := all_false h.gg hn
  unfold flw cars
  constructor
  · (first | lia | omega)
  · rw [← z]; (first | lia | omega)
noncomputable def Set (n : Nat) (s : Rg) : Prop := flw n s = min (cars n s) (n - cars n s)
theorem set_iff {n : Nat} {s : Rg} (h : Per n s) (hn : 0 < n) : Set n s ↔ (2 * cars n s ≤ n ∧ ∀ p, cc s p = false) ∨ (n ≤ 2 * cars n s ∧ ∀ p, gg s p = false) := by
  obtain ⟨c1, c2⟩ := flow_cars h hn
  obtain ⟨g1, g2⟩ := flow_gaps h hn
  unfold Set
  constructor
  · intro e
    by_cases q : 2 * cars n s ≤ n
    · exact .inl ⟨q, c2.mp (by omega)⟩
    · exact .inr ⟨by omega, g2.mp (by omega)⟩
  · rintro (⟨q, z⟩ | ⟨q, z⟩)
    · have := c2.mpr z; omega
    · have := g2.mpr z; omega
theorem shift_back {s : Rg} (h : ∀ p, gg s p = false) (p : Int) : stp s p = s (p + 1) := by
  have h1 := h p
  have h2 := h (p - 1)
  unfold gg at h1 h2
  rw [show p - 1 + 1 = p by (first | lia | omega)] at h2
  unfold stp
  revert h1 h2
  cases s p <;> cases s (p + 1) <;> cases s (p - 1) <;> simp
theorem set_step {n : Nat} {s : Rg} (h : Per n s) (hn : 0 < n) (q : Set n s) : Set n (stp s) := by
  rw [set_iff h hn] at q
  rw [set_iff h.stp hn]
  have c : cars n (stp s) = cars n s := cars_stp h 0
  rw [c]
  rcases q with ⟨q, z⟩ | ⟨q, z⟩
  · refine .inl ⟨q, fun p => ?_⟩
    cases e : cc (stp s) p with
    | false => rfl
    | true => have := cc_back e; rw [z] at this; cases this
  · refine .inr ⟨q, fun p => ?_⟩
    have e1 := shift_back z p
    have e2 := shift_back z (p + 1)
    unfold gg
    rw [e1, e2]
    exact z (p + 1)
theorem set_steps {n : Nat} {s : Rg} (h : Per n s) (hn : 0 < n) (q : Set n s) (t : Nat) : Set n (stps t s) := by
  induction t generalizing s with
  | zero => exact q
  | succ t ih => exact ih h.stp (set_step h hn q)
end R

namespace R
noncomputable abbrev Sq := Int → Int
noncomputable def Up (z : Sq) : Prop := ∀ i, z i < z (i + 1)
noncomputable def zst (z : Sq) : Sq := fun i => if z (i + 1) = z i + 1 then z i else z i + 1
noncomputable def zrun : Nat → Sq → Sq
  | 0, z => z
  | t + 1, z => zst (zrun t z)
theorem Up.zst {z : Sq} (h : Up z) : Up (zst z) := fun i => by
  have h1 := h i
  have h2 := h (i + 1)
  unfold R.zst
  split <;> split <;> omega
theorem Up.zrun {z : Sq} (h : Up z) (t : Nat) : Up (zrun t z) := by
  induction t with
  | zero => exact h
  | succ t ih => exact ih.zst
theorem Up.ltN {z : Sq} (h : Up z) (i : Int) (d : Nat) : z i < z (i + (d + 1 : Nat)) := by
  induction d with
  | zero => exact h i
  | succ d ih =>
    have := h (i + (d + 1 : Nat))
    rw [show i + ((d + 1 : Nat) : Int) + 1 = i + ((d + 1 + 1 : Nat) : Int) by (first | lia | omega)] at this
    (first | lia | omega)
theorem Up.lt {z : Sq} (h : Up z) {i j : Int} (hij : i < j) : z i < z j := by
  have := h.ltN i (j - i - 1).toNat
  rwa [show i + (((j - i - 1).toNat + 1 : Nat) : Int) = j by (first | lia | omega)] at this
theorem Up.le {z : Sq} (h : Up z) {i j : Int} (hij : i ≤ j) : z i ≤ z j := by
  by_cases e : i = j
  · subst e; exact Int.le_refl _
  · exact Int.le_of_lt (h.lt (by (first | lia | omega)))
theorem Up.next {z : Sq} (h : Up z) {i j : Int} (e : z j = z i + 1) : z (i + 1) = z i + 1 := by
  have hij : i < j := by
    by_cases q : i < j
    · exact q
    · have := h.le (show j ≤ i by (first | lia | omega)); (first | lia | omega)
  have h1 := h i
  have h2 := h.le (show i + 1 ≤ j by (first | lia | omega))
  (first | lia | omega)
noncomputable def Occ (z : Sq) (s : Rg) : Prop := ∀ p, s p = true ↔ ∃ i, z i = p
theorem Occ.step {z : Sq} {s : Rg} (h : Up z) (o : Occ z s) : Occ (R.zst z) (stp s) := fun p => by
  unfold stp
  constructor
  · intro q
    cases e : s p with
    | true =>
      rw [e] at q
      obtain ⟨i, hi⟩ := (o p).mp e
      obtain ⟨j, hj⟩ := (o (p + 1)).mp q
      refine ⟨i, ?_⟩
      have := h.next (i := i) (j := j) (by (first | lia | omega))
      unfold R.zst
      rw [if_pos this]; exact hi
    | false =>
      rw [e] at q
      have q : s (p - 1) = true := q
      obtain ⟨i, hi⟩ := (o (p - 1)).mp q
      refine ⟨i, ?_⟩
      unfold R.zst
      rw [if_neg fun c => by
        have : s p = true := (o p).mpr ⟨i + 1, by (first | lia | omega)⟩
        rw [e] at this; cases this]
      (first | lia | omega)
  · rintro ⟨i, hi⟩
    unfold R.zst at hi
    by_cases c : z (i + 1) = z i + 1
    · rw [if_pos c] at hi
      have e1 : s p = true := (o p).mpr ⟨i, hi⟩
      have e2 : s (p + 1) = true := (o (p + 1)).mpr ⟨i + 1, by (first | lia | omega)⟩
      rw [e1]; exact e2
    · rw [if_neg c] at hi
      have e1 : s (p - 1) = true := (o (p - 1)).mpr ⟨i, by (first | lia | omega)⟩
      have e2 : s p = false := by
        cases e : s p with
        | false => rfl
        | true =>
          obtain ⟨j, hj⟩ := (o p).mp e
          exact absurd (h.next (i := i) (j := j) (by (first | lia | omega))) c
      rw [e2]; exact e1
theorem Occ.run {z : Sq} {s : Rg} (h : Up z) (o : Occ z s) (t : Nat) : Occ (R.zrun t z) (stps t s) := by
  induction t with
  | zero => exact o
  | succ t ih =>
    rw [stps_succ]
    exact Occ.step (h.zrun t) ih
noncomputable def zkey (z : Sq) (j : Int) : Int := z j - 2 * j
theorem zrun_min {z : Sq} (h : Up z) (t : Nat) : ∀ i : Int, (∃ j, i ≤ j ∧ j ≤ i + t ∧ zkey z j = zrun t z i - t - 2 * i) ∧ ∀ j, i ≤ j → j ≤ i + t → zrun t z i - t - 2 * i ≤ zkey z j := by
  induction t with
  | zero =>
    intro i
    refine ⟨⟨i, by (first | lia | omega), by (first | lia | omega), ?_⟩, fun j h1 h2 => ?_⟩
    · simp only [zrun, zkey]; (first | lia | omega)
    · have : j = i := by (first | lia | omega)
      subst this; simp only [zrun, zkey]; (first | lia | omega)
  | succ t ih =>
    intro i
    obtain ⟨⟨ja, a1, a2, a3⟩, al⟩ := ih i
    obtain ⟨⟨jb, b1, b2, b3⟩, bl⟩ := ih (i + 1)
    have up := h.zrun t i
    have e : zrun (t + 1) z i = if zrun t z (i + 1) = zrun t z i + 1 then zrun t z i else zrun t z i + 1 := rfl
    rw [e]
    by_cases c : zrun t z (i + 1) = zrun t z i + 1
    · rw [if_pos c]
      refine ⟨⟨jb, by (first | lia | omega), by (first | lia | omega), by (first | lia | omega)⟩, fun j h1 h2 => ?_⟩
      by_cases hj : i + 1 ≤ j
      · have := bl j hj (by (first | lia | omega)); (first | lia | omega)
      · have := al j h1 (by (first | lia | omega)); (first | lia | omega)
    · rw [if_neg c]
      refine ⟨⟨ja, a1, by (first | lia | omega), by (first | lia | omega)⟩, fun j h1 h2 => ?_⟩
      by_cases hj : i + 1 ≤ j
      · have := bl j hj (by (first | lia | omega)); (first | lia | omega)
      · have := al j h1 (by (first | lia | omega)); (first | lia | omega)
noncomputable def Lap (k n : Nat) (z : Sq) : Prop := ∀ i, z (i + k) = z i + n
theorem Lap.zst {k n : Nat} {z : Sq} (h : Lap k n z) : Lap k n (zst z) := fun i => by
  unfold R.zst
  rw [show i + (k : Int) + 1 = i + 1 + k by omega, h i, h (i + 1)]
  by_cases c : z (i + 1) = z i + 1
  · rw [if_pos c, if_pos (by omega)]
  · rw [if_neg c, if_neg (by omega)]; omega
theorem Lap.zrun {k n : Nat} {z : Sq} (h : Lap k n z) (t : Nat) : Lap k n (zrun t z) := by
  induction t with
  | zero => exact h
  | succ t ih => exact ih.zst
theorem Lap.mulN {k n : Nat} {z : Sq} (h : Lap k n z) (i : Int) (m : Nat) : z (i + (m : Int) * k) = z i + (m : Int) * n := by
  induction m with
  | zero => simp
  | succ m ih =>
    have e1 : i + ((m + 1 : Nat) : Int) * k = i + (m : Int) * k + k := by rw [show ((m + 1 : Nat) : Int) = (m : Int) + 1 by (first | lia | omega), Int.add_mul]; (first | lia | omega)
    have e2 : ((m + 1 : Nat) : Int) * n = (m : Int) * n + n := by rw [show ((m + 1 : Nat) : Int) = (m : Int) + 1 by (first | lia | omega), Int.add_mul]; (first | lia | omega)
    rw [e1, h, ih, e2]; (first | lia | omega)
theorem Lap.mul {k n : Nat} {z : Sq} (h : Lap k n z) (i m : Int) : z (i + m * k) = z i + m * n := by
  rcases Int.le_total 0 m with q | q
  · have := h.mulN i m.toNat
    rwa [show ((m.toNat : Nat) : Int) = m by (first | lia | omega)] at this
  · have := h.mulN (i + m * k) (-m).toNat
    rw [show (((-m).toNat : Nat) : Int) = -m by (first | lia | omega), Int.neg_mul, Int.neg_mul, show i + m * (k : Int) + -(m * (k : Int)) = i by (first | lia | omega)] at this
    (first | lia | omega)
theorem Lap.first {k n : Nat} {z : Sq} (h : Lap k n z) (hk : 0 < k) (i : Int) : ∃ (r : Nat) (m : Int), r < k ∧ i = r + m * k ∧ z i = z r + m * n := by
  have d := Int.emod_add_mul_ediv i k
  have h1 := Int.emod_nonneg i (show (k : Int) ≠ 0 by (first | lia | omega))
  have h2 := Int.emod_lt_of_pos i (show (0 : Int) < k by (first | lia | omega))
  refine ⟨(i % k).toNat, i / k, by (first | lia | omega), ?_, ?_⟩
  · rw [show (((i % (k : Int)).toNat : Nat) : Int) = i % k by (first | lia | omega), Int.mul_comm]; (first | lia | omega)
  · have := h.mul (i % k) (i / k)
    rw [show i % (k : Int) + i / k * k = i by rw [Int.mul_comm]; (first | lia | omega)] at this
    rw [show (((i % (k : Int)).toNat : Nat) : Int) = i % k by (first | lia | omega)]
    exact this
structure Two (k n : Nat) (z : Sq) (xs : List Int) : Prop where
  up : Up z
  lap : Lap k n z
  few : 2 * k ≤ n
  len : xs.length = 2 * k
  at_ : ∀ i : Nat, i < 2 * k → J.g xs i = z i
theorem Two.rising {k n : Nat} {z : Sq} {xs : List Int} (T : Two k n z xs) : J.Rising xs := fun i hi => by
  rw [T.len] at hi
  rw [T.at_ i (by (first | lia | omega)), T.at_ (i + 1) hi]
  exact T.up i
theorem Two.near {k n : Nat} {z : Sq} {xs : List Int} (T : Two k n z xs) (hk : 0 < k) (i : Int) (d : Nat) : ∃ j, i ≤ j ∧ j < i + k ∧ j ≤ i + d ∧ zkey z j ≤ zkey z (i + d) := by
  induction d using Nat.strongRecOn with
  | ind d ih =>
    by_cases c : d < k
    · exact ⟨i + d, by (first | lia | omega), by (first | lia | omega), by (first | lia | omega), Int.le_refl _⟩
    · obtain ⟨j, h1, h2, h3, h4⟩ := ih (d - k) (by (first | lia | omega))
      refine ⟨j, h1, h2, by (first | lia | omega), ?_⟩
      have l := T.lap (i + (d - k : Nat))
      rw [show i + ((d - k : Nat) : Int) + k = i + d by (first | lia | omega)] at l
      have f := T.few
      unfold zkey at *
      (first | lia | omega)
theorem Two.run {k n : Nat} {z : Sq} {xs : List Int} (T : Two k n z xs) (t : Nat) {i : Nat} (hi : i < k) : J.g (J.run t xs) i = zrun t z i := by
  have A := J.run_min T.rising t i (by rw [T.len]; (first | lia | omega))
  obtain ⟨⟨j, b1, b2, b3⟩, bl⟩ := zrun_min T.up t i
  have B : J.IsMin xs t i (zrun t z i - t - 2 * i) := by
    refine ⟨?_, fun j' h1 h2 h3 => ?_⟩
    · obtain ⟨j', c1, c2, c3, c4⟩ := T.near (by (first | lia | omega)) i (j - i).toNat
      rw [show (i : Int) + ((j - i).toNat : Int) = j by (first | lia | omega)] at c3 c4
      have l := bl j' c1 (by (first | lia | omega))
      refine ⟨j'.toNat, by (first | lia | omega), by (first | lia | omega), by rw [T.len]; (first | lia | omega), ?_⟩
      unfold J.key
      rw [T.at_ j'.toNat (by (first | lia | omega)), show ((j'.toNat : Nat) : Int) = j' by (first | lia | omega)]
      unfold zkey at *
      (first | lia | omega)
    · have l := bl j' (by (first | lia | omega)) (by (first | lia | omega))
      unfold J.key
      rw [T.len] at h3
      rw [T.at_ j' h3]
      exact l
  have := A.uniq B
  (first | lia | omega)
theorem Two.stay {k n : Nat} {z : Sq} {xs : List Int} (T : Two k n z xs) (t : Nat) {i : Nat} (hi : i < k) : J.stay xs t i ↔ zrun t z (i + 1) = zrun t z i + 1 := by
  unfold J.stay
  rw [T.run t hi, T.run (t + 1) hi]
  have e : zrun (t + 1) z i = if zrun t z (i + 1) = zrun t z i + 1 then zrun t z i else zrun t z i + 1 := rfl
  rw [e]
  split
  · rename_i c; exact ⟨fun _ => c, fun _ => rfl⟩
  · rename_i c; exact ⟨fun q => by (first | lia | omega), fun q => absurd q c⟩
theorem no_cc_iff {z : Sq} {s : Rg} (h : Up z) (o : Occ z s) : (∀ p, cc s p = false) ↔ ∀ i, z (i + 1) ≠ z i + 1 := by
  constructor
  · intro q i e
    have := q (z i)
    unfold cc at this
    rw [(o (z i)).mpr ⟨i, rfl⟩, (o (z i + 1)).mpr ⟨i + 1, e⟩] at this
    cases this
  · intro q p
    cases e : cc s p with
    | false => rfl
    | true =>
      unfold cc at e
      rw [Bool.and_eq_true] at e
      obtain ⟨i, hi⟩ := (o p).mp e.1
      obtain ⟨j, hj⟩ := (o (p + 1)).mp e.2
      exact absurd (h.next (i := i) (j := j) (by (first | lia | omega))) (q i)
theorem Two.cc {k n : Nat} {z : Sq} {xs : List Int} {s : Rg} (T : Two k n z xs) (hk : 0 < k) (o : Occ z s) (t : Nat) : (∀ p, cc (stps t s) p = false) ↔ ∀ i, i < k → ¬ J.stay xs t i := by
  rw [no_cc_iff (T.up.zrun t) (o.run T.up t)]
  have L := T.lap.zrun t
  constructor
  · intro q i hi c
    exact q i ((T.stay t hi).mp c)
  · intro q i e
    obtain ⟨r, m, hr, ei, ez⟩ := L.first hk i
    have e2 := L.mul (r + 1) m
    rw [show (r : Int) + 1 + m * k = i + 1 by (first | lia | omega)] at e2
    exact q r hr ((T.stay t hr).mpr (by (first | lia | omega)))
theorem free_ge {xs : List Int} {i u : Nat} (h : J.stay xs u i) : ∀ N, u < N → (u : Int) + 1 ≤ J.free xs i N
  | 0, hN => by (first | lia | omega)
  | N + 1, hN => by
    simp only [J.free]
    by_cases c : J.stay xs N i
    · rw [if_pos c]; (first | lia | omega)
    · rw [if_neg c]
      have : u ≠ N := fun e => c (e ▸ h)
      exact free_ge h N (by (first | lia | omega))
theorem free_le {xs : List Int} {i t : Nat} : ∀ N, (∀ u, t ≤ u → u < N → ¬ J.stay xs u i) → J.free xs i N ≤ t
  | 0, _ => by simp [J.free]
  | N + 1, h => by
    simp only [J.free]
    by_cases c : J.stay xs N i
    · rw [if_pos c]
      by_cases q : t ≤ N
      · exact absurd c (h N q (by (first | lia | omega)))
      · (first | lia | omega)
    · rw [if_neg c]
      exact free_le N fun u h1 h2 => h u h1 (by (first | lia | omega))
theorem no_stay_far {xs : List Int} (r : J.Rising xs) {i u : Nat} (hi : i < xs.length) (hu : xs.length ≤ u) : ¬ J.stay xs u i := by
  unfold J.stay
  have a := J.run_far r hi (u - xs.length)
  have b := J.run_far r hi (u + 1 - xs.length)
  rw [show xs.length + (u - xs.length) = u by (first | lia | omega)] at a
  rw [show xs.length + (u + 1 - xs.length) = u + 1 by (first | lia | omega)] at b
  (first | lia | omega)
theorem set_cc {n : Nat} {s : Rg} (h : Per n s) (hn : 0 < n) (hc : 2 * cars n s ≤ n) : Set n s ↔ ∀ p, cc s p = false := by
  rw [set_iff h hn]
  obtain ⟨c1, c2⟩ := flow_cars h hn
  obtain ⟨g1, g2⟩ := flow_gaps h hn
  constructor
  · rintro (⟨_, z⟩ | ⟨q, z⟩)
    · exact z
    · have := g2.mpr z
      exact c2.mp (by (first | lia | omega))
  · exact fun z => .inl ⟨hc, z⟩
noncomputable def Settles (n : Nat) (s : Rg) (m : Nat) : Prop := ∀ t, Set n (stps t s) ↔ m ≤ t
theorem Two.settles {k n : Nat} {z : Sq} {xs : List Int} {s : Rg} (T : Two k n z xs) (hk : 0 < k) (o : Occ z s) (h : Per n s) (hn : 0 < n) (hc : 2 * cars n s ≤ n) {m : Nat}
    (m1 : ∃ i, i < k ∧ J.free xs i (2 * k) = m) (m2 : ∀ i, i < k → J.free xs i (2 * k) ≤ m) : Settles n s m := by
  intro t
  have key : ∀ t, Set n (stps t s) ↔ ∀ i, i < k → ¬ J.stay xs t i := fun t => by
    rw [set_cc (h.stps t) hn (by have : cars n (stps t s) = cars n s := cars_stps h 0 t; (first | lia | omega)), T.cc hk o t]
  constructor
  · intro q
    obtain ⟨i, hi, e⟩ := m1
    have : J.free xs i (2 * k) ≤ t := free_le _ fun u h1 h2 => by
      have q2 : Set n (stps u s) := by
        have := set_steps (h.stps t) hn q (u - t)
        rwa [stps_add, show t + (u - t) = u by (first | lia | omega)] at this
      exact (key u).mp q2 i hi
    (first | lia | omega)
  · intro q
    rw [key]
    intro i hi c
    by_cases hu : t < 2 * k
    · have a := free_ge c (2 * k) hu
      have b := m2 i hi
      (first | lia | omega)
    · exact no_stay_far T.rising (by rw [T.len]; (first | lia | omega)) (by rw [T.len]; (first | lia | omega)) c
noncomputable def plc (s : Rg) : Nat → List Int
  | 0 => []
  | i + 1 => if s i then plc s i ++ [(i : Int)] else plc s i
theorem plc_len (s : Rg) (i : Nat) : (plc s i).length = cnt s 0 i := by
  induction i with
  | zero => rfl
  | succ i ih =>
    show (if s i then plc s i ++ [(i : Int)] else plc s i).length = cnt s 0 i + b2 (s (0 + i))
    rw [show (0 : Int) + i = i by (first | lia | omega)]
    cases s i <;> simp [b2, ih]
theorem plc_mem (s : Rg) (i : Nat) (p : Int) : p ∈ plc s i ↔ 0 ≤ p ∧ p < i ∧ s p = true := by
  induction i with
  | zero => simp [plc]; (first | lia | omega)
  | succ i ih =>
    show p ∈ (if s i then plc s i ++ [(i : Int)] else plc s i) ↔ _
    cases e : s i with
    | true =>
      simp only [if_true, List.mem_append, List.mem_singleton, ih]
      constructor
      · rintro (⟨a, b, c⟩ | q)
        · exact ⟨a, by (first | lia | omega), c⟩
        · exact ⟨by (first | lia | omega), by (first | lia | omega), by rw [q]; exact e⟩
      · rintro ⟨a, b, c⟩
        by_cases q : p = i
        · exact .inr q
        · exact .inl ⟨a, by (first | lia | omega), c⟩
    | false =>
      simp only [Bool.false_eq_true, if_false, ih]
      constructor
      · rintro ⟨a, b, c⟩; exact ⟨a, by (first | lia | omega), c⟩
      · rintro ⟨a, b, c⟩
        refine ⟨a, ?_, c⟩
        by_cases q : p = i
        · subst q; rw [e] at c; cases c
        · (first | lia | omega)
theorem plc_rising (s : Rg) (i : Nat) : J.Rising (plc s i) := by
  induction i with
  | zero => intro j hj; simp [plc] at hj
  | succ i ih =>
    show J.Rising (if s i then plc s i ++ [(i : Int)] else plc s i)
    cases e : s i with
    | false => simpa using ih
    | true =>
      simp only [if_true]
      intro j hj
      rw [List.length_append] at hj
      have hj : j + 1 < (plc s i).length + 1 := hj
      have e1 : J.g (plc s i ++ [(i : Int)]) j = J.g (plc s i) j := by simp [J.g, List.getD, List.getElem?_append_left (show j < (plc s i).length by (first | lia | omega))]
      rw [e1]
      by_cases c : j + 1 < (plc s i).length
      · have e2 : J.g (plc s i ++ [(i : Int)]) (j + 1) = J.g (plc s i) (j + 1) := by simp [J.g, List.getD, List.getElem?_append_left c]
        rw [e2]; exact ih j c
      · have e3 : (plc s i).length = j + 1 := by (first | lia | omega)
        have e2 : J.g (plc s i ++ [(i : Int)]) (j + 1) = i := by simp [J.g, List.getD, ← e3]
        rw [e2]
        exact ((plc_mem s i _).mp (J.g_mem (show j < (plc s i).length by (first | lia | omega)))).2.1
noncomputable def laps (n : Nat) (ps : List Int) : List Int := ps ++ ps.map (· + (n : Int))
noncomputable def zOf (k n : Nat) (ps : List Int) : Sq := fun i => J.g ps (i % k).toNat + (i / k) * n
theorem two_of {k n : Nat} {s : Rg} (h : Per n s) (hn : 0 < n) (hk : 0 < k) (hc : cars n s = k) (hf : 2 * k ≤ n) : Two k n (zOf k n (plc s n)) (laps n (plc s n)) ∧ Occ (zOf k n (plc s n)) s := by
  have hl : (plc s n).length = k := by rw [plc_len]; exact hc
  have mem := plc_mem s n
  have ri := plc_rising s n
  generalize plc s n = ps at *
  have lap : Lap k n (zOf k n ps) := fun i => by
    unfold zOf
    rw [Int.add_emod_right, Int.add_ediv_of_dvd_right (Int.dvd_refl _), Int.ediv_self (by (first | lia | omega)), Int.add_mul]
    (first | lia | omega)
  have at0 : ∀ i : Nat, i < k → zOf k n ps i = J.g ps i := fun i hi => by
    unfold zOf
    rw [Int.emod_eq_of_lt (by (first | lia | omega)) (by (first | lia | omega)), Int.ediv_eq_zero_of_lt (by (first | lia | omega)) (by (first | lia | omega))]
    simp
  have rng : ∀ i : Nat, i < k → 0 ≤ J.g ps i ∧ J.g ps i < n ∧ s (J.g ps i) = true := fun i hi => (mem _).mp (J.g_mem (by (first | lia | omega)))
  have up : Up (zOf k n ps) := fun i => by
    obtain ⟨r, m, hr, ei, ez⟩ := lap.first hk i
    rw [ez, at0 r hr]
    by_cases c : r + 1 < k
    · have e2 := lap.mul ((r + 1 : Nat) : Int) m
      rw [show ((r + 1 : Nat) : Int) + m * k = i + 1 by (first | lia | omega), at0 (r + 1) c] at e2
      rw [e2]
      have := ri r (by (first | lia | omega))
      (first | lia | omega)
    · have e2 := lap.mul ((0 : Nat) : Int) (m + 1)
      rw [show ((0 : Nat) : Int) + (m + 1) * k = i + 1 by rw [Int.add_mul]; (first | lia | omega), at0 0 hk, Int.add_mul] at e2
      rw [e2]
      have := rng r hr
      have := rng 0 hk
      (first | lia | omega)
  refine ⟨⟨up, lap, hf, by simp [laps, hl]; (first | lia | omega), fun i hi => ?_⟩, fun p => ?_⟩
  · by_cases c : i < k
    · rw [at0 i c]
      simp [laps, J.g, List.getD, List.getElem?_append_left (show i < ps.length by (first | lia | omega))]
    · have e := lap ((i - k : Nat) : Int)
      rw [show ((i - k : Nat) : Int) + k = i by (first | lia | omega), at0 (i - k) (by (first | lia | omega))] at e
      rw [e]
      unfold laps J.g
      rw [List.getD, List.getElem?_append_right (by (first | lia | omega)), hl, List.getElem?_map, J.g_get (show i - k < ps.length by (first | lia | omega))]
      rfl
  · constructor
    · intro q
      have h1 := Int.emod_nonneg p (show (n : Int) ≠ 0 by (first | lia | omega))
      have h2 := Int.emod_lt_of_pos p (show (0 : Int) < n by (first | lia | omega))
      have q2 : s (p % n) = true := by rw [h.mod hn p]; exact q
      obtain ⟨r, hr, er⟩ := J.mem_g ((mem (p % n)).mpr ⟨h1, h2, q2⟩)
      refine ⟨r + (p / n) * k, ?_⟩
      rw [lap.mul, at0 r (by (first | lia | omega)), er]
      have d := Int.emod_add_mul_ediv p n
      rw [Int.mul_comm]; (first | lia | omega)
    · rintro ⟨i, rfl⟩
      obtain ⟨r, m, hr, ei, ez⟩ := lap.first hk i
      rw [ez, at0 r hr, ← h.mod hn, Int.add_mul_emod_self_right, h.mod hn]
      exact (rng r hr).2.2
theorem ring_after {k n : Nat} {s : Rg} (h : Per n s) (hn : 0 < n) (hk : 0 < k) (hc : cars n s = k) (hf : 2 * k ≤ n) (t : Nat) {p : Int} (h0 : 0 ≤ p) (h1 : p < n) :
    stps t s p = true ↔ ∃ i, i < k ∧ J.g (J.run t (laps n (plc s n))) i % n = p := by
  obtain ⟨T, o⟩ := two_of h hn hk hc hf
  rw [o.run T.up t p]
  have L := T.lap.zrun t
  constructor
  · rintro ⟨i, hi⟩
    obtain ⟨r, m, hr, ei, ez⟩ := L.first hk i
    refine ⟨r, hr, ?_⟩
    rw [T.run t hr, show zrun t (zOf k n (plc s n)) r = p + (-m) * n by rw [Int.neg_mul]; (first | lia | omega), Int.add_mul_emod_self_right]
    exact Int.emod_eq_of_lt h0 h1
  · rintro ⟨r, hr, e⟩
    rw [T.run t hr] at e
    have d := Int.emod_add_mul_ediv (zrun t (zOf k n (plc s n)) r) n
    refine ⟨r + (-(zrun t (zOf k n (plc s n)) r / n)) * k, ?_⟩
    rw [L.mul, Int.neg_mul, Int.mul_comm]
    (first | lia | omega)
noncomputable def ex1 (s : Rg) : Rg := fun p => !s (-1 - p)
theorem ex1_ex1 (s : Rg) : ex1 (ex1 s) = s := by
  funext p
  unfold ex1
  rw [show -1 - (-1 - p) = p by (first | lia | omega), Bool.not_not]
theorem ex1_stp (s : Rg) : stp (ex1 s) = ex1 (stp s) := by
  funext p
  unfold stp ex1
  rw [show -1 - (p + 1) = -1 - p - 1 by (first | lia | omega), show -1 - (p - 1) = -1 - p + 1 by (first | lia | omega)]
  dsimp only
  cases s (-1 - p) <;> rfl
theorem ex1_stps (t : Nat) (s : Rg) : stps t (ex1 s) = ex1 (stps t s) := by
  induction t generalizing s with
  | zero => rfl
  | succ t ih => show stps t (stp (ex1 s)) = _; rw [ex1_stp, ih]; rfl
theorem Per.ex1 {n : Nat} {s : Rg} (h : Per n s) : Per n (ex1 s) := fun p => by
  unfold R.ex1
  have := h (-1 - (p + n))
  rw [show -1 - (p + (n : Int)) + n = -1 - p by (first | lia | omega)] at this
  rw [this]
theorem cars_ex1 {n : Nat} {s : Rg} (h : Per n s) : cars n (ex1 s) + cars n s = n := by
  have e : ex1 s = fun p => ex s (p + 1) := by funext p; unfold ex1 ex; rw [show -(p + 1) = -1 - p by (first | lia | omega)]
  have c := cars_ex h 1
  have gen : ∀ (l : Nat) (a : Int), cnt (ex1 s) a l = cnt (ex s) (a + 1) l := by
    intro l
    induction l with
    | zero => intro a; rfl
    | succ l ih =>
      intro a
      show cnt (ex1 s) a l + b2 (ex1 s (a + l)) = cnt (ex s) (a + 1) l + b2 (ex s (a + 1 + l))
      rw [ih, e]
      dsimp only
      rw [show a + (l : Int) + 1 = a + 1 + l by (first | lia | omega)]
  have := gen n 0
  unfold cars
  rw [this]
  exact c
theorem cc_ex1 (s : Rg) (p : Int) : cc (ex1 s) p = gg s (-p - 2) := by
  unfold cc ex1 gg
  rw [show -1 - (p + 1) = -p - 2 by (first | lia | omega), show -p - 2 + 1 = -1 - p by (first | lia | omega), Bool.and_comm]
theorem gg_ex1 (s : Rg) (p : Int) : gg (ex1 s) p = cc s (-p - 2) := by
  unfold cc ex1 gg
  dsimp only
  rw [show -1 - (p + 1) = -p - 2 by (first | lia | omega), show -p - 2 + 1 = -1 - p by (first | lia | omega), Bool.not_not, Bool.not_not, Bool.and_comm]
theorem set_ex1 {n : Nat} {s : Rg} (h : Per n s) (hn : 0 < n) : Set n (ex1 s) ↔ Set n s := by
  rw [set_iff h hn, set_iff h.ex1 hn]
  have c := cars_ex1 h
  constructor
  · rintro (⟨q, z⟩ | ⟨q, z⟩)
    · refine .inr ⟨by (first | lia | omega), fun p => ?_⟩
      have := z (-p - 2)
      rwa [cc_ex1, show -(-p - 2) - 2 = p by (first | lia | omega)] at this
    · refine .inl ⟨by (first | lia | omega), fun p => ?_⟩
      have := z (-p - 2)
      rwa [gg_ex1, show -(-p - 2) - 2 = p by (first | lia | omega)] at this
  · rintro (⟨q, z⟩ | ⟨q, z⟩)
    · exact .inr ⟨by (first | lia | omega), fun p => by rw [gg_ex1]; exact z _⟩
    · exact .inl ⟨by (first | lia | omega), fun p => by rw [cc_ex1]; exact z _⟩
theorem Settles.ex1 {n : Nat} {s : Rg} {m : Nat} (h : Per n s) (hn : 0 < n) (q : Settles n (R.ex1 s) m) : Settles n s m := fun t => by
  rw [← q t, ex1_stps, set_ex1 (h.stps t) hn]
theorem settles_none {n : Nat} {s : Rg} (h : Per n s) (hn : 0 < n) (hc : cars n s = 0) : Settles n s 0 := fun t => by
  refine ⟨fun _ => Nat.zero_le _, fun _ => ?_⟩
  have c : cars n (stps t s) = 0 := (cars_stps h 0 t).trans hc
  obtain ⟨c1, _⟩ := flow_cars (h.stps t) hn
  unfold Set
  (first | lia | omega)
theorem Settles.uniq {n : Nat} {s : Rg} {a b : Nat} (x : Settles n s a) (y : Settles n s b) : a = b := by
  have h1 := (y a).mp ((x a).mpr (Nat.le_refl _))
  have h2 := (x b).mp ((y b).mpr (Nat.le_refl _))
  (first | lia | omega)
end R

namespace R
end R

namespace RvS
open PySem PySem.Spec PyProof.Rows
theorem owner_rev : Manifest.owners.lookup (String.ofList ['d', 'e', 's', 'r', 'e', 'v', 'e', 'r'].reverse) = some Manifest.sig_reversed := by kernel_rfl
theorem slot_rev_next : Slot "reversed" "__next__" "reversed.__next__" :=
  .of (owner := "reversed") (n := "__next__") (by rw [typeLookup_type, builtinLookup_eq_fast]; kernel_rfl) (by decide +kernel) (by decide +kernel) (by decide +kernel)
    (by first | exact .inl (by decide +kernel) | exact .inr (by decide +kernel)) (by rw [isSubtype_type]; kernel_rfl)
theorem entry_rev_next : entryFor table "reversed.__next__" = some Builtin.«reversed.__next__» := entryFor_of_tree (by kernel_rfl)
theorem args_rev_next (a : Value) : argsOk "reversed.__next__" ⟨[a], []⟩ := by
  unfold argsOk; rw [signature?_of (id := "reversed.__next__") (n := ['_', '_', 't', 'x', 'e', 'n', '_', '_']) (o := ['d', 'e', 's', 'r', 'e', 'v', 'e', 'r']) (by kernel_rfl) owner_rev]; kernel_rfl
theorem slot_rev_iter : Slot "reversed" "__iter__" "reversed.__iter__" :=
  .of (owner := "reversed") (n := "__iter__") (by rw [typeLookup_type, builtinLookup_eq_fast]; kernel_rfl) (by decide +kernel) (by decide +kernel) (by decide +kernel)
    (by first | exact .inl (by decide +kernel) | exact .inr (by decide +kernel)) (by rw [isSubtype_type]; kernel_rfl)
theorem args_rev_iter (a : Value) : argsOk "reversed.__iter__" ⟨[a], []⟩ := by
  unfold argsOk; rw [signature?_of (id := "reversed.__iter__") (n := ['_', '_', 'r', 'e', 't', 'i', '_', '_']) (o := ['d', 'e', 's', 'r', 'e', 'v', 'e', 'r']) (by kernel_rfl) owner_rev]; kernel_rfl
theorem entry_rev_iter : entryFor table "reversed.__iter__" = some Builtin.«dict_keyiterator.__iter__» :=
  entryFor_alias (id' := "dict_keyiterator.__iter__") (by kernel_rfl) (by first | rfl | decide +kernel | (unfold String.splitOn; simp +decide [String.splitOnAux])) (by decide +kernel) (by kernel_rfl)
theorem mro_rev : mroOf (.type "reversed") = pure [.type "reversed", .type "object"] := by rw [mroOf_type]; kernel_rfl
theorem lookup_rev_new : typeLookup (.type "reversed") "__new__" = pure (some (.builtin "reversed.__new__")) := by rw [typeLookup_type, builtinLookup_eq_fast]; kernel_rfl
theorem slot_rev_init : Slot "reversed" "__init__" "object.__init__" :=
  .of (owner := "object") (n := "__init__") (by rw [typeLookup_type, builtinLookup_eq_fast]; kernel_rfl) (by decide +kernel) (by decide +kernel) (by decide +kernel)
    (by first | exact .inl (by decide +kernel) | exact .inr (by decide +kernel)) (by rw [isSubtype_type]; kernel_rfl)
theorem called_rev : TypeCalled "reversed" "reversed.__new__" "object.__init__" :=
  ⟨by decide +kernel, by decide +kernel, ⟨_, _, mro_rev⟩, madeBy_type mro_rev lookup_rev_new (by decide +kernel), by decide +kernel, by rw [isSubtype_type]; kernel_rfl, slot_rev_init⟩
theorem typeCall_rev (a : Value) : checkTypeCall "reversed" ⟨[a], []⟩ = pure () := by kernel_rfl
theorem newCall_rev (a : Value) : checkBuiltinCall "reversed.__new__" ⟨[.type "reversed", a], []⟩ = pure () := by kernel_rfl
theorem entry_rev_new : entryFor table "reversed.__new__" = some Builtin.«reversed.__new__» := entryFor_of_tree (by kernel_rfl)
theorem sub_rev : isSubtype (.type "reversed") (.type "reversed") = pure true := by rw [isSubtype_type]; kernel_rfl
theorem no_rev_str : typeLookup (.type "str") "__reversed__" = pure none := by rw [typeLookup_type, builtinLookup_eq_fast]; kernel_rfl
theorem sub_str_dict : isSubtype (.type "str") (.type "dict") = pure false := by rw [isSubtype_type]; kernel_rfl
theorem newClass_rev (a : Value) : Builtin.SmallTypes.newClass "reversed" ⟨[.type "reversed", a], []⟩ = pure (.type "reversed", [a]) := by
  unfold Builtin.SmallTypes.newClass
  simp only [isType, sub_rev, pure_bind, Bool.not_true, Bool.false_eq_true, if_false]
noncomputable def revS (x : Str) (t : Tok) (i : Int) : Obj := { cls := .type "reversed", data := .fields #[.str x t, rawInt i] }
theorem meets_rev (x : Str) (t : Tok) (hx : x.length ≤ sizeLine) : Meets (Builtin.«reversed.__new__» ⟨[.type "reversed", .str x t], []⟩) (fun _ R s => ∀ tk, R (.ok (.ret (.ref s.heap.objs.size))) { s with heap := s.heap.push (revS x t ((x.length : Int) - 1)), toks := tk }) := by
  intro prog w A R s h
  unfold Builtin.«reversed.__new__»
  refine wpAny_bind (wpAny_of_eq (newClass_rev _) ?_)
  try dsimp only
  refine wpAny_bind (wpAny_of_eq (a := ()) (by first | rfl | kernel_rfl) ?_)
  refine wpAny_bind (wpAny_of_eq (a := ()) (by first | rfl | kernel_rfl) ?_)
  try dsimp only
  refine wpAny_bind (wpAny_specialOf (typeIs_str s x t) no_rev_str ?_)
  try dsimp only
  refine wpAny_bind ?_
  show wpAny _ _ (isInstance (.str x t) (.type "dict") >>= _) _ _ s
  refine wpAny_bind (wpAny_isInstance (typeIs_str s x t) sub_str_dict ?_)
  show wpAny _ _ (specialOf (.str x t) "__getitem__" >>= _) _ _ s
  refine wpAny_bind (wpAny_specialOf (typeIs_str s x t) F.slot_str_getitem.lookup ?_)
  refine wpAny_of_eq (a := true) (by first | rfl | kernel_rfl) ?_
  try dsimp only
  rw [if_neg (by decide)]
  have hs : sizeLine = 16777216 := sizeLine_eq
  refine wpAny_bind (len_str (by (first | lia | omega)) ?_)
  refine wpAny_bind (wpAny_of_eq (a := some (x.length : Int)) rfl ?_)
  dsimp only
  refine wpAny_bind ?_
  show wpAny _ _ (newObj (.type "reversed") (.fields #[.str x t, rawInt ((x.length : Int) - 1)])) _ _ _
  refine wpAny_newObj_type ?_ (by size_fits)
  exact wpAny_pure (h _)
section
variable {prog : Program} {w : World} {A : Around} {E : Value → Shared → Prop} {s : Shared}
noncomputable def IsRevS (h : Heap) (a : Addr) (x : Str) (t : Tok) (i : Int) : Prop := ∃ o, h.get? a = some o ∧ o.cls = .type "reversed" ∧ o.data = .fields #[.str x t, rawInt i]
theorem IsRevS.typeIs {a : Addr} {x : Str} {t : Tok} {i : Int} (h : IsRevS s.heap a x t i) : s.TypeIs (.ref a) "reversed" := let ⟨o, ho, hc, _⟩ := h; ⟨o, ho, hc⟩
theorem call_reversed_str {x : Str} {t : Tok} {Q : Value → Shared → Prop} (hx : x.length ≤ sizeLine) (h : ∀ tk, Q (.ref s.heap.objs.size) { s with heap := s.heap.push (revS x t ((x.length : Int) - 1)), toks := tk }) :
    wpAny (model prog w) A (call (.type "reversed") [.str x t]) Q E s := by
  refine callType_new called_rev (by decide) (typeCall_rev _) (newCall_rev _) (fun obj => F.args_object_init_2 obj _) entry_rev_new (meets_rev x t hx) ?_
  intro tk
  exact ⟨⟨_, Heap.get?_push_size _ rfl, rfl⟩, h tk⟩
theorem next_item {it : Addr} {x : Str} {t : Tok} {i c : Nat} {Q : Option Value → Shared → Prop} (hx : x.length ≤ sizeLine) (hit : IsRevS s.heap it x t (i : Int)) (hc : x.cps[i]? = some c)
    (hQ : ∀ h' u tk, IsRevS h' it x t ((i : Int) - 1) → Heap.SameBut it s.heap h' → Q (some (.str ⟨#[c]⟩ u)) { s with heap := h', toks := tk }) : wpAny (model prog w) A (pyNext (.ref it)) Q E s := by
  obtain ⟨o, ho, hcl, hd⟩ := id hit
  unfold pyNext
  refine wpAny_bind (wpAny_attempt (wpAny_callSpecial?_slot (name := Str.ofString "__next__") hit.typeIs slot_rev_next (wpAny_call_entry slot_rev_next hit.typeIs entry_rev_next ?_ (args_rev_next _))))
  unfold Builtin.«reversed.__next__»
  refine wpAny_bind (wpAny_of_eq (a := (Value.ref it, [])) rfl ?_)
  try dsimp only
  refine wpAny_bind (wpAny_field ho hd (x := .str x t) rfl ?_)
  refine wpAny_bind (wpAny_field ho hd (x := rawInt (i : Int)) rfl ?_)
  show wpAny _ _ (if (i : Int) < 0 then _ else _) _ _ s
  rw [if_neg (by (first | lia | omega))]
  refine wpAny_bind (wpAny_specialOf (typeIs_str s x t) F.slot_str_getitem.lookup ?_)
  try dsimp only
  rw [if_neg (by decide)]
  refine wpAny_bind (wpAny_mkInt ?_)
  have hlt : i < x.length := by
    have := (Array.getElem?_eq_some_iff.mp hc).1
    exact this
  have hs : sizeLine = 16777216 := sizeLine_eq
  refine wpAny_bind (wpAny_attempt (getItem_str (c := c) (by
    have e1 : decide ((i : Int) < -(2 ^ 63 : Int)) = false := decide_eq_false (by (first | lia | omega))
    have e2 : decide ((i : Int) ≥ 2 ^ 63) = false := decide_eq_false (by (first | lia | omega))
    rw [e1, e2, Bool.or_false]) (by
      have : seqIndex? (i : Int) x.length = some i := by unfold seqIndex?; simp; (first | lia | omega)
      rw [this]; exact hc) ?_))
  dsimp only
  refine wpAny_bind (wpAny_field ho hd (x := rawInt (i : Int)) rfl ?_)
  show wpAny _ _ (setField (.ref it) 1 (rawInt ((i : Int) - 1)) >>= _) _ _ _
  refine wpAny_bind (wpAny_setField ho hd (by simp) ?_)
  refine wpAny_pure ⟨_, rfl, wpAny_pure (hQ _ _ _ ?_ (Heap.SameBut.update ..))⟩
  exact ⟨_, Heap.get?_update_self _ ho (Obj.isFreed_of_fields (Obj.data_mapFields hd _)), (Obj.cls_mapFields ..).trans hcl, by
    rw [Obj.data_mapFields hd]; simp⟩
theorem next_end {it : Addr} {x : Str} {t : Tok} {Q : Option Value → Shared → Prop} (hh : A.handled = none) (hit : IsRevS s.heap it x t (-1))
    (hQ : ∀ h', Heap.ExtBut it s.heap h' → Q none { s with heap := h' }) : wpAny (model prog w) A (pyNext (.ref it)) Q E s := by
  obtain ⟨o, ho, hcl, hd⟩ := id hit
  unfold pyNext
  refine wpAny_bind (wpAny_attempt (wpAny_callSpecial?_slot (name := Str.ofString "__next__") hit.typeIs slot_rev_next (wpAny_call_entry slot_rev_next hit.typeIs entry_rev_next ?_ (args_rev_next _))))
  unfold Builtin.«reversed.__next__»
  refine wpAny_bind (wpAny_of_eq (a := (Value.ref it, [])) rfl ?_)
  try dsimp only
  refine wpAny_bind (wpAny_field ho hd (x := .str x t) rfl ?_)
  refine wpAny_bind (wpAny_field ho hd (x := rawInt (-1)) rfl ?_)
  show wpAny _ _ (if (-1 : Int) < 0 then _ else _) _ _ s
  rw [if_pos (by decide)]
  refine wpAny_bind (wpAny_rule ?_)
  refine wpAny_bind ?_
  show wpAny _ _ (setField (.ref it) 1 (rawInt (-1)) >>= _) _ _ _
  refine wpAny_bind (wpAny_setField ho hd (by simp) ?_)
  have ho2 : (s.heap.update it (Obj.mapFields fun x => x.setIfInBounds 1 (rawInt (-1)))).get? it = some (Obj.mapFields (fun x => x.setIfInBounds 1 (rawInt (-1))) o) :=
    Heap.get?_update_self _ ho (Obj.isFreed_of_fields (Obj.data_mapFields hd _))
  refine wpAny_setField ho2 (Obj.data_mapFields hd _) (by simp) ?_
  show wpAny _ _ (Builtin.SmallTypes.stopIteration >>= _) _ _ _
  refine wpAny_bind ?_
  show wpAny _ _ (newExc (.type "StopIteration") [] >>= _) _ _ _
  refine wpAny_bind ?_
  simp only [newExc, newTuple]
  refine wpAny_bind (wpAny_newObj_type ?_ (by size_fits))
  refine wpAny_bind (m := firstArgMember _ _) (wpAny_of_eq (a := Value.none) (by first | rfl | (simp only [firstArgMember]; rfl)) ?_)
  refine wpAny_newObj_type ?_ (by size_fits)
  simp only [raiseNew]
  refine wpAny_bind (wpAny_handled ?_)
  first | rw [show A.in1.handled = none from hh] | rw [hh]
  refine wpAny_bind (wpAny_pure (wpAny_throw ?_))
  refine wpAny_bind (wpAny_isInstance (T := "StopIteration") (b := true) ⟨_, Heap.get?_push_size _ rfl, rfl⟩ isSubtype_stop ?_)
  refine wpAny_pure (hQ _ ?_)
  have e1 : Heap.ExtBut it s.heap (s.heap.update it (Obj.mapFields fun x => x.setIfInBounds 1 (rawInt (-1)))) := (Heap.SameBut.update ..).extBut
  have e2 := (Heap.SameBut.update (s.heap.update it (Obj.mapFields fun x => x.setIfInBounds 1 (rawInt (-1)))) it (Obj.mapFields fun x => x.setIfInBounds 0 Value.none)).extBut
  have e3 : Heap.ExtBut it s.heap ((s.heap.update it (Obj.mapFields fun x => x.setIfInBounds 1 (rawInt (-1)))).update it (Obj.mapFields fun x => x.setIfInBounds 0 Value.none)) := fun b o hb he => e2 b o hb (e1 b o hb he)
  exact (e3.push _).push _
theorem pyIter_rev {it : Addr} {x : Str} {t : Tok} {i : Int} {Q : Value → Shared → Prop} (hit : IsRevS s.heap it x t i) (h : Q (.ref it) s) : wpAny (model prog w) A (pyIter (.ref it)) Q E s := by
  refine wpAny_pyIter_slot hit.typeIs slot_rev_iter (wpAny_call_entry slot_rev_iter hit.typeIs entry_rev_iter ?_ (args_rev_iter _))
  show wpAny _ _ (ret (.ref it)) _ _ s
  exact wpAny_pure ⟨_, rfl, "reversed", _, hit.typeIs, slot_rev_next.lookup, h⟩
end
end RvS
namespace RvS
open PySem PySem.Spec PyProof.Rows
theorem args_max_default (a v : Value) : argsOk "max" ⟨[a], [(Str.ofString "default", v)]⟩ := by unfold argsOk; kernel_rfl
section
variable {prog : Program} {w : World} {A : Around} {R : Result → Shared → Prop} {I : Addr} {fp wr : List Addr} {n : Nat} {P : Nat → Value → Prop} {St : Nat → Heap → Prop}
theorem max_loop (d : Value) (W : Walks prog w A.in1 I fp wr n P St) (bt : Nat → Nat → Bool) (hcmp : CmpOf prog w A.in1 .Gt P bt) (S : Addr) (hSf : S ∉ fp) :
    ∀ (k j : Nat) (s : Shared) (vb : Value) (c : Nat), n - (j + 1) = k → j + 1 ≤ n → St (j + 1) s.heap → P (argBest bt j) vb →
    s.heap.get? S = some { cls := .type "list", dict := none, data := .seq #[vb, vb] c, slots := #[] } →
    (∀ v h' tk, P (argBest bt (n - 1)) v → (∀ b o, b ∉ wr → b ≠ S → s.heap.get? b = some o → h'.get? b = some o) → R (.ok (.ret v)) { s with heap := h', toks := tk }) →
    codeAny (model prog w) A (.builtin "max.loop" ⟨[.ref I, .none, .ref S], [("default", d)]⟩) R s := by
  have hSw : S ∉ wr := fun h => hSf (W.sub _ h)
  have hname : (toString "max" ++ toString ".loop" : String) = "max.loop" := by decide
  intro k
  induction k with
  | zero =>
    intro j s vb c hk hj hst hPb hS hR
    have hin : j + 1 = n := by omega
    refine codeAny_builtin F.entry_max_loop ?_
    rw [Around.under_plainId F.plain_max_loop _]
    show wpAny _ A.in1 (seqItems? (.ref S) >>= _) _ _ s
    refine wpAny_bind (wpAny_seqItems hS rfl ?_)
    show wpAny _ A.in1 (tryCatch (pyNext (.ref I)) _ >>= _) _ _ s
    refine wpAny_bind (wpAny_tryCatch (W.done s _ _ (hin ▸ hst) fun h' tk hk' => ?_))
    have hS' := hk' S _ hSw hS
    show wpAny _ A.in1 (updateSeq S (fun _ => #[]) >>= _) _ _ _
    refine wpAny_bind ?_
    refine wpAny_updateSeq hS' rfl (wpAny_bind (wpAny_letGo (wpAny_pure ?_)))
    refine hR vb _ tk (by rw [← hin]; exact hPb) fun b o hbw hbS e => (Heap.get?_update_other _ _ (Ne.symm hbS)).trans (hk' b o hbw e)
  | succ k ih =>
    intro j s vb c hk hj hst hPb hS hR
    have hlt : j + 1 < n := by omega
    refine codeAny_builtin F.entry_max_loop ?_
    rw [Around.under_plainId F.plain_max_loop _]
    show wpAny _ A.in1 (seqItems? (.ref S) >>= _) _ _ s
    refine wpAny_bind (wpAny_seqItems hS rfl ?_)
    show wpAny _ A.in1 (tryCatch (pyNext (.ref I)) _ >>= _) _ _ s
    refine wpAny_bind (wpAny_tryCatch (W.item (j + 1) s _ _ hlt hst fun v h' tk hP hst' hk' => ?_))
    have hS' := hk' S _ hSw hS
    show wpAny _ A.in1 (tryCatch (holding [v, v] (richCompare .Gt v vb >>= _)) _ >>= _) _ _ _
    refine wpAny_bind (wpAny_tryCatch (wpAny_holding (wpAny_bind (hcmp (j + 1) (argBest bt j) v vb _ _ _ hP hPb ?_))))
    refine wpAny_bind (wpAny_holding (wpAny_truthy_bool ?_))
    refine wpAny_bind (wpAny_letGo (wpAny_pure ?_))
    cases hb : bt (j + 1) (argBest bt j) with
    | true =>
      simp only [if_true]
      refine wpAny_bind ?_
      refine wpAny_updateSeq hS' rfl (wpAny_bind (wpAny_letGo ?_))
      rw [hname]
      refine wpAny_pure ⟨plainId_quiet F.plain_max_loop _, ih (j + 1) _ v _ (by omega) hlt (W.frame _ _ _ hst' fun b hbf o e => ?_) (by simp only [argBest, hb, if_true]; exact hP) (Heap.get?_update_self _ hS' rfl)
        fun v' h'' tk'' hP' hk'' => ?_⟩
      · exact (Heap.get?_update_other _ _ (fun h : S = b => hSf (by rw [h]; exact hbf))).trans e
      · exact hR v' h'' tk'' hP' fun b o hbw hbS e => hk'' b o hbw hbS ((Heap.get?_update_other _ _ (Ne.symm hbS)).trans (hk' b o hbw e))
    | false =>
      simp only [Bool.false_eq_true, if_false]
      refine wpAny_bind (wpAny_letGo ?_)
      rw [hname]
      refine wpAny_pure ⟨plainId_quiet F.plain_max_loop _, ih (j + 1) _ vb c (by omega) hlt hst' (by simp only [argBest, hb, Bool.false_eq_true, if_false]; exact hPb) hS' fun v' h'' tk'' hP' hk'' => ?_⟩
      exact hR v' h'' tk'' hP' fun b o hbw hbS e => hk'' b o hbw hbS (hk' b o hbw e)
end
section
variable {prog : Program} {w : World} {A : Around} {E : Value → Shared → Prop} {s : Shared} {l : Addr} {xs : Array (Int × Tok)}
theorem max_default {d : Value} {Q : Value → Shared → Prop} (hh : A.handled = none) (hl : s.heap.IsList l (intItems xs))
    (h0 : xs.size = 0 → ∀ h' tk, (∀ b o, s.heap.get? b = some o → h'.get? b = some o) → Q d { s with heap := h', toks := tk })
    (h : 0 < xs.size → ∀ v h' tk, (intItems xs)[argBest (fun i j => decide (numAt xs i > numAt xs j)) (xs.size - 1)]? = some v → (∀ b o, s.heap.get? b = some o → h'.get? b = some o) → Q v { s with heap := h', toks := tk }) :
    wpAny (model prog w) A (call (.builtin "max") [.ref l] [("default", d)]) Q E s := by
  have hname : (toString "max" ++ toString ".loop" : String) = "max.loop" := by decide
  refine kmk_tree F.kind_max F.plain_max F.entry_max (args_max_default _ _) ?_
  show wpAny _ A.in1 (Builtin.Builtins.bindParams "max" ["key", "default"] 0 ⟨[], [("default", d)]⟩ >>= _) _ _ s
  refine wpAny_bind (wpAny_of_eq (show Builtin.Builtins.bindParams "max" ["key", "default"] 0 ⟨[], [("default", d)]⟩ = pure [none, some d] from rfl) ?_)
  refine wpAny_bind (wpAny_pure ?_)
  refine wpAny_bind (iter_intList hl fun s₂ e st hfp hlI => ?_)
  have old := fun h' => old_kept (s := s) (l := l) (h' := h')
  subst e
  refine wpAny_bind (wpAny_newObj_type ?_)
  have hSf : _ ∉ [s.heap.objs.size, l] := fun hm => Nat.lt_irrefl _ (hfp _ hm)
  rw [hname]
  have W := Walks.list (prog := prog) (w := w) (A := A.in1) hh s.heap.objs.size l hlI (intItems xs)
  refine wpAny_pure ⟨plainId_quiet F.plain_max_loop _, codeAny_builtin F.entry_max_loop ?_⟩
  rw [Around.under_plainId F.plain_max_loop _]
  show wpAny _ A.in1 (seqItems? (.ref _) >>= _) _ _ _
  refine wpAny_bind (wpAny_seqItems (Heap.get?_push_size _ rfl) rfl ?_)
  show wpAny _ A.in1 (tryCatch (pyNext (.ref s.heap.objs.size)) _ >>= _) _ _ _
  have hsz : (intItems xs).size = xs.size := by simp [intItems]
  by_cases hz : xs.size = 0
  · have z0 : (intItems xs).size = 0 := by rw [hsz, hz]
    refine wpAny_bind (wpAny_tryCatch (W.done _ _ _ ?st fun h' tk hk' => ?_))
    case st =>
      rw [z0]
      exact W.frame _ _ _ st fun b _ o e => Heap.get?_push_of_some _ e
    show wpAny _ A.in1 (rule _ >>= _) _ _ _
    refine wpAny_bind (wpAny_rule (wpAny_pure ?_))
    exact h0 hz h' tk fun b o e => hk' b o (fun hm => by rcases List.mem_cons.mp hm with e1 | hm; exact absurd (e1 ▸ Heap.lt_size e) (Nat.lt_irrefl _); cases hm) (Heap.get?_push_of_some _ (Heap.get?_push_of_some _ e))
  · have hpos : 0 < xs.size := by (first | lia | omega)
    refine wpAny_bind (wpAny_tryCatch (W.item 0 _ _ _ (by rw [hsz]; exact hpos) (W.frame _ _ _ st fun b _ o e => Heap.get?_push_of_some _ e) fun v h' tk hP hst' hk' => ?_))
    have hSw : (s.heap.push { cls := .type "list_iterator", data := .fields #[.ref l, .int 0 0] }).objs.size ∉ [s.heap.objs.size] := fun h => hSf (W.sub _ h)
    have hS' := hk' _ _ hSw (Heap.get?_push_size (s.heap.push { cls := .type "list_iterator", data := .fields #[.ref l, .int 0 0] }) (o := { cls := .type "list", dict := none, data := .seq ([] : List Value).toArray }) rfl)
    show wpAny _ A.in1 (updateSeq _ (fun _ => #[v, v]) >>= _) _ _ _
    refine wpAny_bind ?_
    refine wpAny_updateSeq hS' rfl ?_
    rw [hname]
    refine wpAny_pure ⟨plainId_quiet F.plain_max_loop _, max_loop d W (fun i j => decide (numAt xs i > numAt xs j)) (CmpOf.ints_gt (numAt xs) (fun _ _ => intItems_at)) _ hSf _ 0 _ v _ rfl (by rw [hsz]; exact hpos) (W.frame _ _ _ hst' fun b hbf o e => ?_) hP (Heap.get?_update_self _ hS' rfl) fun v' h'' tk'' hP' hk'' => ?_⟩
    · exact (Heap.get?_update_other _ _ (fun h => hSf (by rw [h]; exact hbf))).trans e
    · refine h hpos v' h'' tk'' (by rw [hsz] at hP'; exact hP') fun b o e => ?_
      have hb : b < s.heap.objs.size := Heap.lt_size e
      have hz2 : (s.heap.push { cls := .type "list_iterator", data := .fields #[.ref l, .int 0 0] }).objs.size = s.heap.objs.size + 1 := Heap.size_push ..
      have hne : b ≠ (s.heap.push { cls := .type "list_iterator", data := .fields #[.ref l, .int 0 0] }).objs.size := by rw [hz2]; exact Nat.ne_of_lt (Nat.lt_succ_of_lt hb)
      have hni : b ∉ [s.heap.objs.size] := fun hm => by
        rcases List.mem_cons.mp hm with e1 | hm
        · exact absurd hb (by rw [e1]; exact Nat.lt_irrefl _)
        · cases hm
      exact hk'' b o hni hne ((Heap.get?_update_other _ _ (Ne.symm hne)).trans (hk' b o hni (Heap.get?_push_of_some _ (Heap.get?_push_of_some _ e))))
end
end RvS

namespace L2
open PySem PySem.Spec PyProof.Rows
section
variable {X : Cx}
end
structure Kl (K : PySem.W.Frag) (C : Addr) : Prop where
  cl : Cls K C
  ha : PySem.W.findIn K (.ref C) "__class__" = some (some (.builtin "object.__class__"))
  hn : PySem.W.specialIn K (.builtin "object.__class__") "__get__" = some (some (.builtin "getset_descriptor.__get__"))
  ht : PySem.W.takesIn K (.builtin "object.__class__") = some true
  hm : PySem.W.mroIn K C (.type "object") = some true
structure MkD (P : Program) (w : World) (K : PySem.W.Frag) (mg : Str → Option Value) (base : Heap) (x : Str) (C : Addr) (k : Nat) (ps : List Str) (sp : Sp) : Prop where
  ex : ∃ (f : Addr) (fd : FuncData), Mk K C f ∧ FnOk P w K mg base CX0 k f fd ps sp ∧ mg x = some (.ref C) ∧ Binds K fd ps []
structure MtD (P : Program) (w : World) (K : PySem.W.Frag) (mg : Str → Option Value) (base : Heap) (C : Addr) (m : Str) (k : Nat) (ps : List Str) (sp : Sp) : Prop where
  ex : ∃ (f : Addr) (fd : FuncData), Meth K C m f ∧ FnOk P w K mg base CX0 k f fd ps sp ∧ Binds K fd ps []
section
variable {X : Cx} {x m : Str} {C : Addr} {k : Nat} {ps : List Str} {sp : Sp} {p pos apos : Pos} {o e : Expr} {es : List Expr} {ta : TE} {t : TA}
end
end L2
namespace L2
open PySem PySem.Spec PyProof.Rows
end L2
namespace L2
open PySem PySem.Spec PyProof.Rows
theorem kit_yes {K : PySem.W.Frag} {C C' : Addr} {cd : ClassData} (h1 : PySem.W.clsIn K C' = some cd) (h2 : PySem.W.typeIn K (.ref C') = some (.type "type")) (h3 : PySem.W.mroIn K C (.ref C') = some true) : PySem.W.kitOne K (.ref C) (.ref C') = some true := by
  unfold PySem.W.kitOne
  split
  · rfl
  · unfold PySem.W.kitCls
    dsimp only
    rw [h1, h2, if_pos (by rfl)]
    exact h3
theorem kit_no {K : PySem.W.Frag} {C C' : Addr} {cd : ClassData} (h1 : PySem.W.clsIn K C' = some cd) (h2 : PySem.W.typeIn K (.ref C') = some (.type "type")) (h0 : (Value.ref C == Value.ref C') = false) (h3 : PySem.W.mroIn K C (.ref C') = some false) : PySem.W.kitOne K (.ref C) (.ref C') = some false := by
  unfold PySem.W.kitOne
  rw [if_neg (by rw [h0]; exact Bool.false_ne_true)]
  unfold PySem.W.kitCls
  dsimp only
  rw [h1, h2, if_pos (by rfl)]
  exact h3
end L2

namespace L2
open PySem PySem.Spec PyProof.Rows
noncomputable def Itse (z : Str) : It := ⟨fun i _ => i < z.cps.size, fun i H v H' => ∃ p c, v = .ref p ∧ H p = none ∧ z.cps[i]? = some c ∧ H' = upd H p (.tup [.int i, .str ⟨#[c]⟩]), fun i _ => i = z.cps.size⟩
theorem turn_enumS {P : Program} {w : World} {K : PySem.W.Frag} {elts : List Expr} {k : Nat} {pos : Pos} (e it : Addr) (z : Str) (t : Tok) (hei : e ≠ it) :
    Turn P w K (.Tuple elts k pos) (Itse z) [e, it] e (fun i h => (∃ old, IsEnum h e it i old) ∧ h.IsStrIter it "str_ascii_iterator" z t i) where
  mem := by simp
  obj := fun i h st b hb => by
    obtain ⟨⟨old, he⟩, ⟨o, eo, c, d⟩⟩ := st
    rcases List.mem_cons.mp hb with rfl | hb
    · exact ⟨_, he, fun v z => by
        have z' : Data.fields _ = Data.cell v := z
        cases z'⟩
    · have e : b = it := by simpa using hb
      subst e
      exact ⟨o, eo, fun v z => by rw [d] at z; cases z⟩
  keep := fun i h h' st kk => ⟨let ⟨old, he⟩ := st.1; ⟨old, kk e (by simp) _ he⟩, let ⟨o, eo, r⟩ := st.2; ⟨o, kk it (by simp) o eo, r⟩⟩
  item := by
    intro X hP hw hK hc i pins s σ H E I hf st hg
    subst hP hw hK
    obtain ⟨⟨old, he⟩, hit⟩ := st
    have elt : e < s.heap.objs.size := Heap.lt_size he
    have ilt : it < s.heap.objs.size := by obtain ⟨_, y, _⟩ := hit; exact Heap.lt_size y
    refine wpAny_pyNext_enum_itemD (Draws.strAscii (A := X.A.in1) (I.ok.hd hc) it z t) he hit hg hei (by simpa using hei) fun x h1 tk hP1 he1 hit1 ht1 hs1 hk1 => ?_
    obtain ⟨c, u, hcz, rfl⟩ := hP1
    refine ⟨_, rfl, wpAny_letOwnedTupleGo_enum he1 fun h2 he2 hs2 => ?_⟩
    have keep2 : ∀ b o, b ∉ [e, it] → s.heap.get? b = some o → h2.get? b = some o := fun b o hb y =>
      (hs2.2 b fun z => hb (by simp [z])).trans (hk1 b o (fun z => hb (by simp [z])) (fun z => hb (by simp [z])) y)
    have hT2 : h2.get? s.heap.objs.size = some { cls := .type "tuple", data := .seq #[.int i tk, .str ⟨#[c]⟩ u] } := (hs2.2 _ (Nat.ne_of_gt elt)).trans ht1
    refine ⟨.ref s.heap.objs.size, upd H s.heap.objs.size (.tup [.int i, .str ⟨#[c]⟩]), I.turnLay (t' := tk + 1) (ch := [e, it]) hf keep2 (Nat.le_refl _) ⟨two_le_line, [.int i tk, .str ⟨#[c]⟩ u], .cons ⟨_, rfl⟩ (.cons ⟨_, rfl⟩ .nil), ⟨_, hT2, rfl, _, rfl⟩⟩, rfl,
      ⟨_, c, rfl, I.hok.fresh (Nat.le_refl _), hcz, rfl⟩, ⟨⟨_, by simpa using he2⟩, ?_⟩, fun b hb => ?_⟩
    · obtain ⟨o, eo, r⟩ := hit1
      exact ⟨o, (hs2.2 it (Ne.symm hei)).trans eo, r⟩
    · have blt : b < s.heap.objs.size := by
        rcases List.mem_cons.mp hb with rfl | hb
        · exact elt
        · have e : b = it := by simpa using hb
          rw [e]; exact ilt
      rw [upd_ne (Nat.ne_of_lt blt)]
      exact (hf b hb).1
  done := by
    intro X hP hw hK hc i pins s σ H E I hf st hg
    subst hP hw hK
    obtain ⟨⟨old, he⟩, hit⟩ := st
    have hg : i = z.cps.size := hg
    subst hg
    exact wpAny_pyNext_enum_endD (Draws.strAscii (A := X.A.in1) (I.ok.hd hc) it z t) he hit fun h' eb => ⟨rfl, I.turnedL (t' := s.toks) (ch := [e, it]) hf fun b o hb y => eb b o (fun z => hb (by simp [z])) y⟩
  self := fun _ _ _ _ _ st h => let ⟨_, he⟩ := st.1; wpAny_pyIter_enum he h
noncomputable def Itrs (z : Str) : It := ⟨fun i _ => i < z.cps.size, fun i H x H' => H' = H ∧ ∃ c, z.cps[z.cps.size - 1 - i]? = some c ∧ x = .str ⟨#[c]⟩, fun i _ => i = z.cps.size⟩
theorem turn_revS {P : Program} {w : World} {K : PySem.W.Frag} {tg : Expr} (it : Addr) (z : Str) (t : Tok) (hz : z.length ≤ sizeLine) : Turn P w K tg (Itrs z) [it] it (fun i h => RvS.IsRevS h it z t ((z.cps.size : Int) - 1 - i) ∧ i ≤ z.cps.size) where
  mem := by simp
  obj := fun i h st b hb => by
    have e : b = it := by simpa using hb
    subst e
    obtain ⟨⟨o, eo, c, d⟩, _⟩ := st
    exact ⟨o, eo, fun v q => by rw [d] at q; cases q⟩
  keep := fun i h h' st k => let ⟨⟨o, ho, r⟩, hi⟩ := st; ⟨⟨o, k it (by simp) o ho, r⟩, hi⟩
  item := by
    intro Y hP hw hK hc i pins s σ H E I hf st hg
    subst hP hw hK
    have hg : i < z.cps.size := hg
    obtain ⟨hit, hi⟩ := st
    rw [show (z.cps.size : Int) - 1 - i = ((z.cps.size - 1 - i : Nat) : Int) by omega] at hit
    have hcz : z.cps[z.cps.size - 1 - i]? = some (z.cps[z.cps.size - 1 - i]'(by omega)) := Array.getElem?_eq_getElem (by omega)
    generalize z.cps[z.cps.size - 1 - i]'(by omega) = c at hcz
    refine RvS.next_item hz hit hcz fun h' u tk hit' hs' => ?_
    rw [show ((z.cps.size - 1 - i : Nat) : Int) - 1 = (z.cps.size : Int) - 1 - ((i + 1 : Nat) : Int) by omega] at hit'
    have I1 : Inv Y pins σ H { s with heap := h', toks := tk } := I.turnedL hf fun b o hb e => (hs'.2 b (fun q => hb (by simp [q]))).trans e
    obtain ⟨o, eo, c', d⟩ := id hit'
    exact ⟨_, rfl, go_of (s := { s with heap := h', toks := tk }) eo c' d (by decide) ⟨.str ⟨#[c]⟩, H, I1, ⟨u, rfl⟩, ⟨rfl, c, hcz, rfl⟩, ⟨hit', hg⟩, fun b hb => (hf b hb).1⟩⟩
  done := by
    intro Y hP hw hK hc i pins s σ H E I hf st hg
    subst hP hw hK
    have hg : i = z.cps.size := hg
    subst hg
    obtain ⟨hit, hi⟩ := st
    rw [show (z.cps.size : Int) - 1 - (z.cps.size : Nat) = -1 by omega] at hit
    exact RvS.next_end (I.ok.hd hc) hit fun h' eb => ⟨rfl, I.turnedL (t' := s.toks) hf fun b o hb e => eb b o (fun q => hb (by simp [q])) e⟩
  self := fun _ _ _ _ _ st h => RvS.pyIter_rev st.1 h
section
variable {X : Cx} {tg : Expr}
noncomputable def iEnumS (ta : TA) : TI := fun σ H R => ta σ H fun vs H1 => ∃ z : Str, vs = [.str z] ∧ z.cps.all (· < 128) = true ∧ R (Itse z) H1
theorem pi_enumS {elts : List Expr} {k : Nat} {tpos : Pos} {a : Expr} {ta : TA} {p pos : Pos} (hg : Gl X "enumerate") (hm : X.mg "enumerate" = none) (ha : PA X [a] ta) (hs : starEach [a] X.env = [(false, eval a X.env)] := by rfl) :
    PI X (.Tuple elts k tpos) (.Call (.Name "enumerate" p) [a] [] pos) (iEnumS ta) := by
  intro pins s σ H R I h
  refine Call_ (ld_blt I hg hm boot_enumerate (PyProof.Rows.callWith_type1 (thn (ha pos pins s σ H _ I h) fun us s1 ⟨vs, H1, I1, r1, q1⟩ => ?_) hs rfl))
  obtain ⟨z, e, hz, q⟩ := q1
  subst e
  cases r1 with
  | cons r rr =>
    cases rr
    obtain ⟨t, rfl⟩ := r
    refine call_enumerate_str fun h' he hit hsz hk => ?_
    have et : strIterType z = "str_ascii_iterator" := by unfold strIterType; rw [if_pos hz]
    rw [et] at hit
    refine wpAny_pyIter_enum he ?_
    have I2 : Inv X pins σ H1 { s1 with heap := h' } := I1.kept (t' := s1.toks) hk
    refine ⟨s1.heap.objs.size + 1, [s1.heap.objs.size + 1, s1.heap.objs.size], _, _, H1, rfl, I2, turn_enumS _ _ z t (Nat.succ_ne_self _), ⟨⟨_, he⟩, hit⟩, fun b hb => ?_, q⟩
    have hb' : s1.heap.objs.size ≤ b := by
      rcases List.mem_cons.mp hb with rfl | hb
      · exact Nat.le_succ _
      · have e : b = s1.heap.objs.size := by simpa using hb
        rw [e]; exact Nat.le_refl _
    exact I1.fpOk hb' (I1.hok.fresh hb')
noncomputable def iRevS (ta : TA) : TI := fun σ H R => ta σ H fun vs H1 => ∃ z : Str, vs = [.str z] ∧ z.length ≤ sizeLine ∧ R (Itrs z) H1
theorem pi_revS {a : Expr} {ta : TA} {p pos : Pos} (hg : Gl X "reversed") (hm : X.mg "reversed" = none) (ha : PA X [a] ta) (hs : starEach [a] X.env = [(false, eval a X.env)] := by rfl) : PI X tg (.Call (.Name "reversed" p) [a] [] pos) (iRevS ta) := by
  intro pins s σ H R I h
  refine Call_ (ld_blt I hg hm boot_reversed (PyProof.Rows.callWith_type1 (thn (ha pos pins s σ H _ I h) fun us s1 ⟨vs, H1, I1, r1, q1⟩ => ?_) hs rfl))
  obtain ⟨z, e, hz, q⟩ := q1
  subst e
  cases r1 with
  | cons r rr =>
    cases rr
    obtain ⟨t, rfl⟩ := r
    refine RvS.call_reversed_str hz fun tk => ?_
    have hit : RvS.IsRevS (s1.heap.push (RvS.revS z t ((z.length : Int) - 1))) s1.heap.objs.size z t ((z.cps.size : Int) - 1 - (0 : Nat)) := ⟨_, Heap.get?_push_size _ rfl, rfl, by
      show Data.fields #[.str z t, rawInt ((z.length : Int) - 1)] = _
      rw [show (z.cps.size : Int) - 1 - (0 : Nat) = (z.length : Int) - 1 by show _ = (z.cps.size : Int) - 1; (first | lia | omega)]⟩
    refine RvS.pyIter_rev (s := { s1 with heap := s1.heap.push (RvS.revS z t ((z.length : Int) - 1)), toks := tk }) hit ?_
    have I2 : Inv X pins σ H1 { s1 with heap := s1.heap.push (RvS.revS z t ((z.length : Int) - 1)), toks := tk } := I1.kept (t' := tk) fun b o e => Heap.get?_push_of_some _ e
    refine ⟨s1.heap.objs.size, [s1.heap.objs.size], _, _, H1, rfl, I2, turn_revS _ z t hz, ⟨hit, Nat.zero_le _⟩, fun b hb => ?_, q⟩
    have e : b = s1.heap.objs.size := by simpa using hb
    subst e
    exact I1.fpOk (Nat.le_refl _) (I1.hok.fresh (Nat.le_refl _))
noncomputable def tMaxD (K : PySem.W.Frag) (ta : TA) (td : TE) : TE := fun σ H Q => ta σ H fun vs H1 => td σ H1 fun d H2 => ∃ (p : Addr) (ns : List Int) (k : Int), vs = [.ref p] ∧ d = .int k ∧ SqL K H2 p (ns.map V.int) ∧ (ns = [] → Q (.int k) H2) ∧ (∀ m, m ∈ ns → (∀ a ∈ ns, a ≤ m) → Q (.int m) H2)
theorem argBest_gt' (v : Nat → Int) : ∀ n, argBest (fun i j => decide (v i > v j)) n ≤ n ∧ ∀ j, j ≤ n → v j ≤ v (argBest (fun i j => decide (v i > v j)) n)
  | 0 => ⟨Nat.le_refl _, fun j hj => by have : j = 0 := by (first | lia | omega)
                                        subst this; exact Int.le_refl _⟩
  | n + 1 => by
    obtain ⟨h1, h2⟩ := argBest_gt' v n
    unfold argBest
    by_cases c : v (n + 1) > v (argBest (fun i j => decide (v i > v j)) n)
    · rw [if_pos (decide_eq_true c)]
      refine ⟨Nat.le_refl _, fun j hj => ?_⟩
      by_cases e : j = n + 1
      · subst e; exact Int.le_refl _
      · have := h2 j (by (first | lia | omega)); (first | lia | omega)
    · rw [if_neg (by simpa using c)]
      refine ⟨by (first | lia | omega), fun j hj => ?_⟩
      by_cases e : j = n + 1
      · subst e; (first | lia | omega)
      · exact h2 j (by (first | lia | omega))
theorem pe_maxD {a d : Expr} {ta : TA} {td : TE} {p pos kp : Pos} (hc : X.calm = true) (hg : Gl X "max") (hm : X.mg "max" = none) (ha : PA X [a] ta) (hd : PE X d td)
    (he : ∀ pos, backTo pos (starEach [a] X.env) = (false, eval a X.env) :: backTo pos (starEach [] X.env) := by intro _; rfl) (hpl : ∀ pos, (backTo pos (starEach [a] X.env)).any (·.1) = false := by intro _; rfl) :
    PE X (.Call (.Name "max" p) [a] [⟨some "default", d, kp⟩] pos) (tMaxD X.K ta td) := by
  intro pins s σ H Q I h
  refine wpAny_Call_Name_kw (ld_blt I hg hm boot_max ?_)
  refine PyProof.Rows.callWith_kw (thn (ha pos pins s σ H _ I h) fun us s1 ⟨vs, H1, I1, r1, q1⟩ => ?_) (he pos) (hpl pos) rfl rfl
  refine kws_cons (thn (hd pins s1 σ H1 _ I1 q1) fun u s2 ⟨x, H2, I2, r2, q2⟩ => kws_nil ?_)
  obtain ⟨l, ns, k, rfl, rfl, hq, q0, q⟩ := q2
  obtain ⟨u', rfl, ru⟩ := vals1 r1
  cases ru
  obtain ⟨t, rfl⟩ := r2
  obtain ⟨its, rv, pl, hz⟩ := I2.list hq
  have ia := intsAre_of rv
  have all : AllInts its.toArray := ia.allInts
  obtain ⟨xs, e⟩ := all.items
  have e2 : ns = numsOf (intItems xs).toList := by rw [← e]; exact ia.numsOf.symm
  rw [nums_intItems] at e2
  refine RvS.max_default (I2.ok.hd hc) (by rw [← e]; exact pl.isList) (fun z h' tk hk => ?_) (fun z v h' tk hv hk => ?_)
  · refine ⟨.int k, H2, I2.kept hk, ⟨t, rfl⟩, q0 ?_⟩
    rw [e2]
    exact List.length_eq_zero_iff.mp (by rw [List.length_map, Array.length_toList]; exact z)
  · obtain ⟨t', rfl⟩ := intItems_at hv
    obtain ⟨h1, h2⟩ := argBest_gt' (numAt xs) (xs.size - 1)
    refine ⟨.int _, H2, I2.kept hk, ⟨t', rfl⟩, q _ ?_ fun a ha => ?_⟩
    · rw [e2, numAt_eq]; exact getD_mem (by rw [List.length_map, Array.length_toList]; omega)
    · rw [e2] at ha
      obtain ⟨j, hj, rfl⟩ := mem_getD ha
      rw [List.length_map, Array.length_toList] at hj
      rw [← numAt_eq]; exact h2 j (by omega)
end
end L2

namespace L2
open PySem PySem.Spec PyProof.Rows
section
variable {X : Cx} {tg elt iter tst : Expr} {scope : Scope} {pos : Pos} {N : List Str} {js : List (Option Nat)} {wi : TI} {g : TG} {tt : TT} {te : TE}
theorem ps_setCI {i : Nat} {x : Str} {px spos : Pos} (hc : X.calm = true) (S : CompSc X.env.scope X.N scope N js) (hi : PI X tg iter wi) (hg : ∀ cl C fp s H, PG (cxComp X N scope cl C fp s H) tg g) (ht : ∀ cl C fp s H, PT (cxComp X N scope cl C fp s H) tst tt) (he : ∀ cl C fp s H, PE (cxComp X N scope cl C fp s H) elt te) (hN : X.N.Nodup) (hx : X.N[i]? = some x) (hL : X.env.scope.names.lookup x = some .local)
    (hsw : swapsWith (.ListComp elt [⟨tg, iter, [tst], 0⟩] scope pos) (some (.Name x px)) spos.line X.env = pure true := by rfl)
    (hs : ∀ x, foldedSetIterable iter X.env x = pure x := by intro _; rfl) : PS X (.Assign [.Name x px] (.ListComp elt [⟨tg, iter, [tst], 0⟩] scope pos) spos) (tAsg (tCompIf js wi g tt te) (gName i)) := by
  intro pins s σ H Dn I h
  obtain ⟨cl, hclos, h1, h3⟩ := closureFor_of (scope := scope) (env := X.env) fun y hy hf => I.ok.has y.1 (S.fr y hy hf)
  rw [exec_Assign_Name_used _ _ _ _ hsw]
  refine wpAny_bind (wpAny_standAt (wpAny_bind ?_))
  show wpAny _ X.A (do let _ ← comprehension (.ListComp elt [⟨tg, iter, [tst], 0⟩] scope pos) scope X.env _ (newList []) false (eval iter X.env) (some (assign (.Name x px) X.env))) _ _ s
  refine wpAny_bind (wpAny_mono (wpAny_comprehension_free (use := some (assign (.Name x px) X.env)) (Q := fun _ s' => SP X pins Dn .next s') rfl hs hclos S.kind S.loc (thn (hi pins s σ H _ I h) fun v s1 q1 => thn q1 fun itv s2 q2 => ?_)) (fun _ s' hq => wpAny_pure (wpAny_pure hq)) fun _ _ e => e)
  obtain ⟨it, fp, tn, J, H2, e, I2, T, st2, f2, R⟩ := q2
  subst e
  have hlt : ∀ b ∈ fp, b < s2.heap.objs.size := fun b hb => by
    obtain ⟨o, ho, _⟩ := T.obj 0 _ st2 b hb
    exact Heap.lt_size ho
  refine wpAny_newObj_type (wpAny_newFunctionEnv S.nocell (by intro y hy; simp at hy) (fun h₁ hns₁ hsb₁ => ?_) S.kind)
  dsimp only at hns₁ hsb₁ ⊢
  generalize hH2 : s2.heap.push { cls := .type "list", dict := none, data := .seq ([] : List Value).toArray } = P2 at hns₁ hsb₁ ⊢
  have hCe : P2.objs.size = s2.heap.objs.size + 1 := by rw [← hH2, Heap.size_push]
  have hDC : s2.heap.objs.size ≠ P2.objs.size := by rw [hCe]; exact Nat.ne_of_lt (Nat.lt_succ_self _)
  have hCle : s2.heap.objs.size ≤ P2.objs.size := by rw [hCe]; exact Nat.le_succ _
  have old : ∀ b o, s2.heap.get? b = some o → h₁.get? b = some o := fun b o e => hsb₁.extBut b o (Nat.ne_of_lt (Nat.lt_of_lt_of_le (Heap.lt_size e) hCle)) (Heap.get?_push_of_some _ (hH2 ▸ Heap.get?_push_of_some _ e))
  have hacc : h₁.get? s2.heap.objs.size = some { cls := .type "list", data := .seq #[] 0 } := hsb₁.extBut _ _ hDC (Heap.get?_push_of_some _ (hH2 ▸ Heap.get?_push_size _ rfl))
  have I3 := comp_start (tk := s2.toks + ([] : List (Str × Value)).length) S I2 f2 hlt h1 h3 (Nat.le_refl _) hCle hDC old hns₁ hacc
  have st3 : tn 0 h₁ := T.keep 0 _ _ st2 fun b _ o e => old b o e
  have hn2 : H2 s2.heap.objs.size = none := I2.hok.fresh (Nat.le_refl _)
  obtain ⟨W, ⟨m0, w0⟩, turn⟩ := R s2.heap.objs.size hn2
  have stat : ∀ {H' : Hp}, (∀ b ∈ fp, H' b = none) → ∀ b ∈ fp, FpOk (cxComp X N scope cl P2.objs.size fp s2 H2) [] H' b := fun {H'} hn b hb =>
    ⟨hn b hb, (I3.ok.exf b hb).1, I3.ok.exfs b hb, .inl hb, (I3.ok.exf b hb).2, fun p hp => absurd hp (by simp [cxComp])⟩
  have fin : ∀ {σ' : St} {H' : Hp} {s' : Shared}, Inv (cxComp X N scope cl P2.objs.size fp s2 H2) [] σ' H' s' → Dn.nx (σ.set i (some (.ref s2.heap.objs.size))) H' →
      compPost (model X.prog X.w) X.A X.xe (some (assign (.Name x px) X.env)) (fun _ s' => SP X pins Dn .next s') (.ref s2.heap.objs.size) P2.objs.size (.ok .next) s' := fun {σ' H' s'} J' q => by
    obtain ⟨m, hn, _⟩ := J'.loc
    have bs : Un (frs X.stack) fp H2 H' s2.heap s'.heap := J'.base
    have fr : H' P2.objs.size = none := J'.free
    have I9 : Inv X pins σ H' s' := I2.call' (ch := fp) J'.os bs J'.hok J'.bare fun b hb => by
      obtain ⟨_, a1, _, a3, a4, a5⟩ := f2 b hb
      exact ⟨a3, a1, a4, a5⟩
    have fo : FpOk X pins H' P2.objs.size := I2.fpOk hCle fr
    show wpAny _ X.A (assign (.Name x px) X.env (.ref s2.heap.objs.size)) _ _ _
    refine wpAny_assign_Name (store_ok2 I9 hN hx (.inl hL) (v := .ref s2.heap.objs.size) rfl (fun s'' I10 hch => ?_) (.inr hL))
    obtain ⟨a, sb, ha⟩ := hch
    have nC : P2.objs.size ≠ a := by
      rcases ha with z | z
      · rw [z]; exact fo.2.1
      · exact Ne.symm (fo.2.2.2.2.1 _ _ z)
    refine ⟨m, hn.sameBut sb nC, fun h' hs' => ⟨_, H', ?_, q⟩⟩
    exact I10.turnedC (t' := s''.toks) fo fun b o hb e => (hs'.2 b hb).trans e
  have loop : ∀ s₃ : Shared, s₃ = { s2 with heap := h₁, toks := s2.toks + ([] : List (Str × Value)).length } →
      codeAny (model X.prog X.w) X.A (.compLoop (.ListComp elt [⟨tg, iter, [tst], 0⟩] scope pos) 0 (.ref it) (.ref s2.heap.objs.size) (compEnvC scope cl P2.objs.size X.env))
        (compPost (model X.prog X.w) X.A X.xe (some (assign (.Name x px) X.env)) (fun _ s' => SP X pins Dn .next s') (.ref s2.heap.objs.size) P2.objs.size) s₃ := by
    rintro s₃ rfl
    refine compLoop_tst (fun n s' => ∃ i σ' H', Inv (cxComp X N scope cl P2.objs.size fp s2 H2) [] σ' H' s' ∧ tn i s'.heap ∧ (∀ b ∈ fp, H' b = none) ∧ W i n σ' H') ?_ m0
      ⟨0, _, _, I3, st3, fun b hb => by rw [upd_ne (Nat.ne_of_lt (hlt b hb))]; exact (f2 b hb).1, w0⟩
    rintro n s4 ⟨i, σ4, H4, I4, st4, fr4, w4⟩
    rcases turn i n σ4 H4 w4 with ⟨stop, q⟩ | ⟨go, Nx, hN, step⟩
    · refine thn (T.done (cxComp X N scope cl P2.objs.size fp s2 H2) rfl rfl rfl hc i [] s4 σ4 H4 _ I4 (stat fr4) st4 stop) fun r s5 ⟨hr, I5⟩ => ?_
      subst hr
      exact fin I5 q
    · refine thn (T.item (cxComp X N scope cl P2.objs.size fp s2 H2) rfl rfl rfl hc i [] s4 σ4 H4 _ I4 (stat fr4) st4 go) fun r s5 ⟨u, hr, h5⟩ => ?_
      subst hr
      refine thn h5 fun _ s6 ⟨x, H6, I6, r6, y6, st6, fr6⟩ => ?_
      have I6' := I6.pinned (stat fr6) (T.obj _ _ st6)
      refine wpAny_mono (hg cl P2.objs.size fp s2 H2 _ s6 σ4 H6 x u _ I6' r6 (step x H6 y6)) (fun _ s7 ⟨σ7, H7, I7, q7⟩ => ?_) fun _ _ z => z.elim
      refine wpAny_mono (ht cl P2.objs.size fp s2 H2 _ s7 σ7 H7 _ I7 q7) (fun ok s7' ⟨H7', I7', q7'⟩ => ?_) fun _ _ z => z.elim
      have fin7 : ∀ {s9 : Shared} {H9 : Hp}, Inv (cxComp X N scope cl P2.objs.size fp s2 H2) ([] ++ pinsAt fp s6.heap) σ7 H9 s9 → Nx σ7 H9 → ∃ m, m < n ∧ ∃ i σ' H', Inv (cxComp X N scope cl P2.objs.size fp s2 H2) [] σ' H' s9 ∧ tn i s9.heap ∧ (∀ b ∈ fp, H' b = none) ∧ W i m σ' H' := fun {s9 H9} I9 n9 => by
        obtain ⟨m', hm, w8⟩ := hN _ _ n9
        have pin : ∀ b o, b ∈ fp → s6.heap.get? b = some o → s9.heap.get? b = some o ∧ H9 b = none := fun b o hb e => by
          have z := I9.pin (b, o) (List.mem_append_right _ (List.mem_append_right _ (mem_pinsAt hb e)))
          exact ⟨z.1, z.2.1⟩
        refine ⟨m', hm, i + 1, σ7, _, I9.unpinned, T.keep _ _ _ st6 fun b hb o e => (pin b o hb e).1, fun b hb => ?_, w8⟩
        obtain ⟨o, e, _⟩ := T.obj _ _ st6 b hb
        exact (pin b o hb e).2
      cases ok with
      | false => exact fin7 I7' q7'
      | true =>
        have q7'' : te σ7 H7' fun v H4 => ∃ xs, H4 s2.heap.objs.size = some (.lst xs) ∧ xs.length < sizeLine ∧ Nx σ7 (upd H4 s2.heap.objs.size (.lst (xs ++ [v]))) := q7'
        show wpAny _ _ _ _ _ _
        refine wpAny_mono (he cl P2.objs.size fp s2 H2 _ s7' σ7 H7' _ I7' q7'') (fun y s8 ⟨v8, H8, I8, r8, xs, e8, l8, n8⟩ => ?_) fun _ _ z => z.elim
        refine wpAny_mono (mt_append (X := cxComp X N scope cl P2.objs.size fp s2 H2) _ s8 σ7 H8 (.ref s2.heap.objs.size) [v8] (.ref s2.heap.objs.size) [y] (fun _ H9 => H9 = upd H8 s2.heap.objs.size (.lst (xs ++ [v8]))) I8 rfl (.cons r8 .nil) ⟨_, xs, v8, rfl, rfl, e8, l8, rfl⟩) (fun _ s9 ⟨v9, H9, I9, _, e9⟩ => ?_) fun _ _ z => z.elim
        subst e9
        exact fin7 I9 n8
  exact codeAny_compStart_list (loop _ rfl) (T.self _ 0 _ _ _ st3 (loop _ rfl))
end
end L2

namespace TX
open PySem PySem.Spec PyProof.Rows PySem.Builtin PySem.Builtin.Str
noncomputable def ch (b : Bool) : Nat := if b then 99 else 46
noncomputable def sg (s : R.Rg) (n : Nat) : List Nat := (List.range n).map fun (i : Nat) => ch (s (i : Int))
noncomputable def tx (n : Nat) (s : R.Rg) : Str := ⟨(sg s n).toArray⟩
theorem sg_len (s : R.Rg) (n : Nat) : (sg s n).length = n := by simp [sg]
theorem tx_list (n : Nat) (s : R.Rg) : (tx n s).cps.toList = sg s n := by simp [tx]
theorem tx_size (n : Nat) (s : R.Rg) : (tx n s).cps.size = n := by simp [tx, sg_len]
theorem tx_len (n : Nat) (s : R.Rg) : (tx n s).length = n := tx_size n s
theorem sg_get {s : R.Rg} {n i : Nat} (h : i < n) : (sg s n)[i]? = some (ch (s (i : Int))) := by simp [sg, h]
theorem tx_get {s : R.Rg} {n i : Nat} (h : i < n) : (tx n s).cps[i]? = some (ch (s (i : Int))) := by
  show (sg s n).toArray[i]? = _
  rw [List.getElem?_toArray]; exact sg_get h
theorem sg_succ (s : R.Rg) (n : Nat) : sg s (n + 1) = sg s n ++ [ch (s (n : Int))] := by simp [sg, List.range_succ]
theorem ch_lt (b : Bool) : ch b < 128 := by cases b <;> decide
theorem tx_ascii (n : Nat) (s : R.Rg) : (tx n s).cps.all (· < 128) = true := by
  rw [Array.all_eq_true_iff_forall_mem]
  intro x hx
  have hx : x ∈ sg s n := by
    have := Array.mem_def.mp hx
    rwa [tx_list] at this
  obtain ⟨i, _, rfl⟩ := List.mem_map.mp hx
  exact decide_eq_true (ch_lt _)
theorem str_ext {x y : Str} (h : x.cps.toList = y.cps.toList) : x = y := by
  cases x; cases y
  congr 1
  exact Array.ext' h
theorem str_c : Str.ofString "c" = ⟨#[99]⟩ := by decide +kernel
theorem str_d : Str.ofString "." = ⟨#[46]⟩ := by decide +kernel
theorem str_e : Str.ofString "" = ⟨#[]⟩ := by decide +kernel
theorem str_cd : Str.ofString "c." = ⟨#[99, 46]⟩ := by decide +kernel
noncomputable def sign (b : Bool) : Str := ⟨#[ch b]⟩
theorem sign_t : sign true = Str.ofString "c" := str_c.symm
theorem sign_f : sign false = Str.ofString "." := str_d.symm
theorem sign_is (b : Bool) : decide (sign b = Str.ofString "c") = b := by cases b <;> decide +kernel
theorem join_cons (x : Str) (r : List Str) : Txt.join (Str.ofString "") (x :: r) = x ++ Txt.join (Str.ofString "") r := by
  unfold Txt.join
  rw [StrLaws.glued_eq_join, StrLaws.glued_eq_join, str_e]
  cases r with
  | nil =>
    show x = x ++ (⟨#[]⟩ : Str)
    apply str_ext
    show x.cps.toList = (x.cps ++ #[]).toList
    simp
  | cons y t =>
    show x ++ (⟨#[]⟩ : Str) ++ Str.join ⟨#[]⟩ (y :: t) = x ++ Str.join ⟨#[]⟩ (y :: t)
    apply str_ext
    show ((x.cps ++ #[]) ++ _).toList = (x.cps ++ _).toList
    simp
theorem join_nil : Txt.join (Str.ofString "") [] = ⟨#[]⟩ := by
  unfold Txt.join
  rw [StrLaws.glued_eq_join]
  rfl
theorem join_signs (l : List Nat) : (Txt.join (Str.ofString "") (l.map fun c => (⟨#[c]⟩ : Str))).cps.toList = l := by
  induction l with
  | nil => rw [List.map_nil, join_nil]
  | cons c r ih =>
    rw [List.map_cons, join_cons]
    show ((#[c] : Array Nat) ++ (Txt.join (Str.ofString "") (r.map fun c => (⟨#[c]⟩ : Str))).cps).toList = c :: r
    rw [Array.toList_append, ih]
    rfl
theorem join_tx (n : Nat) (s : R.Rg) : Txt.join (Str.ofString "") ((List.range n).map fun (i : Nat) => sign (s (i : Int))) = tx n s := by
  apply str_ext
  rw [tx_list]
  have e : ((List.range n).map fun (i : Nat) => sign (s (i : Int))) = (sg s n).map fun c => (⟨#[c]⟩ : Str) := by
    unfold sg
    rw [List.map_map]
    rfl
  rw [e, join_signs]
theorem join_fit {ys : List Str} {m : Nat} (h : ∀ y ∈ ys, y.length = 1) (hl : ys.length ≤ m) : (ys.map (·.length)).sum + ys.length * (Str.ofString "").length ≤ m := by
  have e : (ys.map (·.length)).sum = ys.length := by
    clear hl
    induction ys with
    | nil => rfl
    | cons y r ih =>
      rw [List.map_cons, List.sum_cons, ih fun z hz => h z (List.mem_cons_of_mem _ hz), h y List.mem_cons_self, List.length_cons]; omega
  have e2 : (Str.ofString "").length = 0 := by rw [str_e]; rfl
  rw [e, e2]; omega
theorem cnt_sg (s : R.Rg) (n : Nat) : PyProof.Rows.cnt 99 (sg s n) = (R.cars n s : Int) := by
  unfold R.cars
  induction n with
  | zero => rfl
  | succ n ih =>
    rw [sg_succ, cnt_append, ih, cnt_cons, cnt_nil]
    show _ = ((R.cnt s 0 n + R.b2 (s (0 + n)) : Nat) : Int)
    rw [show (0 : Int) + n = n by (first | lia | omega)]
    cases s (n : Int)
    · show (R.cnt s 0 n : Int) + ((if (46 : Nat) = 99 then 1 else 0) + 0) = _
      rw [if_neg (by decide)]
      simp [R.b2]
    · show (R.cnt s 0 n : Int) + ((if (99 : Nat) = 99 then 1 else 0) + 0) = _
      rw [if_pos rfl]
      simp [R.b2]
theorem cnt_sgd (s : R.Rg) (n : Nat) : PyProof.Rows.cnt 46 (sg s n) = (n : Int) - (R.cars n s : Int) := by
  unfold R.cars
  induction n with
  | zero => rfl
  | succ n ih =>
    rw [sg_succ, cnt_append, ih, cnt_cons, cnt_nil]
    show _ = ((n + 1 : Nat) : Int) - ((R.cnt s 0 n + R.b2 (s (0 + n)) : Nat) : Int)
    rw [show (0 : Int) + n = n by (first | lia | omega)]
    cases s (n : Int)
    · show (n : Int) - (R.cnt s 0 n : Int) + ((if (46 : Nat) = 46 then 1 else 0) + 0) = _
      rw [if_pos rfl]
      simp [R.b2]; (first | lia | omega)
    · show (n : Int) - (R.cnt s 0 n : Int) + ((if (99 : Nat) = 46 then 1 else 0) + 0) = _
      rw [if_neg (by decide)]
      simp [R.b2]; (first | lia | omega)
theorem count_c (n : Nat) (s : R.Rg) : Txt.count (tx n s) (Str.ofString "c") = (R.cars n s : Int) := by
  rw [str_c, count_cnt, tx_list, cnt_sg]
theorem count_d (n : Nat) (s : R.Rg) : Txt.count (tx n s) (Str.ofString ".") = (n : Int) - (R.cars n s : Int) := by
  rw [str_d, count_cnt, tx_list, cnt_sgd]
noncomputable def two : List Nat → Nat
  | a :: b :: r => (if a = 99 ∧ b = 46 then 1 else 0) + two (b :: r)
  | _ => 0
theorem two_cons (a b : Nat) (r : List Nat) : two (a :: b :: r) = (if a = 99 ∧ b = 46 then 1 else 0) + two (b :: r) := rfl
theorem at2 (x : Str) (i : Nat) : StrLaws.At x ⟨#[99, 46]⟩ x.length i ↔ x.cps.toList[i]? = some 99 ∧ x.cps.toList[i + 1]? = some 46 := by
  unfold StrLaws.At subAt
  have hl : (⟨#[99, 46]⟩ : Str).length = 2 := rfl
  rw [hl]
  constructor
  · rintro ⟨h1, h2⟩
    have h2 : (x.cps.extract i (i + 2) == #[99, 46]) = true := h2
    have e : x.cps.extract i (i + 2) = #[99, 46] := by simpa using h2
    have g0 : (x.cps.extract i (i + 2))[0]? = some 99 := by rw [e]; rfl
    have g1 : (x.cps.extract i (i + 2))[1]? = some 46 := by rw [e]; rfl
    rw [Array.getElem?_extract] at g0 g1
    have hx : x.length = x.cps.size := rfl
    constructor
    · split at g0
      · simpa using g0
      · cases g0
    · split at g1
      · simpa using g1
      · cases g1
  · rintro ⟨h1, h2⟩
    have hlt : i + 1 < x.cps.toList.length := (List.getElem?_eq_some_iff.mp h2).1
    have hx : x.cps.toList.length = x.length := by simp [Str.length]
    refine ⟨by (first | lia | omega), ?_⟩
    have e : x.cps.extract i (i + 2) = #[99, 46] := by
      apply Array.ext'
      rw [Array.toList_extract]
      show (x.cps.toList.extract i (i + 2)) = [99, 46]
      rw [List.extract_eq_take_drop, show i + 2 - i = 2 by (first | lia | omega)]
      have hi : i < x.cps.toList.length := by (first | lia | omega)
      rw [List.drop_eq_getElem_cons hi, List.drop_eq_getElem_cons hlt]
      rw [(List.getElem?_eq_some_iff.mp h1).2, (List.getElem?_eq_some_iff.mp h2).2]
      rfl
    show (x.cps.extract i (i + 2) == #[99, 46]) = true
    rw [e]; rfl
theorem two_drop {l : List Nat} {i : Nat} (h : i + 1 < l.length) : two (l.drop i) = (if l[i]? = some 99 ∧ l[i + 1]? = some 46 then 1 else 0) + two (l.drop (i + 1)) := by
  rw [List.drop_eq_getElem_cons (show i < l.length by (first | lia | omega)), List.drop_eq_getElem_cons h, two_cons]
  have e1 : l[i]? = some (l[i]'(by (first | lia | omega))) := by simp
  have e2 : l[i + 1]? = some (l[i + 1]'h) := by simp
  rw [e1, e2]
  simp only [Option.some.injEq]
theorem two_short {l : List Nat} {i : Nat} (h : l.length ≤ i + 1) : two (l.drop i) = 0 := by
  have : (l.drop i).length ≤ 1 := by rw [List.length_drop]; (first | lia | omega)
  match hd : l.drop i, this with
  | [], _ => rfl
  | [_], _ => rfl
  | a :: b :: r, hh => simp at hh
theorem two_skip (l : List Nat) (i : Nat) : ∀ d, (∀ k, i ≤ k → k < i + d → ¬ (l[k]? = some 99 ∧ l[k + 1]? = some 46)) → two (l.drop i) = two (l.drop (i + d))
  | 0, _ => rfl
  | d + 1, h => by
    rw [two_skip l i d fun k h1 h2 => h k h1 (by (first | lia | omega))]
    by_cases c : i + d + 1 < l.length
    · rw [two_drop c, if_neg (h (i + d) (by (first | lia | omega)) (by (first | lia | omega)))]
      rw [show i + d + 1 = i + (d + 1) by (first | lia | omega)]; (first | lia | omega)
    · rw [two_short (by (first | lia | omega)), two_short (by (first | lia | omega))]
theorem two_chain (x : Str) : ∀ (cuts : List Nat) (a f : Nat), StrLaws.ChainG x ⟨#[99, 46]⟩ x.length a cuts f → (∀ k, f ≤ k → ¬ StrLaws.At x ⟨#[99, 46]⟩ x.length k) → two (x.cps.toList.drop a) = cuts.length
  | [], a, f, h, hn => by
    have e : f = a := h
    subst e
    have := two_skip x.cps.toList f (x.cps.toList.length) fun k h1 _ z => hn k h1 ((at2 x k).mpr z)
    rw [this, two_short (by (first | lia | omega))]
    rfl
  | d :: r, a, f, h, hn => by
    obtain ⟨had, hAt, hgap, hrest⟩ := h
    have ih := two_chain x r _ f hrest hn
    have hl : (⟨#[99, 46]⟩ : Str).length = 2 := rfl
    rw [hl] at ih
    have A := (at2 x d).mp hAt
    have sk := two_skip x.cps.toList a (d - a) fun k h1 h2 z => hgap k h1 (by (first | lia | omega)) ((at2 x k).mpr z)
    rw [show a + (d - a) = d by (first | lia | omega)] at sk
    have hlt : d + 1 < x.cps.toList.length := (List.getElem?_eq_some_iff.mp A.2).1
    rw [sk, two_drop hlt, if_pos A, List.length_cons]
    have s2 := two_skip x.cps.toList (d + 1) 1 fun k h1 h2 z => by
      have e : k = d + 1 := by (first | lia | omega)
      rw [e, A.2] at z
      exact absurd z.1 (by decide)
    rw [show d + 1 + 1 = d + 2 by (first | lia | omega)] at s2
    rw [s2, ih]; (first | lia | omega)
theorem count_two (x : Str) : Txt.count x ⟨#[99, 46]⟩ = (two x.cps.toList : Int) := by
  obtain ⟨f, hG, hn⟩ := StrLaws.occ_tight x ⟨#[99, 46]⟩ (by decide)
  have := two_chain x _ 0 f hG hn
  rw [List.drop_zero] at this
  unfold Txt.count
  rw [this]
theorem two_append_one : ∀ (l : List Nat) (a b : Nat), two (l ++ [a, b]) = two (l ++ [a]) + (if a = 99 ∧ b = 46 then 1 else 0)
  | [], a, b => by show (if a = 99 ∧ b = 46 then 1 else 0) + two [b] = two [a] + _; simp [two]
  | [c], a, b => by
    show (if c = 99 ∧ a = 46 then 1 else 0) + ((if a = 99 ∧ b = 46 then 1 else 0) + two [b]) = (if c = 99 ∧ a = 46 then 1 else 0) + two [a] + _
    simp [two]
  | c :: d :: r, a, b => by
    have ih := two_append_one (d :: r) a b
    show (if c = 99 ∧ d = 46 then 1 else 0) + two (d :: (r ++ [a, b])) = (if c = 99 ∧ d = 46 then 1 else 0) + two (d :: (r ++ [a])) + _
    have e1 : d :: (r ++ [a, b]) = (d :: r) ++ [a, b] := rfl
    have e2 : d :: (r ++ [a]) = (d :: r) ++ [a] := rfl
    rw [e1, e2, ih]; (first | lia | omega)
theorem two_sg (s : R.Rg) (n : Nat) : two (sg s (n + 1)) = R.cnt (R.mv s) 0 n := by
  induction n with
  | zero => simp [sg, two, R.cnt]
  | succ n ih =>
    rw [sg_succ s (n + 1), sg_succ s n, List.append_assoc]
    show two (sg s n ++ [ch (s (n : Int)), ch (s ((n + 1 : Nat) : Int))]) = _
    rw [two_append_one, ← sg_succ, ih]
    show _ = R.cnt (R.mv s) 0 n + R.b2 (R.mv s (0 + n))
    congr 1
    rw [show (0 : Int) + n = n by (first | lia | omega)]
    unfold R.mv
    rw [show ((n + 1 : Nat) : Int) = (n : Int) + 1 by (first | lia | omega)]
    cases s (n : Int) <;> cases s ((n : Int) + 1) <;> rfl
theorem count_flow {n : Nat} {s : R.Rg} (h : R.Per n s) : Txt.count (tx n s ++ sign (s 0)) (Str.ofString "c.") = (R.flw n s : Int) := by
  rw [str_cd, count_two]
  have e : (tx n s ++ sign (s 0)).cps.toList = sg s (n + 1) := by
    show ((tx n s).cps ++ #[ch (s 0)]).toList = _
    rw [Array.toList_append, tx_list, sg_succ]
    have := h 0
    rw [show (0 : Int) + n = n by (first | lia | omega)] at this
    rw [this]
  rw [e, two_sg]
  rfl
theorem at_nat {n i : Nat} {s : R.Rg} (h : i < n) : L2.atI (tx n s).cps.toList (i : Int) = some (ch (s (i : Int))) := by
  rw [tx_list]; exact L2.atI_nat (sg_get h)
end TX
namespace TX
open PySem PySem.Spec PyProof.Rows PySem.Builtin PySem.Builtin.Str
end TX

namespace L2
open PySem PySem.Spec PyProof.Rows
section
variable {P : Program} {w : World} {H : Hp} {h : Heap} {a : Addr} {o : HO}
theorem ObjOk.there (x : ObjOk P w H h a o) : ∃ u, h.get? a = some u := by
  cases o with
  | lst xs => obtain ⟨_, _, _, _, e⟩ := x; exact ⟨_, e⟩
  | tup xs => obtain ⟨_, _, _, ob, e, _⟩ := x; exact ⟨ob, e⟩
  | dK kvs => obtain ⟨_, _, _, _, ob, _, _, e, _⟩ := x; exact ⟨ob, e⟩
  | dT kvs => obtain ⟨_, _, _, _, ob, _, _, e, _⟩ := x; exact ⟨ob, e⟩
  | set S n => obtain ⟨ob, _, _, _, e, _⟩ := x; exact ⟨ob, e⟩
  | ins C dx fs => obtain ⟨_, _, _, e, _⟩ := x; exact ⟨_, e⟩
  | own y => exact x
  | xd fs => obtain ⟨_, ⟨ob, _, _, e, _⟩, _⟩ := x; exact ⟨ob, e⟩
  | rng lo hi => obtain ⟨_, _, _, e⟩ := x; exact ⟨_, e⟩
  | frz ob u => obtain ⟨e, _⟩ := x; exact ⟨_, e⟩
  | tbl ps => exact ⟨_, x⟩
  | met f y => exact ⟨_, x⟩
  | ext φ => obtain ⟨_, e, _⟩ := x; exact e
theorem HOk.non (x : HOk P w H h) (e : h.get? a = none) : H a = none := by
  cases q : H a with
  | none => rfl
  | some u =>
    obtain ⟨ob, z⟩ := (x a u q).there
    rw [e] at z; cases z
end
noncomputable def Fl (h : Heap) (a T : Addr) (cls : Value) : Prop := ∃ oe vs oT ts a0, h.get? a = some oe ∧ oe.cls = cls ∧ vs[0]? = some a0 ∧ oe.data = .fields vs ∧ vs[1]? = some (.ref T) ∧ T ≠ a ∧ h.get? T = some oT ∧ oT.data = .fields ts ∧ ts[3]? = some .none
noncomputable def CXE (P : Program) (w : World) : CXT := fun outer H s E e s' =>
  ∃ a T C H', e = .ref a ∧ s'.os = s.os ∧ AllBare s'.gens ∧ Un (frs outer) [] H H' s.heap s'.heap ∧ HOk P w H' s'.heap ∧ H' a = none ∧ H' T = none ∧ s.heap.get? a = none ∧ s.heap.get? T = none ∧ Fl s'.heap a T (.ref C) ∧ E (.ref C) none H'
section
variable {X : Cx} {pins : List (Addr × Obj)} {σ : St} {H : Hp} {s s' : Shared} {E : XK} {a C : Addr} {h' : Heap}
theorem Inv.fsFree (I : Inv X pins σ H s) {b : Addr} (hb : b ∈ X.fs) : H b = none := by
  obtain ⟨_, o, ho, _⟩ := I.ok.funs.mem hb
  exact I.base.free b o ho (I.ok.frf b hb) fun z => I.ok.exfs b z hb
theorem Inv.notOld (I : Inv X pins σ H s) (hx : X.ex = []) {b : Addr} (n : s.heap.get? b = none) : X.s₀.heap.get? b = none := by
  cases q : X.s₀.heap.get? b with
  | none => rfl
  | some o =>
    obtain ⟨o', ho'⟩ := I.base.there b o q (by rw [hx]; exact List.not_mem_nil)
    rw [n] at ho'; cases ho'
theorem lay_out (I : Inv X pins σ H s) (hx : X.ex = []) {hid : List Addr} {a0 : Value}
    (hh : ∀ b ∈ hid, b = X.env.locals ∨ b ∈ X.fs ∨ (X.s₀.heap.get? b = none ∧ H b = none))
    (st : (PySem.W.hideAll s.heap hid).StaysIn h') (up : s.heap.UpToSlots h') (ff : h'.FunFrames (PySem.W.hideAll s.heap hid) X.outer) (tr : h'.TracedW (PySem.W.hideAll s.heap hid) a (.ref C) a0)
    (na : X.s₀.heap.get? a = none) (ua : H a = none) (e : E (.ref C) none H) : CXE X.prog X.w X.outer X.H₀ X.s₀ E (.ref a) { s with heap := h' } := by
  have hu : ∀ b ∈ hid, H b = none := fun b hb => by
    rcases hh b hb with z | z | z
    · rw [z]; exact I.free
    · exact I.fsFree z
    · exact z.2
  have kp : ∀ b o, s.heap.get? b = some o → b ∉ hid → h'.get? b = some o := fun b o q n => st b o (PySem.W.hideAll_get _ q n)
  have nex : ∀ b : Addr, b ∉ X.ex := fun b => by rw [hx]; exact List.not_mem_nil
  have old : ∀ b o, X.s₀.heap.get? b = some o → b ∉ X.fs → b ∉ hid := fun b o q n hb => by
    rcases hh b hb with z | z | z
    · exact absurd (Heap.lt_size q) (by rw [z]; exact Nat.not_lt_of_le I.ok.above)
    · exact n z
    · rw [q] at z; cases z.1
  have slot : ∀ b o, b ∈ X.fs → s.heap.get? b = some o → ∃ sl, h'.get? b = some { o with slots := sl } := fun b o hb q => by
    obtain ⟨_, o', ho', hnf⟩ := I.funs.mem hb
    rw [q] at ho'; cases ho'
    exact up b o q hnf
  obtain ⟨oe, vs, T, oT, ts, q1, ⟨q2, q3⟩, q4, q5, q6, q7, q8, q9, q10⟩ := tr
  have notT : ∀ o, s.heap.get? T = some o → T ∈ hid := fun o q => Classical.byContradiction fun n => by rw [PySem.W.hideAll_get _ q n] at q6; cases q6
  have uT : H T = none := by
    cases q : H T with
    | none => rfl
    | some u =>
      obtain ⟨o, ho⟩ := (I.hok T u q).there
      rw [hu T (notT o ho)] at q; cases q
  have nT : X.s₀.heap.get? T = none := by
    cases q : X.s₀.heap.get? T with
    | none => rfl
    | some o =>
      obtain ⟨o', ho'⟩ := I.base.there T o q (nex T)
      rcases hh T (notT o' ho') with z | z | z
      · exact absurd (Heap.lt_size q) (by rw [z]; exact Nat.not_lt_of_le I.ok.above)
      · obtain ⟨_, o2, ho2, hn2⟩ := ff.mem z
        rw [q8] at ho2; cases ho2
        exact absurd q9 (hn2 _)
      · rw [q] at z; cases z.1
  refine ⟨a, T, C, H, rfl, I.os, I.bare, ⟨fun b o q n hb _ => kp b o (I.base.keep b o q n hb (nex b)) (old b o q hb), fun b o q n hb _ => ?_, fun b o q n _ => I.base.free b o q n (nex b), fun b o q _ => ?_, I.base.tups, I.base.frzs, I.base.tbls⟩,
    fun b u q => ?_, ua, uT, na, nT, ⟨oe, vs, oT, ts, a0, q1, q2, q3, q4, q5, q7, q8, q9, q10⟩, e⟩
  · obtain ⟨sl, e1⟩ := I.base.slot b o q n hb (nex b)
    obtain ⟨sl2, e2⟩ := slot b _ hb e1
    exact ⟨sl2, e2⟩
  · obtain ⟨o', e1⟩ := I.base.there b o q (nex b)
    by_cases hb : b ∈ X.fs
    · obtain ⟨sl, e2⟩ := slot b _ hb e1
      exact ⟨_, e2⟩
    · exact ⟨o', kp b o' e1 (old b o q hb)⟩
  · refine (I.hok b u q).stay (fun c v hc r => kp c v r (fun hm => ?_)) (fun _ r => r) fun _ _ r => r
    have := hu c hm
    rcases hc with z | z
    · rw [z, q] at this; cases this
    · rw [z] at this; cases this
theorem Inv.hidStk (I : Inv X pins σ H s) {b : Addr} (hb : b ∈ frs X.stack) : b = X.env.locals ∨ b ∈ X.fs ∨ (X.s₀.heap.get? b = none ∧ H b = none) := (List.mem_cons.mp (I.stkSub b hb)).elim .inl fun z => .inr (.inl z)
theorem pass_on (I : Inv X pins σ H s) (hx : X.ex = []) (hst : X.stack = X.env :: X.outer) (hf : X.env.frame = some X.env.locals) {e : Value} (hc : CXE X.prog X.w X.stack H s E e s') :
    wpAny (model X.prog X.w) X.A (leaving X.env e) (fun _ s'' => CXE X.prog X.w X.outer X.H₀ X.s₀ E e s'') (fun e' s'' => CXE X.prog X.w X.outer X.H₀ X.s₀ E e' s'') s' := by
  obtain ⟨a, T, C, H', rfl, os, bare, un, hok, ua, uT, na, nT, ⟨oe, vs, oT, ts, a0, q1, q2, q3, q4, q5, q7, q8, q9, q10⟩, e⟩ := hc
  have J : Inv X pins σ H' s' := I.call' os un hok bare (fun b z => absurd z (by simp))
  have ff : s'.heap.FunFrames (PySem.W.hideAll s'.heap (a :: T :: frs X.stack)) (X.env :: X.outer) := by
    rw [← hst]
    exact PySem.W.funFrames_hide J.stack (fun env he b hb => .tail _ (.tail _ (List.mem_filterMap.mpr ⟨env, he, hb⟩)))
  have fl : Heap.FlyingW (PySem.W.hideAll s'.heap (a :: T :: frs X.stack)) (X.env :: X.outer) a (.ref C) a0 s'.heap :=
    ⟨fun b o q => PySem.W.of_hideAll _ q, PySem.W.hideAll_none _ (.head _), ff, oe, vs, T, oT, ts, q1, ⟨q2, q3⟩, q4, q5,
      PySem.W.hideAll_none _ (.tail _ (.head _)), q7, q8, q9, q10⟩
  refine wpAny_leaves_onW (by rw [I.ok.frames, hst]) hf fl fun h' k up => ?_
  obtain ⟨k1, k2, k3, k4⟩ := k
  refine lay_out J hx (fun b hb => ?_) k1 up k3 k4 (I.notOld hx na) ua e
  rcases List.mem_cons.mp hb with z | hb
  · rw [z]; exact .inr (.inr ⟨I.notOld hx na, ua⟩)
  · rcases List.mem_cons.mp hb with z | hb
    · rw [z]; exact .inr (.inr ⟨I.notOld hx nT, uT⟩)
    · exact J.hidStk hb
theorem raise_on (I : Inv X pins σ H s) (hx : X.ex = []) (hst : X.stack = X.env :: X.outer) (hf : X.env.frame = some X.env.locals) {vs : List Value} (m : Heap.MadeExcOf s.heap h' a (.ref C) vs) (e : E (.ref C) none H) :
    wpAny (model X.prog X.w) X.A (leaving X.env (.ref a)) (fun _ s'' => CXE X.prog X.w X.outer X.H₀ X.s₀ E (.ref a) s'') (fun e' s'' => CXE X.prog X.w X.outer X.H₀ X.s₀ E e' s'') { s with heap := h' } := by
  have ff : s.heap.FunFrames (PySem.W.hideAll s.heap (frs X.stack)) (X.env :: X.outer) := by
    rw [← hst]
    exact PySem.W.funFrames_hide I.stack (fun env he b hb => List.mem_filterMap.mpr ⟨env, he, hb⟩)
  refine wpAny_leaves_madeW (base := PySem.W.hideAll s.heap (frs X.stack)) (h := s.heap) (by rw [I.ok.frames, hst]) hf (fun b o q => PySem.W.of_hideAll _ q) ff m fun h2 t fl _ _ up => ?_
  obtain ⟨k1, k2, k3, k4⟩ := fl
  show CXE X.prog X.w X.outer X.H₀ X.s₀ E (.ref a) { s with heap := h2 }
  exact lay_out I hx (fun b hb => I.hidStk hb) k1 ((Heap.UpToSlots.of_keeps m.keeps).trans up) k3 k4 (I.notOld hx m.new) (I.hok.non m.new) e
end
theorem passE {P : Program} {w : World} {K : PySem.W.Frag} {mg : Str → Option Value} {base : Heap} {N : List Str} {qual : Str} {scope : Scope} {f : Addr} {cd : Value} {A : Around} {outer : List Env} {s : Shared} {H : Hp} {E : XK} :
    Passes (CXE P w) (cxOf (CXE P w) P w K mg base N qual scope f cd A outer s H E) E := fun _ _ _ _ _ _ I hc => pass_on I rfl rfl rfl hc
end L2

namespace L2
open PySem PySem.Spec PyProof.Rows
abbrev vErr : List Value := [.type "ValueError", .type "Exception", .type "BaseException", .type "object"]
noncomputable def ExcK (K : PySem.W.Frag) (C : Addr) : Prop := PySem.W.excIn K C vErr "ValueError.__new__" = true ∧ ∃ x, PySem.W.nsIn K mainGlobals x = some (some (.ref C))
theorem keys_in : ∀ (l : List DictEntry), (∀ e ∈ l, ∃ n t, e.key = Value.str n t) → ∃ L : List Str, ∀ e ∈ l, ∀ n, e.key.isStr n = true → n ∈ L
  | [], _ => ⟨[], fun _ h => (List.not_mem_nil h).elim⟩
  | e :: r, h => by
    obtain ⟨n, t, k⟩ := h e (.head _)
    obtain ⟨L, q⟩ := keys_in r fun e' h' => h e' (.tail _ h')
    refine ⟨n :: L, fun e' h' m z => ?_⟩
    rcases List.mem_cons.mp h' with y | y
    · rw [y, k] at z
      have y : n = m := eq_of_beq z
      rw [y]; exact .head _
    · exact .tail _ (q e' y m z)
theorem top_of {K : PySem.W.Frag} {mg : Str → Option Value} {base : Heap} (M : Mod K mg base) (p : Program) : ∃ loose mb, PySem.W.TopRead p loose mg mb base := by
  obtain ⟨o, es, ep, ho, hd, hk, hf⟩ := M.glob
  obtain ⟨mb, hb, hbb⟩ := M.blt
  obtain ⟨L, hL⟩ := keys_in es.toList fun e he => hk e (Array.mem_toList_iff.mp he)
  refine ⟨L, mb, M.glob, hb, M.nolimit, hbb, fun x _ hx _ _ _ => ?_⟩
  rw [← hf]
  have z : es.find? (fun e => e.key.isStr x) = none := Array.find?_eq_none.mpr fun e he hq => hx (hL e (Array.mem_toList_iff.mpr he) x hq)
  show (es.find? (fun e => e.key.isStr x)).map (·.val) = none
  rw [z]; rfl
section
variable {X : Cx} {x : Str} {C : Addr} {np cpos pos : Pos} {e₀ : Expr} {rest : List Expr} {t : TA} {E : XK} {st : Stmt} {sts : List Stmt} {u : TS}
noncomputable def tRaise (E : XK) (C : Addr) (t : TA) : TS := fun _ σ H => t σ H fun vs H1 => vs.length ≤ sizeLine ∧ E (.ref C) none H1
theorem ps_raise0 (hq : ExcK X.K C) (hm : X.mg x = some (.ref C)) (hg : Gl X x) (hc : X.calm = true) (ha : PA X (e₀ :: rest) t)
    (hxe : ∀ (pins : List (Addr × Obj)) (σ : St) (H : Hp) (s : Shared) (h' : Heap) (a : Addr) (vs : List Value), Inv X pins σ H s → Heap.MadeExcOf s.heap h' a (.ref C) vs → E (.ref C) none H → X.xe (.ref a) { s with heap := h' })
    (hd : (x == ("__debug__" : Str)) = false := by decide) (he : starEach (e₀ :: rest) X.env = (false, eval e₀ X.env) :: starEach rest X.env := by rfl) (hpl : (backTo cpos (starEach rest X.env)).any (·.1) = false := by rfl) :
    PS X (.Raise (some (.Call (.Name x np) (e₀ :: rest) [] cpos)) none pos) (tRaise E C t) := by
  intro pins s σ H D I h
  obtain ⟨bm, N, nm, q, bs, hdct, sn, sub, ab, col, dd, k0, k1, k2, k3, k5, mN, hC, hN, hni, T⟩ := (let ⟨q, _, e⟩ := hq; let ⟨_, _, T⟩ := top_of I.ok.mod X.prog; (PySem.W.own_of_in I.ok.mod.kin T e q).obj : ∃ _, _)
  refine wpAny_Raise_call_subT (C := C) (nm := nm) (q := q) (N := N) (bs := bs) (bm := bm) (hdct := hdct) (sn := sn) (sub := sub) (ab := ab) (col := col) (dd := dd) (k0 := k0) (k1 := k1) (k2 := k2) (k3 := k3) (k5 := k5)
    PySem.F.excBase_ValueError (mN := mN) (T.hasType PySem.F.excBase_ValueError.hasBase) (I.ok.hd hc) (by rw [he]; show (false || (backTo cpos (starEach rest X.env)).any (·.1)) = false; rw [hpl]; rfl) hni (ld_glob I hg hm ⟨rfl, ?_⟩ hd)
  have h2 := ha cpos pins s σ H _ I h
  rw [he] at h2 ⊢
  exact Calls.evalArgs_plain (wpAny_mono h2 (fun us s₂ ⟨vs, H1, I1, r, z, q⟩ => ⟨rfl, by rw [← r.length]; exact z, I1.bk _ _ hC, hN.keeps I1.bk, T.keeps I1.bk, fun h' a m => hxe _ _ _ _ _ _ _ I1 m q⟩) fun _ _ y => y)
noncomputable def tStop (t : TS) : TS := fun D σ H => t { nx := fun _ _ => False, rt := D.rt } σ H
theorem pss_stop (h1 : PS X st u) : PSs X (st :: sts) (tStop u) := by
  intro pins s σ H D I h
  refine wpAny_execs_cons (thn (h1 pins s σ H { nx := fun _ _ => False, rt := D.rt } I h) fun f s1 q => ?_)
  cases f with
  | next =>
    obtain ⟨σ', H', I', q⟩ := q
    exact False.elim q
  | ret v => exact q
  | brk =>
    obtain ⟨_, _, _, q⟩ := q
    exact False.elim q
  | cont =>
    obtain ⟨_, _, _, q⟩ := q
    exact False.elim q
end
section
variable {P : Program} {w : World} {K : PySem.W.Frag} {mg : Str → Option Value} {base : Heap}
theorem Fun.okE {x qual : Str} {st : Stmt} {f : Addr} {fd : FuncData} {N ps : List Str} {k : Nat} {sp : Sp} (F : Fun K x qual st f fd) (S : FnScope N ps (defScope st)) (len : ∀ vs H Q E, sp vs H Q E → vs.length = ps.length)
    (hbody : ∀ (cdv : Value) (A : Around) (outer : List Env) (s : Shared) (H : Hp) (vs : List V) (Q : VK) (E : XK), Room k (A.deeper (envOfC qual (defScope st) s.heap.objs.size f cdv)) → sp vs H Q E →
      ∃ t, PSs (cxOf (CXE P w) P w K mg base N qual (defScope st) f cdv A outer s H E) (defBody st) t ∧ t { nx := fun _ H' => Q .non H', rt := Q } (start N vs) H) : FnOk P w K mg base (CXE P w) (k + 1) f fd ps sp := by
  obtain ⟨oc, od, kV, doc, pm, an, cdv, ct, osl, rfl, lk, hcd⟩ := F.ex
  exact fn_of lk hcd S len fun A outer s H vs Q E hr hsp => hbody cdv A outer s H vs Q E hr hsp
structure DefE (P : Program) (w : World) (K : PySem.W.Frag) (mg : Str → Option Value) (base : Heap) (x : Str) (k : Nat) (ps : List Str) (sp : Sp) : Prop where
  ex : ∃ (f : Addr) (fd : FuncData), FnOk P w K mg base (CXE P w) k f fd ps sp ∧ mg x = some (.ref f) ∧ PySem.W.keepIn K (.ref f) = true ∧ Binds K fd ps []
variable {X : Cx} {x : Str} {k : Nat} {ps : List Str} {sp : Sp} {p pos : Pos} {e : Expr} {es : List Expr} {t : TA} {E : XK}
theorem pe_defE (D : DefE X.prog X.w X.K X.mg X.base x k ps sp) (hr : Room k X.A) (hp : Passes (CXE X.prog X.w) X E) (ha : PA X (e :: es) t) (hg : Gl X x := by rfl) (hdb : (x == ("__debug__" : Str)) = false := by decide)
    (he : starEach (e :: es) X.env = (false, eval e X.env) :: starEach es X.env := by rfl) (hpl : (backTo pos (starEach es X.env)).any (·.1) = false := by rfl) : PE X (.Call (.Name x p) (e :: es) [] pos) (tCall sp [] E t) := by
  obtain ⟨f, fd, F, a, b, c⟩ := D.ex
  exact pe_call F hr hg a b c .nil hp ha hdb he hpl
end
section
variable {P : Program} {w : World} {K : PySem.W.Frag} {mg : Str → Option Value} {base : Heap} {N : List Str} {qual : Str} {scope : Scope} {f : Addr} {cd : Value} {A : Around} {outer : List Env} {s : Shared} {H : Hp} {E : XK}
  {x : Str} {C : Addr} {np cpos pos : Pos} {e₀ : Expr} {rest : List Expr} {t : TA}
noncomputable abbrev cxE (P : Program) (w : World) (K : PySem.W.Frag) (mg : Str → Option Value) (base : Heap) (N : List Str) (qual : Str) (scope : Scope) (f : Addr) (cd : Value) (A : Around) (outer : List Env) (s : Shared) (H : Hp) (E : XK) : Cx := cxOf (CXE P w) P w K mg base N qual scope f cd A outer s H E
theorem ps_raise (hq : ExcK K C) (hm : mg x = some (.ref C)) (ha : PA (cxE P w K mg base N qual scope f cd A outer s H E) (e₀ :: rest) t) (hg : Gl (cxE P w K mg base N qual scope f cd A outer s H E) x := by rfl) (hd : (x == ("__debug__" : Str)) = false := by decide)
    (he : starEach (e₀ :: rest) (cxE P w K mg base N qual scope f cd A outer s H E).env = (false, eval e₀ (cxE P w K mg base N qual scope f cd A outer s H E).env) :: starEach rest (cxE P w K mg base N qual scope f cd A outer s H E).env := by rfl)
    (hpl : (backTo cpos (starEach rest (cxE P w K mg base N qual scope f cd A outer s H E).env)).any (·.1) = false := by rfl) :
    PS (cxE P w K mg base N qual scope f cd A outer s H E) (.Raise (some (.Call (.Name x np) (e₀ :: rest) [] cpos)) none pos) (tRaise E C t) :=
  ps_raise0 (X := cxE P w K mg base N qual scope f cd A outer s H E) hq hm hg rfl ha (fun _ _ _ _ _ _ _ I m q => raise_on I rfl rfl rfl m q) hd he hpl
end
end L2

namespace L2
open PySem PySem.Spec PyProof.Rows
section
variable {X : Cx} {pins : List (Addr × Obj)} {σ : St} {H : Hp} {s s' : Shared} {E : XK} {a C : Addr} {h' : Heap}
noncomputable def noNames (X : Cx) : St := List.replicate X.N.length none
theorem Inv.shift0 (J : Inv X pins σ H s) {hid : List Addr} {t' : Nat} (k : ∀ b o, s.heap.get? b = some o → b ∉ hid → h'.get? b = some o) (up : ∀ b ∈ X.fs, ∀ o, s.heap.get? b = some o → ∃ sl, h'.get? b = some { o with slots := sl })
    (hn : ∃ m, h'.Ns X.env.locals m)
    (hh : ∀ b ∈ hid, b = X.env.locals ∨ b ∈ X.fs ∨ (X.s₀.heap.get? b = none ∧ H b = none ∧ (∀ x c, X.env.cells.lookup x = some c → c ≠ b) ∧ ∀ p ∈ X.pn ++ pins, p.1 ≠ b)) :
    Inv X pins (noNames X) H { s with heap := h', toks := t' } := by
  have hu : ∀ b ∈ hid, H b = none := fun b hb => by
    rcases hh b hb with z | z | z
    · rw [z]; exact J.free
    · exact J.fsFree z
    · exact z.2.1
  have old : ∀ b o, X.s₀.heap.get? b = some o → b ∉ X.fs → b ∉ hid := fun b o q n hb => by
    rcases hh b hb with z | z | z
    · exact absurd (Heap.lt_size q) (by rw [z]; exact Nat.not_lt_of_le J.ok.above)
    · exact n z
    · rw [q] at z; cases z.1
  refine ⟨J.ok, J.os, J.bare, ⟨fun b o q n hb hx => k b o (J.base.keep b o q n hb hx) (old b o q hb), fun b o q n hb hx => ?_, J.base.free, fun b o q hx => ?_, J.base.tups, J.base.frzs, J.base.tbls⟩, ?_, fun x c q => ?_, J.free, J.freeC, fun p hp => ?_, fun b u q => ?_, by simp [noNames]⟩
  · obtain ⟨sl, e1⟩ := J.base.slot b o q n hb hx
    obtain ⟨sl2, e2⟩ := up b hb _ e1
    exact ⟨sl2, e2⟩
  · obtain ⟨o', e1⟩ := J.base.there b o q hx
    by_cases hb : b ∈ X.fs
    · obtain ⟨sl, e2⟩ := up b hb _ e1
      exact ⟨_, e2⟩
    · exact ⟨o', k b o' e1 (old b o q hb)⟩
  · obtain ⟨m, hm⟩ := hn
    refine ⟨m, hm, fun i x v _ q _ => ?_⟩
    unfold noNames at q
    rw [List.getElem?_replicate] at q
    split at q <;> cases q
  · obtain ⟨v, o, ho, hd⟩ := J.cell x c q
    by_cases hb : c ∈ X.fs
    · obtain ⟨sl, e2⟩ := up c hb _ ho
      exact ⟨v, _, e2, hd⟩
    · refine ⟨v, o, k c o ho fun hm => ?_, hd⟩
      rcases hh c hm with z | z | z
      · exact J.cne x c q z
      · exact hb z
      · exact z.2.2.1 x c q rfl
  · obtain ⟨e, n, ne, nf, d⟩ := J.pin p hp
    refine ⟨k p.1 p.2 e fun hm => ?_, n, ne, nf, d⟩
    rcases hh p.1 hm with z | z | z
    · exact ne z
    · exact nf z
    · exact z.2.2.2 p hp rfl
  · refine (J.hok b u q).stay (fun c v hc r => k c v r (fun hm => ?_)) (fun _ r => r) fun _ _ r => r
    have := hu c hm
    rcases hc with z | z
    · rw [z, q] at this; cases this
    · rw [z] at this; cases this
structure FlyI (X : Cx) (pins : List (Addr × Obj)) (σ : St) (H : Hp) (s : Shared) (a C : Addr) : Prop where
  inv : Inv X pins σ H s
  ua : H a = none
  na : X.s₀.heap.get? a = none
  pa : ∀ p ∈ X.pn ++ pins, p.1 ≠ a
  ca : ∀ x c, X.env.cells.lookup x = some c → c ≠ a
  fl : ∃ T, H T = none ∧ X.s₀.heap.get? T = none ∧ (∀ p ∈ X.pn ++ pins, p.1 ≠ T) ∧ (∀ x c, X.env.cells.lookup x = some c → c ≠ T) ∧ Fl s.heap a T (.ref C)
theorem Inv.flies (I : Inv X pins σ H s) (hx : X.ex = []) {e : Value} (hc : CXE X.prog X.w X.stack H s E e s') : ∃ H' a C, e = .ref a ∧ FlyI X pins σ H' s' a C ∧ E (.ref C) none H' := by
  obtain ⟨a, T, C, H', rfl, os, bare, un, hok, ua, uT, na, nT, fl, e⟩ := hc
  have J : Inv X pins σ H' s' := I.call' os un hok bare (fun b z => absurd z (by simp))
  have pn : ∀ b, s.heap.get? b = none → ∀ p ∈ X.pn ++ pins, p.1 ≠ b := fun b n p hp z => by
    have := (I.pin p hp).1
    rw [z, n] at this; cases this
  have cn : ∀ b, s.heap.get? b = none → ∀ x c, X.env.cells.lookup x = some c → c ≠ b := fun b n x c q z => by
    obtain ⟨v, o, ho, _⟩ := I.cell x c q
    rw [z, n] at ho; cases ho
  exact ⟨H', a, C, rfl, ⟨J, ua, I.notOld hx na, pn a na, cn a na, T, uT, I.notOld hx nT, pn T nT, cn T nT, fl⟩, e⟩
noncomputable abbrev Cx.wishP (X : Cx) (E : Value → Shared → Prop) (pn : List (Addr × Obj)) : Cx := { X with xe := E, pn := pn }
theorem Cx.Ok.wishP {X : Cx} (ok : X.Ok) (E : Value → Shared → Prop) (pn : List (Addr × Obj)) : (X.wishP E pn).Ok :=
  ⟨ok.mod, ok.kind, ok.glob, ok.blt, ok.above, ok.inj, ok.has, ok.cab, ok.hd, ok.frames, ok.stk, ok.exf, ok.bs, ok.bsz, ok.noex, ok.exfs, ok.funs, ok.frf⟩
theorem Inv.wishP {E : Value → Shared → Prop} (I : Inv X pins σ H s) : Inv (X.wishP E (X.pn ++ pins)) [] σ H s := ⟨I.ok.wishP E _, I.os, I.bare, I.base, I.loc, I.cell, I.free, I.freeC, fun p hp => I.pin p (by simpa using hp), I.hok, I.len⟩
theorem Cx.Ok.unwishP {X : Cx} {E : Value → Shared → Prop} {pn : List (Addr × Obj)} (ok : (X.wishP E pn).Ok) : X.Ok :=
  ⟨ok.mod, ok.kind, ok.glob, ok.blt, ok.above, ok.inj, ok.has, ok.cab, ok.hd, ok.frames, ok.stk, ok.exf, ok.bs, ok.bsz, ok.noex, ok.exfs, ok.funs, ok.frf⟩
theorem Inv.unwishP {E : Value → Shared → Prop} {pins' : List (Addr × Obj)} (I : Inv (X.wishP E (X.pn ++ pins)) pins' σ H s) : Inv X pins σ H s :=
  ⟨I.ok.unwishP, I.os, I.bare, I.base, I.loc, I.cell, I.free, I.freeC, fun p hp => I.pin p (List.mem_append_left _ hp), I.hok, I.len⟩
noncomputable abbrev Cx.inExc (X : Cx) (a : Addr) (oe : Obj) : Cx := { X with A := X.A.mark (some (.ref a)), calm := false, pn := (a, oe) :: X.pn, xe := fun _ _ => False }
theorem Cx.Ok.inExc {X : Cx} (ok : X.Ok) (a : Addr) (oe : Obj) : (X.inExc a oe).Ok :=
  ⟨ok.mod, ok.kind, ok.glob, ok.blt, ok.above, ok.inj, ok.has, ok.cab, fun h => Bool.noConfusion (show false = true from h), ok.frames, ok.stk, ok.exf, ok.bs, ok.bsz, ok.noex, ok.exfs, ok.funs, ok.frf⟩
theorem Inv.inExc {oe : Obj} (I : Inv X pins σ H s) (h : s.heap.get? a = some oe) (u : H a = none) (n : a ≠ X.env.locals) (nf : a ∉ X.fs) (d : ∀ v, oe.data ≠ .cell v) : Inv (X.inExc a oe) pins σ H s :=
  ⟨I.ok.inExc a oe, I.os, I.bare, I.base, I.loc, I.cell, I.free, I.freeC, fun p hp => by
    rcases List.mem_append.mp hp with z | z
    · rcases List.mem_cons.mp z with z | z
      · rw [z]; exact ⟨h, u, n, nf, d⟩
      · exact I.pin p (List.mem_append_left _ z)
    · exact I.pin p (List.mem_append_right _ z), I.hok, I.len⟩
end
end L2

namespace L2
open PySem PySem.Spec PyProof.Rows
section
variable {X : Cx} {pins : List (Addr × Obj)} {σ : St} {H : Hp} {s s' : Shared} {E : XK} {a C : Addr} {h' : Heap}
theorem Inv.fsNe (I : Inv X pins σ H s) {b : Addr} (hb : b ∈ X.fs) : b ≠ X.env.locals := fun z => by
  obtain ⟨_, o, ho, _⟩ := I.ok.funs.mem hb
  exact absurd (Heap.lt_size ho) (by rw [z]; exact Nat.not_lt_of_le I.ok.above)
theorem Inv.outExc {oe : Obj} (ok : X.Ok) (I : Inv (X.inExc a oe) pins σ H s) : Inv X pins σ H s :=
  ⟨ok, I.os, I.bare, I.base, I.loc, I.cell, I.free, I.freeC, fun p hp => I.pin p (by
    rcases List.mem_append.mp hp with z | z
    · exact List.mem_append_left _ (List.mem_cons_of_mem _ z)
    · exact List.mem_append_right _ z), I.hok, I.len⟩
noncomputable def tTry (X : Cx) (i : Nat) (E : XK) (tb : TS) (ts : Addr → Addr → TS) : TS := fun D σ H => tb { nx := fun _ _ => False, rt := fun _ _ => False } σ H ∧
  ∀ C H' a, E (.ref C) none H' → H' a = none → ts a C { nx := fun _ _ => False, rt := D.rt } ((noNames X).set i (some (.ref a))) H'
theorem ps_try {x n : Str} {i : Nat} {C0 : Addr} {body : List Stmt} {b₀ : Stmt} {suite : List Stmt} {np hpos pos : Pos} {tb : TS} {ts : Addr → Addr → TS} (hx : X.ex = []) (hst : X.stack = X.env :: X.outer) (hf : X.env.frame = some X.env.locals)
    (hb : ∀ xe pn, Passes (CXE X.prog X.w) (X.wishP xe pn) E → PSs (X.wishP xe pn) body tb) (hg : Gl X x) (hm : X.mg x = some (.ref C0)) (hE : ∀ C H, E (.ref C) none H → PySem.W.exmOne X.K (.ref C) (.ref C0) = some true)
    (hN : X.N.Nodup) (hi : X.N[i]? = some n) (hl : X.env.scope.names.lookup n = some .local) (hs : ∀ a C oe H, E (.ref C) none H → oe.cls = .ref C → PSs (X.inExc a oe) (b₀ :: suite) (ts a C)) (hd : (x == ("__debug__" : Str)) = false := by decide) :
    PS X (.Try body [.ExceptHandler (some (.Name x np)) (some n) (b₀ :: suite) hpos] [] [] pos) (tTry X i E tb ts) := by
  intro pins s σ H D I ⟨h1, h2⟩
  refine wpAny_Try_except ?_
  have hp : Passes (CXE X.prog X.w) (X.wishP (fun e s1 => ∃ σ' H' a C, e = .ref a ∧ FlyI X pins σ' H' s1 a C ∧ E (.ref C) none H') (X.pn ++ pins)) E := fun pins' σ1 H1 s1 e s1' I1 hc => by
    obtain ⟨H', a, C, rfl, fl, e⟩ := I1.unwishP.flies hx hc
    exact ⟨σ1, H', a, C, rfl, fl, e⟩
  refine wpAny_mono ((hb _ _ hp) [] s σ H _ I.wishP h1) (fun f s1 q => ?_) (fun e s1 q => ?_)
  · cases f with
    | next => obtain ⟨_, _, _, q⟩ := q; exact q.elim
    | brk => obtain ⟨_, _, _, q⟩ := q; exact q.elim
    | cont => obtain ⟨_, _, _, q⟩ := q; exact q.elim
    | ret v => obtain ⟨_, _, _, _, _, q⟩ := q; exact q.elim
  · obtain ⟨σ', H', a, C, rfl, fl, e⟩ := q
    obtain ⟨T, uT, nT, pT, cT, oe, vs, oT, ts', a0, q1, q2, q3, q4, q5, q7, q8, q9, q10⟩ := fl.fl
    have J := fl.inv
    have ff : s1.heap.FunFrames (PySem.W.hideAll s1.heap (a :: T :: frs X.stack)) (X.env :: X.outer) := by
      rw [← hst]
      exact PySem.W.funFrames_hide J.stack (fun env he b hb => .tail _ (.tail _ (List.mem_filterMap.mpr ⟨env, he, hb⟩)))
    have hfl : Heap.FlyingW (PySem.W.hideAll s1.heap (a :: T :: frs X.stack)) (X.env :: X.outer) a (.ref C) a0 s1.heap :=
      ⟨fun b o q => PySem.W.of_hideAll _ q, PySem.W.hideAll_none _ (.head _), ff, oe, vs, T, oT, ts', q1, ⟨q2, q3⟩, q4, q5, PySem.W.hideAll_none _ (.tail _ (.head _)), q7, q8, q9, q10⟩
    have hh : ∀ b ∈ a :: T :: frs X.stack, b = X.env.locals ∨ b ∈ X.fs ∨ (X.s₀.heap.get? b = none ∧ H' b = none ∧ (∀ x c, X.env.cells.lookup x = some c → c ≠ b) ∧ ∀ p ∈ X.pn ++ pins, p.1 ≠ b) := fun b hb => by
      rcases List.mem_cons.mp hb with z | hb
      · rw [z]; exact .inr (.inr ⟨fl.na, fl.ua, fl.ca, fl.pa⟩)
      · rcases List.mem_cons.mp hb with z | hb
        · rw [z]; exact .inr (.inr ⟨nT, uT, cT, pT⟩)
        · exact (List.mem_cons.mp (J.stkSub b hb)).elim .inl fun z => .inr (.inl z)
    have sft : ∀ (h5 : Heap), (PySem.W.hideAll s1.heap (a :: T :: frs X.stack)).StaysIn h5 → s1.heap.UpToSlots h5 → Inv X pins (noNames X) H' { s1 with heap := h5 } := fun h5 st up => by
      refine J.shift0 (hid := a :: T :: frs X.stack) (t' := s1.toks) (fun b o q n => st b o (PySem.W.hideAll_get _ q n)) (fun b hb o q => ?_) ?_ hh
      · obtain ⟨_, o', ho', hnf⟩ := J.funs.mem hb
        rw [q] at ho'; cases ho'
        exact up b o q hnf
      · obtain ⟨m, hn, _⟩ := J.loc
        exact ⟨m, up.ns hn⟩
    have aL : a ≠ X.env.locals := fun z => by
      obtain ⟨m, ⟨o, es, ep, ho, hd', _⟩, _⟩ := J.loc
      rw [← z, q1] at ho; cases ho
      rw [q4] at hd'; cases hd'
    have aF : a ∉ X.fs := fun z => by
      obtain ⟨_, o', ho', hnf⟩ := J.funs.mem z
      rw [q1] at ho'; cases ho'
      exact hnf _ q4
    refine wpAny_looks_onW (by rw [J.ok.frames, hst]) hf hfl fun h₄ held₄ up₄ => ?_
    refine wpAny_landsW held₄ fun h₅ fl₅ up₅' => ?_
    have up₅ := up₄.trans up₅'
    have I5 := sft h₅ fl₅.1 up₅
    obtain ⟨o5, w5, hoe5, hoec5, hoed5, _⟩ := fl₅.first
    have I5' : Inv (X.inExc a o5) pins (noNames X) H' { s1 with heap := h₅ } := I5.inExc hoe5 fl.ua aL aF (fun v z => by rw [hoed5] at z; cases z)
    refine wpAny_handleBy_cons (codeAny_handlers_test (ld_glob (X := X.inExc a o5) I5' hg hm ?_ hd)) (by intro q; cases q)
    have LT : PySem.W.Looks (model X.prog X.w) h₅ (typeOf (.ref a)) (.ref C) := hoec5 ▸ (PySem.W.Looks.ld hoe5).andThen .now
    refine (PySem.W.exm_one I5.kIn LT (hE C H' e)).here ?_
    show codeAny _ _ _ _ _
    refine codeAny_handlers_suite_as ?_
    refine lands_againW fl₅ fun h₆ fl₆ up₆' => ?_
    have I6 := sft h₆ fl₆.1 (up₅.trans up₆')
    obtain ⟨o6, w6, hoe6, hoec6, hoed6, _⟩ := fl₆.first
    have I6' : Inv (X.inExc a o6) pins (noNames X) H' { s1 with heap := h₆ } := I6.inExc hoe6 fl.ua aL aF (fun v z => by rw [hoed6] at z; cases z)
    refine store_ok (X := X.inExc a o6) I6' hN hi (Or.inl hl) (v := .ref a) rfl (fun s₇ I7 => ?_) (.inr hl)
    refine wpAny_mono (hs a C o6 H' e hoec6 pins s₇ _ H' { nx := fun _ _ => False, rt := D.rt } I7 (h2 C H' a e fl.ua)) (fun f s₈ q => ?_) (fun _ _ z => z.elim)
    cases f with
    | next => obtain ⟨_, _, _, q⟩ := q; exact q.elim
    | brk => obtain ⟨_, _, _, q⟩ := q; exact q.elim
    | cont => obtain ⟨_, _, _, q⟩ := q; exact q.elim
    | ret u =>
      obtain ⟨v, σ8, H8, I8', r, q⟩ := q
      have I8 := I8'.outExc J.ok
      obtain ⟨m, hn, _⟩ := I8.loc
      show wpAny _ _ (do bindName X.env n .none; unbindBehindTheSuite X.env n hpos) _ _ _
      refine wpAny_nameGoes hl hn (by rw [J.ok.kind]; rfl) fun h9 m' hn' sb => ?_
      refine ⟨v, noNames X, H8, I8.shift0 (hid := [X.env.locals]) (fun b o q n => (sb.2 b (fun z => n (by simp [z]))).trans q) (fun b hb o q => ⟨o.slots, (sb.2 b (I8.fsNe hb)).trans q⟩) ⟨m', hn'⟩ (fun b hb => .inl (by simpa using hb)), r, q⟩
end
end L2

namespace L2
open PySem PySem.Spec PyProof.Rows
structure XKl (K : PySem.W.Frag) (D : Addr) : Prop where
  ga : PySem.W.findIn K (.ref D) "__getattribute__" = some (some (.builtin "BaseException.__getattribute__"))
  na : PySem.W.findIn K (.ref D) "__getattr__" = some none
  hc : PySem.W.findIn K (.ref D) "__class__" = some (some (.builtin "object.__class__"))
  cl : ∃ cd, PySem.W.clsIn K D = some cd
  mo : PySem.W.mroIn K D (.type "object") = some true
  mb : PySem.W.mroIn K D (.type "BaseException") = some true
section
variable {prog : Program} {w : World} {A : Around} {E : Value → Shared → Prop} {h : Heap} {g : Array GenState} {d : Drawn} {t : Nat} {os : OsState} {a D : Addr} {ox : Obj} {K : PySem.W.Frag}
theorem xc_get {R : Result → Shared → Prop} (X : K.In h) (k : XKl K D) (hx : h.get? a = some ox) (hc : ox.cls = .ref D) (hq : R (.ok (.ret (.ref D))) ⟨h, g, d, t, os⟩) :
    codeAny (model prog w) A (.call (.builtin "getset_descriptor.__get__") ⟨[.builtin "object.__class__", .ref a, .ref D], []⟩) R ⟨h, g, d, t, os⟩ := by
  have hT5 : (⟨h, g, d, t, os⟩ : Shared).TypeIs (.builtin "object.__class__") "getset_descriptor" := F.typeOf_object_class
  have So := PySem.W.looks_mroIn (M := model prog w) X k.mo
  have So' : PySem.W.Looks (model prog w) h (isSubtype (.ref D) (.type (".".intercalate ("object.__class__".cutAt '.').dropLast))) true := by rw [F.owner_object_class]; exact So
  refine codeAny_call_builtin F.slot_gs_get.plain F.entry_gs_get (F.slot_gs_get.check _ _ _ _ _ _ _ _ hT5 (F.args_gs_get _ _ _) ?_)
  repeat (any_goals (first | assumption | (with_reducible refine wpAny_loadPart_at hx ?_; rw [hc]) | (with_reducible refine So'.at ?_) | wp_step))
  refine ⟨Code.quiet_builtin _ (by decide +kernel), codeAny_builtin F.entry_object_class ?_⟩
  repeat (any_goals (first | assumption | (with_reducible refine wpAny_loadPart_at hx ?_; rw [hc]) | wp_step))
theorem xc_entry {tk : Tok} {Q : Fin → Shared → Prop} (X : K.In h) (k : XKl K D) (hx : h.get? a = some ox) (hc : ox.cls = .ref D) (hq : Q (.done (.ret (.ref D))) ⟨h, g, d, t, os⟩) :
    wpAny (model prog w) A (Builtin.«object.__getattribute__» ⟨[.ref a, .str "__class__" tk], []⟩) Q E ⟨h, g, d, t, os⟩ := by
  have hT5 : (⟨h, g, d, t, os⟩ : Shared).TypeIs (.builtin "object.__class__") "getset_descriptor" := F.typeOf_object_class
  have f5 := F.typeOf_object_class
  have f6 := F.slot_gs_get.lookup
  have f7 := F.slot_gs_set.lookup
  have Lc := PySem.W.looks_findIn (M := model prog w) X k.hc
  repeat (any_goals (first | assumption | (with_reducible refine wpAny_loadPart_at hx ?_; rw [hc]) | (with_reducible refine Lc.at ?_) | wp_step))
  refine xc_get X k hx hc ?_
  repeat (any_goals (first | assumption | wp_step))
theorem xc_check {M : Model} {nameV : Value} {Q : Unit → Shared → Prop} (X : K.In h) (k : XKl K D) (hx : h.get? a = some ox) (hc : ox.cls = .ref D) (hq : Q () ⟨h, g, d, t, os⟩) :
    wpAny M A (checkBuiltinCall "BaseException.__getattribute__" ⟨[.ref a, nameV], []⟩) Q E ⟨h, g, d, t, os⟩ := by
  have hk : builtinKind "BaseException.__getattribute__" = some .slot := by decide +kernel
  have hsplit : splitId "BaseException.__getattribute__" = some ("BaseException", "__getattribute__") := by decide +kernel
  have Sb := PySem.W.looks_mroIn (M := M) X k.mb
  have ha := F.args_bexc_ga (.ref a) nameV
  simp only [checkBuiltinCall, hk, hsplit]
  refine wpAny_bind ?_
  · unfold isInstance
    repeat (first | (with_reducible refine wpAny_loadPart_at hx ?_; rw [hc]) | (with_reducible refine Sb.at ?_) | wp_step)
    exact hq
theorem xc_call {tk : Tok} {R : Result → Shared → Prop} (X : K.In h) (k : XKl K D) (hx : h.get? a = some ox) (hc : ox.cls = .ref D) (hq : R (.ok (.ret (.ref D))) ⟨h, g, d, t, os⟩) :
    codeAny (model prog w) A (.call (.builtin "BaseException.__getattribute__") ⟨[.ref a, .str "__class__" tk], []⟩) R ⟨h, g, d, t, os⟩ :=
  codeAny_call_builtin F.attr_ValueError.ga.plain F.entry_bexc_ga (xc_check X k hx hc (xc_entry X k hx hc hq))
theorem xc_by {tk : Tok} {fill expr : Bool} {Q : Value → Shared → Prop} (X : K.In h) (k : XKl K D) (hx : h.get? a = some ox) (hc : ox.cls = .ref D) (hq : Q (.ref D) ⟨h, g, d, t, os⟩) :
    wpAny (model prog w) A (getAttrBy (.ref a) (.str "__class__" tk) fill expr) Q E ⟨h, g, d, t, os⟩ := by
  have f3 := F.attr_ValueError.ga.bind (.ref a)
  have hx0 : (expr && onTheHeap (Value.builtin "BaseException.__getattribute__")) = false := by cases expr <;> rfl
  have hx2 : (Value.builtin "BaseException.__getattribute__" == Value.builtin "object.__getattribute__") = false := by decide +kernel
  have hx1 : (onTheHeap (Value.ref D) && Value.builtin "BaseException.__getattribute__" == Value.builtin "object.__getattribute__") = false := by rw [hx2]; rfl
  have Lg := PySem.W.looks_findIn (M := model prog w) X k.ga
  have Ln := PySem.W.looks_findIn (M := model prog w) X k.na
  repeat (any_goals (first | assumption | (with_reducible refine wpAny_loadPart_at hx ?_; rw [hc]) | (with_reducible refine Lg.at ?_) | (with_reducible refine Ln.at ?_) | wp_step))
  refine xc_call X k hx hc ?_
  repeat (any_goals (first | assumption | wp_step))
theorem xc_attr {Q : Option Value → Shared → Prop} (X : K.In h) (k : XKl K D) (hx : h.get? a = some ox) (hc : ox.cls = .ref D) (hq : Q (some (.ref D)) ⟨h, g, d, t + 1, os⟩) :
    wpAny (model prog w) A (getAttr? (.ref a) "__class__") Q E ⟨h, g, d, t, os⟩ := by
  unfold getAttr? getAttrBy?
  repeat (any_goals (first | assumption | with_reducible apply xc_by X k hx hc | wp_step))
theorem kitx_exc (k : XKl K D) : PySem.W.KitX K (.ref a) (.ref D) (fun h => ∃ ox, h.get? a = some ox ∧ ox.cls = .ref D) where
  ty := fun _ _ _ ⟨ox, h1, h2⟩ => h2 ▸ (PySem.W.Looks.ld h1).andThen .now
  it := fun _ _ X _ => by
    obtain ⟨cdD, hcD⟩ := k.cl
    unfold PySem.W.clsIn at hcD
    split at hcD
    · rename_i c' d' cd' sl' ho
      intro A' Q' E' s' kk q
      unfold isType loadHead
      exact wpAny_bind (wpAny_loadPart (kk _ _ (X _ _ ho)) (wpAny_pure q))
    · cases hcD
  ne := fun h tp dd its n sl X htp => by
    obtain ⟨cdD, hcD⟩ := k.cl
    refine Bool.eq_false_iff.mpr fun q => ?_
    have e : D = tp := Value.ref.inj (beq_iff_eq.mp q)
    subst e
    unfold PySem.W.clsIn at hcD
    split at hcD
    · rename_i c' d' cd' sl' ho
      have z := (X _ _ ho).symm.trans htp
      cases z
    · cases hcD
  ca := fun {_ _ _ _ _ s} X ⟨ox, h1, h2⟩ kk => by obtain ⟨hh, g, d, tt, os⟩ := s; exact xc_attr X k h1 h2 kk
end
end L2

namespace L2
open PySem PySem.Spec PyProof.Rows
noncomputable def clsV : V → Option Value
  | .ref C => some (.ref C)
  | .ty n => some (.type n)
  | _ => none
section
variable {X : Cx}
noncomputable def rIsE (K : PySem.W.Frag) (a D : Addr) : List V → Hp → VK → Prop := fun xs H Q => ∃ y c b, xs = [.ref a, y] ∧ clsV y = some c ∧ PySem.W.kitOne K (.ref D) c = some b ∧ Q (.bl b) H
theorem call_isiE (K : PySem.W.Frag) {a D : Addr} {oe : Obj} (hp : (a, oe) ∈ X.pn) (hc : oe.cls = .ref D) (k : XKl K D) (hK : X.K = K := by rfl) : CallR X (.builtin "isinstance") (rIsE K a D) := by
  subst hK
  intro pins s σ H xs us Q I r h
  obtain ⟨y, c, b, rfl, hy, e, q⟩ := h
  obtain ⟨u, u', rfl, ru, ru'⟩ := vals2 r
  cases (show u = Value.ref a from ru)
  have hu : u' = c := by
    cases y with
    | ref C => cases hy; exact ru'
    | ty n => cases hy; exact ru'
    | _ => cases hy
  subst hu
  exact PySem.W.kia_one (kitx_exc k) I.kIn ⟨oe, (I.pin _ (List.mem_append_left _ hp)).1, hc⟩ e (fun z => nomatch z) fun tk => ⟨.bl b, H, I.tok tk, rfl, q⟩
structure Cal (X : Cx) (f : Addr) (sp : Sp) : Prop where
  ex : ∃ (k : Nat) (fd : FuncData) (ps : List Str), FnOk X.prog X.w X.K X.mg X.base (CXE X.prog X.w) k f fd ps sp ∧ Room k X.A ∧ PySem.W.keepIn X.K (.ref f) = true ∧ Binds X.K fd ps []
noncomputable def tCallV (X : Cx) (E : XK) (te : TE) (t : TA) : TE := fun σ H Q => te σ H fun x H1 => ∃ f sp, x = .ref f ∧ Cal X f sp ∧ t σ H1 fun vs H2 => sp vs H2 Q E
theorem arm_call_sub (v s : Expr) (p pos : Pos) (args : List Expr) (kws : List Keyword) (env : Env) : eval (.Call (.Subscript v s p) args kws pos) env = (do callWith pos (← eval (.Subscript v s p) env) [] (backTo pos (starEach args env)) (backToKw pos (keywordEach kws env))) := rfl
theorem pe_callV {E : XK} {v1 v2 e : Expr} {es : List Expr} {te : TE} {t : TA} {p pos : Pos} (hf : PE X (.Subscript v1 v2 p) te) (hp : Passes (CXE X.prog X.w) X E) (ha : PA X (e :: es) t)
    (he : starEach (e :: es) X.env = (false, eval e X.env) :: starEach es X.env := by rfl) (hpl : (backTo pos (starEach es X.env)).any (·.1) = false := by rfl) : PE X (.Call (.Subscript v1 v2 p) (e :: es) [] pos) (tCallV X E te t) := by
  intro pins s σ H Q I h
  rw [arm_call_sub]
  refine wpAny_bind (thn (hf pins s σ H _ I h) fun u s1 z => ?_)
  obtain ⟨x, H1, I1, r, f, sp, rfl, ⟨k, fd, ps, F, hr, hk, hb⟩, q⟩ := z
  cases (show u = Value.ref f from r)
  refine PySem.W.callWith_K (h₀ := X.base) I1.ok.mod.kin hk (thn (ha pos pins s1 σ H1 _ I1 q) fun us s2 ⟨vs, H2, I2, r2, q2⟩ => ⟨I2.kIn, ?_⟩) he hpl
  exact run_fn F hr hb .nil hp I2 r2 (by rw [List.append_nil]; exact q2)
end
theorem kb_canLayAll0 : ∀ ns : List Bool, PyData.canLayAll0 (ns.map PyData.bool) = true
  | [] => rfl
  | _ :: r => by simp [PyData.canLayAll0, PyData.canLay0, kb_canLayAll0 r]
theorem kb_depthAll : ∀ ns : List Bool, PyData.depthAll (ns.map PyData.bool) = 0
  | [] => rfl
  | _ :: r => by simp [PyData.depthAll, PyData.depth, kb_depthAll r]
theorem kb_shaped (ns : List Bool) : SeqAt.shaped (.list (ns.map PyData.bool)) = true := by
  simp [SeqAt.shaped, PyData.canLay0, PyData.depth, kb_canLayAll0, kb_depthAll]
theorem kb_sameAll : ∀ ns ms : List Bool, PySem.Spec.sameAll (ns.map PyData.bool) (ms.map PyData.bool) = decide (ns = ms)
  | [], [] => by simp [PySem.Spec.sameAll]
  | [], _ :: _ => by simp [PySem.Spec.sameAll]
  | _ :: _, [] => by simp [PySem.Spec.sameAll]
  | a :: r, b :: t => by
    simp only [List.map_cons, PySem.Spec.sameAll, PySem.Spec.same, kb_sameAll r t]
    cases a <;> cases b <;> by_cases h' : r = t <;> simp [h']
theorem kb_same (ns ms : List Bool) : PySem.Spec.same (.list (ns.map PyData.bool)) (.list (ms.map PyData.bool)) = decide (ns = ms) := by
  simp only [PySem.Spec.same]; exact kb_sameAll ns ms
theorem kb_carried : ∀ {vs : List Value} {bs : List Bool}, Vals (bs.map V.bl) vs → CarriedAll vs (bs.map PyData.bool)
  | [], [], _ => .nil
  | _ :: _, b :: bs, .cons r t => by
    cases (show _ = Value.bool b from r)
    exact .cons (.bool b) (kb_carried t)
theorem noMix_bools : ∀ ns ms : List Bool, SeqAt.noMixAll (ns.map PyData.bool) (ms.map PyData.bool) = true
  | [], [] => by simp [SeqAt.noMixAll]
  | [], _ :: _ => by simp [SeqAt.noMixAll]
  | _ :: _, [] => by simp [SeqAt.noMixAll]
  | _ :: r, _ :: t => by simp only [List.map_cons, SeqAt.noMixAll, SeqAt.noMix, noMix_bools r t]; rfl
theorem op_neB {X : Cx} (K : PySem.W.Frag) (hu : X.A.units + 64 < cLine) (hK : X.K = K := by rfl) : OpR X (compareOp .NotEq) (fun x y H Q => ∃ (a b : Addr) (ns ms : List Bool), x = .ref a ∧ y = .ref b ∧ SqL K H a (ns.map V.bl) ∧ SqL K H b (ms.map V.bl) ∧ Q (.bl (!decide (ns = ms))) H) := by
  subst hK
  intro pins s σ H x y v u Q I rx ry h
  obtain ⟨a, b, ns, ms, rfl, rfl, h1, h2, q⟩ := h
  cases rx
  cases ry
  obtain ⟨its, rv, p, _⟩ := I.list h1
  obtain ⟨its', rv', p', _⟩ := I.list h2
  refine ne_dataH_same (reads_newData p.isList (kb_carried rv)) (reads_newData p'.isList (kb_carried rv')) (kb_shaped _) (kb_shaped _) hu ?_ (by rw [kb_same]; exact ⟨.bl _, H, I, rfl, q⟩)
  rw [SeqAt.noMix]
  exact noMix_bools _ _
end L2

namespace L2
open PySem PySem.Spec PyProof.Rows
structure QE (X : Cx) (e : Expr) (t : TE) : Prop where
  pe : PE X e t
structure QA (X : Cx) (es : List Expr) (t : TA) : Prop where
  pa : PA X es t
noncomputable def isStar : Expr → Bool
  | .Starred _ _ => true
  | _ => false
theorem starEach_ns {e : Expr} {es : List Expr} {env : Env} (h : isStar e = false) : starEach (e :: es) env = (false, eval e env) :: starEach es env := by
  cases e <;> first | rfl | (cases h)
section
variable {X : Cx} {e : Expr} {es : List Expr} {te ta tb : TE} {t : TA} {pos : Pos}
theorem qa_nil : QA X [] tNil := ⟨pa_nil⟩
theorem qa_cons (ha : QE X e te) (hr : QA X es t) (h : isStar e = false := by rfl) : QA X (e :: es) (tCons te t) := ⟨pa_cons ha.pe hr.pa (starEach_ns h)⟩
theorem qe_lst (h : QA X es t) : QE X (.List es pos) (tLst t) := ⟨pe_lst h.pa⟩
theorem qe_tup {x1 : Nat} (h : QA X es t) : QE X (.Tuple es x1 pos) (tTup t) := ⟨pe_tup h.pa⟩
theorem qe_int {i : Int} {j : Nat} : QE X (.Constant (.int i) j pos) (tC (.int i)) := ⟨pe_int⟩
theorem qe_str {x : Str} {j : Nat} : QE X (.Constant (.str x) j pos) (tC (.str x)) := ⟨pe_str⟩
theorem qe_bl {b : Bool} {j : Nat} : QE X (.Constant (.bool b) j pos) (tC (.bl b)) := ⟨pe_bl⟩
theorem qe_non {j : Nat} : QE X (.Constant .none j pos) (tC .non) := ⟨pe_non⟩
end
structure QS (X : Cx) (st : Stmt) (t : TS) : Prop where
  ps : PS X st t
structure QSs (X : Cx) (st : List Stmt) (t : TS) : Prop where
  pss : PSs X st t
section
variable {X : Cx} {st : Stmt} {rest : List Stmt} {t u : TS} {es : List Expr} {sl e : Expr} {ta : TA} {ts te : TE} {p1 p2 p3 px : Pos}
theorem qss_cons (h1 : QS X st t) (h2 : QSs X rest u) : QSs X (st :: rest) (tSeq t u) := ⟨pss_cons h1.ps h2.pss⟩
theorem qs_if {c : Expr} {a b : List Stmt} {tc : TT} (hc : PT X c tc) (ha : QSs X a t) (hb : QSs X b u) : QS X (.If c a b p1) (tIfS tc t u) := ⟨ps_if hc ha.pss hb.pss⟩
theorem qss_of (h : PSs X rest u) : QSs X rest u := ⟨h⟩
theorem qs_pick (K : PySem.W.Frag) {i : Nat} {x : Str} (hN : X.N.Nodup) (hi : X.N[i]? = some x) (hx : Loc X.env.scope x) (hq : QA X es ta) (hs : QE X sl ts) (hp : PlainIx sl)
    (hf : X.fn x = true ∨ X.env.scope.names.lookup x = some .local := by first | exact .inl rfl | exact .inr rfl | assumption) (hK : X.K = K := by rfl) :
    QS X (.Assign [.Name x px] (.Subscript (.List es p1) sl p2) p3) (tAsg (tOp (rIxL K) (tLst ta) ts) (gName i)) := by
  subst hK
  exact ⟨ps_set hN hi hx (pe_ix ix_list (pe_lst hq.pa) hs.pe hp) (by rfl) hf⟩
end
section
variable {P : Program} {w : World} {K : PySem.W.Frag} {mg : Str → Option Value} {base : Heap}
theorem Fun.okQ {x qual : Str} {st : Stmt} {f : Addr} {fd : FuncData} {N ps : List Str} {k : Nat} {sp : Sp} (F : Fun K x qual st f fd) (S : FnScope N ps (defScope st)) (len : ∀ vs H Q E, sp vs H Q E → vs.length = ps.length)
    (hbody : ∀ (cdv : Value) (A : Around) (outer : List Env) (s : Shared) (H : Hp) (vs : List V) (Q : VK) (E : XK), Room k (A.deeper (envOfC qual (defScope st) s.heap.objs.size f cdv)) → sp vs H Q E →
      ∃ t, QSs (cxE P w K mg base N qual (defScope st) f cdv A outer s H E) (defBody st) t ∧ t { nx := fun _ H' => Q .non H', rt := Q } (start N vs) H) : FnOk P w K mg base (CXE P w) (k + 1) f fd ps sp := by
  refine F.okE S len fun cdv A outer s H vs Q E hr hsp => ?_
  obtain ⟨t, q, h⟩ := hbody cdv A outer s H vs Q E hr hsp
  exact ⟨t, q.pss, h⟩
end
end L2
namespace L2
open PySem PySem.Spec PyProof.Rows
theorem exm_yes {K : PySem.W.Frag} {C C' : Addr} {cd : ClassData} (h1 : PySem.W.clsIn K C' = some cd) (h2 : PySem.W.typeIn K (.ref C') = some (.type "type")) (h3 : PySem.W.mroIn K C (.ref C') = some true) (h4 : PySem.W.mroIn K C' (.type "BaseException") = some true) :
    PySem.W.exmOne K (.ref C) (.ref C') = some true := by
  unfold PySem.W.exmOne
  rw [if_pos (show (PySem.W.subIn K (.ref C') (.type "BaseException") == some true) = true from by show (PySem.W.mroIn K C' (.type "BaseException") == some true) = true; rw [h4]; rfl)]
  unfold PySem.W.kitCls
  dsimp only
  rw [h1, h2, if_pos (by rfl)]
  exact h3
theorem kit_ty {K : PySem.W.Frag} {C : Addr} (h : PySem.W.mroIn K C (.type "ValueError") = some true) : PySem.W.kitOne K (.ref C) (.type "ValueError") = some true := by
  unfold PySem.W.kitOne
  split
  · rfl
  · unfold PySem.W.kitCls
    dsimp only
    rw [if_pos (show PySem.W.kitMeta "ValueError" = true by decide +kernel)]
    exact h
end L2

namespace JM
open PySem L2
noncomputable def top (i : Nat) : Stmt := PySem.Challenge.pw_jamroad_k09_refused.main.body.getD i (.Pass ⟨0, 0, 0, 0⟩)
noncomputable abbrev s_is_whole : Stmt := top 8
noncomputable abbrev s_are_cars : Stmt := top 9
noncomputable abbrev s_is_car : Stmt := top 10
noncomputable abbrev s_has_one_in_front : Stmt := top 11
noncomputable abbrev s_is_count : Stmt := top 12
noncomputable abbrev s_is_ring : Stmt := top 13
noncomputable abbrev s_check_cars : Stmt := top 14
noncomputable abbrev s_check_car : Stmt := top 15
noncomputable abbrev s_check_has_one_in_front : Stmt := top 16
noncomputable abbrev s_check_steps : Stmt := top 17
noncomputable abbrev s_check_ring : Stmt := top 18
noncomputable abbrev s_stepped : Stmt := top 20
noncomputable abbrev s_after : Stmt := top 21
noncomputable abbrev s_delays : Stmt := top 22
noncomputable abbrev s_free_from : Stmt := top 23
noncomputable abbrev s_let_to : Stmt := top 25
noncomputable abbrev s_holders : Stmt := top 26
noncomputable abbrev s_held : Stmt := top 33
noncomputable abbrev s_touches : Stmt := top 34
noncomputable abbrev s_around : Stmt := top 36
noncomputable abbrev s_exchanged : Stmt := top 37
noncomputable abbrev s_around_after : Stmt := top 38
noncomputable abbrev s_flow : Stmt := top 39
noncomputable abbrev s_settled : Stmt := top 40
noncomputable abbrev s_is_crowded : Stmt := top 41
noncomputable abbrev s_two_laps : Stmt := top 42
noncomputable abbrev s_law_cars_asked : Stmt := top 44
noncomputable abbrev s_law_car_asked : Stmt := top 45
noncomputable abbrev s_law_others_asked : Stmt := top 46
noncomputable abbrev s_law_told : Stmt := top 47
noncomputable abbrev s_law : Stmt := top 48
end JM

namespace JM
open PySem L2 J
noncomputable def pass0S : Stmt := .Pass ⟨0, 0, 0, 0⟩
noncomputable def retE : Stmt → Expr
  | .Return (some e) _ => e
  | _ => .Constant .none 0 ⟨0, 0, 0, 0⟩
noncomputable def ifTest : Stmt → Expr
  | .If t _ _ _ => t
  | _ => .Constant .none 0 ⟨0, 0, 0, 0⟩
noncomputable def notArg : Expr → Expr
  | .UnaryOp _ e _ => e
  | e => e
noncomputable def arg0 : Expr → Expr
  | .Call _ (a :: _) _ _ => a
  | e => e
noncomputable def boolArg (i : Nat) : Expr → Expr
  | .BoolOp _ es _ => es.getD i (.Constant .none 0 ⟨0, 0, 0, 0⟩)
  | e => e
noncomputable def lcS : Expr → Scope
  | .ListComp _ _ sc _ => sc
  | _ => { kind := .function, names := [], isGenerator := false, isCoroutine := false }
structure Own (mg : Str → Option Value) : Prop where
  isi : mg "isinstance" = none
  int : mg "int" = none
  bool : mg "bool" = none
  list : mg "list" = none
  all : mg "all" = none
  zip : mg "zip" = none
  enum : mg "enumerate" = none
  range : mg "range" = none
  len : mg "len" = none
  sum : mg "sum" = none
  str : mg "str" = none
  max : mg "max" = none
  min : mg "min" = none
  any : mg "any" = none
  sorted : mg "sorted" = none
  rev : mg "reversed" = none
noncomputable abbrev nats (bs : List Nat) : List V := bs.map fun (b : Nat) => V.int (b : Int)
theorem nats_get {bs : List Nat} {i b : Nat} (h : bs[i]? = some b) : (nats bs)[i]? = some (.int (b : Int)) := by simp [nats, h]
theorem seq_cut {t u : TS} {D : Ends} {σ : St} {H : Hp} (Xt : St → Hp → Prop) (h2 : ∀ σ H, Xt σ H → u D σ H) (h1 : ∀ D' : Ends, (∀ σ H, Xt σ H → D'.nx σ H) → t D' σ H) : tSeq t u D σ H := h1 _ h2
theorem cut1 (xs : List V) : cutV xs (some 1) none = xs.drop 1 := by
  unfold cutV
  have e : HT.sIx xs.length 0 (some 1) = min 1 xs.length := HT.sIx_nat xs.length 0 1
  rw [e, HT.sIx_none]
  by_cases h : xs.length = 0
  · have : xs = [] := List.length_eq_zero_iff.mp h
    subst this; rfl
  · have e2 : min 1 xs.length = 1 := by (first | lia | omega)
    rw [e2, List.take_of_length_le (by rw [List.length_drop]; (first | lia | omega))]

theorem iteFN {A B : Prop} (h : B) : if (!true) = true then A else B := iteF h
noncomputable def isW : V → Bool
  | .int _ => true
  | _ => false
noncomputable def isI : V → Bool
  | .int _ => true
  | .bl _ => true
  | _ => false
noncomputable def isB : V → Bool
  | .bl _ => true
  | _ => false
noncomputable def isS : V → Bool
  | .str _ => true
  | _ => false
noncomputable def isL (H : Hp) : V → Bool
  | .ref a => match H a with
    | some (.lst _) => true
    | _ => false
  | _ => false
noncomputable def intOf : V → Int
  | .int i => i
  | _ => 0
noncomputable def Kd (H : Hp) : V → Prop
  | .non => True
  | .bl _ => True
  | .int _ => True
  | .str _ => True
  | .ref a => (∃ xs, H a = some (.lst xs)) ∨ ∃ xs, H a = some (.tup xs)
  | _ => False
noncomputable def tyN (H : Hp) : V → String
  | .non => "NoneType"
  | .bl _ => "bool"
  | .int _ => "int"
  | .str _ => "str"
  | .ref a => match H a with
    | some (.lst _) => "list"
    | _ => "tuple"
  | _ => ""
theorem Kd.same {H H' : Hp} {x : V} (h : Kd H x) (s : Same H H') : Kd H' x := by
  cases x with
  | ref a =>
    rcases h with ⟨xs, h⟩ | ⟨xs, h⟩
    · exact .inl ⟨xs, s.at h⟩
    · exact .inr ⟨xs, s.at h⟩
  | _ => exact h
theorem Kd.ty {K : PySem.W.Frag} {H : Hp} {x : V} (h : Kd H x) : TyOf K H x (.type (tyN H x)) := by
  cases x with
  | non => exact .non
  | bl b => exact .bl b
  | int i => exact .int i
  | str z => exact .str z
  | ref a =>
    rcases h with ⟨xs, h⟩ | ⟨xs, h⟩
    · have e : tyN H (.ref a) = "list" := by simp [tyN, h]
      rw [e]; exact .lst h
    · have e : tyN H (.ref a) = "tuple" := by simp [tyN, h]
      rw [e]; exact .tup h
  | _ => exact h.elim
theorem kN_i : kitTT "NoneType" "int" = some false := by decide +kernel
theorem kB_i : kitTT "bool" "int" = some true := by decide +kernel
theorem kI_i : kitTT "int" "int" = some true := by decide +kernel
theorem kS_i : kitTT "str" "int" = some false := by decide +kernel
theorem kL_i : kitTT "list" "int" = some false := by decide +kernel
theorem kT_i : kitTT "tuple" "int" = some false := by decide +kernel
theorem kB_b : kitTT "bool" "bool" = some true := by decide +kernel
theorem kI_b : kitTT "int" "bool" = some false := by decide +kernel
theorem kS_b : kitTT "str" "bool" = some false := by decide +kernel
theorem kN_b : kitTT "NoneType" "bool" = some false := by decide +kernel
theorem kL_b : kitTT "list" "bool" = some false := by decide +kernel
theorem kT_b : kitTT "tuple" "bool" = some false := by decide +kernel
theorem kN_l : kitTT "NoneType" "list" = some false := by decide +kernel
theorem kB_l : kitTT "bool" "list" = some false := by decide +kernel
theorem kI_l : kitTT "int" "list" = some false := by decide +kernel
theorem kS_l : kitTT "str" "list" = some false := by decide +kernel
theorem kL_l : kitTT "list" "list" = some true := by decide +kernel
theorem kT_l : kitTT "tuple" "list" = some false := by decide +kernel
theorem kN_s : kitTT "NoneType" "str" = some false := by decide +kernel
theorem kB_s : kitTT "bool" "str" = some false := by decide +kernel
theorem kI_s : kitTT "int" "str" = some false := by decide +kernel
theorem kS_s : kitTT "str" "str" = some true := by decide +kernel
theorem kL_s : kitTT "list" "str" = some false := by decide +kernel
theorem kT_s : kitTT "tuple" "str" = some false := by decide +kernel
theorem tyN_l {H : Hp} {a : Addr} {xs : List V} (h : H a = some (.lst xs)) : tyN H (.ref a) = "list" := by simp [tyN, h]
theorem tyN_t {H : Hp} {a : Addr} {xs : List V} (h : H a = some (.tup xs)) : tyN H (.ref a) = "tuple" := by simp [tyN, h]
theorem Kd.int {K : PySem.W.Frag} {H : Hp} {x : V} (h : Kd H x) : PySem.W.kitOne K (.type (tyN H x)) (.type "int") = some (isI x) := by
  rw [kit_tt]
  cases x with
  | non => exact kN_i
  | bl b => exact kB_i
  | int i => exact kI_i
  | str z => exact kS_i
  | ref a =>
    rcases h with ⟨xs, h⟩ | ⟨xs, h⟩
    · rw [tyN_l h]; exact kL_i
    · rw [tyN_t h]; exact kT_i
  | _ => exact h.elim
theorem Kd.bool {K : PySem.W.Frag} {H : Hp} {x : V} (h : Kd H x) : PySem.W.kitOne K (.type (tyN H x)) (.type "bool") = some (isB x) := by
  rw [kit_tt]
  cases x with
  | non => exact kN_b
  | bl b => exact kB_b
  | int i => exact kI_b
  | str z => exact kS_b
  | ref a =>
    rcases h with ⟨xs, h⟩ | ⟨xs, h⟩
    · rw [tyN_l h]; exact kL_b
    · rw [tyN_t h]; exact kT_b
  | _ => exact h.elim
theorem Kd.str {K : PySem.W.Frag} {H : Hp} {x : V} (h : Kd H x) : PySem.W.kitOne K (.type (tyN H x)) (.type "str") = some (isS x) := by
  rw [kit_tt]
  cases x with
  | non => exact kN_s
  | bl b => exact kB_s
  | int i => exact kI_s
  | str z => exact kS_s
  | ref a =>
    rcases h with ⟨xs, h⟩ | ⟨xs, h⟩
    · rw [tyN_l h]; exact kL_s
    · rw [tyN_t h]; exact kT_s
  | _ => exact h.elim
theorem Kd.list {K : PySem.W.Frag} {H : Hp} {x : V} (h : Kd H x) : PySem.W.kitOne K (.type (tyN H x)) (.type "list") = some (isL H x) := by
  rw [kit_tt]
  cases x with
  | non => exact kN_l
  | bl b => exact kB_l
  | int i => exact kI_l
  | str z => exact kS_l
  | ref a =>
    rcases h with ⟨xs, h⟩ | ⟨xs, h⟩
    · rw [tyN_l h]
      have e : isL H (.ref a) = true := by simp [isL, h]
      rw [e]; exact kL_l
    · rw [tyN_t h]
      have e : isL H (.ref a) = false := by simp [isL, h]
      rw [e]; exact kT_l
  | _ => exact h.elim
theorem isL_true {H : Hp} {x : V} (h : isL H x = true) : ∃ a xs, x = .ref a ∧ H a = some (.lst xs) := by
  cases x with
  | ref a =>
    unfold isL at h
    cases e : H a with
    | none => simp [e] at h
    | some o =>
      cases o with
      | lst xs => exact ⟨a, xs, rfl, e⟩
      | _ => simp [e] at h
  | _ => simp [isL] at h
noncomputable def riseL (ns : List Int) (m : Nat) : List Bool := (List.range m).map fun i => decide (J.g ns i < J.g ns (i + 1))
noncomputable def riseB (ns : List Int) : Bool := (riseL ns (ns.length - 1)).all id
theorem riseL_len (ns : List Int) (m : Nat) : (riseL ns m).length = m := by simp [riseL]
theorem riseL_succ (ns : List Int) (m : Nat) : riseL ns (m + 1) = riseL ns m ++ [decide (J.g ns m < J.g ns (m + 1))] := by simp [riseL, List.range_succ]
theorem riseB_iff (ns : List Int) : riseB ns = true ↔ Rising ns := by
  unfold riseB riseL Rising
  simp only [List.all_eq_true, List.mem_map, List.mem_range, id]
  constructor
  · intro h i hi
    exact of_decide_eq_true (h _ ⟨i, by omega, rfl⟩)
  · rintro h b ⟨i, hi, rfl⟩
    exact decide_eq_true (h i (by omega))
theorem ivs_of : ∀ {xs : List V}, xs.all isW = true → xs = ivs (xs.map intOf)
  | [], _ => rfl
  | x :: r, h => by
    rw [List.all_cons, Bool.and_eq_true] at h
    have ih := ivs_of h.2
    show x :: r = V.int (intOf x) :: ivs (r.map intOf)
    rw [← ih]
    cases x with
    | int i => rfl
    | _ => simp [isW] at h
theorem all_isW (ns : List Int) : (ivs ns).all isW = true := by
  induction ns with
  | nil => rfl
  | cons n r ih => show (isW (.int n) && (ivs r).all isW) = true; rw [ih]; rfl
theorem map_intOf (ns : List Int) : (ivs ns).map intOf = ns := by
  induction ns with
  | nil => rfl
  | cons n r ih => show intOf (.int n) :: (ivs r).map intOf = _; rw [ih]; rfl
noncomputable def okCars (H : Hp) : V → Bool
  | .ref a => match H a with
    | some (.lst xs) => xs.all isW && riseB (xs.map intOf)
    | _ => false
  | _ => false
theorem okCars_l {H : Hp} {a : Addr} {xs : List V} (h : H a = some (.lst xs)) : okCars H (.ref a) = (xs.all isW && riseB (xs.map intOf)) := by simp [okCars, h]
theorem okCars_no {H : Hp} {x : V} (h : isL H x = false) : okCars H x = false := by
  cases x with
  | ref a =>
    cases e : H a with
    | none => simp [okCars, e]
    | some o =>
      cases o with
      | lst xs => simp [isL, e] at h
      | _ => simp [okCars, e]
  | _ => rfl
theorem okCars_good {H : Hp} {a : Addr} {ns : List Int} (h : H a = some (.lst (ivs ns))) (r : Rising ns) : okCars H (.ref a) = true := by
  rw [okCars_l h, all_isW, map_intOf, (riseB_iff ns).mpr r]; rfl
noncomputable def isCar (n : Nat) : V → Bool
  | .int i => decide (0 ≤ i) && decide (i < n)
  | _ => false
noncomputable def isFront (n : Nat) : V → Bool
  | .int i => decide (0 ≤ i) && decide (i + 1 < n)
  | _ => false
theorem isCar_i (n : Nat) (i : Int) : isCar n (.int i) = (decide (0 ≤ i) && decide (i < n)) := rfl
theorem isFront_i (n : Nat) (i : Int) : isFront n (.int i) = (decide (0 ≤ i) && decide (i + 1 < n)) := rfl
noncomputable def isCnt : V → Bool
  | .int i => decide (0 ≤ i)
  | _ => false
theorem snoc_g {ys : List Int} {v : Int} {i j : Nat} (ly : ys.length = i) (hj : j < i + 1) : J.g (ys ++ [v]) j = if j < i then J.g ys j else v := by
  by_cases h : j < i
  · rw [if_pos h]; simp [J.g, List.getD, List.getElem?_append_left (show j < ys.length by (first | lia | omega))]
  · have e : j = ys.length := by (first | lia | omega)
    rw [if_neg h]; subst e; simp [J.g, List.getD]
section
variable {P : Program} {w : World} {K : PySem.W.Frag} {mg : Str → Option Value} {base : Heap}
theorem pe_ty {X : Cx} {x : Str} {T : String} {pos : Pos} (hg : Gl X x) (hm : X.mg x = none) (hv : bootBuiltins x = some (.type T)) (hn : x ≠ "__name__" := by decide) (hd : (x == ("__debug__" : Str)) = false := by decide) : PE X (.Name x pos) (tC (.ty T)) :=
  pe_bltn (v := .ty T) hg hm hv rfl hn hd
end
end JM

namespace JM
open PySem L2 J
section
variable {P : Program} {w : World} {K : PySem.W.Frag} {mg : Str → Option Value} {base : Heap}
noncomputable def spWhole : Sp := fun vs H Q _ => ∃ x, vs = [x] ∧ Kd H x ∧ Q (.bl (isW x)) H
theorem sc_is_whole : FnScope ["value"] ["value"] (defScope s_is_whole) := ⟨rfl, rfl, rfl, by decide +kernel, rfl, by decide +kernel, by decide +kernel⟩
theorem ok_is_whole {f : Addr} {fd : FuncData} (F : Fun K "is_whole" "is_whole" s_is_whole f fd) (O : Own mg) : FnOk P w K mg base CX0 1 f fd ["value"] spWhole := by
  refine F.ok sc_is_whole (fun vs H Q E h => ?_) (fun cdv A outer s H vs Q E hr h => ?_)
  · obtain ⟨x, rfl, _⟩ := h
    rfl
  · obtain ⟨x, rfl, hk, k⟩ := h
    refine ⟨_, pss_one (ps_ret (pe_and (pe_callB call_isi (by rfl) O.isi PyProof.Rows.boot_isinstance (pa_cons (pv 0) (pa_cons (pe_ty (by rfl) O.int boot_int) pa_nil)))
      (pe_one (pe_not (pe_callB call_isi (by rfl) O.isi PyProof.Rows.boot_isinstance (pa_cons (pv 0) (pa_cons (pe_ty (by rfl) O.bool boot_bool) pa_nil))))))), ?_⟩
    refine ⟨_, rfl, _, "int", _, _, rfl, hk.ty, hk.int, isI x, rfl, ?_⟩
    have e : isW x = (isI x && !isB x) := by cases x <;> rfl
    rw [e] at k
    cases hi : isI x with
    | false =>
      rw [hi] at k
      exact iteF k
    | true =>
      rw [hi] at k
      refine iteT ?_
      exact ⟨_, rfl, _, "bool", _, _, rfl, hk.ty, hk.bool, isB x, rfl, k⟩
noncomputable def spAre : Sp := fun vs H Q _ => ∃ x, vs = [x] ∧ Kd H x ∧ (∀ a xs, x = .ref a → H a = some (.lst xs) → xs.length ≤ 900 ∧ ∀ y ∈ xs, Kd H y) ∧ ∀ H', Same H H' → Q (.bl (okCars H x)) H'
theorem sc_are_cars : FnScope ["cars"] ["cars"] (defScope s_are_cars) := ⟨rfl, rfl, rfl, by decide +kernel, rfl, by decide +kernel, by decide +kernel⟩
theorem sc_cc1 : CompSc (defScope s_are_cars) ["cars"] (lcS (arg0 (notArg (boolArg 1 (ifTest ((defBody s_are_cars).getD 0 pass0S)))))) ["place"] [none] := ⟨rfl, by decide +kernel, by decide +kernel, by decide +kernel, rfl, by decide +kernel⟩
theorem sc_cc2 : CompSc (defScope s_are_cars) ["cars"] (lcS (arg0 (retE ((defBody s_are_cars).getD 1 pass0S)))) ["behind", "ahead"] [none, none] := ⟨rfl, by decide +kernel, by decide +kernel, by decide +kernel, rfl, by decide +kernel⟩
theorem nd_place : (["place"] : List Str).Nodup := by decide +kernel
theorem nd_ba : (["behind", "ahead"] : List Str).Nodup := by decide +kernel
theorem take_succ_map {α β : Type} (f : α → β) {xs : List α} {i : Nat} {x : α} (h : xs[i]? = some x) : (xs.take (i + 1)).map f = (xs.take i).map f ++ [f x] := by
  rw [List.take_succ, h, List.map_append]; rfl
theorem ok_are_cars {f : Addr} {fd : FuncData} (F : Fun K "are_cars" "are_cars" s_are_cars f fd) (O : Own mg) (DW : Def P w K mg base "is_whole" 1 ["value"] spWhole) : FnOk P w K mg base CX0 2 f fd ["cars"] spAre := by
  refine F.ok sc_are_cars (fun vs H Q E h => ?_) (fun cdv A outer s H vs Q E hr h => ?_)
  · obtain ⟨x, rfl, _⟩ := h
    rfl
  · obtain ⟨x, rfl, hk, hx, k⟩ := h
    refine ⟨_, pss_cons (ps_if (PW.pt (pw_or (pt_not (pt_val (pe_callB call_isi (by rfl) O.isi PyProof.Rows.boot_isinstance (pa_cons (pv 0) (pa_cons (pe_ty (by rfl) O.list boot_listT) pa_nil)))))
        (pw_or1 (pt_not (pt_val (pe_callB (call_all rfl) (by rfl) O.all PyProof.Rows.boot_all (pa_cons (pe_comp rfl sc_cc1 (pi_list (pv 0)) (fun _ _ _ _ _ => pg_name (i := 0) nd_place rfl (Or.inl rfl)) (fun _ _ _ _ _ => pe_def DW hr (pa_cons (pv 0) pa_nil))) pa_nil))))))) (pss_one (ps_ret pe_bl)) pss_nil)
      (pss_one (ps_ret (pe_callB (call_all rfl) (by rfl) O.all PyProof.Rows.boot_all (pa_cons (pe_comp rfl sc_cc2 (pi_zip (by rfl) O.zip (pa_cons (pv 0) (pa_cons (pe_slice sl_list (pv 0) (po_some pe_int) po_none) pa_nil)))
        (fun _ _ _ _ _ => pg_pair K (i := 0) (j := 1) rfl nd_ba rfl rfl rfl rfl) (fun _ _ _ _ _ => pe_cmpR op_lt (pv 0) (pv 1) (nomark _))) pa_nil)))), ?_⟩
    refine ⟨_, rfl, _, "list", _, _, rfl, hk.ty, hk.list, isL H x, rfl, ?_⟩
    cases hi : isL H x with
    | false =>
      refine iteT ?_
      have := k H (Same.refl H)
      rw [okCars_no hi] at this
      exact this
    | true =>
      refine iteF ?_
      obtain ⟨a, xs, rfl, ha⟩ := isL_true hi
      obtain ⟨hl, hy⟩ := hx a xs rfl ha
      rw [okCars_l ha] at k
      refine ⟨_, rfl, a, rfl, ⟨_, SqL.of ha⟩, fun D hD => comp_by (n := xs.length) (fun i σ' H' => (∃ o, σ' = [o]) ∧ Same H H' ∧ H' D = some (.lst (((xs.take i).map isW).map V.bl))) ⟨⟨_, rfl⟩, Same.new H hD, upd_same⟩ ?_ ?_ ?_ ?_⟩
      · rintro i σ' H' hi ⟨_, sm, _⟩
        exact ⟨_, _, SqL.of (sm.at ha), List.getElem?_eq_getElem hi⟩
      · rintro σ' H' ⟨_, sm, _⟩
        exact ⟨_, SqL.of (sm.at ha), Nat.le_refl _⟩
      · rintro i x σ' H1 H2 hi ⟨⟨o, rfl⟩, sm, hD'⟩ ⟨rfl, y⟩
        have ex := y _ (SqL.of (sm.at ha))
        have kx : Kd H x := hy x (List.mem_of_getElem? ex)
        refine ⟨_, rfl, _, rfl, kx.same sm, _, hD', by simp only [List.length_map, List.length_take]; exact small63 (by omega), ⟨_, rfl⟩, sm.upd hD, ?_⟩
        rw [upd_same, take_succ_map isW ex, List.map_append]
        rfl
      · rintro σ' H1 ⟨_, sm, hD'⟩
        rw [List.take_length] at hD'
        refine ⟨D, _, rfl, SqL.of hD', _, rfl, ?_⟩
        have eall : (xs.map isW).all id = xs.all isW := by simp [List.all_map]
        rw [eall]
        cases hw : xs.all isW with
        | false =>
          refine iteT ?_
          rw [hw] at k
          exact k H1 sm
        | true =>
          refine iteF ?_
          rw [hw] at k
          -- that rise
          have exs := ivs_of hw
          generalize xs.map intOf = ns at exs k
          subst exs
          have hl' : ns.length ≤ 900 := by simpa [ivs] using hl
          have ha1 := sm.at ha
          refine ⟨_, rfl, _, rfl, 1, rfl, a, _, rfl, SqL.of ha1, fun p hp => ?_⟩
          have hc : cutV (ivs ns) (some 1) none = ivs (ns.drop 1) := by rw [cut1]; simp [ivs]
          rw [hc]
          have ha2 : upd H1 p (.lst (ivs (ns.drop 1))) a = some (.lst (ivs ns)) := by rw [upd_ne (ne_of_none ha1 hp)]; exact ha1
          refine ⟨a, p, _, _, rfl, SqL.of ha2, SqL.of upd_same, fun D2 hD2 => comp_by (n := ns.length - 1) (fun i σ' H' => (∃ o o', σ' = [o, o']) ∧ Same (upd H1 p (.lst (ivs (ns.drop 1)))) H' ∧ H' D2 = some (.lst ((riseL ns i).map V.bl))) ⟨⟨_, _, rfl⟩, Same.new _ hD2, upd_same⟩ ?_ ?_ ?_ ?_⟩
          · rintro i σ2 H2 hi ⟨_, sm2, _⟩
            exact ⟨_, _, _, _, SqL.of (sm2.at ha2), SqL.of (sm2.at upd_same), ivs_get (by omega), ivs_get (by rw [List.length_drop]; omega)⟩
          · rintro σ2 H2 ⟨_, sm2, _⟩
            exact ⟨_, _, SqL.of (sm2.at ha2), SqL.of (sm2.at upd_same), .inr (by simp)⟩
          · rintro i x σ2 H2 H3 hi ⟨⟨o, o', rfl⟩, sm2, hD3⟩ ⟨q, x1, x2, rfl, hq, rfl, y1, y2⟩
            have e1 := y1 _ (SqL.of (sm2.at ha2))
            have e2 := y2 _ (SqL.of (sm2.at upd_same))
            rw [ivs_get (show i < ns.length by omega)] at e1
            rw [ivs_get (show i < (ns.drop 1).length by rw [List.length_drop]; omega)] at e2
            cases e1
            cases e2
            have e3 : J.g (ns.drop 1) i = J.g ns (i + 1) := by simp [J.g, List.getD, Nat.add_comm]
            have nq : D2 ≠ q := ne_of_none hD3 hq
            refine ⟨q, _, rfl, SqT.of upd_same, rfl, _, _, rfl, _, _, rfl, rfl, _, rfl, _, rfl, _, _, rfl, rfl, _, (by rw [upd_ne nq]; exact hD3), by rw [List.length_map, riseL_len]; exact small63 (by omega), ⟨_, _, rfl⟩, (sm2.trans (Same.new H2 hq)).upd hD2, ?_⟩
            rw [upd_same, e3, riseL_succ, List.map_append]
            rfl
          · rintro σ2 H2 ⟨_, sm2, hD3⟩
            refine ⟨D2, _, rfl, SqL.of hD3, ?_⟩
            exact k H2 ((sm.trans (Same.new H1 hp)).trans sm2)
noncomputable def spCount : Sp := fun vs H Q _ => ∃ x, vs = [x] ∧ Kd H x ∧ Q (.bl (isCnt x)) H
theorem sc_is_count : FnScope ["steps"] ["steps"] (defScope s_is_count) := ⟨rfl, rfl, rfl, by decide +kernel, rfl, by decide +kernel, by decide +kernel⟩
theorem ok_is_count {f : Addr} {fd : FuncData} (F : Fun K "is_count" "is_count" s_is_count f fd) (DW : Def P w K mg base "is_whole" 1 ["value"] spWhole) : FnOk P w K mg base CX0 2 f fd ["steps"] spCount := by
  refine F.ok sc_is_count (fun vs H Q E h => ?_) (fun cdv A outer s H vs Q E hr h => ?_)
  · obtain ⟨x, rfl, _⟩ := h
    rfl
  · obtain ⟨x, rfl, hk, k⟩ := h
    refine ⟨_, pss_one (ps_ret (pe_and (pe_def DW hr (pa_cons (pv 0) pa_nil)) (pe_one (pe_cmpR op_ge (pv 0) pe_int (nomark _))))), ?_⟩
    refine ⟨_, rfl, x, rfl, hk, _, rfl, ?_⟩
    cases x with
    | int i => exact iteT ⟨_, rfl, _, _, rfl, rfl, k⟩
    | _ => exact iteF k
noncomputable def spCars : Sp := fun vs H Q _ => ∃ (a : Addr) (ns : List Int), vs = [.ref a] ∧ H a = some (.lst (ivs ns)) ∧ Rising ns ∧ ns.length ≤ 900 ∧ ∀ H', Same H H' → Q .non H'
theorem sc_check_cars : FnScope ["cars"] ["cars"] (defScope s_check_cars) := ⟨rfl, rfl, rfl, by decide +kernel, rfl, by decide +kernel, by decide +kernel⟩
theorem kd_ints {H : Hp} {a : Addr} {ns : List Int} (h : H a = some (.lst (ivs ns))) (hl : ns.length ≤ 900) : ∀ a' xs, V.ref a = .ref a' → H a' = some (.lst xs) → xs.length ≤ 900 ∧ ∀ y ∈ xs, Kd H y := by
  intro a' xs e e'
  cases e
  rw [h] at e'
  cases e'
  refine ⟨by simpa [ivs] using hl, fun y hy => ?_⟩
  obtain ⟨n, _, rfl⟩ := List.mem_map.mp hy
  exact True.intro
theorem ok_check_cars {f : Addr} {fd : FuncData} (F : Fun K "check_cars" "check_cars" s_check_cars f fd) (DA : Def P w K mg base "are_cars" 2 ["cars"] spAre) : FnOk P w K mg base CX0 3 f fd ["cars"] spCars := by
  refine F.ok sc_check_cars (fun vs H Q E h => ?_) (fun cdv A outer s H vs Q E hr h => ?_)
  · obtain ⟨a, ns, rfl, _⟩ := h
    rfl
  · obtain ⟨a, ns, rfl, ha, ri, hl, k⟩ := h
    refine ⟨_, pss_one (ps_if (pt_not (pt_val (pe_def DA hr (pa_cons (pv 0) pa_nil)))) pss_never pss_nil), ?_⟩
    refine ⟨_, rfl, .ref a, rfl, .inl ⟨_, ha⟩, kd_ints ha hl, fun H1 s1 => ⟨_, rfl, ?_⟩⟩
    rw [okCars_good ha ri]
    exact iteF (k H1 s1)
noncomputable def spSteps : Sp := fun vs H Q _ => ∃ n, vs = [.int n] ∧ 0 ≤ n ∧ Q .non H
theorem sc_check_steps : FnScope ["steps"] ["steps"] (defScope s_check_steps) := ⟨rfl, rfl, rfl, by decide +kernel, rfl, by decide +kernel, by decide +kernel⟩
theorem ok_check_steps {f : Addr} {fd : FuncData} (F : Fun K "check_steps" "check_steps" s_check_steps f fd) (DC : Def P w K mg base "is_count" 2 ["steps"] spCount) : FnOk P w K mg base CX0 3 f fd ["steps"] spSteps := by
  refine F.ok sc_check_steps (fun vs H Q E h => ?_) (fun cdv A outer s H vs Q E hr h => ?_)
  · obtain ⟨n, rfl, _⟩ := h
    rfl
  · obtain ⟨n, rfl, hn, k⟩ := h
    refine ⟨_, pss_one (ps_if (pt_not (pt_val (pe_def DC hr (pa_cons (pv 0) pa_nil)))) pss_never pss_nil), ?_⟩
    refine ⟨_, rfl, .int n, rfl, True.intro, _, rfl, ?_⟩
    have e : isCnt (.int n) = true := decide_eq_true hn
    rw [e]
    exact iteF k
noncomputable def spLet : Sp := fun vs H Q _ => ∃ (a : Addr) (ns : List Int) (i b : Nat) (n : Int), vs = [.ref a, .int i, .int b, .int n] ∧ H a = some (.lst (ivs ns)) ∧ b < ns.length ∧ Q (.int (J.g ns b + n - 2 * ((b : Int) - i))) H
theorem sc_let_to : FnScope ["cars", "car", "by", "steps"] ["cars", "car", "by", "steps"] (defScope s_let_to) := ⟨rfl, rfl, rfl, by decide +kernel, rfl, by decide +kernel, by decide +kernel⟩
theorem ok_let_to {f : Addr} {fd : FuncData} (F : Fun K "let_to" "let_to" s_let_to f fd) : FnOk P w K mg base CX0 1 f fd ["cars", "car", "by", "steps"] spLet := by
  refine F.ok sc_let_to (fun vs H Q E h => ?_) (fun cdv A outer s H vs Q E hr h => ?_)
  · obtain ⟨a, ns, i, b, n, rfl, _⟩ := h
    rfl
  · obtain ⟨a, ns, i, b, n, rfl, ha, hb, k⟩ := h
    refine ⟨_, pss_one (ps_ret (pe_op op_sub (pe_op op_add (pe_ix ix_list (pv 0) (pv 2) (fun _ _ => rfl)) (pv 3)) (pe_op op_mul pe_int (pe_op op_sub (pv 2) (pv 1))))), ?_⟩
    refine ⟨_, rfl, _, rfl, a, _, _, _, rfl, rfl, SqL.of ha, atI_nat (ivs_get hb), _, rfl, _, _, rfl, rfl, _, rfl, _, rfl, _, _, rfl, rfl, _, _, rfl, rfl, .inl ⟨by decide, by decide⟩, _, _, rfl, rfl, k⟩
end
end JM

namespace JM
open PySem L2 J
section
variable {P : Program} {w : World} {K : PySem.W.Frag} {mg : Str → Option Value} {base : Heap}
noncomputable def spHold : Sp := fun vs H Q _ => ∃ (a : Addr) (ns : List Int) (n : Int), vs = [.ref a, .int n] ∧ H a = some (.lst (ivs ns)) ∧ 0 ≤ n ∧ ns.length ≤ 900 ∧
  ∀ (p : Addr) (bs : List Nat) (H' : Hp), Same H H' → H p = none → H' p = some (.lst (nats bs)) → bs.length = ns.length → (∀ i b, bs[i]? = some b → Hold ns n.toNat i b) → Q (.ref p) H'
noncomputable abbrev nHold : List Str := ["cars", "steps", "found", "line", "first", "car"]
theorem sc_holders : FnScope nHold ["cars", "steps"] (defScope s_holders) := ⟨rfl, rfl, rfl, by decide +kernel, rfl, by decide +kernel, by decide +kernel⟩
theorem ok_holders {f : Addr} {fd : FuncData} (F : Fun K "holders" "holders" s_holders f fd) (O : Own mg) (DL : Def P w K mg base "let_to" 1 ["cars", "car", "by", "steps"] spLet) : FnOk P w K mg base CX0 2 f fd ["cars", "steps"] spHold := by
  refine F.ok sc_holders (fun vs H Q E h => ?_) (fun cdv A outer s H vs Q E hr h => ?_)
  · obtain ⟨a, ns, n, rfl, _⟩ := h
    rfl
  · obtain ⟨a, ns, n, rfl, ha, hn, hl, k⟩ := h
    have nd := sc_holders.nd
    refine ⟨_, pss_cons (ps_set (i := 2) nd rfl (Or.inl rfl) (pe_lst pa_nil))
      (pss_cons (ps_set (i := 3) nd rfl (Or.inl rfl) (pe_lst pa_nil))
      (pss_cons (ps_set (i := 4) nd rfl (Or.inl rfl) pe_int)
      (pss_cons (ps_for PassesOwn.never rfl (pi_rangeD (by rfl) O.range (pa_cons (pe_op op_sub (pe_callB call_len_seq (by rfl) O.len PySem.boot_len (pa_cons (pv 0) pa_nil)) pe_int) (pa_cons (pe_un un_neg pe_int) (pa_cons (pe_un un_neg pe_int) pa_nil)))) (pg_name (i := 5) nd rfl (Or.inl rfl))
        (pss_cons (ps_while PassesOwn.never (PW.pt (pw_and (pt_cmpR op_gt (pe_callB call_len_seq (by rfl) O.len PySem.boot_len (pa_cons (pv 3) pa_nil)) (pv 4) (nomark _))
            (pw_and1 (pt_cmpR op_ge (pe_def DL hr (pa_cons (pv 0) (pa_cons (pv 5) (pa_cons (pe_ix ix_list (pv 3) (pe_un un_neg pe_int) (fun _ _ => rfl)) (pa_cons pe_int pa_nil))))) (pe_ix ix_list (pv 0) (pv 5) (fun _ _ => rfl)) (nomark _)))))
          (pss_one (ps_expr (pe_bm0 PySem.F.plainAttrs_list PySem.F.slot_list_pop PySem.F.type_list_pop mt_pop (pv 3)))))
        (pss_cons (ps_expr (pe_bm PySem.F.plainAttrs_list PySem.F.slot_list_append PySem.F.type_list_append mt_append (pv 3) (pa_cons (pv 5) pa_nil)))
        (pss_cons (ps_while PassesOwn.never (pt_cmpR op_gt (pe_op op_sub (pe_ix ix_list (pv 3) (pv 4) (fun _ _ => rfl)) (pv 5)) (pv 1) (nomark _)) (pss_one (ps_aug (i := 4) nd rfl (Or.inl rfl) pe_int ip_add)))
        (pss_one (ps_expr (pe_bm PySem.F.plainAttrs_list PySem.F.slot_list_append PySem.F.type_list_append mt_append (pv 2) (pa_cons (pe_ix ix_list (pv 3) (pv 4) (fun _ _ => rfl)) pa_nil))))))))
      (pss_cons (ps_expr (pe_bm0 PySem.F.plainAttrs_list PySem.F.slot_list_reverse PySem.F.type_list_reverse mt_reverse (pv 2)))
      (pss_one (ps_ret (pv 2))))))), ?_⟩
    -- found = []; line = []; first = 0
    refine ⟨Nat.zero_le _, fun pf hpf => ⟨Nat.zero_le _, fun pl hpl => ?_⟩⟩
    have hpl0 : H pl = none := (Same.new H hpf).free hpl
    have npl : pl ≠ pf := fun z => by rw [z, upd_same] at hpl; cases hpl
    have sm0 : Same H (upd (upd H pf (.lst [])) pl (.lst [])) := (Same.new H hpf).upd hpl0
    -- for car in range(len(cars) - 1, -1, -1)
    refine ⟨_, rfl, a, _, rfl, .inl (SqL.of (sm0.at ha)), _, _, rfl, rfl, _, rfl, _, rfl, _, _, rfl, ⟨?_, ?_, by decide, by decide⟩, ?_⟩
    · simp only [ivs, List.length_map]; (first | lia | omega)
    · simp only [ivs, List.length_map]; (first | lia | omega)
    have en : (((ivs ns).length : Int) - 1 - -1).toNat = ns.length := by simp only [ivs, List.length_map]; (first | lia | omega)
    rw [en]
    refine for_by (n := ns.length) (fun i σ H' => ∃ (L B fs : List Nat) (oc : Option V), σ = [some (.ref a), some (.int n), some (.ref pf), some (.ref pl), some (.int (B.length : Int)), oc] ∧ Same H H' ∧ H' pf = some (.lst (nats fs)) ∧ H' pl = some (.lst (nats (B ++ L))) ∧
      DQ ns n.toNat (ns.length - i) L ∧ fs.length = i ∧ B.length + L.length ≤ i ∧ ∀ (m b : Nat), fs[m]? = some b → Hold ns n.toNat (ns.length - 1 - m) b)
      ⟨[], [], [], none, rfl, sm0, by rw [upd_ne npl.symm, upd_same]; rfl, by rw [upd_same]; rfl, by simpa using DQ.start ns n.toNat, rfl, Nat.le_refl _, fun m b e => by simp at e⟩ ?_ ?_ ?_ ?_
    · exact fun _ _ _ hi _ => hi
    · exact fun _ _ _ => Nat.le_refl _
    · rintro i x σ H1 H2 hi ⟨L, B, fs, oc, rfl, sm, hf, hli, dq, lf, lb, hold⟩ ⟨rfl, rfl⟩
      obtain ⟨c, hc⟩ : ∃ c : Nat, c = ns.length - 1 - i := ⟨_, rfl⟩
      have ec : ((ivs ns).length : Int) - 1 - (i : Int) = (c : Int) := by simp only [ivs, List.length_map]; (first | lia | omega)
      have ec1 : ns.length - i = c + 1 := by (first | lia | omega)
      have hcl : c < ns.length := by (first | lia | omega)
      rw [ec1] at dq
      show tSeq _ _ _ _ _
      rw [ec]
      -- the pops
      refine seq_cut (fun σ' H' => ∃ A R : List Nat, L = A ++ R ∧ σ' = [some (.ref a), some (.int n), some (.ref pf), some (.ref pl), some (.int (B.length : Int)), some (.int (c : Int))] ∧ Same H H' ∧ H' pf = some (.lst (nats fs)) ∧ H' pl = some (.lst (nats (B ++ A))) ∧
        (∀ r ∈ R, key ns c ≤ key ns r) ∧ ∀ z, A.getLast? = some z → key ns z < key ns c) ?_ fun _ ex => ?_
      · rintro σ' H' ⟨A, R, rfl, rfl, sm', hf', hl', hR, hA⟩
        have d1 := dq.pop hcl hR hA
        have lA : B.length + A.length < 900 := by rw [List.length_append] at lb; (first | lia | omega)
        -- line.append(car)
        refine ⟨_, rfl, .inl ⟨rfl, _, SqL.of hl'⟩, _, rfl, pl, _, _, rfl, rfl, hl', by simp only [nats, List.length_map, List.length_append]; exact small63 (by (first | lia | omega)), ?_⟩
        have e1 : nats (B ++ A) ++ [V.int (c : Int)] = nats (B ++ (A ++ [c])) := by simp [nats]
        rw [e1]
        have sm2 : Same H (upd H' pl (.lst (nats (B ++ (A ++ [c]))))) := sm'.upd hpl0
        have hf2 : upd H' pl (.lst (nats (B ++ (A ++ [c])))) pf = some (.lst (nats fs)) := by rw [upd_ne npl.symm]; exact hf'
        -- the front
        show tSeq (tWhile _ _) _ _ _ _
        refine seq_cut (fun σ' H' => ∃ (B2 t : List Nat) (h : Nat), A ++ [c] = B2 ++ h :: t ∧ σ' = [some (.ref a), some (.int n), some (.ref pf), some (.ref pl), some (.int ((B.length + B2.length : Nat) : Int)), some (.int (c : Int))] ∧ Same H H' ∧ H' pf = some (.lst (nats fs)) ∧ H' pl = some (.lst (nats (B ++ (A ++ [c])))) ∧
          (∀ b ∈ B2, c + n.toNat < b) ∧ h ≤ c + n.toNat) ?_ fun _ ex2 => ?_
        · rintro σ' H3 ⟨B2, t, h, eM, rfl, sm3, hf3, hl3, hB, hh⟩
          have d2 : DQ ns n.toNat c (h :: t) := DQ1.front (by rw [← eM]; exact d1) hB hh
          have ix : (B ++ (A ++ [c]))[B.length + B2.length]? = some h := by rw [eM, ← List.append_assoc, List.getElem?_append_right (by simp)]; simp
          -- found.append(line[first])
          refine ⟨_, rfl, .inl ⟨rfl, _, SqL.of hf3⟩, _, rfl, _, rfl, pl, _, _, _, rfl, rfl, SqL.of hl3, atI_nat (nats_get ix), pf, _, _, rfl, rfl, hf3, by simp only [nats, List.length_map]; exact small63 (by (first | lia | omega)), ?_⟩
          have e2 : nats fs ++ [V.int (h : Int)] = nats (fs ++ [h]) := by simp [nats]
          rw [e2]
          have eL : ns.length - (i + 1) = c := by (first | lia | omega)
          have lM : A.length + 1 = B2.length + (t.length + 1) := by have := congrArg List.length eM; simpa using this
          refine ⟨h :: t, B ++ B2, fs ++ [h], _, by rw [List.length_append], sm3.upd hpf, by rw [upd_same], by rw [upd_ne npl, hl3, eM, List.append_assoc], by rw [eL]; exact d2, by simp [lf], ?_, fun m b e => ?_⟩
          · rw [List.length_append] at lb; simp; (first | lia | omega)
          · by_cases hm : m < fs.length
            · rw [List.getElem?_append_left hm] at e
              exact hold m b e
            · rw [List.getElem?_append_right (by (first | lia | omega))] at e
              have hm2 : m = i := by
                have : m - fs.length < 1 := by
                  have := (List.getElem?_eq_some_iff.mp e).1
                  simpa using this
                (first | lia | omega)
              subst hm2
              have : b = h := by rw [lf] at e; simpa using e.symm
              rw [this, show ns.length - 1 - m = c by (first | lia | omega)]
              exact d2.hold
        · -- while line[first] - car > steps
          refine ⟨fun m σ' H3 => ∃ (B2 t : List Nat) (h : Nat), m = t.length ∧ A ++ [c] = B2 ++ h :: t ∧ σ' = [some (.ref a), some (.int n), some (.ref pf), some (.ref pl), some (.int ((B.length + B2.length : Nat) : Int)), some (.int (c : Int))] ∧ Same H H3 ∧ H3 pf = some (.lst (nats fs)) ∧ H3 pl = some (.lst (nats (B ++ (A ++ [c])))) ∧
            ∀ b ∈ B2, c + n.toNat < b, ?_, ?_⟩
          · obtain ⟨h, t, e⟩ : ∃ h t, A ++ [c] = h :: t := by
              cases A with
              | nil => exact ⟨_, _, rfl⟩
              | cons z r => exact ⟨_, _, rfl⟩
            exact ⟨t.length, [], t, h, rfl, by simpa using e, rfl, sm2, hf2, upd_same, fun b hb => by simp at hb⟩
          · rintro m σ' H3 ⟨B2, t, h, rfl, eM, rfl, sm3, hf3, hl3, hB⟩
            have ix : (B ++ (A ++ [c]))[B.length + B2.length]? = some h := by rw [eM, ← List.append_assoc, List.getElem?_append_right (by simp)]; simp
            refine ⟨_, rfl, _, rfl, pl, _, _, _, rfl, rfl, SqL.of hl3, atI_nat (nats_get ix), _, rfl, _, _, rfl, rfl, _, rfl, _, _, rfl, rfl, _, rfl, ?_⟩
            refine ite2 (fun hgt => ?_) (fun hgt => ?_)
            · have hgt' : n < (h : Int) - c := of_decide_eq_true hgt
              cases t with
              | nil =>
                have : c = h := by
                  have e3 := congrArg List.getLast? eM
                  simpa using e3
                (first | lia | omega)
              | cons h' t' =>
                refine ⟨fun σ4 H4 => σ4 = [some (.ref a), some (.int n), some (.ref pf), some (.ref pl), some (.int ((B.length + (B2 ++ [h]).length : Nat) : Int)), some (.int (c : Int))] ∧ H4 = H3, ?_, ?_⟩
                · rintro σ4 H4 ⟨rfl, rfl⟩
                  refine ⟨t'.length, by simp, B2 ++ [h], t', h', rfl, by rw [eM]; simp, rfl, sm3, hf3, hl3, fun b hb => ?_⟩
                  rcases List.mem_append.mp hb with q | q
                  · exact hB b q
                  · have : b = h := by simpa using q
                    (first | lia | omega)
                · refine ⟨_, rfl, _, _, rfl, rfl, ?_, rfl⟩
                  show List.set _ 4 _ = _
                  simp only [List.set_cons_succ, List.set_cons_zero, List.length_append, List.length_cons, List.length_nil]
                  congr 6
            · have hgt' : ¬ n < (h : Int) - c := fun z => hgt (decide_eq_true z)
              exact ex2 _ _ ⟨B2, t, h, eM, rfl, sm3, hf3, hl3, hB, by (first | lia | omega)⟩
      · -- while len(line) > first and let_to(cars, car, line[-1], 0) >= cars[car]
        refine ⟨fun m σ' H' => ∃ A R : List Nat, m = A.length ∧ L = A ++ R ∧ σ' = [some (.ref a), some (.int n), some (.ref pf), some (.ref pl), some (.int (B.length : Int)), some (.int (c : Int))] ∧ Same H H' ∧ H' pf = some (.lst (nats fs)) ∧ H' pl = some (.lst (nats (B ++ A))) ∧ ∀ r ∈ R, key ns c ≤ key ns r,
          ⟨L.length, L, [], rfl, by simp, rfl, sm, hf, hli, fun r hr => by simp at hr⟩, ?_⟩
        rintro m σ' H3 ⟨A, R, rfl, eL, rfl, sm3, hf3, hl3, hR⟩
        refine ⟨_, rfl, pl, _, rfl, .inl (SqL.of hl3), _, rfl, _, _, rfl, rfl, _, rfl, ?_⟩
        refine ite2 (fun hgt => ?_) (fun hgt => ?_)
        · have hgt' : (B.length : Int) < ((nats (B ++ A)).length : Int) := of_decide_eq_true hgt
          have hAne : A ≠ [] := by
            intro z; rw [z] at hgt'; simp [nats] at hgt'
          obtain ⟨A', z, rfl⟩ : ∃ A' z, A = A' ++ [z] := ⟨A.dropLast, A.getLast hAne, (List.dropLast_concat_getLast hAne).symm⟩
          have hz := dq.mem z (by rw [eL]; simp)
          have eN : nats (B ++ (A' ++ [z])) = nats (B ++ A') ++ [V.int (z : Int)] := by simp [nats]
          refine ⟨_, rfl, _, rfl, _, rfl, _, rfl, pl, _, _, _, rfl, rfl, SqL.of hl3, (by rw [eN]; exact atI_last _ _), a, ns, c, z, 0, rfl, sm3.at ha, hz.2.1, _, rfl, _, rfl, a, _, _, _, rfl, rfl, SqL.of (sm3.at ha), atI_nat (ivs_get hcl), _, _, rfl, rfl, _, rfl, ?_⟩
          refine ite2 (fun hge => ?_) (fun hge => ?_)
          · have hge' := of_decide_eq_true hge
            refine ⟨fun σ4 H4 => σ4 = [some (.ref a), some (.int n), some (.ref pf), some (.ref pl), some (.int (B.length : Int)), some (.int (c : Int))] ∧ H4 = upd H3 pl (.lst (nats (B ++ A'))), ?_, ?_⟩
            · rintro σ4 H4 ⟨rfl, rfl⟩
              refine ⟨A'.length, by simp, A', z :: R, rfl, by rw [eL]; simp, rfl, sm3.upd hpl0, by rw [upd_ne npl.symm]; exact hf3, upd_same, fun r hr => ?_⟩
              rcases List.mem_cons.mp hr with q | q
              · rw [q]; unfold key; (first | lia | omega)
              · exact hR r q
            · refine ⟨_, rfl, .inl ⟨rfl, _, SqL.of hl3⟩, pl, _, .int (z : Int), rfl, rfl, hl3, ?_, rfl, ?_⟩
              · rw [eN]; simp
              · rw [eN, List.dropLast_concat]
          · have hge' : ¬ _ := fun z => hge (decide_eq_true z)
            refine ex _ _ ⟨A' ++ [z], R, eL, rfl, sm3, hf3, hl3, hR, fun y hy => ?_⟩
            have : y = z := by simpa using hy.symm
            rw [this]; unfold key; (first | lia | omega)
        · have hgt' : ¬ (B.length : Int) < ((nats (B ++ A)).length : Int) := fun z => hgt (decide_eq_true z)
          have hA0 : A = [] := by
            cases A with
            | nil => rfl
            | cons y r => exfalso; apply hgt'; simp [nats]; (first | lia | omega)
          subst hA0
          refine iteF ?_
          exact ex _ _ ⟨[], R, eL, rfl, sm3, hf3, hl3, hR, fun y hy => by simp at hy⟩
    · -- found.reverse(); return found
      rintro σ H1 ⟨L, B, fs, oc, rfl, sm, hf, hli, dq, lf, lb, hold⟩
      refine ⟨_, rfl, .inl ⟨rfl, _, SqL.of hf⟩, pf, _, rfl, rfl, hf, ?_⟩
      have er : (nats fs).reverse = nats fs.reverse := by simp [nats]
      rw [er]
      refine ⟨_, rfl, k pf fs.reverse _ (sm.upd hpf) hpf upd_same (by simp [lf]) fun i b e => ?_⟩
      have hi : i < fs.length := by have := (List.getElem?_eq_some_iff.mp e).1; simpa using this
      rw [List.getElem?_reverse hi] at e
      have := hold _ b e
      rwa [show ns.length - 1 - (fs.length - 1 - i) = i by (first | lia | omega)] at this
noncomputable def spAfter : Sp := fun vs H Q _ => ∃ (a : Addr) (ns : List Int) (n : Int), vs = [.ref a, .int n] ∧ H a = some (.lst (ivs ns)) ∧ Rising ns ∧ 0 ≤ n ∧ ns.length ≤ 900 ∧
  ∀ p H', Same H H' → H p = none → H' p = some (.lst (ivs (run n.toNat ns))) → Q (.ref p) H'
theorem sc_after : FnScope ["cars", "steps"] ["cars", "steps"] (defScope s_after) := ⟨rfl, rfl, rfl, by decide +kernel, rfl, by decide +kernel, by decide +kernel⟩
noncomputable abbrev nAfterC : List Str := ["car", "by", "cars", "steps"]
theorem sc_afterC : CompSc (defScope s_after) ["cars", "steps"] (lcS (retE ((defBody s_after).getD 2 pass0S))) nAfterC [none, none, some 0, some 1] := ⟨rfl, by decide +kernel, by decide +kernel, by decide +kernel, rfl, by decide +kernel⟩
theorem nd_afterC : nAfterC.Nodup := by decide +kernel
theorem ok_after {f : Addr} {fd : FuncData} (F : Fun K "after" "after" s_after f fd) (O : Own mg) (DC : Def P w K mg base "check_cars" 3 ["cars"] spCars) (DS : Def P w K mg base "check_steps" 3 ["steps"] spSteps)
    (DH : Def P w K mg base "holders" 2 ["cars", "steps"] spHold) (DL : Def P w K mg base "let_to" 1 ["cars", "car", "by", "steps"] spLet) : FnOk P w K mg base CX0 4 f fd ["cars", "steps"] spAfter := by
  refine F.ok sc_after (fun vs H Q E h => ?_) (fun cdv A outer s H vs Q E hr h => ?_)
  · obtain ⟨a, ns, n, rfl, _⟩ := h
    rfl
  · obtain ⟨a, ns, n, rfl, ha, ri, hn, hl, k⟩ := h
    have hr1 : Room 1 _ := hr.mono (by decide)
    have hr2 : Room 2 _ := hr.mono (by decide)
    refine ⟨_, pss_cons (ps_expr (pe_def DC hr (pa_cons (pv 0) pa_nil))) (pss_cons (ps_expr (pe_def DS hr (pa_cons (pv 1) pa_nil)))
      (pss_one (ps_ret (pe_comp rfl sc_afterC (pi_enum (by rfl) O.enum (pa_cons (pe_def DH hr2 (pa_cons (pv 0) (pa_cons (pv 1) pa_nil))) pa_nil))
        (fun _ _ _ _ _ => pg_pair K (i := 0) (j := 1) rfl nd_afterC rfl rfl rfl rfl)
        (fun _ _ _ _ _ => pe_def DL hr1 (pa_cons (pv 2) (pa_cons (pv 0) (pa_cons (pv 1) (pa_cons (pv 3) pa_nil))))))))), ?_⟩
    refine ⟨_, rfl, a, ns, rfl, ha, ri, hl, fun H1 s1 => ?_⟩
    refine ⟨_, rfl, n, rfl, hn, ?_⟩
    refine ⟨_, rfl, _, rfl, a, ns, n, rfl, s1.at ha, hn, hl, fun p bs H2 s2 hp hp2 lb hold => ?_⟩
    refine ⟨p, _, rfl, SqL.of hp2, fun D hD => comp_by (n := ns.length) (fun i σ' H' => (∃ o o', σ' = [o, o', some (.ref a), some (.int n)]) ∧ Same H2 H' ∧ ∃ ys : List Int, H' D = some (.lst (ivs ys)) ∧ ys.length = i ∧ ∀ j b, j < i → bs[j]? = some b → J.g ys j = J.g ns b + n - 2 * ((b : Int) - j))
      ⟨⟨_, _, rfl⟩, Same.new _ hD, [], upd_same, rfl, fun j b hj => absurd hj (by (first | lia | omega))⟩ ?_ ?_ ?_ ?_⟩
    · rintro i σ' H' hi ⟨_, sm, _⟩
      have hb : bs[i]? = some (bs[i]'(by (first | lia | omega))) := by simp [show i < bs.length by (first | lia | omega)]
      exact ⟨_, _, SqL.of (sm.at hp2), nats_get hb⟩
    · rintro σ' H' ⟨_, sm, _⟩
      exact ⟨_, SqL.of (sm.at hp2), by simp [lb]⟩
    · rintro i x σ' H3 H4 hi ⟨⟨o, o', rfl⟩, sm, ys, hD', ly, hy⟩ ⟨q, x1, rfl, hq, rfl, y1⟩
      have hb : bs[i]? = some (bs[i]'(by (first | lia | omega))) := by simp [show i < bs.length by (first | lia | omega)]
      generalize bs[i]'(by (first | lia | omega)) = b at hb
      have e1 := y1 _ (SqL.of (sm.at hp2))
      rw [nats_get hb] at e1
      cases e1
      have h1 := hold i b hb
      have nq : D ≠ q := ne_of_none hD' hq
      have na : upd H3 q (.tup [.int (i : Int), .int (b : Int)]) a = some (.lst (ivs ns)) := by
        have z := sm.at (s2.at (s1.at ha))
        rw [upd_ne (ne_of_none z hq)]; exact z
      refine ⟨q, _, rfl, SqT.of upd_same, rfl, _, _, rfl, _, _, rfl, rfl, _, rfl, _, rfl, _, rfl, _, rfl, a, ns, i, b, n, rfl, na, h1.lt, _, (by rw [upd_ne nq]; exact hD'), by simp only [ivs, List.length_map]; exact small63 (by (first | lia | omega)), ⟨_, _, rfl⟩, (sm.trans (Same.new H3 hq)).upd hD, ys ++ [J.g ns b + n - 2 * ((b : Int) - i)], ?_, by simp [ly], fun j b' hj e' => ?_⟩
      · rw [upd_same]; simp [ivs]
      · by_cases hji : j < i
        · have := hy j b' hji e'
          rw [← this]
          simp [J.g, List.getD, List.getElem?_append_left (show j < ys.length by (first | lia | omega))]
        · have : j = i := by (first | lia | omega)
          subst this
          rw [hb] at e'
          cases e'
          simp [J.g, List.getD, ← ly]
    · rintro σ' H' ⟨_, sm, ys, hD', ly, hy⟩
      have e : ys = run n.toNat ns := after_eq ri lb hold (by rw [ly]) fun i b e => by
        rw [hy i b (by have := (List.getElem?_eq_some_iff.mp e).1; (first | lia | omega)) e]; (first | lia | omega)
      rw [e] at hD'
      exact k D H' ((s1.trans s2).trans sm) ((s1.trans s2).free hD) hD'
end
end JM

namespace JM
open PySem L2 J
section
variable {P : Program} {w : World} {K : PySem.W.Frag} {mg : Str → Option Value} {base : Heap}
noncomputable def spStepped : Sp := fun vs H Q _ => ∃ (a : Addr) (ns : List Int), vs = [.ref a] ∧ H a = some (.lst (ivs ns)) ∧ Rising ns ∧ ns.length ≤ 900 ∧ ∀ p H', Same H H' → H p = none → H' p = some (.lst (ivs (step ns))) → Q (.ref p) H'
theorem sc_stepped : FnScope ["cars"] ["cars"] (defScope s_stepped) := ⟨rfl, rfl, rfl, by decide +kernel, rfl, by decide +kernel, by decide +kernel⟩
theorem ok_stepped {f : Addr} {fd : FuncData} (F : Fun K "stepped" "stepped" s_stepped f fd) (DA : Def P w K mg base "after" 4 ["cars", "steps"] spAfter) : FnOk P w K mg base CX0 5 f fd ["cars"] spStepped := by
  refine F.ok sc_stepped (fun vs H Q E h => ?_) (fun cdv A outer s H vs Q E hr h => ?_)
  · obtain ⟨a, ns, rfl, _⟩ := h
    rfl
  · obtain ⟨a, ns, rfl, ha, ri, hl, k⟩ := h
    refine ⟨_, pss_one (ps_ret (pe_def DA hr (pa_cons (pv 0) (pa_cons pe_int pa_nil)))), ?_⟩
    exact ⟨_, rfl, a, ns, 1, rfl, ha, ri, by decide, hl, fun p H' sm hp hp' => k p H' sm hp hp'⟩
end
end JM

namespace JM
open PySem L2 J
section
variable {P : Program} {w : World} {K : PySem.W.Frag} {mg : Str → Option Value} {base : Heap}
noncomputable def spDelays : Sp := fun vs H Q _ => ∃ (a : Addr) (ns : List Int), vs = [.ref a] ∧ H a = some (.lst (ivs ns)) ∧ Rising ns ∧ ns.length ≤ 900 ∧ ∀ p H', Same H H' → H p = none → H' p = some (.lst (ivs (delaysF ns))) → Q (.ref p) H'
theorem sc_delays : FnScope ["cars"] ["cars"] (defScope s_delays) := ⟨rfl, rfl, rfl, by decide +kernel, rfl, by decide +kernel, by decide +kernel⟩
noncomputable abbrev nDelC : List Str := ["car", "by", "cars"]
theorem sc_delC : CompSc (defScope s_delays) ["cars"] (lcS (retE ((defBody s_delays).getD 1 pass0S))) nDelC [none, none, some 0] := ⟨rfl, by decide +kernel, by decide +kernel, by decide +kernel, rfl, by decide +kernel⟩
theorem nd_delC : nDelC.Nodup := by decide +kernel
theorem ok_delays {f : Addr} {fd : FuncData} (F : Fun K "delays" "delays" s_delays f fd) (O : Own mg) (DC : Def P w K mg base "check_cars" 3 ["cars"] spCars)
    (DH : Def P w K mg base "holders" 2 ["cars", "steps"] spHold) (DL : Def P w K mg base "let_to" 1 ["cars", "car", "by", "steps"] spLet) : FnOk P w K mg base CX0 4 f fd ["cars"] spDelays := by
  refine F.ok sc_delays (fun vs H Q E h => ?_) (fun cdv A outer s H vs Q E hr h => ?_)
  · obtain ⟨a, ns, rfl, _⟩ := h
    rfl
  · obtain ⟨a, ns, rfl, ha, ri, hl, k⟩ := h
    have hr1 : Room 1 _ := hr.mono (by decide)
    have hr2 : Room 2 _ := hr.mono (by decide)
    refine ⟨_, pss_cons (ps_expr (pe_def DC hr (pa_cons (pv 0) pa_nil)))
      (pss_one (ps_ret (pe_comp rfl sc_delC (pi_enum (by rfl) O.enum (pa_cons (pe_def DH hr2 (pa_cons (pv 0) (pa_cons (pe_callB call_len_seq (by rfl) O.len PySem.boot_len (pa_cons (pv 0) pa_nil)) pa_nil))) pa_nil))
        (fun _ _ _ _ _ => pg_pair K (i := 0) (j := 1) rfl nd_delC rfl rfl rfl rfl)
        (fun _ _ _ _ _ => pe_op op_sub (pe_ix (ix_listK K) (pv 2) (pv 0) (fun _ _ => rfl)) (pe_def DL hr1 (pa_cons (pv 2) (pa_cons (pv 0) (pa_cons (pv 1) (pa_cons pe_int pa_nil))))))))), ?_⟩
    refine ⟨_, rfl, a, ns, rfl, ha, ri, hl, fun H1 s1 => ?_⟩
    have lN : (ivs ns).length = ns.length := by simp [ivs]
    refine ⟨_, rfl, _, rfl, a, _, rfl, .inl (SqL.of (s1.at ha)), a, ns, _, rfl, s1.at ha, (by show (0 : Int) ≤ ((ivs ns).length : Int); (first | lia | omega)), hl, fun p bs H2 s2 hp hp2 lb hold => ?_⟩
    have eT : (((ivs ns).length : Nat) : Int).toNat = ns.length := by rw [lN]; (first | lia | omega)
    rw [eT] at hold
    refine ⟨p, _, rfl, SqL.of hp2, fun D hD => comp_by (n := ns.length) (fun i σ' H' => (∃ o o', σ' = [o, o', some (.ref a)]) ∧ Same H2 H' ∧ ∃ ys : List Int, H' D = some (.lst (ivs ys)) ∧ ys.length = i ∧ ∀ j, j < i → J.g ys j = stays ns j ns.length)
      ⟨⟨_, _, rfl⟩, Same.new _ hD, [], upd_same, rfl, fun j hj => absurd hj (by (first | lia | omega))⟩ ?_ ?_ ?_ ?_⟩
    · rintro i σ' H' hi ⟨_, sm, _⟩
      have hb : bs[i]? = some (bs[i]'(by (first | lia | omega))) := by simp [show i < bs.length by (first | lia | omega)]
      exact ⟨_, _, SqL.of (sm.at hp2), nats_get hb⟩
    · rintro σ' H' ⟨_, sm, _⟩
      exact ⟨_, SqL.of (sm.at hp2), by simp [lb]⟩
    · rintro i x σ' H3 H4 hi ⟨⟨o, o', rfl⟩, sm, ys, hD', ly, hy⟩ ⟨q, x1, rfl, hq, rfl, y1⟩
      have hb : bs[i]? = some (bs[i]'(by (first | lia | omega))) := by simp [show i < bs.length by (first | lia | omega)]
      generalize bs[i]'(by (first | lia | omega)) = b at hb
      have e1 := y1 _ (SqL.of (sm.at hp2))
      rw [nats_get hb] at e1
      cases e1
      have h1 := hold i b hb
      have nq : D ≠ q := ne_of_none hD' hq
      have na : upd H3 q (.tup [.int (i : Int), .int (b : Int)]) a = some (.lst (ivs ns)) := by
        have z := sm.at (s2.at (s1.at ha))
        rw [upd_ne (ne_of_none z hq)]; exact z
      refine ⟨q, _, rfl, SqT.of upd_same, rfl, _, _, rfl, _, _, rfl, rfl, _, rfl, _, rfl, a, _, _, _, rfl, rfl, SqL.of na, atI_nat (ivs_get hi), _, rfl, _, rfl, _, rfl, a, ns, i, b, 0, rfl, na, h1.lt, _, _, rfl, rfl, _, (by rw [upd_ne nq]; exact hD'), by simp only [ivs, List.length_map]; exact small63 (by (first | lia | omega)), ⟨_, _, rfl⟩, (sm.trans (Same.new H3 hq)).upd hD, ys ++ [J.g ns i - (J.g ns b + 0 - 2 * ((b : Int) - i))], ?_, by simp [ly], fun j hj => ?_⟩
      · rw [upd_same]; simp [ivs]
      · rw [snoc_g ly hj]
        by_cases hji : j < i
        · rw [if_pos hji]; exact hy j hji
        · have : j = i := by (first | lia | omega)
          subst this
          rw [if_neg hji, h1.stays ri]
          unfold key; (first | lia | omega)
    · rintro σ' H' ⟨_, sm, ys, hD', ly, hy⟩
      have e : ys = delaysF ns := eq_LF ly hy
      rw [e] at hD'
      exact k D H' ((s1.trans s2).trans sm) ((s1.trans s2).free hD) hD'
end
end JM

namespace JM
open PySem L2 J
section
variable {P : Program} {w : World} {K : PySem.W.Frag} {mg : Str → Option Value} {base : Heap}
noncomputable def spFree : Sp := fun vs H Q _ => ∃ (a : Addr) (ns : List Int), vs = [.ref a] ∧ H a = some (.lst (ivs ns)) ∧ Rising ns ∧ ns.length ≤ 900 ∧ ∀ p H', Same H H' → H p = none → H' p = some (.lst (ivs (freeF ns))) → Q (.ref p) H'
theorem sc_free : FnScope ["cars"] ["cars"] (defScope s_free_from) := ⟨rfl, rfl, rfl, by decide +kernel, rfl, by decide +kernel, by decide +kernel⟩
noncomputable abbrev nFreC : List Str := ["car", "by"]
theorem sc_freC : CompSc (defScope s_free_from) ["cars"] (lcS (retE ((defBody s_free_from).getD 1 pass0S))) nFreC [none, none] := ⟨rfl, by decide +kernel, by decide +kernel, by decide +kernel, rfl, by decide +kernel⟩
theorem nd_freC : nFreC.Nodup := by decide +kernel
theorem ok_free {f : Addr} {fd : FuncData} (F : Fun K "free_from" "free_from" s_free_from f fd) (O : Own mg) (DC : Def P w K mg base "check_cars" 3 ["cars"] spCars)
    (DH : Def P w K mg base "holders" 2 ["cars", "steps"] spHold) : FnOk P w K mg base CX0 4 f fd ["cars"] spFree := by
  refine F.ok sc_free (fun vs H Q E h => ?_) (fun cdv A outer s H vs Q E hr h => ?_)
  · obtain ⟨a, ns, rfl, _⟩ := h
    rfl
  · obtain ⟨a, ns, rfl, ha, ri, hl, k⟩ := h
    have hr2 : Room 2 _ := hr.mono (by decide)
    refine ⟨_, pss_cons (ps_expr (pe_def DC hr (pa_cons (pv 0) pa_nil)))
      (pss_one (ps_ret (pe_comp rfl sc_freC (pi_enum (by rfl) O.enum (pa_cons (pe_def DH hr2 (pa_cons (pv 0) (pa_cons (pe_callB call_len_seq (by rfl) O.len PySem.boot_len (pa_cons (pv 0) pa_nil)) pa_nil))) pa_nil))
        (fun _ _ _ _ _ => pg_pair K (i := 0) (j := 1) rfl nd_freC rfl rfl rfl rfl)
        (fun _ _ _ _ _ => pe_op op_sub (pv 1) (pv 0))))), ?_⟩
    refine ⟨_, rfl, a, ns, rfl, ha, ri, hl, fun H1 s1 => ?_⟩
    have lN : (ivs ns).length = ns.length := by simp [ivs]
    refine ⟨_, rfl, _, rfl, a, _, rfl, .inl (SqL.of (s1.at ha)), a, ns, _, rfl, s1.at ha, (by show (0 : Int) ≤ ((ivs ns).length : Int); (first | lia | omega)), hl, fun p bs H2 s2 hp hp2 lb hold => ?_⟩
    have eT : (((ivs ns).length : Nat) : Int).toNat = ns.length := by rw [lN]; (first | lia | omega)
    rw [eT] at hold
    refine ⟨p, _, rfl, SqL.of hp2, fun D hD => comp_by (n := ns.length) (fun i σ' H' => (∃ o o', σ' = [o, o']) ∧ Same H2 H' ∧ ∃ ys : List Int, H' D = some (.lst (ivs ys)) ∧ ys.length = i ∧ ∀ j, j < i → J.g ys j = free ns j ns.length)
      ⟨⟨_, _, rfl⟩, Same.new _ hD, [], upd_same, rfl, fun j hj => absurd hj (by (first | lia | omega))⟩ ?_ ?_ ?_ ?_⟩
    · rintro i σ' H' hi ⟨_, sm, _⟩
      have hb : bs[i]? = some (bs[i]'(by (first | lia | omega))) := by simp [show i < bs.length by (first | lia | omega)]
      exact ⟨_, _, SqL.of (sm.at hp2), nats_get hb⟩
    · rintro σ' H' ⟨_, sm, _⟩
      exact ⟨_, SqL.of (sm.at hp2), by simp [lb]⟩
    · rintro i x σ' H3 H4 hi ⟨⟨o, o', rfl⟩, sm, ys, hD', ly, hy⟩ ⟨q, x1, rfl, hq, rfl, y1⟩
      have hb : bs[i]? = some (bs[i]'(by (first | lia | omega))) := by simp [show i < bs.length by (first | lia | omega)]
      generalize bs[i]'(by (first | lia | omega)) = b at hb
      have e1 := y1 _ (SqL.of (sm.at hp2))
      rw [nats_get hb] at e1
      cases e1
      have h1 := hold i b hb
      have nq : D ≠ q := ne_of_none hD' hq
      refine ⟨q, _, rfl, SqT.of upd_same, rfl, _, _, rfl, _, _, rfl, rfl, _, rfl, _, rfl, _, _, rfl, rfl, _, (by rw [upd_ne nq]; exact hD'), by simp only [ivs, List.length_map]; exact small63 (by (first | lia | omega)), ⟨_, _, rfl⟩, (sm.trans (Same.new H3 hq)).upd hD, ys ++ [(b : Int) - i], ?_, by simp [ly], fun j hj => ?_⟩
      · rw [upd_same]; simp [ivs]
      · rw [snoc_g ly hj]
        by_cases hji : j < i
        · rw [if_pos hji]; exact hy j hji
        · have : j = i := by (first | lia | omega)
          subst this
          rw [if_neg hji, h1.free ri ns.length (by have := h1.lt; (first | lia | omega))]
    · rintro σ' H' ⟨_, sm, ys, hD', ly, hy⟩
      have e : ys = freeF ns := eq_LF ly hy
      rw [e] at hD'
      exact k D H' ((s1.trans s2).trans sm) ((s1.trans s2).free hD) hD'
end
end JM

namespace JM
open PySem L2 J
section
variable {P : Program} {w : World} {K : PySem.W.Frag} {mg : Str → Option Value} {base : Heap}
noncomputable def spIsCar : Sp := fun vs H Q _ => ∃ (a : Addr) (xs : List V) (x : V), vs = [.ref a, x] ∧ H a = some (.lst xs) ∧ Kd H x ∧ Q (.bl (isCar xs.length x)) H
theorem sc_is_car : FnScope ["cars", "car"] ["cars", "car"] (defScope s_is_car) := ⟨rfl, rfl, rfl, by decide +kernel, rfl, by decide +kernel, by decide +kernel⟩
theorem ok_is_car {f : Addr} {fd : FuncData} (F : Fun K "is_car" "is_car" s_is_car f fd) (O : Own mg) (DW : Def P w K mg base "is_whole" 1 ["value"] spWhole) : FnOk P w K mg base CX0 2 f fd ["cars", "car"] spIsCar := by
  refine F.ok sc_is_car (fun vs H Q E h => ?_) (fun cdv A outer s H vs Q E hr h => ?_)
  · obtain ⟨a, xs, x, rfl, _⟩ := h
    rfl
  · obtain ⟨a, xs, x, rfl, ha, hk, k⟩ := h
    refine ⟨_, pss_one (ps_ret (pe_and (pe_def DW hr (pa_cons (pv 1) pa_nil)) (pe_one (pe_chain op_le op_lt pe_int (pv 1) (pe_callB call_len_seq (by rfl) O.len PySem.boot_len (pa_cons (pv 0) pa_nil)))))), ?_⟩
    refine ⟨_, rfl, x, rfl, hk, _, rfl, ?_⟩
    cases x with
    | int i =>
      refine iteT ⟨_, rfl, _, _, rfl, rfl, _, rfl, ?_⟩
      rw [isCar_i] at k
      cases e : decide ((0 : Int) ≤ i) with
      | false =>
        rw [e] at k
        exact iteF k
      | true =>
        rw [e] at k
        exact iteT ⟨_, rfl, a, _, rfl, .inl (SqL.of ha), _, _, rfl, rfl, k⟩
    | _ => exact iteF k
noncomputable def spFront : Sp := fun vs H Q _ => ∃ (a : Addr) (xs : List V) (x : V), vs = [.ref a, x] ∧ H a = some (.lst xs) ∧ Kd H x ∧ Q (.bl (isFront xs.length x)) H
theorem sc_front : FnScope ["cars", "car"] ["cars", "car"] (defScope s_has_one_in_front) := ⟨rfl, rfl, rfl, by decide +kernel, rfl, by decide +kernel, by decide +kernel⟩
theorem ok_front {f : Addr} {fd : FuncData} (F : Fun K "has_one_in_front" "has_one_in_front" s_has_one_in_front f fd) (O : Own mg) (DC : Def P w K mg base "is_car" 2 ["cars", "car"] spIsCar) : FnOk P w K mg base CX0 3 f fd ["cars", "car"] spFront := by
  refine F.ok sc_front (fun vs H Q E h => ?_) (fun cdv A outer s H vs Q E hr h => ?_)
  · obtain ⟨a, xs, x, rfl, _⟩ := h
    rfl
  · obtain ⟨a, xs, x, rfl, ha, hk, k⟩ := h
    refine ⟨_, pss_one (ps_ret (pe_and (pe_def DC hr (pa_cons (pv 0) (pa_cons (pv 1) pa_nil))) (pe_one (pe_cmpR op_lt (pe_op op_add (pv 1) pe_int) (pe_callB call_len_seq (by rfl) O.len PySem.boot_len (pa_cons (pv 0) pa_nil)) (nomark _))))), ?_⟩
    refine ⟨_, rfl, _, rfl, a, xs, x, rfl, ha, hk, _, rfl, ?_⟩
    cases x with
    | int i =>
      rw [isCar_i]
      rw [isFront_i] at k
      by_cases c : 0 ≤ i ∧ i < xs.length
      · rw [decide_eq_true c.1, decide_eq_true c.2]
        rw [decide_eq_true c.1] at k
        exact iteT ⟨_, rfl, _, _, rfl, rfl, _, rfl, a, _, rfl, .inl (SqL.of ha), _, _, rfl, rfl, k⟩
      · have e : (decide (0 ≤ i) && decide (i < (xs.length : Int))) = false := by
          cases q : (decide (0 ≤ i) && decide (i < (xs.length : Int))) with
          | false => rfl
          | true => rw [Bool.and_eq_true, decide_eq_true_eq, decide_eq_true_eq] at q; exact absurd q c
        have e' : (decide (0 ≤ i) && decide (i + 1 < (xs.length : Int))) = false := by
          cases q : (decide (0 ≤ i) && decide (i + 1 < (xs.length : Int))) with
          | false => rfl
          | true => rw [Bool.and_eq_true, decide_eq_true_eq, decide_eq_true_eq] at q; exact absurd ⟨q.1, by omega⟩ c
        rw [e]
        rw [e'] at k
        exact iteF k
    | _ => exact iteF k
theorem isCar_nat {ns : List Int} {c : Nat} (h : c < ns.length) : isCar (ivs ns).length (.int (c : Int)) = true := by
  rw [isCar_i]
  rw [decide_eq_true (by (first | lia | omega)), decide_eq_true (by simp [ivs]; (first | lia | omega))]; rfl
noncomputable def spChkCar : Sp := fun vs H Q _ => ∃ (a : Addr) (ns : List Int) (c : Nat), vs = [.ref a, .int (c : Int)] ∧ H a = some (.lst (ivs ns)) ∧ c < ns.length ∧ Q .non H
theorem sc_check_car : FnScope ["cars", "car"] ["cars", "car"] (defScope s_check_car) := ⟨rfl, rfl, rfl, by decide +kernel, rfl, by decide +kernel, by decide +kernel⟩
theorem ok_check_car {f : Addr} {fd : FuncData} (F : Fun K "check_car" "check_car" s_check_car f fd) (DI : Def P w K mg base "is_car" 2 ["cars", "car"] spIsCar) : FnOk P w K mg base CX0 3 f fd ["cars", "car"] spChkCar := by
  refine F.ok sc_check_car (fun vs H Q E h => ?_) (fun cdv A outer s H vs Q E hr h => ?_)
  · obtain ⟨a, ns, c, rfl, _⟩ := h
    rfl
  · obtain ⟨a, ns, c, rfl, ha, hc, k⟩ := h
    refine ⟨_, pss_one (ps_if (pt_not (pt_val (pe_def DI hr (pa_cons (pv 0) (pa_cons (pv 1) pa_nil))))) pss_never pss_nil), ?_⟩
    refine ⟨_, rfl, _, rfl, a, _, .int (c : Int), rfl, ha, True.intro, _, rfl, ?_⟩
    rw [isCar_nat hc]
    exact iteFN k
noncomputable abbrev nHeld : List Str := ["cars", "car", "steps", "by"]
theorem sc_held : FnScope nHeld ["cars", "car", "steps"] (defScope s_held) := ⟨rfl, rfl, rfl, by decide +kernel, rfl, by decide +kernel, by decide +kernel⟩
theorem sc_chkF : FnScope ["cars", "car"] ["cars", "car"] (defScope s_check_has_one_in_front) := ⟨rfl, rfl, rfl, by decide +kernel, rfl, by decide +kernel, by decide +kernel⟩
noncomputable abbrev nTouches : List Str := ["cars", "car", "free"]
theorem sc_touches : FnScope nTouches ["cars", "car"] (defScope s_touches) := ⟨rfl, rfl, rfl, by decide +kernel, rfl, by decide +kernel, by decide +kernel⟩
end
end JM

namespace L2
open PySem PySem.Spec PyProof.Rows
theorem FnOk.or {P : Program} {w : World} {K : PySem.W.Frag} {mg : Str → Option Value} {base : Heap} {CX : CXT} {k : Nat} {f : Addr} {fd : FuncData} {ps : List Str} {sp sp' : Sp} (F : FnOk P w K mg base CX k f fd ps sp) (F' : FnOk P w K mg base CX k f fd ps sp') :
    FnOk P w K mg base CX k f fd ps (fun vs H Q E => sp vs H Q E ∨ sp' vs H Q E) :=
  ⟨fun vs H Q E q => q.elim (F.len vs H Q E) (F'.len vs H Q E), fun A outer s H args us vs Q E hr he hb hv hs => hs.elim (F.run A outer s H args us vs Q E hr he hb hv) (F'.run A outer s H args us vs Q E hr he hb hv)⟩
theorem call_lenK {X : Cx} (K : PySem.W.Frag) (hK : X.K = K := by rfl) : CallR X (.builtin "len") (fun xs H Q => ∃ x n, xs = [x] ∧ LenV K x H n ∧ Q (.int n) H) := hK ▸ call_len
end L2
namespace JM
open PySem L2 J TX
noncomputable def asgE : Stmt → Expr
  | .Assign _ e _ => e
  | _ => .Constant .none 0 ⟨0, 0, 0, 0⟩
noncomputable def binR : Expr → Expr
  | .BinOp _ _ e _ => e
  | e => e
theorem dec_strV (a b : Str) : decide (V.str a = V.str b) = decide (a = b) := by
  by_cases q : a = b
  · rw [decide_eq_true q, decide_eq_true (by rw [q])]
  · rw [decide_eq_false q, decide_eq_false (fun z => q (V.str.inj z))]
theorem tx_line {n : Nat} (s : R.Rg) (h : n ≤ 900) : (tx n s).length ≤ sizeLine := by rw [tx_len]; exact le63 h
section
variable {P : Program} {w : World} {K : PySem.W.Frag} {mg : Str → Option Value} {base : Heap}
noncomputable def isRing : V → Bool
  | .str z => decide (0 < (z.length : Int)) && decide (Txt.count z (Str.ofString "c") + Txt.count z (Str.ofString ".") = z.length)
  | _ => false
noncomputable def spIsRing : Sp := fun vs H Q _ => ∃ x, vs = [x] ∧ Kd H x ∧ (∀ z, x = .str z → z.length ≤ sizeLine) ∧ Q (.bl (isRing x)) H
theorem sc_is_ring : FnScope ["ring"] ["ring"] (defScope s_is_ring) := ⟨rfl, rfl, rfl, by decide +kernel, rfl, by decide +kernel, by decide +kernel⟩
theorem ok_is_ring {f : Addr} {fd : FuncData} (F : Fun K "is_ring" "is_ring" s_is_ring f fd) (O : Own mg) : FnOk P w K mg base CX0 1 f fd ["ring"] spIsRing := by
  refine F.ok sc_is_ring (fun vs H Q E h => ?_) (fun cdv A outer s H vs Q E hr h => ?_)
  · obtain ⟨x, rfl, _⟩ := h
    rfl
  · obtain ⟨x, rfl, hk, hz, k⟩ := h
    refine ⟨_, (pss_one (ps_ret (pe_and (pe_callB call_isi (by rfl) O.isi PyProof.Rows.boot_isinstance (pa_cons (pv 0) (pa_cons (pe_ty (by rfl) O.str PyProof.Rows.boot_str) pa_nil)))
      (pe_and (pe_cmpR op_gt (pe_callB call_len (by rfl) O.len PySem.boot_len (pa_cons (pv 0) pa_nil)) pe_int (nomark _))
      (pe_one (pe_cmpR op_eq (pe_op op_add (pe_bm PySem.F.plainAttrs_str PySem.F.slot_str_count PySem.F.type_str_count mt_count (pv 0) (pa_cons pe_str pa_nil)) (pe_bm PySem.F.plainAttrs_str PySem.F.slot_str_count PySem.F.type_str_count mt_count (pv 0) (pa_cons pe_str pa_nil)))
        (pe_callB call_len (by rfl) O.len PySem.boot_len (pa_cons (pv 0) pa_nil)) (nomark _))))))), ?_⟩
    refine ⟨_, rfl, _, "str", _, _, rfl, hk.ty, hk.str, isS x, rfl, ?_⟩
    cases x with
    | str z =>
      have k : Q (.bl (decide (0 < (z.length : Int)) && decide (Txt.count z (Str.ofString "c") + Txt.count z (Str.ofString ".") = z.length))) H := k
      have hz' := hz z rfl
      refine iteT ⟨_, rfl, _, _, rfl, ⟨hz', rfl⟩, _, _, rfl, rfl, _, rfl, ?_⟩
      cases h1 : decide (0 < (z.length : Int)) with
      | false =>
        rw [h1] at k
        exact iteF k
      | true =>
        rw [h1] at k
        refine iteT ⟨_, rfl, rfl, _, _, rfl, rfl, _, rfl, rfl, _, _, rfl, rfl, _, _, rfl, rfl, _, rfl, _, _, rfl, ⟨hz', rfl⟩, rfl, ?_⟩
        have e : ∀ a b : Int, decide (V.int a = V.int b) = decide (a = b) := fun a b => by
          by_cases q : a = b
          · rw [decide_eq_true q, decide_eq_true (by rw [q])]
          · rw [decide_eq_false q, decide_eq_false (fun z => q (V.int.inj z))]
        rw [e]
        exact k
    | _ => exact iteF k
theorem isRing_tx {n : Nat} {s : R.Rg} (h : 0 < n) : isRing (.str (tx n s)) = true := by
  show (decide (0 < ((tx n s).length : Int)) && decide (Txt.count (tx n s) (Str.ofString "c") + Txt.count (tx n s) (Str.ofString ".") = (tx n s).length)) = true
  rw [tx_len, count_c, count_d, decide_eq_true (by (first | lia | omega)), decide_eq_true (by (first | lia | omega))]
  rfl
noncomputable def spRing : Sp := fun vs H Q _ => ∃ (n : Nat) (s : R.Rg), vs = [.str (tx n s)] ∧ 0 < n ∧ n ≤ 400 ∧ Q .non H
theorem sc_check_ring : FnScope ["ring"] ["ring"] (defScope s_check_ring) := ⟨rfl, rfl, rfl, by decide +kernel, rfl, by decide +kernel, by decide +kernel⟩
theorem ok_check_ring {f : Addr} {fd : FuncData} (F : Fun K "check_ring" "check_ring" s_check_ring f fd) (DR : Def P w K mg base "is_ring" 1 ["ring"] spIsRing) : FnOk P w K mg base CX0 2 f fd ["ring"] spRing := by
  refine F.ok sc_check_ring (fun vs H Q E h => ?_) (fun cdv A outer s H vs Q E hr h => ?_)
  · obtain ⟨n, s, rfl, _⟩ := h
    rfl
  · obtain ⟨n, s, rfl, h0, h9, k⟩ := h
    refine ⟨_, (pss_one (ps_if (pt_not (pt_val (pe_def DR hr (pa_cons (pv 0) pa_nil)))) pss_never pss_nil)), ?_⟩
    refine ⟨_, rfl, .str (tx n s), rfl, True.intro, fun z e => ?_, _, rfl, ?_⟩
    · cases e; exact tx_line s (by (first | lia | omega))
    rw [isRing_tx h0]
    exact iteFN k
end
end JM
namespace JM
open PySem L2 J TX
section
variable {P : Program} {w : World} {K : PySem.W.Frag} {mg : Str → Option Value} {base : Heap}
noncomputable def spExch : Sp := fun vs H Q _ => ∃ (n : Nat) (s : R.Rg), vs = [.str (tx n s)] ∧ 0 < n ∧ n ≤ 400 ∧ R.Per n s ∧ ∀ H', Same H H' → Q (.str (tx n (R.ex1 s))) H'
theorem sc_exch : FnScope ["ring"] ["ring"] (defScope s_exchanged) := ⟨rfl, rfl, rfl, by decide +kernel, rfl, by decide +kernel, by decide +kernel⟩
theorem sc_exchC : CompSc (defScope s_exchanged) ["ring"] (lcS (arg0 (retE ((defBody s_exchanged).getD 1 pass0S)))) ["sign"] [none] := ⟨rfl, by decide +kernel, by decide +kernel, by decide +kernel, rfl, by decide +kernel⟩
theorem nd_sign : (["sign"] : List Str).Nodup := by decide +kernel
noncomputable abbrev sgsV (f : Nat → Bool) (i : Nat) : List V := ((List.range i).map fun j => sign (f j)).map V.str
theorem sgsV_succ (f : Nat → Bool) (i : Nat) : sgsV f (i + 1) = sgsV f i ++ [.str (sign (f i))] := by simp [sgsV, List.range_succ]
theorem sgsV_len (f : Nat → Bool) (i : Nat) : (sgsV f i).length = i := by simp [sgsV]
theorem sgs_fit (f : Nat → Bool) {i : Nat} (h : i ≤ 900) : ((((List.range i).map fun j => sign (f j)) : List Str).map (·.length)).sum + (((List.range i).map fun j => sign (f j)) : List Str).length * (Str.ofString "").length ≤ 16777216 :=
  Nat.le_trans (join_fit (m := 900) (fun y hy => by obtain ⟨j, _, rfl⟩ := List.mem_map.mp hy; rfl) (by simpa using h)) (by decide)
theorem ok_exch {f : Addr} {fd : FuncData} (F : Fun K "exchanged" "exchanged" s_exchanged f fd) (O : Own mg) (DR : Def P w K mg base "check_ring" 2 ["ring"] spRing) : FnOk P w K mg base CX0 3 f fd ["ring"] spExch := by
  refine F.ok sc_exch (fun vs H Q E h => ?_) (fun cdv A outer s H vs Q E hr h => ?_)
  · obtain ⟨n, s, rfl, _⟩ := h
    rfl
  · obtain ⟨n, s, rfl, h0, h9, per, k⟩ := h
    refine ⟨_, (pss_cons (ps_expr (pe_def DR hr (pa_cons (pv 0) pa_nil)))
 (pss_one (ps_ret (pe_bm PySem.F.plainAttrs_str PySem.F.slot_str_join PySem.F.type_str_join (mt_join K) pe_str (pa_cons (pe_comp rfl sc_exchC (pi_revS (by rfl) O.rev (pa_cons (pv 0) pa_nil)) (fun _ _ _ _ _ => pg_name (i := 0) nd_sign rfl (Or.inl rfl))
        (fun _ _ _ _ _ => pe_ifExp (pt_cmpR op_eq (pv 0) pe_str (nomark _)) pe_str pe_str)) pa_nil))))), ?_⟩
    refine ⟨_, rfl, n, s, rfl, h0, h9, ?_⟩
    refine ⟨rfl, _, rfl, tx n s, rfl, tx_line s (by omega), fun D hD => comp_by (n := n) (fun i σ' H' => (∃ o, σ' = [o]) ∧ Same H H' ∧ H' D = some (.lst (sgsV (fun j => R.ex1 s (j : Int)) i))) ⟨⟨_, rfl⟩, Same.new H hD, upd_same⟩ ?_ ?_ ?_ ?_⟩
    · rintro i σ' H' hi _
      show i < (tx n s).cps.size
      rw [tx_size]; exact hi
    · rintro σ' H' _
      show n = (tx n s).cps.size
      rw [tx_size]
    · rintro i x σ' H1 H2 hi ⟨⟨o, rfl⟩, sm, hD'⟩ ⟨rfl, c, hc, rfl⟩
      rw [tx_size, tx_get (by omega)] at hc
      cases hc
      have es : s ((n - 1 - i : Nat) : Int) = s (-1 - (i : Int)) := by
        have := per (-1 - (i : Int))
        rw [show -1 - (i : Int) + n = ((n - 1 - i : Nat) : Int) by omega] at this
        exact this
      rw [es]
      show ∃ v, _
      refine ⟨_, rfl, rfl, _, rfl, ?_⟩
      have e1 : decide (V.str ⟨#[ch (s (-1 - (i : Int)))]⟩ = V.str (Str.ofString "c")) = s (-1 - (i : Int)) := by rw [dec_strV]; exact sign_is _
      rw [e1]
      have fin : ∀ v : Str, v = sign (R.ex1 s (i : Int)) → ∃ xs, H2 D = some (.lst xs) ∧ xs.length < sizeLine ∧ (∃ o, ([some (V.str ⟨#[ch (s (-1 - (i : Int)))]⟩)] : St) = [o]) ∧ Same H (upd H2 D (.lst (xs ++ [.str v]))) ∧ upd H2 D (.lst (xs ++ [.str v])) D = some (.lst (sgsV (fun j => R.ex1 s (j : Int)) (i + 1))) := fun v e =>
        ⟨_, hD', by rw [sgsV_len]; exact small63 (by omega), ⟨_, rfl⟩, sm.upd hD, by rw [upd_same, sgsV_succ, e]⟩
      cases hb : s (-1 - (i : Int)) with
      | true =>
        rw [hb] at fin
        exact iteT (fin _ (by show Str.ofString "." = sign (!s (-1 - (i : Int))); rw [hb]; exact sign_f.symm))
      | false =>
        rw [hb] at fin
        exact iteF (fin _ (by show Str.ofString "c" = sign (!s (-1 - (i : Int))); rw [hb]; exact sign_t.symm))
    · rintro σ' H1 ⟨_, sm, hD'⟩
      refine ⟨_, D, _, rfl, rfl, SqL.of hD', sgs_fit _ (by omega), ?_⟩
      rw [join_tx n (R.ex1 s)]
      exact k H1 sm
noncomputable def spCrowd : Sp := fun vs H Q _ => ∃ (n : Nat) (s : R.Rg), vs = [.str (tx n s)] ∧ n ≤ 400 ∧ Q (.bl (decide ((n : Int) < 2 * (R.cars n s : Int)))) H
theorem sc_crowd : FnScope ["ring"] ["ring"] (defScope s_is_crowded) := ⟨rfl, rfl, rfl, by decide +kernel, rfl, by decide +kernel, by decide +kernel⟩
theorem ok_crowd {f : Addr} {fd : FuncData} (F : Fun K "is_crowded" "is_crowded" s_is_crowded f fd) (O : Own mg) : FnOk P w K mg base CX0 1 f fd ["ring"] spCrowd := by
  refine F.ok sc_crowd (fun vs H Q E h => ?_) (fun cdv A outer s H vs Q E hr h => ?_)
  · obtain ⟨n, s, rfl, _⟩ := h
    rfl
  · obtain ⟨n, s, rfl, h9, k⟩ := h
    refine ⟨_, (pss_one (ps_ret (pe_cmpR op_gt (pe_op op_mul pe_int (pe_bm PySem.F.plainAttrs_str PySem.F.slot_str_count PySem.F.type_str_count mt_count (pv 0) (pa_cons pe_str pa_nil))) (pe_callB call_len (by rfl) O.len PySem.boot_len (pa_cons (pv 0) pa_nil)) (nomark _)))), ?_⟩
    refine ⟨_, rfl, rfl, _, _, rfl, rfl, _, _, rfl, rfl, .inl ⟨by decide, by decide⟩, _, rfl, _, _, rfl, ⟨tx_line s (by (first | lia | omega)), rfl⟩, _, _, rfl, rfl, ?_⟩
    rw [tx_len, count_c]
    exact k
noncomputable def spLaps : Sp := fun vs H Q _ => ∃ (n : Nat) (s : R.Rg), vs = [.str (tx n s)] ∧ n ≤ 400 ∧ ∀ p H', Same H H' → H p = none → H' p = some (.lst (ivs (R.laps n (R.plc s n)))) → Q (.ref p) H'
theorem sc_laps : FnScope ["ring", "places"] ["ring"] (defScope s_two_laps) := ⟨rfl, rfl, rfl, by decide +kernel, rfl, by decide +kernel, by decide +kernel⟩
theorem sc_lapsC1 : CompSc (defScope s_two_laps) ["ring", "places"] (lcS (asgE ((defBody s_two_laps).getD 0 pass0S))) ["place", "sign"] [none, none] := ⟨rfl, by decide +kernel, by decide +kernel, by decide +kernel, rfl, by decide +kernel⟩
theorem sc_lapsC2 : CompSc (defScope s_two_laps) ["ring", "places"] (lcS (binR (retE ((defBody s_two_laps).getD 1 pass0S)))) ["place", "ring"] [none, some 0] := ⟨rfl, by decide +kernel, by decide +kernel, by decide +kernel, rfl, by decide +kernel⟩
theorem nd_ps : (["place", "sign"] : List Str).Nodup := by decide +kernel
theorem nd_pr : (["place", "ring"] : List Str).Nodup := by decide +kernel
theorem plc_le (s : R.Rg) (i : Nat) : (R.plc s i).length ≤ i := by
  induction i with
  | zero => exact Nat.le_refl _
  | succ i ih =>
    show (if s i then R.plc s i ++ [(i : Int)] else R.plc s i).length ≤ i + 1
    split
    · rw [List.length_append]; simpa using ih
    · (first | lia | omega)
theorem ok_laps {f : Addr} {fd : FuncData} (F : Fun K "two_laps" "two_laps" s_two_laps f fd) (O : Own mg) : FnOk P w K mg base CX0 1 f fd ["ring"] spLaps := by
  refine F.ok sc_laps (fun vs H Q E h => ?_) (fun cdv A outer s H vs Q E hr h => ?_)
  · obtain ⟨n, s, rfl, _⟩ := h
    rfl
  · obtain ⟨n, s, rfl, h9, k⟩ := h
    have nd := sc_laps.nd
    refine ⟨_, (pss_cons (ps_setCI (i := 1) rfl sc_lapsC1 (pi_enumS (by rfl) O.enum (pa_cons (pv 0) pa_nil)) (fun _ _ _ _ _ => pg_pair K (i := 0) (j := 1) rfl nd_ps rfl rfl rfl rfl) (fun _ _ _ _ _ => pt_cmpR op_eq (pv 1) pe_str (nomark _)) (fun _ _ _ _ _ => pv 0) nd rfl rfl)
 (pss_one (ps_ret (pe_op op_cat (pv 1) (pe_comp rfl sc_lapsC2 (pi_list (pv 1)) (fun _ _ _ _ _ => pg_name (i := 0) nd_pr rfl (Or.inl rfl)) (fun _ _ _ _ _ => pe_op op_add (pv 0) (pe_callB (call_lenK K) (by rfl) O.len PySem.boot_len (pa_cons (pv 1) pa_nil)))))))), ?_⟩
    refine ⟨_, rfl, tx n s, rfl, tx_ascii n s, fun D hD => compI_by (n := n) (fun i σ' H' => (∃ o o', σ' = [o, o']) ∧ Same H H' ∧ H' D = some (.lst (ivs (R.plc s i)))) ⟨⟨_, _, rfl⟩, Same.new H hD, upd_same⟩ ?_ ?_ ?_ ?_⟩
    · rintro i σ' H' hi _
      show i < (tx n s).cps.size
      rw [tx_size]; exact hi
    · rintro σ' H' _
      show n = (tx n s).cps.size
      rw [tx_size]
    · rintro i x σ' H1 H2 hi ⟨⟨o, o', rfl⟩, sm, hD'⟩ ⟨q, c, rfl, hq, hc, rfl⟩
      rw [tx_get hi] at hc
      cases hc
      have nq : D ≠ q := ne_of_none hD' hq
      have hD2 : upd H1 q (.tup [.int (i : Int), .str ⟨#[ch (s (i : Int))]⟩]) D = some (.lst (ivs (R.plc s i))) := by rw [upd_ne nq]; exact hD'
      have sm2 : Same H (upd H1 q (.tup [.int (i : Int), .str ⟨#[ch (s (i : Int))]⟩])) := sm.trans (Same.new H1 hq)
      refine ⟨q, _, rfl, SqT.of upd_same, rfl, _, _, rfl, _, _, rfl, rfl, ?_⟩
      refine ⟨_, rfl, rfl, _, rfl, ?_⟩
      have e1 : decide (V.str ⟨#[ch (s (i : Int))]⟩ = V.str (Str.ofString "c")) = s (i : Int) := by rw [dec_strV]; exact sign_is _
      rw [e1]
      have ep : R.plc s (i + 1) = if s (i : Int) then R.plc s i ++ [(i : Int)] else R.plc s i := rfl
      cases hb : s (i : Int) with
      | true =>
        rw [hb, if_pos rfl] at ep
        rw [hb] at hD2 sm2
        refine iteT ⟨_, rfl, _, hD2, by simp only [ivs, List.length_map]; exact small63 (by have := plc_le s i; (first | lia | omega)), ⟨_, _, rfl⟩, sm2.upd hD, ?_⟩
        rw [upd_same, ep]
        simp [ivs]
      | false =>
        rw [hb, if_neg Bool.false_ne_true] at ep
        rw [hb] at hD2 sm2
        refine iteF ⟨⟨_, _, rfl⟩, sm2, ?_⟩
        rw [ep]; exact hD2
    · rintro σ' H1 ⟨_, sm, hD'⟩
      have lp := plc_le s n
      generalize eps : R.plc s n = ps at hD' lp
      refine ⟨_, rfl, _, rfl, D, rfl, ⟨_, SqL.of hD'⟩, fun D2 hD2 => comp_by (n := ps.length) (fun i σ' H' => (∃ o, σ' = [o, some (.str (tx n s))]) ∧ Same H1 H' ∧ H' D2 = some (.lst (ivs ((ps.take i).map (· + (n : Int)))))) ⟨⟨_, rfl⟩, Same.new H1 hD2, upd_same⟩ ?_ ?_ ?_ ?_⟩
      · rintro i σ' H' hi ⟨_, sm2, _⟩
        exact ⟨_, _, SqL.of (sm2.at hD'), ivs_get hi⟩
      · rintro σ' H' ⟨_, sm2, _⟩
        exact ⟨_, SqL.of (sm2.at hD'), by simp⟩
      · rintro i x σ' H2 H3 hi ⟨⟨o, rfl⟩, sm2, hD3⟩ y
        obtain ⟨rfl, rfl⟩ := itl_int (sm2.at hD') hi y
        refine ⟨_, rfl, _, rfl, _, _, rfl, ⟨tx_line s (by (first | lia | omega)), rfl⟩, _, _, rfl, rfl, _, hD3, by simp only [ivs, List.length_map, List.length_take]; exact small63 (by (first | lia | omega)), ⟨_, rfl⟩, sm2.upd hD2, ?_⟩
        rw [upd_same, List.take_succ, J.g_get hi, tx_len]
        simp [ivs]
      · rintro σ' H2 ⟨_, sm2, hD3⟩
        rw [List.take_length] at hD3
        refine ⟨D, D2, _, _, rfl, rfl, sm2.at hD', hD3, le63 (by simp only [ivs, List.length_map]; (first | lia | omega)), fun p hp => ?_⟩
        refine k p _ ((sm.trans sm2).trans (Same.new H2 hp)) ((sm.trans sm2).free hp) ?_
        rw [upd_same, eps]
        simp [ivs, R.laps]
end
end JM
namespace JM
open PySem L2 J TX
section
variable {P : Program} {w : World} {K : PySem.W.Frag} {mg : Str → Option Value} {base : Heap}
theorem cutTo (xs : List Int) (k : Nat) : cutV (ivs xs) none (some (k : Int)) = ivs (xs.take k) := by
  unfold cutV
  rw [HT.sIx_nat, HT.sIx_none]
  simp only [ivs, List.length_map, Nat.sub_zero, List.drop_zero]
  rw [← List.map_take]
  congr 1
  by_cases h : k ≤ xs.length
  · rw [Nat.min_eq_left h]
  · rw [Nat.min_eq_right (by (first | lia | omega)), List.take_of_length_le (Nat.le_refl _), List.take_of_length_le (by (first | lia | omega))]
theorem rising_laps {n : Nat} {s : R.Rg} (per : R.Per n s) (h0 : 0 < n) (hf : 2 * R.cars n s ≤ n) : Rising (R.laps n (R.plc s n)) ∧ (R.laps n (R.plc s n)).length = 2 * R.cars n s := by
  have hl : (R.laps n (R.plc s n)).length = 2 * R.cars n s := by
    unfold R.laps
    rw [List.length_append, List.length_map, R.plc_len]
    unfold R.cars; (first | lia | omega)
  by_cases hk : 0 < R.cars n s
  · exact ⟨(R.two_of per h0 hk rfl hf).1.rising, hl⟩
  · refine ⟨fun i hi => ?_, hl⟩
    rw [hl] at hi
    (first | lia | omega)
theorem taken_iff {n : Nat} {s : R.Rg} (per : R.Per n s) (h0 : 0 < n) (hf : 2 * R.cars n s ≤ n) (t : Nat) {p : Nat} (hp : p < n) :
    R.stps t s (p : Int) = true ↔ ∃ x ∈ (run t (R.laps n (R.plc s n))).take (R.cars n s), x % (n : Int) = (p : Int) := by
  obtain ⟨_, hl⟩ := rising_laps per h0 hf
  have hlr : (run t (R.laps n (R.plc s n))).length = 2 * R.cars n s := by rw [run_len, hl]
  by_cases hk : 0 < R.cars n s
  · rw [R.ring_after per h0 hk rfl hf t (by (first | lia | omega)) (by (first | lia | omega))]
    constructor
    · rintro ⟨i, hi, e⟩
      refine ⟨_, ?_, e⟩
      rw [List.mem_iff_getElem?]
      exact ⟨i, by rw [List.getElem?_take_of_lt hi]; exact g_get (by (first | lia | omega))⟩
    · rintro ⟨x, hx, e⟩
      obtain ⟨i, hi⟩ := List.mem_iff_getElem?.mp hx
      have hik : i < R.cars n s := by
        have := (List.getElem?_eq_some_iff.mp hi).1
        rw [List.length_take] at this; (first | lia | omega)
      refine ⟨i, hik, ?_⟩
      rw [List.getElem?_take_of_lt hik, g_get (by (first | lia | omega))] at hi
      cases hi
      exact e
  · have hz : R.cars n s = 0 := by (first | lia | omega)
    have c : R.cnt (R.stps t s) 0 n = 0 := (R.cars_stps per 0 t).trans hz
    have z := (R.all_false (per.stps t) h0).mp c (p : Int)
    rw [z, hz, List.take_zero]
    constructor
    · intro q; cases q
    · rintro ⟨x, hx, _⟩; simp at hx
noncomputable def spAft0 : Sp := fun vs H Q _ => ∃ (n : Nat) (s : R.Rg) (t : Int), vs = [.str (tx n s), .int t] ∧ 0 < n ∧ n ≤ 400 ∧ R.Per n s ∧ 2 * R.cars n s ≤ n ∧ 0 ≤ t ∧ ∀ H', Same H H' → Q (.str (tx n (R.stps t.toNat s))) H'
noncomputable abbrev nAft : List Str := ["ring", "steps", "moved", "taken", "place"]
theorem sc_aft : FnScope nAft ["ring", "steps"] (defScope s_around_after) := ⟨rfl, rfl, rfl, by decide +kernel, rfl, by decide +kernel, by decide +kernel⟩
noncomputable abbrev nAftC : List Str := ["place", "taken"]
theorem sc_aftC : CompSc (defScope s_around_after) nAft (lcS (arg0 (retE ((defBody s_around_after).getD 6 pass0S)))) nAftC [none, some 3] := ⟨rfl, by decide +kernel, by decide +kernel, by decide +kernel, rfl, by decide +kernel⟩
theorem nd_aftC : nAftC.Nodup := by decide +kernel
theorem ok_aft0 {f : Addr} {fd : FuncData} (F : Fun K "around_after" "around_after" s_around_after f fd) (O : Own mg) (DR : Def P w K mg base "check_ring" 2 ["ring"] spRing) (DS : Def P w K mg base "check_steps" 3 ["steps"] spSteps) (DC : Def P w K mg base "is_crowded" 1 ["ring"] spCrowd)
    (DA : Def P w K mg base "after" 4 ["cars", "steps"] spAfter) (DL : Def P w K mg base "two_laps" 1 ["ring"] spLaps) : FnOk P w K mg base CX0 5 f fd ["ring", "steps"] spAft0 := by
  refine F.ok sc_aft (fun vs H Q E h => ?_) (fun cdv A outer s H vs Q E hr h => ?_)
  · obtain ⟨n, s, t, rfl, _⟩ := h
    rfl
  · obtain ⟨n, s, t, rfl, h0, h9, per, hf, ht, k⟩ := h
    have nd := sc_aft.nd
    have hr1 : Room 1 _ := hr.mono (by decide)
    have hr2 : Room 2 _ := hr.mono (by decide)
    have hr3 : Room 3 _ := hr.mono (by decide)
    have hu := hu_of hr
    refine ⟨_, (pss_cons (ps_expr (pe_def DR hr2 (pa_cons (pv 0) pa_nil)))
 (pss_cons (ps_expr (pe_def DS hr3 (pa_cons (pv 1) pa_nil)))
 (pss_cons (ps_if (pt_val (pe_def DC hr1 (pa_cons (pv 0) pa_nil))) pss_never pss_nil)
 (pss_cons (ps_set (i := 2) nd rfl (Or.inl rfl) (pe_slice sl_list (pe_def DA hr (pa_cons (pe_def DL hr1 (pa_cons (pv 0) pa_nil)) (pa_cons (pv 1) pa_nil))) po_none (po_some (pe_bm PySem.F.plainAttrs_str PySem.F.slot_str_count PySem.F.type_str_count mt_count (pv 0) (pa_cons pe_str pa_nil)))))
 (pss_cons (ps_set (i := 3) nd rfl (Or.inr rfl) pe_dnewK)
 (pss_cons (ps_for PassesOwn.never rfl (pi_list (pv 2)) (pg_name (i := 4) nd rfl (Or.inl rfl)) (pss_one (ps_dput hu (pv 3) (pe_op op_mod (pv 4) (pe_callB call_len (by rfl) O.len PySem.boot_len (pa_cons (pv 0) pa_nil))) pe_bl rfl)))
 (pss_one (ps_ret (pe_bm PySem.F.plainAttrs_str PySem.F.slot_str_join PySem.F.type_str_join (mt_join K) pe_str (pa_cons (pe_comp rfl sc_aftC (pi_range1 (by rfl) O.range (pa_cons (pe_callB call_len (by rfl) O.len PySem.boot_len (pa_cons (pv 0) pa_nil)) pa_nil)) (fun _ _ _ _ _ => pg_name (i := 0) nd_aftC rfl (Or.inl rfl))
        (fun _ _ _ _ _ => pe_ifExp (pt_cmp (pc_din hu (pv 0) (pv 1))) pe_str pe_str)) pa_nil)))))))))), ?_⟩
    obtain ⟨ri, hl⟩ := rising_laps per h0 hf
    refine ⟨_, rfl, n, s, rfl, h0, h9, ?_⟩
    refine ⟨_, rfl, t, rfl, ht, ?_⟩
    refine ⟨_, rfl, n, s, rfl, h9, _, rfl, ?_⟩
    rw [decide_eq_false (show ¬ (n : Int) < 2 * (R.cars n s : Int) by (first | lia | omega))]
    refine iteF ?_
    -- moved
    refine ⟨_, rfl, n, s, rfl, h9, fun p1 H1 s1 hp1 hq1 => ?_⟩
    refine ⟨_, rfl, p1, _, t, rfl, hq1, ri, ht, by (first | lia | omega), fun p2 H2 s2 hp2 hq2 => ?_⟩
    refine ⟨_, rfl, rfl, _, _, rfl, rfl, _, rfl, p2, _, rfl, SqL.of hq2, fun p3 hp3 => ?_⟩
    rw [count_c, cutTo]
    have htk := fun p hp => taken_iff per h0 hf t.toNat (p := p) hp
    have lm : ((run t.toNat (R.laps n (R.plc s n))).take (R.cars n s)).length ≤ 400 := by rw [List.length_take]; (first | lia | omega)
    generalize (run t.toNat (R.laps n (R.plc s n))).take (R.cars n s) = mv at htk lm
    have s3 : Same H (upd H2 p3 (.lst (ivs mv))) := (s1.trans s2).trans (Same.new H2 hp3)
    have q3 : upd H2 p3 (.lst (ivs mv)) p3 = some (.lst (ivs mv)) := upd_same
    generalize upd H2 p3 (.lst (ivs mv)) = H3 at s3 q3
    -- taken
    intro d hd
    have hd0 : H d = none := s3.free hd
    have np : p3 ≠ d := ne_of_none q3 hd
    refine ⟨_, rfl, p3, rfl, ⟨_, SqL.of ((Same.new H3 hd).at q3)⟩, for_by (n := mv.length) (fun i σ H' => ∃ (kvs : List (Key × V)) (o : Option V), σ = [some (.str (tx n s)), some (.int t), some (.ref p3), some (.ref d), o] ∧ Same H3 H' ∧ H' d = some (.dK kvs) ∧ kvs.length ≤ i ∧ ∀ z : Int, (valV kvs (Sum.inl z : Key)).isSome = true ↔ ∃ x ∈ mv.take i, x % (n : Int) = z)
      ⟨[], none, rfl, Same.new H3 hd, upd_same, Nat.le_refl _, fun z => by simp [valV_nil]⟩ ?_ ?_ ?_ ?_⟩
    · rintro i σ H' hi ⟨_, _, _, sm, _⟩
      exact ⟨_, _, SqL.of (sm.at q3), ivs_get hi⟩
    · rintro σ H' ⟨_, _, _, sm, _⟩
      exact ⟨_, SqL.of (sm.at q3), by simp⟩
    · rintro i x σ H4 H5 hi ⟨kvs, o, rfl, sm, hd1, hk, hm⟩ y
      obtain ⟨rfl, rfl⟩ := itl_int (sm.at q3) hi y
      refine ⟨_, rfl, _, rfl, _, rfl, _, _, rfl, ⟨tx_line s (by (first | lia | omega)), rfl⟩, _, _, rfl, rfl, (by rw [tx_len]; (first | lia | omega)), d, _, rfl, DPut.k (k := Sum.inl (J.g mv i % ((tx n s).length : Int))) hd1 (small63 (by (first | lia | omega))), ?_⟩
      refine ⟨_, _, rfl, sm.upd hd, upd_same, Nat.le_trans (length_putK _ _ _) (by (first | lia | omega)), fun z => ?_⟩
      rw [valV_put, List.take_succ, J.g_get hi, tx_len]
      by_cases e : (Sum.inl z : Key) = Sum.inl (J.g mv i % (n : Int))
      · rw [if_pos e]
        exact ⟨fun _ => ⟨J.g mv i, by simp, (Sum.inl.inj e).symm⟩, fun _ => rfl⟩
      · rw [if_neg e, hm z]
        constructor
        · rintro ⟨x, hx, q⟩; exact ⟨x, List.mem_append_left _ hx, q⟩
        · rintro ⟨x, hx, q⟩
          rcases List.mem_append.mp hx with hx | hx
          · exact ⟨x, hx, q⟩
          · have : x = J.g mv i := by simpa using hx
            rw [this] at q
            exact absurd (congrArg Sum.inl q.symm) e
    · rintro σ H4 ⟨kvs, o, rfl, sm, hd1, hk, hm⟩
      rw [List.take_length] at hm
      refine ⟨rfl, _, rfl, _, _, rfl, ⟨tx_line s (by (first | lia | omega)), rfl⟩, _, rfl, (by rw [tx_len]; (first | lia | omega)), (by rw [tx_len]; (first | lia | omega)), ?_⟩
      have en : (((tx n s).length : Nat) : Int).toNat = n := by rw [tx_len]; (first | lia | omega)
      rw [en]
      refine fun D hD => comp_by (n := n) (fun i σ' H' => (∃ o, σ' = [o, some (.ref d)]) ∧ Same H4 H' ∧ H' D = some (.lst (sgsV (fun j => R.stps t.toNat s (j : Int)) i))) ⟨⟨_, rfl⟩, Same.new H4 hD, upd_same⟩ ?_ ?_ ?_ ?_
      · exact fun _ _ _ hi _ => hi
      · exact fun _ _ _ => Nat.le_refl _
      · rintro i x σ' H5 H6 hi ⟨⟨o, rfl⟩, sm2, hD'⟩ ⟨rfl, rfl⟩
        have e0 : (0 : Int) + (i : Int) = (i : Int) := by (first | lia | omega)
        rw [e0]
        refine ⟨_, rfl, _, rfl, d, _, rfl, DGet.k (k := Sum.inl (i : Int)) (sm2.at hd1), _, rfl, ?_⟩
        have hv : (valV kvs (Sum.inl (i : Int) : Key)).isSome = R.stps t.toNat s (i : Int) := by
          rw [Bool.eq_iff_iff, hm, htk i hi]
        rw [hv]
        have fin : ∀ v : Str, v = sign (R.stps t.toNat s (i : Int)) → ∃ xs, H6 D = some (.lst xs) ∧ xs.length < sizeLine ∧ (∃ o, ([some (V.int (i : Int)), some (.ref d)] : St) = [o, some (.ref d)]) ∧ Same H4 (upd H6 D (.lst (xs ++ [.str v]))) ∧ upd H6 D (.lst (xs ++ [.str v])) D = some (.lst (sgsV (fun j => R.stps t.toNat s (j : Int)) (i + 1))) := fun v e =>
          ⟨_, hD', by rw [sgsV_len]; exact small63 (by (first | lia | omega)), ⟨_, rfl⟩, sm2.upd hD, by rw [upd_same, sgsV_succ, e]⟩
        cases hb : R.stps t.toNat s (i : Int) with
        | true => exact iteT (fin _ (by rw [hb]; exact sign_t.symm))
        | false => exact iteF (fin _ (by rw [hb]; exact sign_f.symm))
      · rintro σ' H5 ⟨_, sm2, hD'⟩
        refine ⟨_, D, _, rfl, rfl, SqL.of hD', sgs_fit _ (by (first | lia | omega)), ?_⟩
        rw [join_tx n (R.stps t.toNat s)]
        exact k H5 (s3.trans (sm.trans sm2))
noncomputable def spAft : Sp := fun vs H Q _ => ∃ (n : Nat) (s : R.Rg) (t : Int), vs = [.str (tx n s), .int t] ∧ 0 < n ∧ n ≤ 400 ∧ R.Per n s ∧ 0 ≤ t ∧ ∀ H', Same H H' → Q (.str (tx n (R.stps t.toNat s))) H'
noncomputable def spAft1 : Sp := fun vs H Q _ => ∃ (n : Nat) (s : R.Rg) (t : Int), vs = [.str (tx n s), .int t] ∧ 0 < n ∧ n ≤ 400 ∧ R.Per n s ∧ n < 2 * R.cars n s ∧ 0 ≤ t ∧ ∀ H', Same H H' → Q (.str (tx n (R.stps t.toNat s))) H'
theorem ok_aft {f : Addr} {fd : FuncData} (F : Fun K "around_after" "around_after" s_around_after f fd) (O : Own mg) (DR : Def P w K mg base "check_ring" 2 ["ring"] spRing) (DS : Def P w K mg base "check_steps" 3 ["steps"] spSteps) (DC : Def P w K mg base "is_crowded" 1 ["ring"] spCrowd)
    (DX : Def P w K mg base "exchanged" 3 ["ring"] spExch) (D0 : Def P w K mg base "around_after" 5 ["ring", "steps"] spAft0) (F0 : FnOk P w K mg base CX0 5 f fd ["ring", "steps"] spAft0) : FnOk P w K mg base CX0 6 f fd ["ring", "steps"] spAft := by
  have F1 : FnOk P w K mg base CX0 6 f fd ["ring", "steps"] spAft1 := by
    refine F.ok sc_aft (fun vs H Q E h => ?_) (fun cdv A outer s H vs Q E hr h => ?_)
    · obtain ⟨n, s, t, rfl, _⟩ := h
      rfl
    · obtain ⟨n, s, t, rfl, h0, h9, per, hf, ht, k⟩ := h
      have nd := sc_aft.nd
      have hr1 : Room 1 _ := hr.mono (by decide)
      have hr2 : Room 2 _ := hr.mono (by decide)
      have hr3 : Room 3 _ := hr.mono (by decide)
      refine ⟨_, pss_cons (ps_expr (pe_def DR hr2 (pa_cons (pv 0) pa_nil))) (pss_cons (ps_expr (pe_def DS hr3 (pa_cons (pv 1) pa_nil)))
        (pss_cons (ps_if (pt_val (pe_def DC hr1 (pa_cons (pv 0) pa_nil))) (pss_one (ps_ret (pe_def DX hr3 (pa_cons (pe_def D0 hr (pa_cons (pe_def DX hr3 (pa_cons (pv 0) pa_nil)) (pa_cons (pv 1) pa_nil))) pa_nil)))) pss_nil) pss_never)), ?_⟩
      have ce := R.cars_ex1 per
      refine ⟨_, rfl, n, s, rfl, h0, h9, ?_⟩
      refine ⟨_, rfl, t, rfl, ht, ?_⟩
      refine ⟨_, rfl, n, s, rfl, h9, _, rfl, ?_⟩
      rw [decide_eq_true (show (n : Int) < 2 * (R.cars n s : Int) by (first | lia | omega))]
      refine iteT ?_
      refine ⟨_, rfl, n, s, rfl, h0, h9, per, fun H1 s1 => ?_⟩
      refine ⟨_, rfl, n, R.ex1 s, t, rfl, h0, h9, per.ex1, by (first | lia | omega), ht, fun H2 s2 => ?_⟩
      refine ⟨n, R.stps t.toNat (R.ex1 s), rfl, h0, h9, per.ex1.stps _, fun H3 s3 => ?_⟩
      rw [R.ex1_stps, R.ex1_ex1]
      exact k H3 ((s1.trans s2).trans s3)
  refine ((F0.mono (show 5 ≤ 6 by decide)).or F1).imp fun vs H Q E h => ?_
  obtain ⟨n, s, t, e, h0, h9, per, ht, k⟩ := h
  by_cases hf : 2 * R.cars n s ≤ n
  · exact .inl ⟨n, s, t, e, h0, h9, per, hf, ht, k⟩
  · exact .inr ⟨n, s, t, e, h0, h9, per, by (first | lia | omega), ht, k⟩
end
end JM

namespace JM
open PySem L2 J TX
section
variable {P : Program} {w : World} {K : PySem.W.Frag} {mg : Str → Option Value} {base : Heap}
noncomputable def spAround : Sp := fun vs H Q _ => ∃ (n : Nat) (s : R.Rg), vs = [.str (tx n s)] ∧ 0 < n ∧ n ≤ 400 ∧ R.Per n s ∧ ∀ H', Same H H' → Q (.str (tx n (R.stp s))) H'
theorem sc_around : FnScope ["ring"] ["ring"] (defScope s_around) := ⟨rfl, rfl, rfl, by decide +kernel, rfl, by decide +kernel, by decide +kernel⟩
theorem ok_around {f : Addr} {fd : FuncData} (F : Fun K "around" "around" s_around f fd) (DA : Def P w K mg base "around_after" 6 ["ring", "steps"] spAft) : FnOk P w K mg base CX0 7 f fd ["ring"] spAround := by
  refine F.ok sc_around (fun vs H Q E h => ?_) (fun cdv A outer s H vs Q E hr h => ?_)
  · obtain ⟨n, s, rfl, _⟩ := h
    rfl
  · obtain ⟨n, s, rfl, h0, h9, per, k⟩ := h
    refine ⟨_, (pss_one (ps_ret (pe_def DA hr (pa_cons (pv 0) (pa_cons pe_int pa_nil))))), ?_⟩
    exact ⟨_, rfl, n, s, 1, rfl, h0, h9, per, by decide, fun H' s' => k H' s'⟩
end
end JM

namespace JM
open PySem L2 J TX
section
variable {P : Program} {w : World} {K : PySem.W.Frag} {mg : Str → Option Value} {base : Heap}
noncomputable def spFlow : Sp := fun vs H Q _ => ∃ (n : Nat) (s : R.Rg) (t : Int), vs = [.str (tx n s), .int t] ∧ 0 < n ∧ n ≤ 400 ∧ R.Per n s ∧ 0 ≤ t ∧ ∀ H', Same H H' → Q (.int (R.flw n (R.stps t.toNat s) : Int)) H'
theorem sc_flow : FnScope ["ring", "steps", "now"] ["ring", "steps"] (defScope s_flow) := ⟨rfl, rfl, rfl, by decide +kernel, rfl, by decide +kernel, by decide +kernel⟩
theorem ok_flow {f : Addr} {fd : FuncData} (F : Fun K "flow" "flow" s_flow f fd) (DA : Def P w K mg base "around_after" 6 ["ring", "steps"] spAft) : FnOk P w K mg base CX0 7 f fd ["ring", "steps"] spFlow := by
  refine F.ok sc_flow (fun vs H Q E h => ?_) (fun cdv A outer s H vs Q E hr h => ?_)
  · obtain ⟨n, s, t, rfl, _⟩ := h
    rfl
  · obtain ⟨n, s, t, rfl, h0, h9, per, ht, k⟩ := h
    have nd := sc_flow.nd
    refine ⟨_, (pss_cons (ps_set (i := 2) nd rfl (Or.inl rfl) (pe_def DA hr (pa_cons (pv 0) (pa_cons (pv 1) pa_nil))))
 (pss_one (ps_ret (pe_bm PySem.F.plainAttrs_str PySem.F.slot_str_count PySem.F.type_str_count mt_count (pe_op op_add_str (pv 2) (pe_ix ix_str (pv 2) pe_int (fun _ _ => rfl))) (pa_cons pe_str pa_nil))))), ?_⟩
    refine ⟨_, rfl, _, rfl, n, s, t, rfl, h0, h9, per, ht, fun H1 s1 => ?_⟩
    have per' := per.stps t.toNat
    have kk := k H1 s1
    generalize R.stps t.toNat s = u at per' kk
    refine ⟨_, rfl, _, rfl, _, _, _, rfl, rfl, tx_line u (by (first | lia | omega)), at_nat (i := 0) h0, _, _, rfl, rfl, (by
      rw [tx_len]
      exact le63 (show n + 1 ≤ 900 by (first | lia | omega))), rfl, _, _, rfl, rfl, ?_⟩
    have e := count_flow per'
    have e2 : Txt.count (tx n u ++ (⟨#[ch (u ((0 : Nat) : Int))]⟩ : Str)) (Str.ofString "c.") = (R.flw n u : Int) := e
    rw [e2]
    exact kk
end
end JM

namespace JM
open PySem L2 J TX
section
variable {P : Program} {w : World} {K : PySem.W.Frag} {mg : Str → Option Value} {base : Heap}
noncomputable def spSet0 : Sp := fun vs H Q _ => ∃ (n : Nat) (s : R.Rg), vs = [.str (tx n s)] ∧ 0 < n ∧ n ≤ 400 ∧ R.Per n s ∧ 2 * R.cars n s ≤ n ∧ ∀ (m : Nat) (H' : Hp), Same H H' → R.Settles n s m → Q (.int (m : Int)) H'
noncomputable def spSet1 : Sp := fun vs H Q _ => ∃ (n : Nat) (s : R.Rg), vs = [.str (tx n s)] ∧ 0 < n ∧ n ≤ 400 ∧ R.Per n s ∧ n < 2 * R.cars n s ∧ ∀ (m : Nat) (H' : Hp), Same H H' → R.Settles n s m → Q (.int (m : Int)) H'
noncomputable def spSettled : Sp := fun vs H Q _ => ∃ (n : Nat) (s : R.Rg), vs = [.str (tx n s)] ∧ 0 < n ∧ n ≤ 400 ∧ R.Per n s ∧ ∀ (m : Nat) (H' : Hp), Same H H' → R.Settles n s m → Q (.int (m : Int)) H'
theorem sc_settled : FnScope ["ring"] ["ring"] (defScope s_settled) := ⟨rfl, rfl, rfl, by decide +kernel, rfl, by decide +kernel, by decide +kernel⟩
theorem settles_max {n : Nat} {s : R.Rg} (per : R.Per n s) (h0 : 0 < n) (hf : 2 * R.cars n s ≤ n) {m : Int} (hm : m ∈ (freeF (R.laps n (R.plc s n))).take (R.cars n s)) (hx : ∀ a ∈ (freeF (R.laps n (R.plc s n))).take (R.cars n s), a ≤ m) : ∃ k : Nat, m = k ∧ R.Settles n s k := by
  obtain ⟨ri, hl⟩ := rising_laps per h0 hf
  have hk : 0 < R.cars n s := by
    have := List.length_pos_of_mem hm
    rw [List.length_take] at this; (first | lia | omega)
  obtain ⟨T, o⟩ := R.two_of per h0 hk rfl hf
  have lf : (freeF (R.laps n (R.plc s n))).length = 2 * R.cars n s := by unfold freeF; rw [LF_len, hl]
  have get : ∀ i, i < R.cars n s → ((freeF (R.laps n (R.plc s n))).take (R.cars n s))[i]? = some (free (R.laps n (R.plc s n)) i (2 * R.cars n s)) := fun i hi => by
    rw [List.getElem?_take_of_lt hi, g_get (by (first | lia | omega))]
    congr 1
    have := LF_g (n := (R.laps n (R.plc s n)).length) (f := fun i => free (R.laps n (R.plc s n)) i (R.laps n (R.plc s n)).length) (i := i) (by (first | lia | omega))
    rw [hl] at this
    unfold freeF
    rw [hl]
    exact this
  obtain ⟨i, hi⟩ := List.mem_iff_getElem?.mp hm
  have hik : i < R.cars n s := by
    have := (List.getElem?_eq_some_iff.mp hi).1
    rw [List.length_take] at this; (first | lia | omega)
  rw [get i hik] at hi
  have ei := Option.some.inj hi
  have nn := free_nn (R.laps n (R.plc s n)) i (2 * R.cars n s)
  refine ⟨m.toNat, by (first | lia | omega), T.settles hk o per h0 hf ⟨i, hik, by (first | lia | omega)⟩ fun j hj => ?_⟩
  have := hx _ (List.mem_iff_getElem?.mpr ⟨j, get j hj⟩)
  (first | lia | omega)
theorem ok_set0 {f : Addr} {fd : FuncData} (F : Fun K "settled" "settled" s_settled f fd) (O : Own mg) (DR : Def P w K mg base "check_ring" 2 ["ring"] spRing) (DC : Def P w K mg base "is_crowded" 1 ["ring"] spCrowd)
    (DF : Def P w K mg base "free_from" 4 ["cars"] spFree) (DL : Def P w K mg base "two_laps" 1 ["ring"] spLaps) : FnOk P w K mg base CX0 5 f fd ["ring"] spSet0 := by
  refine F.ok sc_settled (fun vs H Q E h => ?_) (fun cdv A outer s H vs Q E hr h => ?_)
  · obtain ⟨n, s, rfl, _⟩ := h
    rfl
  · obtain ⟨n, s, rfl, h0, h9, per, hf, k⟩ := h
    have hr1 : Room 1 _ := hr.mono (by decide)
    have hr2 : Room 2 _ := hr.mono (by decide)
    refine ⟨_, (pss_cons (ps_expr (pe_def DR hr2 (pa_cons (pv 0) pa_nil)))
 (pss_cons (ps_if (pt_val (pe_def DC hr1 (pa_cons (pv 0) pa_nil))) pss_never pss_nil)
 (pss_one (ps_ret (pe_maxD rfl (by rfl) O.max (pa_cons (pe_slice sl_list (pe_def DF hr (pa_cons (pe_def DL hr1 (pa_cons (pv 0) pa_nil)) pa_nil)) po_none (po_some (pe_bm PySem.F.plainAttrs_str PySem.F.slot_str_count PySem.F.type_str_count mt_count (pv 0) (pa_cons pe_str pa_nil)))) pa_nil) pe_int))))), ?_⟩
    obtain ⟨ri, hl⟩ := rising_laps per h0 hf
    refine ⟨_, rfl, n, s, rfl, h0, h9, ?_⟩
    refine ⟨_, rfl, n, s, rfl, h9, _, rfl, ?_⟩
    rw [decide_eq_false (show ¬ (n : Int) < 2 * (R.cars n s : Int) by (first | lia | omega))]
    refine iteF ?_
    refine ⟨_, rfl, n, s, rfl, h9, fun p1 H1 s1 hp1 hq1 => ?_⟩
    refine ⟨p1, _, rfl, hq1, ri, by (first | lia | omega), fun p2 H2 s2 hp2 hq2 => ?_⟩
    refine ⟨_, rfl, rfl, _, _, rfl, rfl, _, rfl, p2, _, rfl, SqL.of hq2, fun p3 hp3 => ?_⟩
    rw [count_c, cutTo]
    refine ⟨p3, _, 0, rfl, rfl, SqL.of upd_same, fun e => ?_, fun m h1 h2 => ?_⟩
    · have hz : R.cars n s = 0 := by
        have := congrArg List.length e
        rw [List.length_take] at this
        unfold freeF at this
        rw [LF_len, hl] at this
        have : min (R.cars n s) (2 * R.cars n s) = 0 := this
        (first | lia | omega)
      exact k 0 _ ((s1.trans s2).trans (Same.new H2 hp3)) (R.settles_none per h0 hz)
    · obtain ⟨q, rfl, hs⟩ := settles_max per h0 hf h1 h2
      exact k q _ ((s1.trans s2).trans (Same.new H2 hp3)) hs
theorem ok_settled {f : Addr} {fd : FuncData} (F : Fun K "settled" "settled" s_settled f fd) (DR : Def P w K mg base "check_ring" 2 ["ring"] spRing) (DC : Def P w K mg base "is_crowded" 1 ["ring"] spCrowd)
    (DX : Def P w K mg base "exchanged" 3 ["ring"] spExch) (D0 : Def P w K mg base "settled" 5 ["ring"] spSet0) (F0 : FnOk P w K mg base CX0 5 f fd ["ring"] spSet0) : FnOk P w K mg base CX0 6 f fd ["ring"] spSettled := by
  have F1 : FnOk P w K mg base CX0 6 f fd ["ring"] spSet1 := by
    refine F.ok sc_settled (fun vs H Q E h => ?_) (fun cdv A outer s H vs Q E hr h => ?_)
    · obtain ⟨n, s, rfl, _⟩ := h
      rfl
    · obtain ⟨n, s, rfl, h0, h9, per, hf, k⟩ := h
      have hr1 : Room 1 _ := hr.mono (by decide)
      have hr2 : Room 2 _ := hr.mono (by decide)
      have hr3 : Room 3 _ := hr.mono (by decide)
      refine ⟨_, pss_cons (ps_expr (pe_def DR hr2 (pa_cons (pv 0) pa_nil)))
        (pss_cons (ps_if (pt_val (pe_def DC hr1 (pa_cons (pv 0) pa_nil))) (pss_one (ps_ret (pe_def D0 hr (pa_cons (pe_def DX hr3 (pa_cons (pv 0) pa_nil)) pa_nil)))) pss_nil) pss_never), ?_⟩
      have ce := R.cars_ex1 per
      refine ⟨_, rfl, n, s, rfl, h0, h9, ?_⟩
      refine ⟨_, rfl, n, s, rfl, h9, _, rfl, ?_⟩
      rw [decide_eq_true (show (n : Int) < 2 * (R.cars n s : Int) by (first | lia | omega))]
      refine iteT ?_
      refine ⟨_, rfl, n, s, rfl, h0, h9, per, fun H1 s1 => ?_⟩
      exact ⟨n, R.ex1 s, rfl, h0, h9, per.ex1, by (first | lia | omega), fun m H2 s2 hs => k m H2 (s1.trans s2) (hs.ex1 per h0)⟩
  refine ((F0.mono (show 5 ≤ 6 by decide)).or F1).imp fun vs H Q E h => ?_
  obtain ⟨n, s, e, h0, h9, per, k⟩ := h
  by_cases hf : 2 * R.cars n s ≤ n
  · exact .inl ⟨n, s, e, h0, h9, per, hf, k⟩
  · exact .inr ⟨n, s, e, h0, h9, per, by (first | lia | omega), k⟩
end
end JM

namespace JM
open PySem L2 J TX
noncomputable def Bad (C : Addr) (H : Hp) (E : XK) : Prop := ∀ H', Same H H' → E (.ref C) none H'
theorem Bad.same {C : Addr} {H H1 : Hp} {E : XK} (b : Bad C H E) (s : Same H H1) : Bad C H1 E := fun H' s' => b H' (s.trans s')
structure BadL (H : Hp) (x : V) : Prop where
  kd : Kd H x
  el : ∀ a xs, x = .ref a → H a = some (.lst xs) → xs.length ≤ 900 ∧ ∀ y ∈ xs, Kd H y
  no : okCars H x = false
structure BadR (H : Hp) (x : V) : Prop where
  kd : Kd H x
  sz : ∀ z, x = .str z → z.length ≤ sizeLine
  no : isRing x = false
section
variable {P : Program} {w : World} {K : PySem.W.Frag} {mg : Str → Option Value} {base : Heap} {CC C1 CS CR : Addr}
noncomputable def xpCars (C : Addr) : Sp := fun vs H _ E => ∃ x, vs = [x] ∧ BadL H x ∧ Bad C H E
theorem ok_xcars {f : Addr} {fd : FuncData} (F : Fun K "check_cars" "check_cars" s_check_cars f fd) (hq : ExcK K CC) (hm : mg "BadCars" = some (.ref CC)) (DA : Def P w K mg base "are_cars" 2 ["cars"] spAre) : FnOk P w K mg base (CXE P w) 3 f fd ["cars"] (xpCars CC) := by
  refine F.okE sc_check_cars (fun vs H Q E h => ?_) (fun cdv A outer s H vs Q E hr h => ?_)
  · obtain ⟨x, rfl, _⟩ := h
    rfl
  · obtain ⟨x, rfl, b, k⟩ := h
    refine ⟨_, pss_one (ps_if (pt_not (pt_val (pe_def DA hr (pa_cons (pv 0) pa_nil)))) (pss_one (ps_raise hq hm (pa_cons pe_str pa_nil))) pss_nil), ?_⟩
    refine ⟨_, rfl, x, rfl, b.kd, b.el, fun H1 s1 => ⟨_, rfl, ?_⟩⟩
    rw [b.no]
    exact iteT ⟨by decide, k H1 s1⟩
noncomputable def xpSteps (C : Addr) : Sp := fun vs H _ E => ∃ x, vs = [x] ∧ Kd H x ∧ isCnt x = false ∧ Bad C H E
theorem ok_xsteps {f : Addr} {fd : FuncData} (F : Fun K "check_steps" "check_steps" s_check_steps f fd) (hq : ExcK K CS) (hm : mg "BadSteps" = some (.ref CS)) (DC : Def P w K mg base "is_count" 2 ["steps"] spCount) : FnOk P w K mg base (CXE P w) 3 f fd ["steps"] (xpSteps CS) := by
  refine F.okE sc_check_steps (fun vs H Q E h => ?_) (fun cdv A outer s H vs Q E hr h => ?_)
  · obtain ⟨x, rfl, _⟩ := h
    rfl
  · obtain ⟨x, rfl, hk, b, k⟩ := h
    refine ⟨_, pss_one (ps_if (pt_not (pt_val (pe_def DC hr (pa_cons (pv 0) pa_nil)))) (pss_one (ps_raise hq hm (pa_cons pe_str pa_nil))) pss_nil), ?_⟩
    refine ⟨_, rfl, x, rfl, hk, _, rfl, ?_⟩
    rw [b]
    exact iteT ⟨by decide, k H (Same.refl H)⟩
noncomputable def xpCar (C : Addr) : Sp := fun vs H _ E => ∃ (a : Addr) (xs : List V) (x : V), vs = [.ref a, x] ∧ H a = some (.lst xs) ∧ Kd H x ∧ isCar xs.length x = false ∧ Bad C H E
theorem ok_xcar {f : Addr} {fd : FuncData} (F : Fun K "check_car" "check_car" s_check_car f fd) (hq : ExcK K C1) (hm : mg "BadCar" = some (.ref C1)) (DI : Def P w K mg base "is_car" 2 ["cars", "car"] spIsCar) : FnOk P w K mg base (CXE P w) 3 f fd ["cars", "car"] (xpCar C1) := by
  refine F.okE sc_check_car (fun vs H Q E h => ?_) (fun cdv A outer s H vs Q E hr h => ?_)
  · obtain ⟨a, xs, x, rfl, _⟩ := h
    rfl
  · obtain ⟨a, xs, x, rfl, ha, hk, b, k⟩ := h
    refine ⟨_, pss_one (ps_if (pt_not (pt_val (pe_def DI hr (pa_cons (pv 0) (pa_cons (pv 1) pa_nil))))) (pss_one (ps_raise hq hm (pa_cons pe_str pa_nil))) pss_nil), ?_⟩
    refine ⟨_, rfl, _, rfl, a, xs, x, rfl, ha, hk, _, rfl, ?_⟩
    rw [b]
    exact iteT ⟨by decide, k H (Same.refl H)⟩
noncomputable def xpFront (C : Addr) : Sp := fun vs H _ E => ∃ (a : Addr) (xs : List V) (x : V), vs = [.ref a, x] ∧ H a = some (.lst xs) ∧ Kd H x ∧ isFront xs.length x = false ∧ Bad C H E
theorem ok_xfront {f : Addr} {fd : FuncData} (F : Fun K "check_has_one_in_front" "check_has_one_in_front" s_check_has_one_in_front f fd) (hq : ExcK K C1) (hm : mg "BadCar" = some (.ref C1)) (DI : Def P w K mg base "has_one_in_front" 3 ["cars", "car"] spFront) :
    FnOk P w K mg base (CXE P w) 4 f fd ["cars", "car"] (xpFront C1) := by
  refine F.okE sc_chkF (fun vs H Q E h => ?_) (fun cdv A outer s H vs Q E hr h => ?_)
  · obtain ⟨a, xs, x, rfl, _⟩ := h
    rfl
  · obtain ⟨a, xs, x, rfl, ha, hk, b, k⟩ := h
    refine ⟨_, pss_one (ps_if (pt_not (pt_val (pe_def DI hr (pa_cons (pv 0) (pa_cons (pv 1) pa_nil))))) (pss_one (ps_raise hq hm (pa_cons pe_str pa_nil))) pss_nil), ?_⟩
    refine ⟨_, rfl, _, rfl, a, xs, x, rfl, ha, hk, _, rfl, ?_⟩
    rw [b]
    exact iteT ⟨by decide, k H (Same.refl H)⟩
noncomputable def xpRing (C : Addr) : Sp := fun vs H _ E => ∃ x, vs = [x] ∧ BadR H x ∧ Bad C H E
theorem ok_xring {f : Addr} {fd : FuncData} (F : Fun K "check_ring" "check_ring" s_check_ring f fd) (hq : ExcK K CR) (hm : mg "BadRing" = some (.ref CR)) (DR : Def P w K mg base "is_ring" 1 ["ring"] spIsRing) : FnOk P w K mg base (CXE P w) 2 f fd ["ring"] (xpRing CR) := by
  refine F.okE sc_check_ring (fun vs H Q E h => ?_) (fun cdv A outer s H vs Q E hr h => ?_)
  · obtain ⟨x, rfl, _⟩ := h
    rfl
  · obtain ⟨x, rfl, b, k⟩ := h
    refine ⟨_, pss_one (ps_if (pt_not (pt_val (pe_def DR hr (pa_cons (pv 0) pa_nil)))) (pss_one (ps_raise hq hm (pa_cons pe_str pa_nil))) pss_nil), ?_⟩
    refine ⟨_, rfl, x, rfl, b.kd, b.sz, _, rfl, ?_⟩
    rw [b.no]
    exact iteT ⟨by decide, k H (Same.refl H)⟩
noncomputable def Cars (H : Hp) (a : Addr) (ns : List Int) : Prop := H a = some (.lst (ivs ns)) ∧ Rising ns ∧ ns.length ≤ 900
theorem Cars.same {H H' : Hp} {a : Addr} {ns : List Int} (h : Cars H a ns) (s : Same H H') : Cars H' a ns := ⟨s.at h.1, h.2⟩
noncomputable def xpAfter (CC CS : Addr) : Sp := fun vs H _ E => (∃ x y, vs = [x, y] ∧ BadL H x ∧ Bad CC H E) ∨ ∃ a ns y, vs = [.ref a, y] ∧ Cars H a ns ∧ Kd H y ∧ isCnt y = false ∧ Bad CS H E
theorem ok_xafter {f : Addr} {fd : FuncData} (F : Fun K "after" "after" s_after f fd) (DC : Def P w K mg base "check_cars" 3 ["cars"] spCars) (XC : DefE P w K mg base "check_cars" 3 ["cars"] (xpCars CC)) (XS : DefE P w K mg base "check_steps" 3 ["steps"] (xpSteps CS)) :
    FnOk P w K mg base (CXE P w) 4 f fd ["cars", "steps"] (xpAfter CC CS) := by
  refine F.okE sc_after (fun vs H Q E h => ?_) (fun cdv A outer s H vs Q E hr h => ?_)
  · rcases h with ⟨x, y, rfl, _⟩ | ⟨a, ns, y, rfl, _⟩
    · rfl
    · rfl
  · rcases h with ⟨x, y, rfl, b, k⟩ | ⟨a, ns, y, rfl, hc, hk, b, k⟩
    · refine ⟨_, pss_stop (ps_expr (pe_defE XC hr passE (pa_cons (pv 0) pa_nil))), ?_⟩
      exact ⟨_, rfl, x, rfl, b, k⟩
    · refine ⟨_, pss_cons (ps_expr (pe_def DC hr (pa_cons (pv 0) pa_nil))) (pss_stop (ps_expr (pe_defE XS hr passE (pa_cons (pv 1) pa_nil)))), ?_⟩
      exact ⟨_, rfl, a, ns, rfl, hc.1, hc.2.1, hc.2.2, fun H1 s1 => ⟨_, rfl, y, rfl, hk.same s1, b, k.same s1⟩⟩
noncomputable def xpOne (C : Addr) : Sp := fun vs H _ E => ∃ x, vs = [x] ∧ BadL H x ∧ Bad C H E
theorem ok_xstepped {f : Addr} {fd : FuncData} (F : Fun K "stepped" "stepped" s_stepped f fd) (XA : DefE P w K mg base "after" 4 ["cars", "steps"] (xpAfter CC CS)) : FnOk P w K mg base (CXE P w) 5 f fd ["cars"] (xpOne CC) := by
  refine F.okE sc_stepped (fun vs H Q E h => ?_) (fun cdv A outer s H vs Q E hr h => ?_)
  · obtain ⟨x, rfl, _⟩ := h
    rfl
  · obtain ⟨x, rfl, b, k⟩ := h
    refine ⟨_, pss_one (ps_ret (pe_defE XA hr passE (pa_cons (pv 0) (pa_cons pe_int pa_nil)))), ?_⟩
    exact ⟨_, rfl, .inl ⟨x, _, rfl, b, k⟩⟩
theorem ok_xdelays {f : Addr} {fd : FuncData} (F : Fun K "delays" "delays" s_delays f fd) (XC : DefE P w K mg base "check_cars" 3 ["cars"] (xpCars CC)) : FnOk P w K mg base (CXE P w) 4 f fd ["cars"] (xpOne CC) := by
  refine F.okE sc_delays (fun vs H Q E h => ?_) (fun cdv A outer s H vs Q E hr h => ?_)
  · obtain ⟨x, rfl, _⟩ := h
    rfl
  · obtain ⟨x, rfl, b, k⟩ := h
    refine ⟨_, pss_stop (ps_expr (pe_defE XC hr passE (pa_cons (pv 0) pa_nil))), ?_⟩
    exact ⟨_, rfl, x, rfl, b, k⟩
theorem ok_xfree {f : Addr} {fd : FuncData} (F : Fun K "free_from" "free_from" s_free_from f fd) (XC : DefE P w K mg base "check_cars" 3 ["cars"] (xpCars CC)) : FnOk P w K mg base (CXE P w) 4 f fd ["cars"] (xpOne CC) := by
  refine F.okE sc_free (fun vs H Q E h => ?_) (fun cdv A outer s H vs Q E hr h => ?_)
  · obtain ⟨x, rfl, _⟩ := h
    rfl
  · obtain ⟨x, rfl, b, k⟩ := h
    refine ⟨_, pss_stop (ps_expr (pe_defE XC hr passE (pa_cons (pv 0) pa_nil))), ?_⟩
    exact ⟨_, rfl, x, rfl, b, k⟩
noncomputable def xpHeld (CC C1 CS : Addr) : Sp := fun vs H _ E => (∃ x y z, vs = [x, y, z] ∧ BadL H x ∧ Bad CC H E) ∨ (∃ a ns y z, vs = [.ref a, y, z] ∧ Cars H a ns ∧ Kd H y ∧ isCar ns.length y = false ∧ Bad C1 H E) ∨
  ∃ a ns c z, vs = [.ref a, .int ((c : Nat) : Int), z] ∧ Cars H a ns ∧ c < ns.length ∧ Kd H z ∧ isCnt z = false ∧ Bad CS H E
theorem ok_xheld {f : Addr} {fd : FuncData} (F : Fun K "held" "held" s_held f fd) (DC : Def P w K mg base "check_cars" 3 ["cars"] spCars) (DI : Def P w K mg base "check_car" 3 ["cars", "car"] spChkCar) (XC : DefE P w K mg base "check_cars" 3 ["cars"] (xpCars CC))
    (XI : DefE P w K mg base "check_car" 3 ["cars", "car"] (xpCar C1)) (XS : DefE P w K mg base "check_steps" 3 ["steps"] (xpSteps CS)) : FnOk P w K mg base (CXE P w) 4 f fd ["cars", "car", "steps"] (xpHeld CC C1 CS) := by
  refine F.okE sc_held (fun vs H Q E h => ?_) (fun cdv A outer s H vs Q E hr h => ?_)
  · rcases h with ⟨x, y, z, rfl, _⟩ | ⟨a, ns, y, z, rfl, _⟩ | ⟨a, ns, c, z, rfl, _⟩ <;> rfl
  · rcases h with ⟨x, y, z, rfl, b, k⟩ | ⟨a, ns, y, z, rfl, hc, hk, b, k⟩ | ⟨a, ns, c, z, rfl, hc, hlt, hk, b, k⟩
    · refine ⟨_, pss_stop (ps_expr (pe_defE XC hr passE (pa_cons (pv 0) pa_nil))), ?_⟩
      exact ⟨_, rfl, x, rfl, b, k⟩
    · refine ⟨_, pss_cons (ps_expr (pe_def DC hr (pa_cons (pv 0) pa_nil))) (pss_stop (ps_expr (pe_defE XI hr passE (pa_cons (pv 0) (pa_cons (pv 1) pa_nil))))), ?_⟩
      refine ⟨_, rfl, a, ns, rfl, hc.1, hc.2.1, hc.2.2, fun H1 s1 => ⟨_, rfl, _, rfl, a, _, y, rfl, s1.at hc.1, hk.same s1, ?_, k.same s1⟩⟩
      simpa [ivs] using b
    · refine ⟨_, pss_cons (ps_expr (pe_def DC hr (pa_cons (pv 0) pa_nil))) (pss_cons (ps_expr (pe_def DI hr (pa_cons (pv 0) (pa_cons (pv 1) pa_nil)))) (pss_stop (ps_expr (pe_defE XS hr passE (pa_cons (pv 2) pa_nil))))), ?_⟩
      exact ⟨_, rfl, a, ns, rfl, hc.1, hc.2.1, hc.2.2, fun H1 s1 => ⟨_, rfl, _, rfl, a, ns, c, rfl, s1.at hc.1, hlt, ⟨_, rfl, z, rfl, hk.same s1, b, k.same s1⟩⟩⟩
noncomputable def xpTouches (CC C1 : Addr) : Sp := fun vs H _ E => (∃ x y, vs = [x, y] ∧ BadL H x ∧ Bad CC H E) ∨ ∃ a ns y, vs = [.ref a, y] ∧ Cars H a ns ∧ Kd H y ∧ isFront ns.length y = false ∧ Bad C1 H E
theorem ok_xtouches {f : Addr} {fd : FuncData} (F : Fun K "touches" "touches" s_touches f fd) (DC : Def P w K mg base "check_cars" 3 ["cars"] spCars) (XC : DefE P w K mg base "check_cars" 3 ["cars"] (xpCars CC))
    (XF : DefE P w K mg base "check_has_one_in_front" 4 ["cars", "car"] (xpFront C1)) : FnOk P w K mg base (CXE P w) 6 f fd ["cars", "car"] (xpTouches CC C1) := by
  refine F.okE sc_touches (fun vs H Q E h => ?_) (fun cdv A outer s H vs Q E hr h => ?_)
  · rcases h with ⟨x, y, rfl, _⟩ | ⟨a, ns, y, rfl, _⟩ <;> rfl
  · have hr4 : Room 4 _ := hr.mono (by decide)
    have hr3 : Room 3 _ := hr.mono (by decide)
    rcases h with ⟨x, y, rfl, b, k⟩ | ⟨a, ns, y, rfl, hc, hk, b, k⟩
    · refine ⟨_, pss_stop (ps_expr (pe_defE XC hr3 passE (pa_cons (pv 0) pa_nil))), ?_⟩
      exact ⟨_, rfl, x, rfl, b, k⟩
    · refine ⟨_, pss_cons (ps_expr (pe_def DC hr3 (pa_cons (pv 0) pa_nil))) (pss_stop (ps_expr (pe_defE XF hr4 passE (pa_cons (pv 0) (pa_cons (pv 1) pa_nil))))), ?_⟩
      refine ⟨_, rfl, a, ns, rfl, hc.1, hc.2.1, hc.2.2, fun H1 s1 => ⟨_, rfl, _, rfl, a, _, y, rfl, s1.at hc.1, hk.same s1, ?_, k.same s1⟩⟩
      simpa [ivs] using b
noncomputable def xpRg (C : Addr) : Sp := fun vs H _ E => ∃ x, vs = [x] ∧ BadR H x ∧ Bad C H E
theorem ok_xexch {f : Addr} {fd : FuncData} (F : Fun K "exchanged" "exchanged" s_exchanged f fd) (XR : DefE P w K mg base "check_ring" 2 ["ring"] (xpRing CR)) : FnOk P w K mg base (CXE P w) 3 f fd ["ring"] (xpRg CR) := by
  refine F.okE sc_exch (fun vs H Q E h => ?_) (fun cdv A outer s H vs Q E hr h => ?_)
  · obtain ⟨x, rfl, _⟩ := h
    rfl
  · obtain ⟨x, rfl, b, k⟩ := h
    refine ⟨_, pss_stop (ps_expr (pe_defE XR hr passE (pa_cons (pv 0) pa_nil))), ?_⟩
    exact ⟨_, rfl, x, rfl, b, k⟩
theorem ok_xsettled {f : Addr} {fd : FuncData} (F : Fun K "settled" "settled" s_settled f fd) (XR : DefE P w K mg base "check_ring" 2 ["ring"] (xpRing CR)) : FnOk P w K mg base (CXE P w) 3 f fd ["ring"] (xpRg CR) := by
  refine F.okE sc_settled (fun vs H Q E h => ?_) (fun cdv A outer s H vs Q E hr h => ?_)
  · obtain ⟨x, rfl, _⟩ := h
    rfl
  · obtain ⟨x, rfl, b, k⟩ := h
    refine ⟨_, pss_stop (ps_expr (pe_defE XR hr passE (pa_cons (pv 0) pa_nil))), ?_⟩
    exact ⟨_, rfl, x, rfl, b, k⟩
noncomputable def xpAft (CR CS : Addr) : Sp := fun vs H _ E => (∃ x y, vs = [x, y] ∧ BadR H x ∧ Bad CR H E) ∨ ∃ (n : Nat) (r : R.Rg) (y : V), vs = [.str (tx n r), y] ∧ 0 < n ∧ n ≤ 400 ∧ Kd H y ∧ isCnt y = false ∧ Bad CS H E
theorem ok_xaft {f : Addr} {fd : FuncData} (F : Fun K "around_after" "around_after" s_around_after f fd) (DR : Def P w K mg base "check_ring" 2 ["ring"] spRing) (XR : DefE P w K mg base "check_ring" 2 ["ring"] (xpRing CR)) (XS : DefE P w K mg base "check_steps" 3 ["steps"] (xpSteps CS)) :
    FnOk P w K mg base (CXE P w) 5 f fd ["ring", "steps"] (xpAft CR CS) := by
  refine F.okE sc_aft (fun vs H Q E h => ?_) (fun cdv A outer s H vs Q E hr h => ?_)
  · rcases h with ⟨x, y, rfl, _⟩ | ⟨n, r, y, rfl, _⟩ <;> rfl
  · have hr2 : Room 2 _ := hr.mono (by decide)
    have hr3 : Room 3 _ := hr.mono (by decide)
    rcases h with ⟨x, y, rfl, b, k⟩ | ⟨n, r, y, rfl, h0, h4, hk, b, k⟩
    · refine ⟨_, pss_stop (ps_expr (pe_defE XR hr2 passE (pa_cons (pv 0) pa_nil))), ?_⟩
      exact ⟨_, rfl, x, rfl, b, k⟩
    · refine ⟨_, pss_cons (ps_expr (pe_def DR hr2 (pa_cons (pv 0) pa_nil))) (pss_stop (ps_expr (pe_defE XS hr3 passE (pa_cons (pv 1) pa_nil)))), ?_⟩
      exact ⟨_, rfl, n, r, rfl, h0, h4, ⟨_, rfl, y, rfl, hk, b, k⟩⟩
theorem ok_xaround {f : Addr} {fd : FuncData} (F : Fun K "around" "around" s_around f fd) (XA : DefE P w K mg base "around_after" 5 ["ring", "steps"] (xpAft CR CS)) : FnOk P w K mg base (CXE P w) 6 f fd ["ring"] (xpRg CR) := by
  refine F.okE sc_around (fun vs H Q E h => ?_) (fun cdv A outer s H vs Q E hr h => ?_)
  · obtain ⟨x, rfl, _⟩ := h
    rfl
  · obtain ⟨x, rfl, b, k⟩ := h
    refine ⟨_, pss_one (ps_ret (pe_defE XA hr passE (pa_cons (pv 0) (pa_cons pe_int pa_nil)))), ?_⟩
    exact ⟨_, rfl, .inl ⟨x, _, rfl, b, k⟩⟩
theorem ok_xflow {f : Addr} {fd : FuncData} (F : Fun K "flow" "flow" s_flow f fd) (XA : DefE P w K mg base "around_after" 5 ["ring", "steps"] (xpAft CR CS)) : FnOk P w K mg base (CXE P w) 6 f fd ["ring", "steps"] (xpAft CR CS) := by
  refine F.okE sc_flow (fun vs H Q E h => ?_) (fun cdv A outer s H vs Q E hr h => ?_)
  · rcases h with ⟨x, y, rfl, _⟩ | ⟨n, r, y, rfl, _⟩ <;> rfl
  · have nd := sc_flow.nd
    refine ⟨_, pss_stop (ps_set (i := 2) nd rfl (Or.inl rfl) (pe_defE XA hr passE (pa_cons (pv 0) (pa_cons (pv 1) pa_nil)))), ?_⟩
    rcases h with ⟨x, y, rfl, h⟩ | ⟨n, r, y, rfl, h⟩
    · exact ⟨_, rfl, _, rfl, .inl ⟨x, y, rfl, h⟩⟩
    · exact ⟨_, rfl, _, rfl, .inr ⟨n, r, y, rfl, h⟩⟩
end
end JM

namespace JM
open PySem L2 J TX
theorem badL_list {H : Hp} {p : Addr} {xs : List V} (h : H p = some (.lst xs)) (hl : xs.length ≤ 900) (ha : ∀ y ∈ xs, Kd H y) (no : (xs.all isW && riseB (xs.map intOf)) = false) : BadL H (.ref p) :=
  ⟨.inl ⟨xs, h⟩, (fun a ys e e' => by cases e; rw [h] at e'; cases e'; exact ⟨hl, ha⟩), by rw [okCars_l h]; exact no⟩
theorem badL_tup {H : Hp} {p : Addr} {xs : List V} (h : H p = some (.tup xs)) : BadL H (.ref p) :=
  ⟨.inr ⟨xs, h⟩, (fun a ys e e' => by cases e; rw [h] at e'; cases e'), by simp [okCars, h]⟩
theorem badL_ints {H : Hp} {p : Addr} {ns : List Int} (h : H p = some (.lst (ivs ns))) (hl : ns.length ≤ 900) (no : ¬ Rising ns) : BadL H (.ref p) := by
  refine badL_list h (by simpa [ivs] using hl) (fun y hy => ?_) ?_
  · obtain ⟨n, _, rfl⟩ := List.mem_map.mp hy
    exact True.intro
  · rw [map_intOf]
    cases e : riseB ns with
    | false => simp
    | true => exact absurd ((riseB_iff ns).mp e) no
theorem BadL.same {H H' : Hp} {x : V} (b : BadL H x) (s : Same H H') : BadL H' x := by
  cases x with
  | ref a =>
    rcases b.kd with ⟨xs, h⟩ | ⟨xs, h⟩
    · have e := b.el a xs rfl h
      have no := b.no
      rw [okCars_l h] at no
      exact badL_list (s.at h) e.1 (fun y hy => (e.2 y hy).same s) no
    · exact badL_tup (s.at h)
  | non => exact ⟨True.intro, (fun _ _ e => nomatch e), rfl⟩
  | bl z => exact ⟨True.intro, (fun _ _ e => nomatch e), rfl⟩
  | int z => exact ⟨True.intro, (fun _ _ e => nomatch e), rfl⟩
  | str z => exact ⟨True.intro, (fun _ _ e => nomatch e), rfl⟩
  | _ => exact b.kd.elim
section
variable {P : Program} {w : World} {K : PySem.W.Frag} {mg : Str → Option Value} {base : Heap} {CC C1 CS CR : Addr}
noncomputable def xpCA (C : Addr) : Sp := fun vs H _ E => ∃ (q m : Int), vs = [.int q, .int m] ∧ 0 ≤ m ∧ Bad C H E
noncomputable abbrev nCA : List Str := ["_law_which", "_law_more", "_law_bad", "_law_door"]
theorem sc_CA : FnScope nCA ["_law_which", "_law_more"] (defScope s_law_cars_asked) := ⟨rfl, rfl, rfl, by decide +kernel, rfl, by decide +kernel, by decide +kernel⟩
theorem ok_CA {f : Addr} {fd : FuncData} (F : Fun K "_law_cars_asked" "_law_cars_asked" s_law_cars_asked f fd) (XT : DefE P w K mg base "stepped" 5 ["cars"] (xpOne CC)) (XD : DefE P w K mg base "delays" 4 ["cars"] (xpOne CC)) (XF : DefE P w K mg base "free_from" 4 ["cars"] (xpOne CC))
    (XA : DefE P w K mg base "after" 4 ["cars", "steps"] (xpAfter CC CS)) (XH : DefE P w K mg base "held" 4 ["cars", "car", "steps"] (xpHeld CC C1 CS)) (XU : DefE P w K mg base "touches" 6 ["cars", "car"] (xpTouches CC C1)) :
    FnOk P w K mg base (CXE P w) 7 f fd ["_law_which", "_law_more"] (xpCA CC) := by
  refine F.okQ sc_CA (fun vs H Q E h => ?_) (fun cdv A outer s H vs Q E hr h => ?_)
  · obtain ⟨q, m, rfl, _⟩ := h
    rfl
  · obtain ⟨q, m, rfl, hm, k⟩ := h
    have nd := sc_CA.nd
    have hr4 : Room 4 _ := hr.mono (by decide)
    have hr5 : Room 5 _ := hr.mono (by decide)
    obtain ⟨f1, fd1, F1, m1, k1, b1⟩ := XT.ex
    obtain ⟨f2, fd2, F2, m2, k2, b2⟩ := XD.ex
    obtain ⟨f3, fd3, F3, m3, k3, b3⟩ := XF.ex
    refine ⟨_, qss_cons (qs_pick K (i := 2) nd rfl (Or.inl rfl) (qa_cons qe_non (qa_cons (qe_tup (qa_cons qe_int (qa_cons qe_int qa_nil))) (qa_cons qe_str (qa_cons qe_int (qa_cons (qe_lst (qa_cons qe_bl qa_nil)) (qa_cons (qe_lst (qa_cons qe_str qa_nil))
          (qa_cons (qe_lst (qa_cons qe_non qa_nil)) (qa_cons (qe_lst (qa_cons qe_int (qa_cons qe_int qa_nil))) (qa_cons (qe_lst (qa_cons ⟨pe_op op_add pe_int (pv 1)⟩ (qa_cons qe_int qa_nil))) (qa_cons (qe_lst (qa_cons qe_int (qa_cons qe_int (qa_cons ⟨pe_op op_sub pe_int (pv 1)⟩ qa_nil)))) qa_nil)))))))))) ⟨pe_op op_mod (pv 0) pe_int⟩ (fun _ _ => rfl)) (qss_of (pss_cons (ps_set (i := 3) nd rfl (Or.inl rfl) (pe_op op_mod (pe_op op_fdiv (pv 0) pe_int) pe_int))
 (pss_cons (ps_if (pt_cmpR op_lt (pv 3) pe_int (nomark _)) (pss_one (ps_ret (pe_callV (pe_ix (ix_listK K) (pe_lst (pa_cons (pe_glob (v := .ref f1) (by rfl) m1 rfl) (pa_cons (pe_glob (v := .ref f2) (by rfl) m2 rfl) (pa_cons (pe_glob (v := .ref f3) (by rfl) m3 rfl) pa_nil)))) (pv 3) (fun _ _ => rfl)) passE (pa_cons (pv 2) pa_nil)))) pss_nil)
 (pss_cons (ps_if (pt_cmpR op_eq (pv 3) pe_int (nomark _)) (pss_one (ps_ret (pe_defE XA hr4 passE (pa_cons (pv 2) (pa_cons pe_non pa_nil))))) pss_nil)
 (pss_one (ps_ret (pe_ifExp (pt_cmpR op_eq (pv 3) pe_int (nomark _)) (pe_defE XH hr4 passE (pa_cons (pv 2) (pa_cons pe_non (pa_cons pe_non pa_nil)))) (pe_defE XU hr passE (pa_cons (pv 2) (pa_cons pe_non pa_nil)))))))))), ?_⟩
    refine seq_cut (fun σ H' => ∃ v, σ = [some (.int q), some (.int m), some v, none] ∧ Same H H' ∧ BadL H' v) ?_ (fun _ go => ?_)
    · rintro σ H' ⟨v, rfl, sm, b⟩
      have k' := k.same sm
      refine ⟨_, rfl, _, _, rfl, rfl, ⟨by decide, by decide⟩, _, _, rfl, rfl, (by show (0 : Int) < 6; decide), ?_⟩
      have d0 : 0 ≤ q / 10 % 6 := Int.emod_nonneg _ (by decide)
      have d6 : q / 10 % 6 < 6 := Int.emod_lt_of_pos _ (by decide)
      dsimp only [gName]
      generalize q / 10 % 6 = d at d0 d6
      refine ⟨_, rfl, _, _, rfl, rfl, _, rfl, ?_⟩
      refine ite2 (fun hd => ?_) (fun hd => ?_)
      · have hd := of_decide_eq_true hd
        refine ⟨le63 (by show 3 ≤ 900; decide), fun p hp => ⟨_, rfl, p, [.ref f1, .ref f2, .ref f3], d, ?_⟩⟩
        have e3 : d = 0 ∨ d = 1 ∨ d = 2 := by (first | lia | omega)
        have b' := b.same (Same.new (o := .lst [.ref f1, .ref f2, .ref f3]) H' hp)
        have k2' := k'.same (Same.new (o := .lst [.ref f1, .ref f2, .ref f3]) H' hp)
        rcases e3 with rfl | rfl | rfl
        · exact ⟨.ref f1, rfl, rfl, SqL.of upd_same, rfl, f1, _, rfl, ⟨_, _, _, F1, hr5, k1, b1⟩, _, rfl, _, rfl, b', k2'⟩
        · exact ⟨.ref f2, rfl, rfl, SqL.of upd_same, rfl, f2, _, rfl, ⟨_, _, _, F2, hr4, k2, b2⟩, _, rfl, _, rfl, b', k2'⟩
        · exact ⟨.ref f3, rfl, rfl, SqL.of upd_same, rfl, f3, _, rfl, ⟨_, _, _, F3, hr4, k3, b3⟩, _, rfl, _, rfl, b', k2'⟩
      · have hd : ¬ d < 3 := fun z => hd (decide_eq_true z)
        refine ⟨_, rfl, rfl, _, rfl, ?_⟩
        refine ite2 (fun h3 => ?_) (fun h3 => ?_)
        · exact ⟨_, rfl, .inl ⟨v, _, rfl, b, k'⟩⟩
        · refine ⟨_, rfl, rfl, _, rfl, ?_⟩
          refine ite2 (fun h4 => ?_) (fun h4 => ?_)
          · exact ⟨_, rfl, .inl ⟨v, _, _, rfl, b, k'⟩⟩
          · exact ⟨_, rfl, .inl ⟨v, _, rfl, b, k'⟩⟩
    · refine ⟨by decide, fun p1 h1 => ?_⟩
      have s1 : Same H (upd H p1 (.tup [.int 1, .int 2])) := Same.new H h1
      have q1 : upd H p1 (.tup [.int 1, .int 2]) p1 = some (.tup [.int 1, .int 2]) := upd_same
      generalize upd H p1 (.tup [.int 1, .int 2]) = H1 at s1 q1 ⊢
      refine ⟨by decide, fun p2 h2 => ?_⟩
      have s2 : Same H1 (upd H1 p2 (.lst [.bl true])) := Same.new H1 h2
      have q2 : upd H1 p2 (.lst [.bl true]) p2 = some (.lst [.bl true]) := upd_same
      generalize upd H1 p2 (.lst [.bl true]) = H2 at s2 q2 ⊢
      refine ⟨by decide, fun p3 h3 => ?_⟩
      have s3 : Same H2 (upd H2 p3 (.lst [.str "1"])) := Same.new H2 h3
      have q3 : upd H2 p3 (.lst [.str "1"]) p3 = some (.lst [.str "1"]) := upd_same
      generalize upd H2 p3 (.lst [.str "1"]) = H3 at s3 q3 ⊢
      refine ⟨by decide, fun p4 h4 => ?_⟩
      have s4 : Same H3 (upd H3 p4 (.lst [.non])) := Same.new H3 h4
      have q4 : upd H3 p4 (.lst [.non]) p4 = some (.lst [.non]) := upd_same
      generalize upd H3 p4 (.lst [.non]) = H4 at s4 q4 ⊢
      refine ⟨by decide, fun p5 h5 => ?_⟩
      have s5 : Same H4 (upd H4 p5 (.lst [.int 3, .int 3])) := Same.new H4 h5
      have q5 : upd H4 p5 (.lst [.int 3, .int 3]) p5 = some (.lst [.int 3, .int 3]) := upd_same
      generalize upd H4 p5 (.lst [.int 3, .int 3]) = H5 at s5 q5 ⊢
      refine ⟨_, rfl, _, _, rfl, rfl, le63 (by show 2 ≤ 900; decide), fun p6 h6 => ?_⟩
      have s6 : Same H5 (upd H5 p6 (.lst [.int (3 + m), .int 3])) := Same.new H5 h6
      have q6 : upd H5 p6 (.lst [.int (3 + m), .int 3]) p6 = some (.lst [.int (3 + m), .int 3]) := upd_same
      generalize upd H5 p6 (.lst [.int (3 + m), .int 3]) = H6 at s6 q6 ⊢
      refine ⟨_, rfl, _, _, rfl, rfl, le63 (by show 3 ≤ 900; decide), fun p7 h7 => ?_⟩
      have s7 : Same H6 (upd H6 p7 (.lst [.int 0, .int 2, .int (1 - m)])) := Same.new H6 h7
      have q7 : upd H6 p7 (.lst [.int 0, .int 2, .int (1 - m)]) p7 = some (.lst [.int 0, .int 2, .int (1 - m)]) := upd_same
      generalize upd H6 p7 (.lst [.int 0, .int 2, .int (1 - m)]) = H7 at s7 q7 ⊢
      refine ⟨le63 (by show 10 ≤ 900; decide), fun p8 h8 => ?_⟩
      refine ⟨_, rfl, _, _, rfl, rfl, (by show (0 : Int) < 10; decide), ?_⟩
      have d0 : 0 ≤ q % 10 := Int.emod_nonneg _ (by decide)
      have d6 : q % 10 < 10 := Int.emod_lt_of_pos _ (by decide)
      have s8 : Same H7 (upd H7 p8 (.lst [.non, .ref p1, .str "12", .int 5, .ref p2, .ref p3, .ref p4, .ref p5, .ref p6, .ref p7])) := Same.new H7 h8
      have q8 : upd H7 p8 (.lst [.non, .ref p1, .str "12", .int 5, .ref p2, .ref p3, .ref p4, .ref p5, .ref p6, .ref p7]) p8 = some (.lst [.non, .ref p1, .str "12", .int 5, .ref p2, .ref p3, .ref p4, .ref p5, .ref p6, .ref p7]) := upd_same
      generalize upd H7 p8 (.lst [.non, .ref p1, .str "12", .int 5, .ref p2, .ref p3, .ref p4, .ref p5, .ref p6, .ref p7]) = H8 at s8 q8 ⊢
      have s78 := s7.trans s8
      have s68 := s6.trans s78
      have s58 := s5.trans s68
      have s48 := s4.trans s58
      have s38 := s3.trans s48
      have s28 := s2.trans s38
      have s18 := s1.trans s28
      have er : q % 10 = 0 ∨ q % 10 = 1 ∨ q % 10 = 2 ∨ q % 10 = 3 ∨ q % 10 = 4 ∨ q % 10 = 5 ∨ q % 10 = 6 ∨ q % 10 = 7 ∨ q % 10 = 8 ∨ q % 10 = 9 := by (first | lia | omega)
      rcases er with e | e | e | e | e | e | e | e | e | e
      · exact ⟨p8, [.non, .ref p1, .str "12", .int 5, .ref p2, .ref p3, .ref p4, .ref p5, .ref p6, .ref p7], 0, .non, rfl, congrArg V.int e, SqL.of q8, rfl, go _ _ ⟨_, rfl, s18, ⟨True.intro, (fun _ _ e' => nomatch e'), rfl⟩⟩⟩
      · exact ⟨p8, [.non, .ref p1, .str "12", .int 5, .ref p2, .ref p3, .ref p4, .ref p5, .ref p6, .ref p7], 1, .ref p1, rfl, congrArg V.int e, SqL.of q8, rfl, go _ _ ⟨_, rfl, s18, badL_tup (s28.at q1)⟩⟩
      · exact ⟨p8, [.non, .ref p1, .str "12", .int 5, .ref p2, .ref p3, .ref p4, .ref p5, .ref p6, .ref p7], 2, .str "12", rfl, congrArg V.int e, SqL.of q8, rfl, go _ _ ⟨_, rfl, s18, ⟨True.intro, (fun _ _ e' => nomatch e'), rfl⟩⟩⟩
      · exact ⟨p8, [.non, .ref p1, .str "12", .int 5, .ref p2, .ref p3, .ref p4, .ref p5, .ref p6, .ref p7], 3, .int 5, rfl, congrArg V.int e, SqL.of q8, rfl, go _ _ ⟨_, rfl, s18, ⟨True.intro, (fun _ _ e' => nomatch e'), rfl⟩⟩⟩
      · exact ⟨p8, [.non, .ref p1, .str "12", .int 5, .ref p2, .ref p3, .ref p4, .ref p5, .ref p6, .ref p7], 4, .ref p2, rfl, congrArg V.int e, SqL.of q8, rfl, go _ _ ⟨_, rfl, s18, badL_list (s38.at q2) (by decide) (fun y hy => by rcases List.mem_singleton.mp hy with rfl; exact True.intro) rfl⟩⟩
      · exact ⟨p8, [.non, .ref p1, .str "12", .int 5, .ref p2, .ref p3, .ref p4, .ref p5, .ref p6, .ref p7], 5, .ref p3, rfl, congrArg V.int e, SqL.of q8, rfl, go _ _ ⟨_, rfl, s18, badL_list (s48.at q3) (by decide) (fun y hy => by rcases List.mem_singleton.mp hy with rfl; exact True.intro) rfl⟩⟩
      · exact ⟨p8, [.non, .ref p1, .str "12", .int 5, .ref p2, .ref p3, .ref p4, .ref p5, .ref p6, .ref p7], 6, .ref p4, rfl, congrArg V.int e, SqL.of q8, rfl, go _ _ ⟨_, rfl, s18, badL_list (s58.at q4) (by decide) (fun y hy => by rcases List.mem_singleton.mp hy with rfl; exact True.intro) rfl⟩⟩
      · exact ⟨p8, [.non, .ref p1, .str "12", .int 5, .ref p2, .ref p3, .ref p4, .ref p5, .ref p6, .ref p7], 7, .ref p5, rfl, congrArg V.int e, SqL.of q8, rfl, go _ _ ⟨_, rfl, s18, badL_ints (ns := [3, 3]) (s68.at q5) (by decide) (fun z => by have := z 0 (by decide); simp [J.g] at this)⟩⟩
      · exact ⟨p8, [.non, .ref p1, .str "12", .int 5, .ref p2, .ref p3, .ref p4, .ref p5, .ref p6, .ref p7], 8, .ref p6, rfl, congrArg V.int e, SqL.of q8, rfl, go _ _ ⟨_, rfl, s18, badL_ints (ns := [3 + m, 3]) (s78.at q6) (by simp) (fun z => by have := z 0 (by simp); simp [J.g] at this; (first | lia | omega))⟩⟩
      · exact ⟨p8, [.non, .ref p1, .str "12", .int 5, .ref p2, .ref p3, .ref p4, .ref p5, .ref p6, .ref p7], 9, .ref p7, rfl, congrArg V.int e, SqL.of q8, rfl, go _ _ ⟨_, rfl, s18, badL_ints (ns := [0, 2, 1 - m]) (s8.at q7) (by simp) (fun z => by have := z 1 (by simp); simp [J.g] at this; (first | lia | omega))⟩⟩
end
end JM

namespace JM
open PySem L2 J TX
theorem front_of_car {n : Nat} {x : V} (h : isCar n x = false) : isFront n x = false := by
  cases x with
  | int i =>
    rw [isCar_i] at h
    rw [isFront_i]
    cases e : (decide (0 ≤ i) && decide (i + 1 < (n : Int))) with
    | false => rfl
    | true =>
      rw [Bool.and_eq_true, decide_eq_true_eq, decide_eq_true_eq] at e
      rw [decide_eq_true e.1, decide_eq_true (show i < (n : Int) by (first | lia | omega))] at h
      cases h
  | _ => rfl
theorem rise129 : Rising [1, 2, 9] := fun i h => by
  have h : i + 1 < 3 := h
  have e : i = 0 ∨ i = 1 := by (first | lia | omega)
  rcases e with rfl | rfl <;> decide
theorem cars129 (H : Hp) (p : Addr) : Cars (upd H p (.lst [.int 1, .int 2, .int 9])) p [1, 2, 9] := ⟨upd_same, rise129, by decide⟩
theorem two_cases (x : Int) : x % 2 = 0 ∨ x % 2 = 1 := by (first | lia | omega)
section
variable {P : Program} {w : World} {K : PySem.W.Frag} {mg : Str → Option Value} {base : Heap} {CC C1 CS CR : Addr}
noncomputable abbrev nC1 : List Str := ["_law_which", "_law_more", "_law_bad"]
theorem sc_C1 : FnScope nC1 ["_law_which", "_law_more"] (defScope s_law_car_asked) := ⟨rfl, rfl, rfl, by decide +kernel, rfl, by decide +kernel, by decide +kernel⟩
theorem ok_C1 {f : Addr} {fd : FuncData} (F : Fun K "_law_car_asked" "_law_car_asked" s_law_car_asked f fd)
    (XH : DefE P w K mg base "held" 4 ["cars", "car", "steps"] (xpHeld CC C1 CS)) (XU : DefE P w K mg base "touches" 6 ["cars", "car"] (xpTouches CC C1)) :
    FnOk P w K mg base (CXE P w) 7 f fd ["_law_which", "_law_more"] (xpCA C1) := by
  refine F.okQ sc_C1 (fun vs H Q E h => ?_) (fun cdv A outer s H vs Q E hr h => ?_)
  · obtain ⟨q, m, rfl, _⟩ := h
    rfl
  · obtain ⟨q, m, rfl, hm, k⟩ := h
    have nd := sc_C1.nd
    have hr4 : Room 4 _ := hr.mono (by decide)
    refine ⟨_, qss_cons (qs_pick K (i := 2) nd rfl (Or.inl rfl) (qa_cons qe_non (qa_cons qe_str (qa_cons ⟨pe_op op_sub (pe_un un_neg pe_int) (pv 1)⟩ (qa_cons ⟨pe_op op_add pe_int (pv 1)⟩ (qa_cons qe_bl (qa_cons (qe_lst (qa_cons qe_int qa_nil)) (qa_cons (qe_tup (qa_cons qe_int qa_nil)) qa_nil)))))))
        ⟨pe_op op_mod (pv 0) pe_int⟩ (fun _ _ => rfl))
      (qss_of (pss_cons (ps_if (pt_cmpR op_eq (pe_op op_mod (pe_op op_fdiv (pv 0) pe_int) pe_int) pe_int (nomark _)) (pss_one (ps_ret (pe_defE XH hr4 passE (pa_cons (pe_lst (pa_cons pe_int (pa_cons pe_int (pa_cons pe_int pa_nil)))) (pa_cons (pv 2) (pa_cons pe_non pa_nil)))))) pss_nil)
 (pss_one (ps_ret (pe_defE XU hr passE (pa_cons (pe_lst (pa_cons pe_int (pa_cons pe_int (pa_cons pe_int pa_nil)))) (pa_cons (pe_ix (ix_listK K) (pe_lst (pa_cons (pv 2) (pa_cons pe_int pa_nil))) (pe_op op_mod (pe_op op_fdiv (pv 0) pe_int) pe_int) (fun _ _ => rfl)) pa_nil))))))), ?_⟩
    refine seq_cut (fun σ H' => ∃ v, σ = [some (.int q), some (.int m), some v] ∧ Same H H' ∧ Kd H' v ∧ isCar 3 v = false) ?_ (fun _ go => ?_)
    · rintro σ H' ⟨v, rfl, sm, kd, ic⟩
      have k' := k.same sm
      refine ⟨_, rfl, _, _, rfl, rfl, ⟨by decide, by decide⟩, _, _, rfl, rfl, (by show (0 : Int) < 2; decide), rfl, _, rfl, ?_⟩
      refine ite2 (fun hd => ?_) (fun hd => ?_)
      · refine ⟨le63 (by show 3 ≤ 900; decide), fun p hp => ?_⟩
        have s1 := Same.new (o := .lst [.int 1, .int 2, .int 9]) H' hp
        exact ⟨_, rfl, .inr (.inl ⟨p, [1, 2, 9], v, _, rfl, cars129 _ _, kd.same s1, ic, k'.same s1⟩)⟩
      · refine ⟨le63 (by show 3 ≤ 900; decide), fun p hp => ?_⟩
        have s1 := Same.new (o := .lst [.int 1, .int 2, .int 9]) H' hp
        have c1 := cars129 H' p
        generalize upd H' p (.lst [.int 1, .int 2, .int 9]) = H1 at s1 c1 ⊢
        refine ⟨_, rfl, le63 (by show 2 ≤ 900; decide), fun p2 hp2 => ⟨_, rfl, _, _, rfl, rfl, ⟨by decide, by decide⟩, _, _, rfl, rfl, (by show (0 : Int) < 2; decide), ?_⟩⟩
        have s2 := Same.new (o := .lst [v, .int 2]) H1 hp2
        have kk := (k'.same s1).same s2
        rcases two_cases (q / 14) with e | e
        · exact ⟨p2, [v, .int 2], 0, v, rfl, congrArg V.int e, SqL.of upd_same, rfl, .inr ⟨p, [1, 2, 9], v, rfl, c1.same s2, (kd.same s1).same s2, front_of_car ic, kk⟩⟩
        · exact ⟨p2, [v, .int 2], 1, .int 2, rfl, congrArg V.int e, SqL.of upd_same, rfl, .inr ⟨p, [1, 2, 9], .int 2, rfl, c1.same s2, True.intro, by decide, kk⟩⟩
    · refine ⟨_, rfl, _, rfl, _, _, rfl, rfl, _, rfl, _, _, rfl, rfl, le63 (by show 1 ≤ 900; decide), fun p1 h1 => ?_⟩
      have s1 : Same H (upd H p1 (.lst [.int 0])) := Same.new H h1
      have q1 : upd H p1 (.lst [.int 0]) p1 = some (.lst [.int 0]) := upd_same
      generalize upd H p1 (.lst [.int 0]) = H1 at s1 q1 ⊢
      refine ⟨le63 (by show 1 ≤ 900; decide), fun p2 h2 => ?_⟩
      have s2 : Same H1 (upd H1 p2 (.tup [.int 1])) := Same.new H1 h2
      have q2 : upd H1 p2 (.tup [.int 1]) p2 = some (.tup [.int 1]) := upd_same
      generalize upd H1 p2 (.tup [.int 1]) = H2 at s2 q2 ⊢
      refine ⟨le63 (by show 7 ≤ 900; decide), fun p8 h8 => ?_⟩
      have s8 : Same H2 (upd H2 p8 (.lst [.non, .str "0", .int (-1 - m), .int (3 + m), .bl true, .ref p1, .ref p2])) := Same.new H2 h8
      have q8 : upd H2 p8 (.lst [.non, .str "0", .int (-1 - m), .int (3 + m), .bl true, .ref p1, .ref p2]) p8 = some (.lst [.non, .str "0", .int (-1 - m), .int (3 + m), .bl true, .ref p1, .ref p2]) := upd_same
      refine ⟨_, rfl, _, _, rfl, rfl, (by show (0 : Int) < 7; decide), ?_⟩
      have s18 := (s1.trans s2).trans s8
      have d0 : 0 ≤ q % 7 := Int.emod_nonneg _ (by decide)
      have d6 : q % 7 < 7 := Int.emod_lt_of_pos _ (by decide)
      have er : q % 7 = 0 ∨ q % 7 = 1 ∨ q % 7 = 2 ∨ q % 7 = 3 ∨ q % 7 = 4 ∨ q % 7 = 5 ∨ q % 7 = 6 := by (first | lia | omega)
      have n2 : isCar 3 (.int (-1 - m)) = false := by rw [isCar_i, decide_eq_false (show ¬ 0 ≤ -1 - m by (first | lia | omega))]; rfl
      have n3 : isCar 3 (.int (3 + m)) = false := by rw [isCar_i, decide_eq_false (show ¬ 3 + m < ((3 : Nat) : Int) by (first | lia | omega)), Bool.and_false]
      rcases er with e | e | e | e | e | e | e
      · exact ⟨p8, _, 0, _, rfl, congrArg V.int e, SqL.of q8, rfl, go _ _ ⟨.non, rfl, s18, True.intro, rfl⟩⟩
      · exact ⟨p8, _, 1, _, rfl, congrArg V.int e, SqL.of q8, rfl, go _ _ ⟨.str "0", rfl, s18, True.intro, rfl⟩⟩
      · exact ⟨p8, _, 2, _, rfl, congrArg V.int e, SqL.of q8, rfl, go _ _ ⟨.int (-1 - m), rfl, s18, True.intro, n2⟩⟩
      · exact ⟨p8, _, 3, _, rfl, congrArg V.int e, SqL.of q8, rfl, go _ _ ⟨.int (3 + m), rfl, s18, True.intro, n3⟩⟩
      · exact ⟨p8, _, 4, _, rfl, congrArg V.int e, SqL.of q8, rfl, go _ _ ⟨.bl true, rfl, s18, True.intro, rfl⟩⟩
      · exact ⟨p8, _, 5, _, rfl, congrArg V.int e, SqL.of q8, rfl, go _ _ ⟨.ref p1, rfl, s18, .inl ⟨_, (s2.trans s8).at q1⟩, rfl⟩⟩
      · exact ⟨p8, _, 6, _, rfl, congrArg V.int e, SqL.of q8, rfl, go _ _ ⟨.ref p2, rfl, s18, .inr ⟨_, s8.at q2⟩, rfl⟩⟩
end
end JM

namespace JM
open PySem L2 J TX
noncomputable def rOf (l : List Bool) : R.Rg := fun i => l.getD (i % (l.length : Int)).toNat false
theorem tx_cgc : tx 3 (rOf [true, false, true]) = Str.ofString "c.c" := by decide +kernel
theorem badR_ref {H : Hp} {p : Addr} (h : Kd H (.ref p)) : BadR H (.ref p) := ⟨h, (fun _ e => nomatch e), rfl⟩
theorem BadR.same {H H' : Hp} {x : V} (b : BadR H x) (s : Same H H') : BadR H' x := ⟨b.kd.same s, b.sz, b.no⟩
section
variable {P : Program} {w : World} {K : PySem.W.Frag} {mg : Str → Option Value} {base : Heap} {CC C1 CS CR : Addr}
noncomputable def xpCO (CS CR : Addr) : Sp := fun vs H _ E => ∃ (kd q m : Int), vs = [.int kd, .int q, .int m] ∧ 0 ≤ m ∧ Bad (if kd = 2 then CS else CR) H E
noncomputable abbrev nCO : List Str := ["_law_kind", "_law_which", "_law_more", "_law_bad", "_law_door"]
theorem sc_CO : FnScope nCO ["_law_kind", "_law_which", "_law_more"] (defScope s_law_others_asked) := ⟨rfl, rfl, rfl, by decide +kernel, rfl, by decide +kernel, by decide +kernel⟩
theorem ok_CO {f : Addr} {fd : FuncData} (F : Fun K "_law_others_asked" "_law_others_asked" s_law_others_asked f fd) (XA : DefE P w K mg base "after" 4 ["cars", "steps"] (xpAfter CC CS))
    (XH : DefE P w K mg base "held" 4 ["cars", "car", "steps"] (xpHeld CC C1 CS)) (XR : DefE P w K mg base "around_after" 5 ["ring", "steps"] (xpAft CR CS)) (XF : DefE P w K mg base "flow" 6 ["ring", "steps"] (xpAft CR CS))
    (X1 : DefE P w K mg base "around" 6 ["ring"] (xpRg CR)) (X2 : DefE P w K mg base "exchanged" 3 ["ring"] (xpRg CR)) (X3 : DefE P w K mg base "settled" 3 ["ring"] (xpRg CR)) :
    FnOk P w K mg base (CXE P w) 7 f fd ["_law_kind", "_law_which", "_law_more"] (xpCO CS CR) := by
  refine F.okQ sc_CO (fun vs H Q E h => ?_) (fun cdv A outer s H vs Q E hr h => ?_)
  · obtain ⟨kd, q, m, rfl, _⟩ := h
    rfl
  · obtain ⟨kd, q, m, rfl, hm, k⟩ := h
    have nd := sc_CO.nd
    have hr3 : Room 3 _ := hr.mono (by decide)
    have hr4 : Room 4 _ := hr.mono (by decide)
    have hr5 : Room 5 _ := hr.mono (by decide)
    obtain ⟨f1, fd1, F1, m1, k1, b1⟩ := XR.ex
    obtain ⟨f2, fd2, F2, m2, k2, b2⟩ := XF.ex
    obtain ⟨g1, gd1, G1, n1, l1, c1⟩ := X1.ex
    obtain ⟨g2, gd2, G2, n2, l2, c2⟩ := X2.ex
    obtain ⟨g3, gd3, G3, n3, l3, c3⟩ := X3.ex
    refine ⟨_, qss_cons (qs_if (pt_cmpR op_eq (pv 0) pe_int (nomark _))
        (qss_cons (qs_pick K (i := 3) nd rfl (Or.inl rfl) (qa_cons qe_non (qa_cons qe_str (qa_cons qe_bl (qa_cons (qe_lst (qa_cons qe_int qa_nil)) (qa_cons (qe_tup (qa_cons qe_int qa_nil)) (qa_cons ⟨pe_op op_sub (pe_un un_neg pe_int) (pv 2)⟩ qa_nil)))))) ⟨pe_op op_mod (pv 1) pe_int⟩ (fun _ _ => rfl))
          (qss_of (pss_cons (ps_set (i := 4) nd rfl (Or.inl rfl) (pe_op op_mod (pe_op op_fdiv (pv 1) pe_int) pe_int))
 (pss_cons (ps_if (pt_cmpR op_lt (pv 4) pe_int (nomark _)) (pss_one (ps_ret (pe_ifExp (pt_cmpR op_eq (pv 4) pe_int (nomark _)) (pe_defE XA hr4 passE (pa_cons (pe_lst (pa_cons pe_int (pa_cons pe_int (pa_cons pe_int pa_nil)))) (pa_cons (pv 3) pa_nil)))
                (pe_defE XH hr4 passE (pa_cons (pe_lst (pa_cons pe_int (pa_cons pe_int (pa_cons pe_int pa_nil)))) (pa_cons pe_int (pa_cons (pv 3) pa_nil))))))) pss_nil)
 (pss_one (ps_ret (pe_callV (pe_ix (ix_listK K) (pe_lst (pa_cons (pe_glob (v := .ref f1) (by rfl) m1 rfl) (pa_cons (pe_glob (v := .ref f2) (by rfl) m2 rfl) pa_nil))) (pe_op op_sub (pv 4) pe_int) (fun _ _ => rfl)) passE (pa_cons pe_str (pa_cons (pv 3) pa_nil)))))))))
        (qss_of pss_nil))
      (qss_cons (qs_pick K (i := 3) nd rfl (Or.inl rfl) (qa_cons qe_non (qa_cons qe_int (qa_cons (qe_lst (qa_cons qe_str qa_nil)) (qa_cons (qe_tup (qa_cons qe_str (qa_cons qe_str qa_nil))) (qa_cons qe_str (qa_cons qe_str (qa_cons qe_str (qa_cons qe_str qa_nil)))))))) ⟨pe_op op_mod (pv 1) pe_int⟩ (fun _ _ => rfl))
        (qss_of (pss_cons (ps_set (i := 4) nd rfl (Or.inl rfl) (pe_op op_mod (pe_op op_fdiv (pv 1) pe_int) pe_int))
 (pss_cons (ps_if (pt_cmpR op_lt (pv 4) pe_int (nomark _)) (pss_one (ps_ret (pe_callV (pe_ix (ix_listK K) (pe_lst (pa_cons (pe_glob (v := .ref g1) (by rfl) n1 rfl) (pa_cons (pe_glob (v := .ref g2) (by rfl) n2 rfl) (pa_cons (pe_glob (v := .ref g3) (by rfl) n3 rfl) pa_nil)))) (pv 4) (fun _ _ => rfl)) passE (pa_cons (pv 3) pa_nil)))) pss_nil)
 (pss_one (ps_ret (pe_callV (pe_ix (ix_listK K) (pe_lst (pa_cons (pe_glob (v := .ref f1) (by rfl) m1 rfl) (pa_cons (pe_glob (v := .ref f2) (by rfl) m2 rfl) pa_nil))) (pe_op op_sub (pv 4) pe_int) (fun _ _ => rfl)) passE (pa_cons (pv 3) (pa_cons pe_non pa_nil))))))))), ?_⟩
    refine ⟨_, rfl, rfl, _, rfl, ?_⟩
    refine ite2 (fun hk => ?_) (fun hk => ?_)
    · have ek : kd = 2 := V.int.inj (of_decide_eq_true hk)
      rw [if_pos ek] at k
      refine seq_cut (fun σ H' => ∃ v, σ = [some (.int kd), some (.int q), some (.int m), some v, none] ∧ Same H H' ∧ Kd H' v ∧ isCnt v = false) ?_ (fun _ go => ?_)
      · rintro σ H' ⟨v, rfl, sm, kdv, ic⟩
        have k' := k.same sm
        refine ⟨_, rfl, _, _, rfl, rfl, ⟨by decide, by decide⟩, _, _, rfl, rfl, (by show (0 : Int) < 4; decide), ?_⟩
        have d0 : 0 ≤ q / 6 % 4 := Int.emod_nonneg _ (by decide)
        have d6 : q / 6 % 4 < 4 := Int.emod_lt_of_pos _ (by decide)
        dsimp only [gName]
        generalize q / 6 % 4 = d at d0 d6
        refine ⟨_, rfl, _, _, rfl, rfl, _, rfl, ?_⟩
        refine ite2 (fun hd => ?_) (fun hd => ?_)
        · refine ⟨_, rfl, rfl, _, rfl, ?_⟩
          refine ite2 (fun h0 => ?_) (fun h0 => ?_)
          · refine ⟨le63 (by show 3 ≤ 900; decide), fun p hp => ?_⟩
            have s1 := Same.new (o := .lst [.int 1, .int 2, .int 9]) H' hp
            exact ⟨_, rfl, .inr ⟨p, [1, 2, 9], v, rfl, cars129 _ _, kdv.same s1, ic, k'.same s1⟩⟩
          · refine ⟨le63 (by show 3 ≤ 900; decide), fun p hp => ?_⟩
            have s1 := Same.new (o := .lst [.int 1, .int 2, .int 9]) H' hp
            exact ⟨_, rfl, .inr (.inr ⟨p, [1, 2, 9], 1, v, rfl, cars129 _ _, by decide, kdv.same s1, ic, k'.same s1⟩)⟩
        · have hd : ¬ d < 2 := fun z => hd (decide_eq_true z)
          refine ⟨le63 (by show 2 ≤ 900; decide), fun p hp => ⟨_, rfl, _, _, rfl, rfl, ?_⟩⟩
          have s1 := Same.new (o := .lst [.ref f1, .ref f2]) H' hp
          have e3 : d - 2 = 0 ∨ d - 2 = 1 := by (first | lia | omega)
          rcases e3 with e | e
          · exact ⟨p, [.ref f1, .ref f2], 0, .ref f1, rfl, congrArg V.int e, SqL.of upd_same, rfl, f1, _, rfl, ⟨_, _, _, F1, hr5, k1, b1⟩, _, rfl, .inr ⟨3, rOf [true, false, true], v, by rw [tx_cgc], by decide, by decide, kdv.same s1, ic, k'.same s1⟩⟩
          · exact ⟨p, [.ref f1, .ref f2], 1, .ref f2, rfl, congrArg V.int e, SqL.of upd_same, rfl, f2, _, rfl, ⟨_, _, _, F2, hr, k2, b2⟩, _, rfl, .inr ⟨3, rOf [true, false, true], v, by rw [tx_cgc], by decide, by decide, kdv.same s1, ic, k'.same s1⟩⟩
      · refine ⟨le63 (by show 1 ≤ 900; decide), fun p1 h1 => ?_⟩
        have s1 : Same H (upd H p1 (.lst [.int 1])) := Same.new H h1
        have q1 : upd H p1 (.lst [.int 1]) p1 = some (.lst [.int 1]) := upd_same
        generalize upd H p1 (.lst [.int 1]) = H1 at s1 q1 ⊢
        refine ⟨le63 (by show 1 ≤ 900; decide), fun p2 h2 => ?_⟩
        have s2 : Same H1 (upd H1 p2 (.tup [.int 1])) := Same.new H1 h2
        have q2 : upd H1 p2 (.tup [.int 1]) p2 = some (.tup [.int 1]) := upd_same
        generalize upd H1 p2 (.tup [.int 1]) = H2 at s2 q2 ⊢
        refine ⟨_, rfl, _, rfl, _, _, rfl, rfl, le63 (by show 6 ≤ 900; decide), fun p8 h8 => ?_⟩
        have s8 : Same H2 (upd H2 p8 (.lst [.non, .str "1", .bl true, .ref p1, .ref p2, .int (-1 - m)])) := Same.new H2 h8
        have q8 : upd H2 p8 (.lst [.non, .str "1", .bl true, .ref p1, .ref p2, .int (-1 - m)]) p8 = some (.lst [.non, .str "1", .bl true, .ref p1, .ref p2, .int (-1 - m)]) := upd_same
        refine ⟨_, rfl, _, _, rfl, rfl, (by show (0 : Int) < 6; decide), ?_⟩
        have s18 := (s1.trans s2).trans s8
        have d0 : 0 ≤ q % 6 := Int.emod_nonneg _ (by decide)
        have d6 : q % 6 < 6 := Int.emod_lt_of_pos _ (by decide)
        have er : q % 6 = 0 ∨ q % 6 = 1 ∨ q % 6 = 2 ∨ q % 6 = 3 ∨ q % 6 = 4 ∨ q % 6 = 5 := by (first | lia | omega)
        have nn : isCnt (.int (-1 - m)) = false := decide_eq_false (by (first | lia | omega))
        rcases er with e | e | e | e | e | e
        · exact ⟨p8, _, 0, _, rfl, congrArg V.int e, SqL.of q8, rfl, go _ _ ⟨.non, rfl, s18, True.intro, rfl⟩⟩
        · exact ⟨p8, _, 1, _, rfl, congrArg V.int e, SqL.of q8, rfl, go _ _ ⟨.str "1", rfl, s18, True.intro, rfl⟩⟩
        · exact ⟨p8, _, 2, _, rfl, congrArg V.int e, SqL.of q8, rfl, go _ _ ⟨.bl true, rfl, s18, True.intro, rfl⟩⟩
        · exact ⟨p8, _, 3, _, rfl, congrArg V.int e, SqL.of q8, rfl, go _ _ ⟨.ref p1, rfl, s18, .inl ⟨_, (s2.trans s8).at q1⟩, rfl⟩⟩
        · exact ⟨p8, _, 4, _, rfl, congrArg V.int e, SqL.of q8, rfl, go _ _ ⟨.ref p2, rfl, s18, .inr ⟨_, s8.at q2⟩, rfl⟩⟩
        · exact ⟨p8, _, 5, _, rfl, congrArg V.int e, SqL.of q8, rfl, go _ _ ⟨.int (-1 - m), rfl, s18, True.intro, nn⟩⟩
    · have ek : ¬ kd = 2 := fun z => hk (decide_eq_true (congrArg V.int z))
      rw [if_neg ek] at k
      dsimp only [tNext]
      refine seq_cut (fun σ H' => ∃ v, σ = [some (.int kd), some (.int q), some (.int m), some v, none] ∧ Same H H' ∧ BadR H' v) ?_ (fun _ go => ?_)
      · rintro σ H' ⟨v, rfl, sm, b⟩
        have k' := k.same sm
        refine ⟨_, rfl, _, _, rfl, rfl, ⟨by decide, by decide⟩, _, _, rfl, rfl, (by show (0 : Int) < 5; decide), ?_⟩
        have d0 : 0 ≤ q / 8 % 5 := Int.emod_nonneg _ (by decide)
        have d6 : q / 8 % 5 < 5 := Int.emod_lt_of_pos _ (by decide)
        dsimp only [gName]
        generalize q / 8 % 5 = d at d0 d6
        refine ⟨_, rfl, _, _, rfl, rfl, _, rfl, ?_⟩
        refine ite2 (fun hd => ?_) (fun hd => ?_)
        · have hd := of_decide_eq_true hd
          refine ⟨le63 (by show 3 ≤ 900; decide), fun p hp => ⟨_, rfl, p, [.ref g1, .ref g2, .ref g3], d, ?_⟩⟩
          have e3 : d = 0 ∨ d = 1 ∨ d = 2 := by (first | lia | omega)
          have s1 := Same.new (o := .lst [.ref g1, .ref g2, .ref g3]) H' hp
          rcases e3 with rfl | rfl | rfl
          · exact ⟨.ref g1, rfl, rfl, SqL.of upd_same, rfl, g1, _, rfl, ⟨_, _, _, G1, hr, l1, c1⟩, _, rfl, _, rfl, b.same s1, k'.same s1⟩
          · exact ⟨.ref g2, rfl, rfl, SqL.of upd_same, rfl, g2, _, rfl, ⟨_, _, _, G2, hr3, l2, c2⟩, _, rfl, _, rfl, b.same s1, k'.same s1⟩
          · exact ⟨.ref g3, rfl, rfl, SqL.of upd_same, rfl, g3, _, rfl, ⟨_, _, _, G3, hr3, l3, c3⟩, _, rfl, _, rfl, b.same s1, k'.same s1⟩
        · have hd : ¬ d < 3 := fun z => hd (decide_eq_true z)
          refine ⟨le63 (by show 2 ≤ 900; decide), fun p hp => ⟨_, rfl, _, _, rfl, rfl, ?_⟩⟩
          have s1 := Same.new (o := .lst [.ref f1, .ref f2]) H' hp
          have e3 : d - 3 = 0 ∨ d - 3 = 1 := by (first | lia | omega)
          rcases e3 with e | e
          · exact ⟨p, [.ref f1, .ref f2], 0, .ref f1, rfl, congrArg V.int e, SqL.of upd_same, rfl, f1, _, rfl, ⟨_, _, _, F1, hr5, k1, b1⟩, _, rfl, .inl ⟨v, _, rfl, b.same s1, k'.same s1⟩⟩
          · exact ⟨p, [.ref f1, .ref f2], 1, .ref f2, rfl, congrArg V.int e, SqL.of upd_same, rfl, f2, _, rfl, ⟨_, _, _, F2, hr, k2, b2⟩, _, rfl, .inl ⟨v, _, rfl, b.same s1, k'.same s1⟩⟩
      · refine ⟨le63 (by show 1 ≤ 900; decide), fun p1 h1 => ?_⟩
        have s1 : Same H (upd H p1 (.lst [.str "c"])) := Same.new H h1
        have q1 : upd H p1 (.lst [.str "c"]) p1 = some (.lst [.str "c"]) := upd_same
        generalize upd H p1 (.lst [.str "c"]) = H1 at s1 q1 ⊢
        refine ⟨le63 (by show 2 ≤ 900; decide), fun p2 h2 => ?_⟩
        have s2 : Same H1 (upd H1 p2 (.tup [.str "c", .str "."])) := Same.new H1 h2
        have q2 : upd H1 p2 (.tup [.str "c", .str "."]) p2 = some (.tup [.str "c", .str "."]) := upd_same
        generalize upd H1 p2 (.tup [.str "c", .str "."]) = H2 at s2 q2 ⊢
        refine ⟨le63 (by show 8 ≤ 900; decide), fun p8 h8 => ?_⟩
        have s8 : Same H2 (upd H2 p8 (.lst [.non, .int 5, .ref p1, .ref p2, .str "C", .str "c x", .str "c\n", .str ""])) := Same.new H2 h8
        have q8 : upd H2 p8 (.lst [.non, .int 5, .ref p1, .ref p2, .str "C", .str "c x", .str "c\n", .str ""]) p8 = some (.lst [.non, .int 5, .ref p1, .ref p2, .str "C", .str "c x", .str "c\n", .str ""]) := upd_same
        refine ⟨_, rfl, _, _, rfl, rfl, (by show (0 : Int) < 8; decide), ?_⟩
        have s18 := (s1.trans s2).trans s8
        have d0 : 0 ≤ q % 8 := Int.emod_nonneg _ (by decide)
        have d6 : q % 8 < 8 := Int.emod_lt_of_pos _ (by decide)
        have er : q % 8 = 0 ∨ q % 8 = 1 ∨ q % 8 = 2 ∨ q % 8 = 3 ∨ q % 8 = 4 ∨ q % 8 = 5 ∨ q % 8 = 6 ∨ q % 8 = 7 := by (first | lia | omega)
        rcases er with e | e | e | e | e | e | e | e
        · exact ⟨p8, _, 0, _, rfl, congrArg V.int e, SqL.of q8, rfl, go _ _ ⟨.non, rfl, s18, True.intro, (fun _ e' => nomatch e'), rfl⟩⟩
        · exact ⟨p8, _, 1, _, rfl, congrArg V.int e, SqL.of q8, rfl, go _ _ ⟨.int 5, rfl, s18, True.intro, (fun _ e' => nomatch e'), rfl⟩⟩
        · exact ⟨p8, _, 2, _, rfl, congrArg V.int e, SqL.of q8, rfl, go _ _ ⟨.ref p1, rfl, s18, badR_ref (.inl ⟨_, (s2.trans s8).at q1⟩)⟩⟩
        · exact ⟨p8, _, 3, _, rfl, congrArg V.int e, SqL.of q8, rfl, go _ _ ⟨.ref p2, rfl, s18, badR_ref (.inr ⟨_, s8.at q2⟩)⟩⟩
        · exact ⟨p8, _, 4, _, rfl, congrArg V.int e, SqL.of q8, rfl, go _ _ ⟨.str "C", rfl, s18, True.intro, (fun z e' => by cases e'; decide), by decide +kernel⟩⟩
        · exact ⟨p8, _, 5, _, rfl, congrArg V.int e, SqL.of q8, rfl, go _ _ ⟨.str "c x", rfl, s18, True.intro, (fun z e' => by cases e'; decide), by decide +kernel⟩⟩
        · exact ⟨p8, _, 6, _, rfl, congrArg V.int e, SqL.of q8, rfl, go _ _ ⟨.str "c\n", rfl, s18, True.intro, (fun z e' => by cases e'; decide), by decide +kernel⟩⟩
        · exact ⟨p8, _, 7, _, rfl, congrArg V.int e, SqL.of q8, rfl, go _ _ ⟨.str "", rfl, s18, True.intro, (fun z e' => by cases e'; decide), by decide +kernel⟩⟩
end
end JM

namespace JM
open PySem L2 J TX
theorem boot_vErr : bootBuiltins "ValueError" = some (.type "ValueError") := by decide +kernel
structure Errs (K : PySem.W.Frag) (mg : Str → Option Value) (CE CC C1 CS CR : Addr) : Prop where
  mE : mg "RoadError" = some (.ref CE)
  mC : mg "BadCars" = some (.ref CC)
  m1 : mg "BadCar" = some (.ref C1)
  mS : mg "BadSteps" = some (.ref CS)
  mR : mg "BadRing" = some (.ref CR)
  mV : mg "ValueError" = none
  kC : XKl K CC
  k1 : XKl K C1
  kS : XKl K CS
  kR : XKl K CR
  eC : PySem.W.exmOne K (.ref CC) (.ref CE) = some true
  e1 : PySem.W.exmOne K (.ref C1) (.ref CE) = some true
  eS : PySem.W.exmOne K (.ref CS) (.ref CE) = some true
  eR : PySem.W.exmOne K (.ref CR) (.ref CE) = some true
  iC : PySem.W.kitOne K (.ref CC) (.ref CC) = some true ∧ PySem.W.kitOne K (.ref CC) (.ref C1) = some false ∧ PySem.W.kitOne K (.ref CC) (.ref CS) = some false ∧ PySem.W.kitOne K (.ref CC) (.ref CR) = some false ∧ PySem.W.kitOne K (.ref CC) (.type "ValueError") = some true
  i1 : PySem.W.kitOne K (.ref C1) (.ref CC) = some false ∧ PySem.W.kitOne K (.ref C1) (.ref C1) = some true ∧ PySem.W.kitOne K (.ref C1) (.ref CS) = some false ∧ PySem.W.kitOne K (.ref C1) (.ref CR) = some false ∧ PySem.W.kitOne K (.ref C1) (.type "ValueError") = some true
  iS : PySem.W.kitOne K (.ref CS) (.ref CC) = some false ∧ PySem.W.kitOne K (.ref CS) (.ref C1) = some false ∧ PySem.W.kitOne K (.ref CS) (.ref CS) = some true ∧ PySem.W.kitOne K (.ref CS) (.ref CR) = some false ∧ PySem.W.kitOne K (.ref CS) (.type "ValueError") = some true
  iR : PySem.W.kitOne K (.ref CR) (.ref CC) = some false ∧ PySem.W.kitOne K (.ref CR) (.ref C1) = some false ∧ PySem.W.kitOne K (.ref CR) (.ref CS) = some false ∧ PySem.W.kitOne K (.ref CR) (.ref CR) = some true ∧ PySem.W.kitOne K (.ref CR) (.type "ValueError") = some true
noncomputable def dueC (CC C1 CS CR : Addr) (kd : Int) : Addr := if kd = 0 then CC else if kd = 1 then C1 else if kd = 2 then CS else CR
noncomputable def dueL (kd : Int) : List Bool := [decide (kd = 0), decide (kd = 1), decide (kd = 2), decide (kd = 3), true]
theorem Errs.all {K : PySem.W.Frag} {mg : Str → Option Value} {CE CC C1 CS CR : Addr} (T : Errs K mg CE CC C1 CS CR) {kd : Int} (h0 : 0 ≤ kd) (h4 : kd < 4) :
    XKl K (dueC CC C1 CS CR kd) ∧ PySem.W.exmOne K (.ref (dueC CC C1 CS CR kd)) (.ref CE) = some true ∧ PySem.W.kitOne K (.ref (dueC CC C1 CS CR kd)) (.ref CC) = some (decide (kd = 0)) ∧ PySem.W.kitOne K (.ref (dueC CC C1 CS CR kd)) (.ref C1) = some (decide (kd = 1)) ∧
      PySem.W.kitOne K (.ref (dueC CC C1 CS CR kd)) (.ref CS) = some (decide (kd = 2)) ∧ PySem.W.kitOne K (.ref (dueC CC C1 CS CR kd)) (.ref CR) = some (decide (kd = 3)) ∧ PySem.W.kitOne K (.ref (dueC CC C1 CS CR kd)) (.type "ValueError") = some true := by
  have e : kd = 0 ∨ kd = 1 ∨ kd = 2 ∨ kd = 3 := by (first | lia | omega)
  rcases e with rfl | rfl | rfl | rfl
  · exact ⟨T.kC, T.eC, T.iC⟩
  · exact ⟨T.k1, T.e1, T.i1⟩
  · exact ⟨T.kS, T.eS, T.iS⟩
  · exact ⟨T.kR, T.eR, T.iR⟩
section
variable {P : Program} {w : World} {K : PySem.W.Frag} {mg : Str → Option Value} {base : Heap} {CE CC C1 CS CR : Addr}
noncomputable def spTold : Sp := fun vs H Q _ => ∃ (kd q m : Int), vs = [.int kd, .int q, .int m] ∧ 0 ≤ kd ∧ kd < 4 ∧ 0 ≤ m ∧ ∀ p H', Same H H' → H' p = some (.lst ((dueL kd).map V.bl)) → Q (.ref p) H'
noncomputable abbrev nTold : List Str := ["_law_kind", "_law_which", "_law_more", "error", "_law_found"]
theorem sc_told : FnScope nTold ["_law_kind", "_law_which", "_law_more"] (defScope s_law_told) := ⟨rfl, rfl, rfl, by decide +kernel, rfl, by decide +kernel, by decide +kernel⟩
theorem ok_told {f : Addr} {fd : FuncData} (F : Fun K "_law_told" "_law_told" s_law_told f fd) (O : Own mg) (T : Errs K mg CE CC C1 CS CR) (XA : DefE P w K mg base "_law_cars_asked" 7 ["_law_which", "_law_more"] (xpCA CC))
    (XB : DefE P w K mg base "_law_car_asked" 7 ["_law_which", "_law_more"] (xpCA C1)) (XO : DefE P w K mg base "_law_others_asked" 7 ["_law_kind", "_law_which", "_law_more"] (xpCO CS CR)) : FnOk P w K mg base CX0 8 f fd ["_law_kind", "_law_which", "_law_more"] spTold := by
  refine F.ok sc_told (fun vs H Q E h => ?_) (fun cdv A outer s H vs Q E hr h => ?_)
  · obtain ⟨kd, q, m, rfl, _⟩ := h
    rfl
  · obtain ⟨kd, q, m, rfl, h0, h4, hm, k⟩ := h
    have nd := sc_told.nd
    obtain ⟨kx, ke, i0, i1, i2, i3, i4⟩ := T.all h0 h4
    refine ⟨_, pss_stop (ps_try (x := "RoadError") (n := "error") (i := 3) (C0 := CE) (E := fun cls _ H' => cls = .ref (dueC CC C1 CS CR kd) ∧ Same H H') rfl rfl rfl
      (fun xe pn hp => (pss_one (ps_if (pt_cmpR op_eq (pv 0) pe_int (nomark _)) (pss_one (ps_expr (pe_defE XA hr hp (pa_cons (pv 1) (pa_cons (pv 2) pa_nil)))))
        (pss_one (ps_if (pt_cmpR op_eq (pv 0) pe_int (nomark _)) (pss_one (ps_expr (pe_defE XB hr hp (pa_cons (pv 1) (pa_cons (pv 2) pa_nil))))) (pss_one (ps_expr (pe_defE XO hr hp (pa_cons (pv 0) (pa_cons (pv 1) (pa_cons (pv 2) pa_nil)))))))))))
      (by rfl) T.mE (fun C H1 e => by cases e.1; exact ke) nd rfl rfl
      (fun a C oe H1 e hc => (pss_cons (ps_set (i := 4) nd rfl (Or.inl rfl) (pe_lst (pa_cons (pe_callB (call_isiE K (a := a) (D := C) (oe := oe) (List.Mem.head _) hc (by cases e.1; exact kx)) (by rfl) O.isi PyProof.Rows.boot_isinstance (pa_cons (pv 3) (pa_cons (pe_glob (v := .ref CC) (by rfl) T.mC rfl) pa_nil)))
            (pa_cons (pe_callB (call_isiE K (a := a) (D := C) (oe := oe) (List.Mem.head _) hc (by cases e.1; exact kx)) (by rfl) O.isi PyProof.Rows.boot_isinstance (pa_cons (pv 3) (pa_cons (pe_glob (v := .ref C1) (by rfl) T.m1 rfl) pa_nil)))
            (pa_cons (pe_callB (call_isiE K (a := a) (D := C) (oe := oe) (List.Mem.head _) hc (by cases e.1; exact kx)) (by rfl) O.isi PyProof.Rows.boot_isinstance (pa_cons (pv 3) (pa_cons (pe_glob (v := .ref CS) (by rfl) T.mS rfl) pa_nil))) pa_nil)))))
 (pss_one (ps_ret (pe_op op_cat (pv 4) (pe_lst (pa_cons (pe_callB (call_isiE K (a := a) (D := C) (oe := oe) (List.Mem.head _) hc (by cases e.1; exact kx)) (by rfl) O.isi PyProof.Rows.boot_isinstance (pa_cons (pv 3) (pa_cons (pe_glob (v := .ref CR) (by rfl) T.mR rfl) pa_nil)))
            (pa_cons (pe_callB (call_isiE K (a := a) (D := C) (oe := oe) (List.Mem.head _) hc (by cases e.1; exact kx)) (by rfl) O.isi PyProof.Rows.boot_isinstance (pa_cons (pv 3) (pa_cons (pe_bltn (v := .ty "ValueError") (by rfl) T.mV boot_vErr rfl) pa_nil))) pa_nil))))))))), ?_⟩
    refine ⟨?_, fun C H' a e ua => ?_⟩
    · refine ⟨_, rfl, rfl, _, rfl, ?_⟩
      refine ite2 (fun hk => ?_) (fun hk => ?_)
      · have ek : kd = 0 := V.int.inj (of_decide_eq_true hk)
        exact ⟨_, rfl, _, rfl, q, m, rfl, hm, fun H1 s1 => ⟨by rw [ek]; rfl, s1⟩⟩
      · have n0 : ¬ kd = 0 := fun z => hk (decide_eq_true (congrArg V.int z))
        refine ⟨_, rfl, rfl, _, rfl, ?_⟩
        refine ite2 (fun hk1 => ?_) (fun hk1 => ?_)
        · have ek : kd = 1 := V.int.inj (of_decide_eq_true hk1)
          exact ⟨_, rfl, _, rfl, q, m, rfl, hm, fun H1 s1 => ⟨by rw [ek]; rfl, s1⟩⟩
        · have n1 : ¬ kd = 1 := fun z => hk1 (decide_eq_true (congrArg V.int z))
          exact ⟨_, rfl, _, rfl, _, rfl, kd, q, m, rfl, hm, fun H1 s1 => ⟨by unfold dueC; rw [if_neg n0, if_neg n1], s1⟩⟩
    · obtain ⟨e1, sm⟩ := e
      cases e1
      refine ⟨_, rfl, _, _, _, rfl, rfl, i0, _, rfl, _, _, _, rfl, rfl, i1, _, rfl, _, _, _, rfl, rfl, i2, le63 (by show 3 ≤ 900; decide), fun p hp => ?_⟩
      have s1 : Same H' (upd H' p (.lst [.bl (decide (kd = 0)), .bl (decide (kd = 1)), .bl (decide (kd = 2))])) := Same.new H' hp
      have q1 : upd H' p (.lst [.bl (decide (kd = 0)), .bl (decide (kd = 1)), .bl (decide (kd = 2))]) p = some (.lst [.bl (decide (kd = 0)), .bl (decide (kd = 1)), .bl (decide (kd = 2))]) := upd_same
      generalize upd H' p (.lst [.bl (decide (kd = 0)), .bl (decide (kd = 1)), .bl (decide (kd = 2))]) = H1 at s1 q1 ⊢
      refine ⟨_, rfl, _, rfl, _, _, _, rfl, rfl, i3, _, rfl, _, _, _, rfl, rfl, i4, le63 (by show 2 ≤ 900; decide), fun p2 hp2 => ?_⟩
      have s2 : Same H1 (upd H1 p2 (.lst [.bl (decide (kd = 3)), .bl true])) := Same.new H1 hp2
      have q2 : upd H1 p2 (.lst [.bl (decide (kd = 3)), .bl true]) p2 = some (.lst [.bl (decide (kd = 3)), .bl true]) := upd_same
      generalize upd H1 p2 (.lst [.bl (decide (kd = 3)), .bl true]) = H2 at s2 q2 ⊢
      refine ⟨p, p2, _, _, rfl, rfl, s2.at q1, q2, le63 (by show 5 ≤ 900; decide), fun p3 hp3 => ?_⟩
      exact k p3 _ (((sm.trans s1).trans s2).trans (Same.new H2 hp3)) upd_same
end
end JM

namespace JM
open PySem L2 J TX
noncomputable def rAlt : R.Rg := fun p => decide (p % 2 = 0)
noncomputable def rAlt' : R.Rg := fun p => decide (p % 2 = 1)
theorem alt1 : R.stp rAlt = rAlt' := by
  funext p
  unfold R.stp rAlt rAlt'
  by_cases h : p % 2 = 0
  · rw [if_pos (decide_eq_true h), decide_eq_false (show ¬ (p + 1) % 2 = 0 by (first | lia | omega)), decide_eq_false (show ¬ p % 2 = 1 by (first | lia | omega))]
  · rw [if_neg (by rw [decide_eq_false h]; exact Bool.false_ne_true), decide_eq_true (show (p - 1) % 2 = 0 by (first | lia | omega)), decide_eq_true (show p % 2 = 1 by (first | lia | omega))]
theorem alt2 : R.stp rAlt' = rAlt := by
  funext p
  unfold R.stp rAlt rAlt'
  by_cases h : p % 2 = 1
  · rw [if_pos (decide_eq_true h), decide_eq_false (show ¬ (p + 1) % 2 = 1 by (first | lia | omega)), decide_eq_false (show ¬ p % 2 = 0 by (first | lia | omega))]
  · rw [if_neg (by rw [decide_eq_false h]; exact Bool.false_ne_true), decide_eq_true (show (p - 1) % 2 = 1 by (first | lia | omega)), decide_eq_true (show p % 2 = 0 by (first | lia | omega))]
theorem alt_all : ∀ t, R.stps t rAlt = rAlt ∨ R.stps t rAlt = rAlt'
  | 0 => .inl rfl
  | t + 1 => by
    rw [R.stps_succ]
    rcases alt_all t with e | e
    · rw [e]; exact .inr alt1
    · rw [e]; exact .inl alt2
theorem alt_flw (t : Nat) : R.flw 2 (R.stps t rAlt) = 1 := by
  rcases alt_all t with e | e
  · rw [e]; decide
  · rw [e]; decide
theorem alt_per : R.Per 2 rAlt := fun p => by
  unfold rAlt
  have e : (p + ((2 : Nat) : Int)) % 2 = p % 2 := by (first | lia | omega)
  rw [e]
theorem ccg_per : R.Per 3 (rOf [true, true, false]) := fun p => by
  show List.getD _ ((p + ((3 : Nat) : Int)) % ((3 : Nat) : Int)).toNat _ = List.getD _ (p % ((3 : Nat) : Int)).toNat _
  have e : (p + ((3 : Nat) : Int)) % ((3 : Nat) : Int) = p % ((3 : Nat) : Int) := by (first | lia | omega)
  rw [e]
theorem tx_g : tx 1 (fun _ => false) = Str.ofString "." := by decide +kernel
theorem tx_c : tx 1 (fun _ => true) = Str.ofString "c" := by decide +kernel
theorem tx_cg : tx 2 rAlt = Str.ofString "c." := by decide +kernel
theorem tx_ccg : tx 3 (rOf [true, true, false]) = Str.ofString "cc." := by decide +kernel
theorem tx_ccg1 : tx 3 (R.stps (1 : Int).toNat (rOf [true, true, false])) = Str.ofString "c.c" := by decide +kernel
theorem set_g {m : Nat} (h : R.Settles 1 (fun _ => false) m) : m = 0 := h.uniq (R.settles_none (fun _ => rfl) (by decide) rfl)
theorem set_c {m : Nat} (h : R.Settles 1 (fun _ => true) m) : m = 0 :=
  h.uniq (R.Settles.ex1 (fun _ => rfl) (by decide) (R.settles_none (fun _ => rfl) (by decide) rfl))
theorem run_one (x : Int) : ∀ n : Nat, run n [x] = [x + n]
  | 0 => by show [x] = [x + ((0 : Nat) : Int)]; rw [show x + ((0 : Nat) : Int) = x by (first | lia | omega)]
  | n + 1 => by
    show step (run n [x]) = _
    rw [run_one x n]
    show [if x + (n : Int) + 1 ∈ [x + (n : Int)] then x + (n : Int) else x + (n : Int) + 1] = _
    rw [if_neg (by simp; (first | lia | omega))]
    rw [show x + (n : Int) + 1 = x + ((n + 1 : Nat) : Int) by (first | lia | omega)]
theorem dV (i j : Int) : decide (V.int i = V.int j) = decide (i = j) := by
  by_cases h : i = j
  · rw [decide_eq_true h, decide_eq_true (congrArg V.int h)]
  · rw [decide_eq_false h, decide_eq_false (fun z => h (V.int.inj z))]
theorem due_eq (kd : Int) : [V.bl (decide (V.int kd = V.int 0)), .bl (decide (V.int kd = V.int 1)), .bl (decide (V.int kd = V.int 2)), .bl (decide (V.int kd = V.int 3)), .bl true] = (dueL kd).map V.bl := by
  rw [dV, dV, dV, dV]; rfl
theorem neg5 (x : Int) : [-5 + x] = [x - 5] := by rw [show -5 + x = x - 5 by (first | lia | omega)]
theorem rise0 : Rising [] := fun i h => absurd h (by simp)
theorem rise1 (x : Int) : Rising [x] := fun i h => absurd h (by simp)
section
variable {P : Program} {w : World} {K : PySem.W.Frag} {mg : Str → Option Value} {base : Heap}
noncomputable def spLaw (K : PySem.W.Frag) : Sp := fun vs H Q _ => ∃ (a : Addr) (zs : List Int), vs = [.ref a] ∧ SqL K H a (ivs zs) ∧ zs.length ≤ 63 ∧ ∀ H', Q (.bl true) H'
noncomputable abbrev nLaw : List Str := ["_law_script", "_law_cell", "_law_kind", "_law_due"]
theorem sc_law : FnScope nLaw ["_law_script"] (defScope s_law) := ⟨rfl, rfl, rfl, by decide +kernel, rfl, by decide +kernel, by decide +kernel⟩
theorem ok_law {f : Addr} {fd : FuncData} (F : Fun K "law" "law" s_law f fd) (DT : Def P w K mg base "_law_told" 8 ["_law_kind", "_law_which", "_law_more"] spTold) (DS : Def P w K mg base "stepped" 5 ["cars"] spStepped)
    (DD : Def P w K mg base "delays" 4 ["cars"] spDelays) (DF : Def P w K mg base "free_from" 4 ["cars"] spFree) (DA : Def P w K mg base "after" 4 ["cars", "steps"] spAfter) (DG : Def P w K mg base "settled" 6 ["ring"] spSettled)
    (DW : Def P w K mg base "flow" 7 ["ring", "steps"] spFlow) (DR : Def P w K mg base "around_after" 6 ["ring", "steps"] spAft) : FnOk P w K mg base CX0 9 f fd ["_law_script"] (spLaw K) := by
  refine F.ok sc_law (fun vs H Q E h => ?_) (fun cdv A outer s H vs Q E hr h => ?_)
  · obtain ⟨a, zs, rfl, _⟩ := h
    rfl
  · obtain ⟨a, zs, rfl, ha, hl, k⟩ := h
    have nd := sc_law.nd
    have hr4 : Room 4 _ := hr.mono (by decide)
    have hr5 : Room 5 _ := hr.mono (by decide)
    have hr6 : Room 6 _ := hr.mono (by decide)
    have hr7 : Room 7 _ := hr.mono (by decide)
    have hu := hr.units
    refine ⟨_, (pss_cons (ps_for PassesOwn.never rfl (pi_list (pv 0)) (pg_name (i := 1) nd rfl (Or.inl rfl))
        (pss_cons (ps_set (i := 2) nd rfl (Or.inl rfl) (pe_op op_mod (pv 1) pe_int))
 (pss_cons (ps_set (i := 3) nd rfl (Or.inl rfl) (pe_lst (pa_cons (pe_cmpR op_eq (pv 2) pe_int (nomark _)) (pa_cons (pe_cmpR op_eq (pv 2) pe_int (nomark _)) (pa_cons (pe_cmpR op_eq (pv 2) pe_int (nomark _)) (pa_cons (pe_cmpR op_eq (pv 2) pe_int (nomark _)) (pa_cons pe_bl pa_nil)))))))
 (pss_one (ps_if (pt_cmpR (op_neB K hu) (pe_def DT hr (pa_cons (pv 2) (pa_cons (pe_op op_mod (pe_op op_fdiv (pv 1) pe_int) pe_int) (pa_cons (pe_op op_mod (pe_op op_fdiv (pv 1) pe_int) pe_int) pa_nil)))) (pv 3) (nomark _)) pss_never pss_nil)))))
 (pss_cons (ps_if (PW.pt (pw_or (pt_cmpR (op_neL hu) (pe_def DS hr5 (pa_cons (pe_lst pa_nil) pa_nil)) (pe_lst pa_nil) (nomark _)) (pw_or (pt_cmpR (op_neL hu) (pe_def DD hr4 (pa_cons (pe_lst pa_nil) pa_nil)) (pe_lst pa_nil) (nomark _)) (pw_or (pt_cmpR (op_neL hu) (pe_def DF hr4 (pa_cons (pe_lst pa_nil) pa_nil)) (pe_lst pa_nil) (nomark _))
          (pw_or1 (pt_cmpR (op_neL hu) (pe_def DA hr4 (pa_cons (pe_lst (pa_cons (pe_un un_neg pe_int) pa_nil)) (pa_cons (pe_op op_pow pe_int pe_int) pa_nil))) (pe_lst (pa_cons (pe_op op_sub (pe_op op_pow pe_int pe_int) pe_int) pa_nil)) (nomark _))))))) pss_never pss_nil)
 (pss_one (ps_ret (pe_and (pe_cmpR op_eq (pe_def DG hr6 (pa_cons pe_str pa_nil)) pe_int (nomark _)) (pe_and (pe_cmpR op_eq (pe_def DG hr6 (pa_cons pe_str pa_nil)) pe_int (nomark _)) (pe_and (pe_cmpR op_eq (pe_def DW hr7 (pa_cons pe_str (pa_cons (pe_op op_pow pe_int pe_int) pa_nil))) pe_int (nomark _)) (pe_one (pe_cmpR op_eq (pe_def DR hr6 (pa_cons pe_str (pa_cons pe_int pa_nil))) pe_str (nomark _)))))))))), ?_⟩
    refine ⟨_, rfl, a, rfl, ⟨_, ha⟩, for_by (n := zs.length) (fun i σ H' => ∃ (o1 o2 o3 : Option V), σ = [some (.ref a), o1, o2, o3] ∧ Same H H') ⟨none, none, none, rfl, Same.refl H⟩ ?_ ?_ ?_ ?_⟩
    · rintro i σ H' hi ⟨_, _, _, _, sm⟩
      exact ⟨_, _, sm.seq ha, ivs_get hi⟩
    · rintro σ H' ⟨_, _, _, _, sm⟩
      exact ⟨_, sm.seq ha, by simp⟩
    · rintro i x σ H0 H1 hi ⟨o1, o2, o3, rfl, sm⟩ ⟨rfl, y⟩
      have ex := y _ (sm.seq ha)
      rw [ivs_get hi] at ex
      cases ex
      generalize J.g zs i = c
      refine ⟨_, rfl, _, _, rfl, rfl, (by show (0 : Int) < 4; decide), ?_⟩
      have d0 : 0 ≤ c % 4 := Int.emod_nonneg _ (by decide)
      have d4 : c % 4 < 4 := Int.emod_lt_of_pos _ (by decide)
      dsimp only [gName]
      generalize c % 4 = kd at d0 d4
      refine ⟨_, rfl, rfl, _, rfl, rfl, _, rfl, rfl, _, rfl, rfl, le63 (by show 5 ≤ 900; decide), fun p hp => ?_⟩
      have s1 : Same H1 (upd H1 p (.lst [V.bl (decide (V.int kd = V.int 0)), .bl (decide (V.int kd = V.int 1)), .bl (decide (V.int kd = V.int 2)), .bl (decide (V.int kd = V.int 3)), .bl true])) := Same.new H1 hp
      have q1 : upd H1 p (.lst [V.bl (decide (V.int kd = V.int 0)), .bl (decide (V.int kd = V.int 1)), .bl (decide (V.int kd = V.int 2)), .bl (decide (V.int kd = V.int 3)), .bl true]) p = some (.lst ((dueL kd).map V.bl)) := by rw [upd_same, due_eq]
      generalize upd H1 p (.lst [V.bl (decide (V.int kd = V.int 0)), .bl (decide (V.int kd = V.int 1)), .bl (decide (V.int kd = V.int 2)), .bl (decide (V.int kd = V.int 3)), .bl true]) = H2 at s1 q1 ⊢
      refine ⟨_, rfl, _, rfl, _, _, rfl, rfl, ⟨by decide, by decide⟩, _, _, rfl, rfl, (by show (0 : Int) < 100000; decide), _, rfl, _, _, rfl, rfl, ⟨by decide, by decide⟩, _, _, rfl, rfl, (by show (0 : Int) < 1000; decide), kd, _, _, rfl, d0, d4, Int.emod_nonneg _ (by decide), fun p2 H3 s3 q3 => ?_⟩
      refine ⟨_, rfl, p2, p, dueL kd, dueL kd, rfl, rfl, SqL.of q3, SqL.of (s3.at q1), _, rfl, ?_⟩
      exact iteNS rfl ⟨_, _, _, rfl, (sm.trans s1).trans s3⟩
    · rintro σ H1 ⟨o1, o2, o3, rfl, sm⟩
      -- nobody on the road
      refine ⟨Nat.zero_le _, fun p1 h1 => ⟨p1, [], rfl, upd_same, rise0, by decide, fun p2 H2 s2 hp2 q2 => ⟨Nat.zero_le _, fun p3 h3 => ?_⟩⟩⟩
      refine ⟨p2, p3, [], [], rfl, rfl, SqL.of ((Same.new H2 h3).at q2), SqL.of upd_same, _, rfl, iteNS rfl ?_⟩
      generalize upd H2 p3 (.lst []) = H3
      refine ⟨Nat.zero_le _, fun p1 h1 => ⟨p1, [], rfl, upd_same, rise0, by decide, fun p2 H2 s2 hp2 q2 => ⟨Nat.zero_le _, fun p3 h3 => ?_⟩⟩⟩
      refine ⟨p2, p3, [], [], rfl, rfl, SqL.of ((Same.new H2 h3).at q2), SqL.of upd_same, _, rfl, iteNS rfl ?_⟩
      generalize upd H2 p3 (.lst []) = H4
      refine ⟨Nat.zero_le _, fun p1 h1 => ⟨p1, [], rfl, upd_same, rise0, by decide, fun p2 H2 s2 hp2 q2 => ⟨Nat.zero_le _, fun p3 h3 => ?_⟩⟩⟩
      refine ⟨p2, p3, [], [], rfl, rfl, SqL.of ((Same.new H2 h3).at q2), SqL.of upd_same, _, rfl, iteNS rfl ?_⟩
      generalize upd H2 p3 (.lst []) = H5
      -- one car, far on
      refine ⟨_, rfl, le63 (by show 1 ≤ 900; decide), fun p1 h1 => ⟨_, _, rfl, rfl, ⟨by decide, by decide, by decide⟩, p1, [-5], 10 ^ (30 : Int).toNat, rfl, upd_same, rise1 _, by decide, by decide, fun p2 H2 s2 hp2 q2 => ?_⟩⟩
      rw [run_one] at q2
      have e30 : (((10 : Int) ^ (30 : Int).toNat).toNat : Int) = 10 ^ (30 : Int).toNat := Int.toNat_of_nonneg (by decide)
      rw [e30] at q2
      refine ⟨_, _, rfl, rfl, ⟨by decide, by decide, by decide⟩, _, _, rfl, rfl, le63 (by show 1 ≤ 900; decide), fun p3 h3 => ?_⟩
      refine ⟨p2, p3, [-5 + 10 ^ (30 : Int).toNat], [10 ^ (30 : Int).toNat - 5], rfl, rfl, SqL.of ((Same.new H2 h3).at q2), SqL.of upd_same, _, rfl, iteNS (neg5 _) ?_⟩
      -- rings
      refine ⟨1, fun _ => false, (congrArg (fun z => [V.str z]) tx_g.symm), by decide, by decide, fun _ => rfl, fun m H6 s6 hs => ?_⟩
      have e0 := set_g hs
      subst e0
      refine ⟨rfl, _, rfl, ?_⟩
      rw [if_pos (show decide (V.int ((0 : Nat) : Int) = V.int 0) = true from decide_eq_true rfl)]
      refine ⟨1, fun _ => true, (congrArg (fun z => [V.str z]) tx_c.symm), by decide, by decide, fun _ => rfl, fun m H7 s7 hs => ?_⟩
      have e0 := set_c hs
      subst e0
      refine ⟨rfl, _, rfl, ?_⟩
      rw [if_pos (show decide (V.int ((0 : Nat) : Int) = V.int 0) = true from decide_eq_true rfl)]
      refine ⟨_, _, rfl, rfl, ⟨by decide, by decide, by decide⟩, 2, rAlt, 10 ^ (30 : Int).toNat, (congrArg (fun z => [V.str z, V.int (10 ^ (30 : Int).toNat)]) tx_cg.symm), by decide, by decide, alt_per, by decide, fun H8 s8 => ?_⟩
      refine ⟨rfl, _, rfl, ?_⟩
      rw [alt_flw, if_pos (show decide (V.int ((1 : Nat) : Int) = V.int 1) = true from decide_eq_true rfl)]
      refine ⟨3, rOf [true, true, false], 1, (congrArg (fun z => [V.str z, V.int 1]) tx_ccg.symm), by decide, by decide, ccg_per, by decide, fun H9 s9 => ?_⟩
      refine ⟨rfl, ?_⟩
      have e9 : decide (V.str (tx 3 (R.stps (1 : Int).toNat (rOf [true, true, false]))) = V.str (Str.ofString "c.c")) = true := decide_eq_true (by rw [tx_ccg1])
      rw [e9]
      exact k H9
end
end JM

namespace JM
open PySem L2 J
theorem usS {α : Type} {us : List α} {n : Nat} (h : us.length = n + 1) : ∃ a t, us = a :: t ∧ t.length = n := by
  cases us with
  | nil => cases h
  | cons a t => exact ⟨a, t, rfl, Nat.succ.inj h⟩
theorem us1 {α : Type} {us : List α} (h : us.length = 1) : ∃ a, us = [a] := by
  obtain ⟨a, t, rfl, h'⟩ := usS h
  exact ⟨a, by rw [List.eq_nil_of_length_eq_zero h']⟩
theorem us2 {α : Type} {us : List α} (h : us.length = 2) : ∃ a b, us = [a, b] := by
  obtain ⟨a, t, rfl, h'⟩ := usS h
  obtain ⟨b, rfl⟩ := us1 h'
  exact ⟨a, b, rfl⟩
theorem us3 {α : Type} {us : List α} (h : us.length = 3) : ∃ a b c, us = [a, b, c] := by
  obtain ⟨a, t, rfl, h'⟩ := usS h
  obtain ⟨b, c, rfl⟩ := us2 h'
  exact ⟨a, b, c, rfl⟩
theorem us4 {α : Type} {us : List α} (h : us.length = 4) : ∃ a b c d, us = [a, b, c, d] := by
  obtain ⟨a, t, rfl, h'⟩ := usS h
  obtain ⟨b, c, d, rfl⟩ := us3 h'
  exact ⟨a, b, c, d, rfl⟩
theorem all_mk {l : PySem.W.OpenLaw} {w : World} {K : PySem.W.Frag} {h : Heap} {mg : Str → Option Value} {fa f0 f1 f2 f3 f4 f5 f6 f7 f8 f9 f10 f11 f12 f13 f14 f15 f16 f17 f18 f19 f20 f21 f22 f23 f24 f25 f26 f27 f28 f29 f30 CRoadError CBadCars CBadCar CBadSteps CBadRing : Addr} (X : K.In h) (G : h.Ns mainGlobals mg) (hfa : mg "law" = some (.ref fa))
    {od0 an0 od1 an1 od2 an2 od3 an3 od4 an4 od5 an5 od6 an6 od7 an7 od8 an8 od9 an9 od10 an10 od11 an11 od12 an12 od13 an13 od14 an14 od15 an15 od16 an16 od17 an17 od18 an18 od19 an19 od20 an20 od21 an21 od22 an22 od23 an23 od24 an24 od25 an25 od26 an26 od27 an27 od28 an28 od29 an29 od30 an30 : Option Addr} {sl0 sl1 sl2 sl3 sl4 sl5 sl6 sl7 sl8 sl9 sl10 sl11 sl12 sl13 sl14 sl15 sl16 sl17 sl18 sl19 sl20 sl21 sl22 sl23 sl24 sl25 sl26 sl27 sl28 sl29 sl30 : Array (Option Value)} {oc0 kV0 dc0 pm0 cd0 ct0 oc1 kV1 dc1 pm1 cd1 ct1 oc2 kV2 dc2 pm2 cd2 ct2 oc3 kV3 dc3 pm3 cd3 ct3 oc4 kV4 dc4 pm4 cd4 ct4 oc5 kV5 dc5 pm5 cd5 ct5 oc6 kV6 dc6 pm6 cd6 ct6 oc7 kV7 dc7 pm7 cd7 ct7 oc8 kV8 dc8 pm8 cd8 ct8 oc9 kV9 dc9 pm9 cd9 ct9 oc10 kV10 dc10 pm10 cd10 ct10 oc11 kV11 dc11 pm11 cd11 ct11 oc12 kV12 dc12 pm12 cd12 ct12 oc13 kV13 dc13 pm13 cd13 ct13 oc14 kV14 dc14 pm14 cd14 ct14 oc15 kV15 dc15 pm15 cd15 ct15 oc16 kV16 dc16 pm16 cd16 ct16 oc17 kV17 dc17 pm17 cd17 ct17 oc18 kV18 dc18 pm18 cd18 ct18 oc19 kV19 dc19 pm19 cd19 ct19 oc20 kV20 dc20 pm20 cd20 ct20 oc21 kV21 dc21 pm21 cd21 ct21 oc22 kV22 dc22 pm22 cd22 ct22 oc23 kV23 dc23 pm23 cd23 ct23 oc24 kV24 dc24 pm24 cd24 ct24 oc25 kV25 dc25 pm25 cd25 ct25 oc26 kV26 dc26 pm26 cd26 ct26 oc27 kV27 dc27 pm27 cd27 ct27 oc28 kV28 dc28 pm28 cd28 ct28 oc29 kV29 dc29 pm29 cd29 ct29 oc30 kV30 dc30 pm30 cd30 ct30 : Value}
    {cdRoadError cdBadCars cdBadCar cdBadSteps cdBadRing : ClassData}
    (a0 : PySem.W.nsIn K mainGlobals "is_whole" = some (some (.ref f0)))
    (l0 : K.lookup f0 = some ⟨oc0, od0, .func (PySem.W.fnOf "is_whole" "is_whole" (defArgs s_is_whole) (defBody s_is_whole) (defScope s_is_whole) .none kV0 dc0 pm0 an0 cd0 ct0), sl0⟩)
    (c0 : PySem.W.codeIn K cd0 "is_whole" = true)
    (k0 : PySem.W.keepIn K (.ref f0) = true)
    (a1 : PySem.W.nsIn K mainGlobals "are_cars" = some (some (.ref f1)))
    (l1 : K.lookup f1 = some ⟨oc1, od1, .func (PySem.W.fnOf "are_cars" "are_cars" (defArgs s_are_cars) (defBody s_are_cars) (defScope s_are_cars) .none kV1 dc1 pm1 an1 cd1 ct1), sl1⟩)
    (c1 : PySem.W.codeIn K cd1 "are_cars" = true)
    (k1 : PySem.W.keepIn K (.ref f1) = true)
    (a2 : PySem.W.nsIn K mainGlobals "is_count" = some (some (.ref f2)))
    (l2 : K.lookup f2 = some ⟨oc2, od2, .func (PySem.W.fnOf "is_count" "is_count" (defArgs s_is_count) (defBody s_is_count) (defScope s_is_count) .none kV2 dc2 pm2 an2 cd2 ct2), sl2⟩)
    (c2 : PySem.W.codeIn K cd2 "is_count" = true)
    (k2 : PySem.W.keepIn K (.ref f2) = true)
    (a3 : PySem.W.nsIn K mainGlobals "check_cars" = some (some (.ref f3)))
    (l3 : K.lookup f3 = some ⟨oc3, od3, .func (PySem.W.fnOf "check_cars" "check_cars" (defArgs s_check_cars) (defBody s_check_cars) (defScope s_check_cars) .none kV3 dc3 pm3 an3 cd3 ct3), sl3⟩)
    (c3 : PySem.W.codeIn K cd3 "check_cars" = true)
    (k3 : PySem.W.keepIn K (.ref f3) = true)
    (a4 : PySem.W.nsIn K mainGlobals "check_steps" = some (some (.ref f4)))
    (l4 : K.lookup f4 = some ⟨oc4, od4, .func (PySem.W.fnOf "check_steps" "check_steps" (defArgs s_check_steps) (defBody s_check_steps) (defScope s_check_steps) .none kV4 dc4 pm4 an4 cd4 ct4), sl4⟩)
    (c4 : PySem.W.codeIn K cd4 "check_steps" = true)
    (k4 : PySem.W.keepIn K (.ref f4) = true)
    (a5 : PySem.W.nsIn K mainGlobals "let_to" = some (some (.ref f5)))
    (l5 : K.lookup f5 = some ⟨oc5, od5, .func (PySem.W.fnOf "let_to" "let_to" (defArgs s_let_to) (defBody s_let_to) (defScope s_let_to) .none kV5 dc5 pm5 an5 cd5 ct5), sl5⟩)
    (c5 : PySem.W.codeIn K cd5 "let_to" = true)
    (k5 : PySem.W.keepIn K (.ref f5) = true)
    (a6 : PySem.W.nsIn K mainGlobals "holders" = some (some (.ref f6)))
    (l6 : K.lookup f6 = some ⟨oc6, od6, .func (PySem.W.fnOf "holders" "holders" (defArgs s_holders) (defBody s_holders) (defScope s_holders) .none kV6 dc6 pm6 an6 cd6 ct6), sl6⟩)
    (c6 : PySem.W.codeIn K cd6 "holders" = true)
    (k6 : PySem.W.keepIn K (.ref f6) = true)
    (a7 : PySem.W.nsIn K mainGlobals "after" = some (some (.ref f7)))
    (l7 : K.lookup f7 = some ⟨oc7, od7, .func (PySem.W.fnOf "after" "after" (defArgs s_after) (defBody s_after) (defScope s_after) .none kV7 dc7 pm7 an7 cd7 ct7), sl7⟩)
    (c7 : PySem.W.codeIn K cd7 "after" = true)
    (k7 : PySem.W.keepIn K (.ref f7) = true)
    (a8 : PySem.W.nsIn K mainGlobals "stepped" = some (some (.ref f8)))
    (l8 : K.lookup f8 = some ⟨oc8, od8, .func (PySem.W.fnOf "stepped" "stepped" (defArgs s_stepped) (defBody s_stepped) (defScope s_stepped) .none kV8 dc8 pm8 an8 cd8 ct8), sl8⟩)
    (c8 : PySem.W.codeIn K cd8 "stepped" = true)
    (k8 : PySem.W.keepIn K (.ref f8) = true)
    (a9 : PySem.W.nsIn K mainGlobals "delays" = some (some (.ref f9)))
    (l9 : K.lookup f9 = some ⟨oc9, od9, .func (PySem.W.fnOf "delays" "delays" (defArgs s_delays) (defBody s_delays) (defScope s_delays) .none kV9 dc9 pm9 an9 cd9 ct9), sl9⟩)
    (c9 : PySem.W.codeIn K cd9 "delays" = true)
    (k9 : PySem.W.keepIn K (.ref f9) = true)
    (a10 : PySem.W.nsIn K mainGlobals "free_from" = some (some (.ref f10)))
    (l10 : K.lookup f10 = some ⟨oc10, od10, .func (PySem.W.fnOf "free_from" "free_from" (defArgs s_free_from) (defBody s_free_from) (defScope s_free_from) .none kV10 dc10 pm10 an10 cd10 ct10), sl10⟩)
    (c10 : PySem.W.codeIn K cd10 "free_from" = true)
    (k10 : PySem.W.keepIn K (.ref f10) = true)
    (a11 : PySem.W.nsIn K mainGlobals "is_car" = some (some (.ref f11)))
    (l11 : K.lookup f11 = some ⟨oc11, od11, .func (PySem.W.fnOf "is_car" "is_car" (defArgs s_is_car) (defBody s_is_car) (defScope s_is_car) .none kV11 dc11 pm11 an11 cd11 ct11), sl11⟩)
    (c11 : PySem.W.codeIn K cd11 "is_car" = true)
    (k11 : PySem.W.keepIn K (.ref f11) = true)
    (a12 : PySem.W.nsIn K mainGlobals "has_one_in_front" = some (some (.ref f12)))
    (l12 : K.lookup f12 = some ⟨oc12, od12, .func (PySem.W.fnOf "has_one_in_front" "has_one_in_front" (defArgs s_has_one_in_front) (defBody s_has_one_in_front) (defScope s_has_one_in_front) .none kV12 dc12 pm12 an12 cd12 ct12), sl12⟩)
    (c12 : PySem.W.codeIn K cd12 "has_one_in_front" = true)
    (k12 : PySem.W.keepIn K (.ref f12) = true)
    (a13 : PySem.W.nsIn K mainGlobals "check_car" = some (some (.ref f13)))
    (l13 : K.lookup f13 = some ⟨oc13, od13, .func (PySem.W.fnOf "check_car" "check_car" (defArgs s_check_car) (defBody s_check_car) (defScope s_check_car) .none kV13 dc13 pm13 an13 cd13 ct13), sl13⟩)
    (c13 : PySem.W.codeIn K cd13 "check_car" = true)
    (k13 : PySem.W.keepIn K (.ref f13) = true)
    (a14 : PySem.W.nsIn K mainGlobals "held" = some (some (.ref f14)))
    (l14 : K.lookup f14 = some ⟨oc14, od14, .func (PySem.W.fnOf "held" "held" (defArgs s_held) (defBody s_held) (defScope s_held) .none kV14 dc14 pm14 an14 cd14 ct14), sl14⟩)
    (c14 : PySem.W.codeIn K cd14 "held" = true)
    (k14 : PySem.W.keepIn K (.ref f14) = true)
    (a15 : PySem.W.nsIn K mainGlobals "check_has_one_in_front" = some (some (.ref f15)))
    (l15 : K.lookup f15 = some ⟨oc15, od15, .func (PySem.W.fnOf "check_has_one_in_front" "check_has_one_in_front" (defArgs s_check_has_one_in_front) (defBody s_check_has_one_in_front) (defScope s_check_has_one_in_front) .none kV15 dc15 pm15 an15 cd15 ct15), sl15⟩)
    (c15 : PySem.W.codeIn K cd15 "check_has_one_in_front" = true)
    (k15 : PySem.W.keepIn K (.ref f15) = true)
    (a16 : PySem.W.nsIn K mainGlobals "touches" = some (some (.ref f16)))
    (l16 : K.lookup f16 = some ⟨oc16, od16, .func (PySem.W.fnOf "touches" "touches" (defArgs s_touches) (defBody s_touches) (defScope s_touches) .none kV16 dc16 pm16 an16 cd16 ct16), sl16⟩)
    (c16 : PySem.W.codeIn K cd16 "touches" = true)
    (k16 : PySem.W.keepIn K (.ref f16) = true)
    (a17 : PySem.W.nsIn K mainGlobals "is_ring" = some (some (.ref f17)))
    (l17 : K.lookup f17 = some ⟨oc17, od17, .func (PySem.W.fnOf "is_ring" "is_ring" (defArgs s_is_ring) (defBody s_is_ring) (defScope s_is_ring) .none kV17 dc17 pm17 an17 cd17 ct17), sl17⟩)
    (c17 : PySem.W.codeIn K cd17 "is_ring" = true)
    (k17 : PySem.W.keepIn K (.ref f17) = true)
    (a18 : PySem.W.nsIn K mainGlobals "check_ring" = some (some (.ref f18)))
    (l18 : K.lookup f18 = some ⟨oc18, od18, .func (PySem.W.fnOf "check_ring" "check_ring" (defArgs s_check_ring) (defBody s_check_ring) (defScope s_check_ring) .none kV18 dc18 pm18 an18 cd18 ct18), sl18⟩)
    (c18 : PySem.W.codeIn K cd18 "check_ring" = true)
    (k18 : PySem.W.keepIn K (.ref f18) = true)
    (a19 : PySem.W.nsIn K mainGlobals "exchanged" = some (some (.ref f19)))
    (l19 : K.lookup f19 = some ⟨oc19, od19, .func (PySem.W.fnOf "exchanged" "exchanged" (defArgs s_exchanged) (defBody s_exchanged) (defScope s_exchanged) .none kV19 dc19 pm19 an19 cd19 ct19), sl19⟩)
    (c19 : PySem.W.codeIn K cd19 "exchanged" = true)
    (k19 : PySem.W.keepIn K (.ref f19) = true)
    (a20 : PySem.W.nsIn K mainGlobals "is_crowded" = some (some (.ref f20)))
    (l20 : K.lookup f20 = some ⟨oc20, od20, .func (PySem.W.fnOf "is_crowded" "is_crowded" (defArgs s_is_crowded) (defBody s_is_crowded) (defScope s_is_crowded) .none kV20 dc20 pm20 an20 cd20 ct20), sl20⟩)
    (c20 : PySem.W.codeIn K cd20 "is_crowded" = true)
    (k20 : PySem.W.keepIn K (.ref f20) = true)
    (a21 : PySem.W.nsIn K mainGlobals "two_laps" = some (some (.ref f21)))
    (l21 : K.lookup f21 = some ⟨oc21, od21, .func (PySem.W.fnOf "two_laps" "two_laps" (defArgs s_two_laps) (defBody s_two_laps) (defScope s_two_laps) .none kV21 dc21 pm21 an21 cd21 ct21), sl21⟩)
    (c21 : PySem.W.codeIn K cd21 "two_laps" = true)
    (k21 : PySem.W.keepIn K (.ref f21) = true)
    (a22 : PySem.W.nsIn K mainGlobals "around_after" = some (some (.ref f22)))
    (l22 : K.lookup f22 = some ⟨oc22, od22, .func (PySem.W.fnOf "around_after" "around_after" (defArgs s_around_after) (defBody s_around_after) (defScope s_around_after) .none kV22 dc22 pm22 an22 cd22 ct22), sl22⟩)
    (c22 : PySem.W.codeIn K cd22 "around_after" = true)
    (k22 : PySem.W.keepIn K (.ref f22) = true)
    (a23 : PySem.W.nsIn K mainGlobals "around" = some (some (.ref f23)))
    (l23 : K.lookup f23 = some ⟨oc23, od23, .func (PySem.W.fnOf "around" "around" (defArgs s_around) (defBody s_around) (defScope s_around) .none kV23 dc23 pm23 an23 cd23 ct23), sl23⟩)
    (c23 : PySem.W.codeIn K cd23 "around" = true)
    (k23 : PySem.W.keepIn K (.ref f23) = true)
    (a24 : PySem.W.nsIn K mainGlobals "flow" = some (some (.ref f24)))
    (l24 : K.lookup f24 = some ⟨oc24, od24, .func (PySem.W.fnOf "flow" "flow" (defArgs s_flow) (defBody s_flow) (defScope s_flow) .none kV24 dc24 pm24 an24 cd24 ct24), sl24⟩)
    (c24 : PySem.W.codeIn K cd24 "flow" = true)
    (k24 : PySem.W.keepIn K (.ref f24) = true)
    (a25 : PySem.W.nsIn K mainGlobals "settled" = some (some (.ref f25)))
    (l25 : K.lookup f25 = some ⟨oc25, od25, .func (PySem.W.fnOf "settled" "settled" (defArgs s_settled) (defBody s_settled) (defScope s_settled) .none kV25 dc25 pm25 an25 cd25 ct25), sl25⟩)
    (c25 : PySem.W.codeIn K cd25 "settled" = true)
    (k25 : PySem.W.keepIn K (.ref f25) = true)
    (a26 : PySem.W.nsIn K mainGlobals "_law_cars_asked" = some (some (.ref f26)))
    (l26 : K.lookup f26 = some ⟨oc26, od26, .func (PySem.W.fnOf "_law_cars_asked" "_law_cars_asked" (defArgs s_law_cars_asked) (defBody s_law_cars_asked) (defScope s_law_cars_asked) .none kV26 dc26 pm26 an26 cd26 ct26), sl26⟩)
    (c26 : PySem.W.codeIn K cd26 "_law_cars_asked" = true)
    (k26 : PySem.W.keepIn K (.ref f26) = true)
    (a27 : PySem.W.nsIn K mainGlobals "_law_car_asked" = some (some (.ref f27)))
    (l27 : K.lookup f27 = some ⟨oc27, od27, .func (PySem.W.fnOf "_law_car_asked" "_law_car_asked" (defArgs s_law_car_asked) (defBody s_law_car_asked) (defScope s_law_car_asked) .none kV27 dc27 pm27 an27 cd27 ct27), sl27⟩)
    (c27 : PySem.W.codeIn K cd27 "_law_car_asked" = true)
    (k27 : PySem.W.keepIn K (.ref f27) = true)
    (a28 : PySem.W.nsIn K mainGlobals "_law_others_asked" = some (some (.ref f28)))
    (l28 : K.lookup f28 = some ⟨oc28, od28, .func (PySem.W.fnOf "_law_others_asked" "_law_others_asked" (defArgs s_law_others_asked) (defBody s_law_others_asked) (defScope s_law_others_asked) .none kV28 dc28 pm28 an28 cd28 ct28), sl28⟩)
    (c28 : PySem.W.codeIn K cd28 "_law_others_asked" = true)
    (k28 : PySem.W.keepIn K (.ref f28) = true)
    (a29 : PySem.W.nsIn K mainGlobals "_law_told" = some (some (.ref f29)))
    (l29 : K.lookup f29 = some ⟨oc29, od29, .func (PySem.W.fnOf "_law_told" "_law_told" (defArgs s_law_told) (defBody s_law_told) (defScope s_law_told) .none kV29 dc29 pm29 an29 cd29 ct29), sl29⟩)
    (c29 : PySem.W.codeIn K cd29 "_law_told" = true)
    (k29 : PySem.W.keepIn K (.ref f29) = true)
    (a30 : PySem.W.nsIn K mainGlobals "law" = some (some (.ref f30)))
    (l30 : K.lookup f30 = some ⟨oc30, od30, .func (PySem.W.fnOf "law" "law" (defArgs s_law) (defBody s_law) (defScope s_law) .none kV30 dc30 pm30 an30 cd30 ct30), sl30⟩)
    (c30 : PySem.W.codeIn K cd30 "law" = true)
    (k30 : PySem.W.keepIn K (.ref f30) = true)
    (qRoadError : PySem.W.nsIn K mainGlobals "RoadError" = some (some (.ref CRoadError)))
    (yRoadError : PySem.W.clsIn K CRoadError = some cdRoadError)
    (tyRoadError : PySem.W.typeIn K (.ref CRoadError) = some (.type "type"))
    (mbRoadError : PySem.W.mroIn K CRoadError (.type "BaseException") = some true)
    (qBadCars : PySem.W.nsIn K mainGlobals "BadCars" = some (some (.ref CBadCars)))
    (yBadCars : PySem.W.clsIn K CBadCars = some cdBadCars)
    (tyBadCars : PySem.W.typeIn K (.ref CBadCars) = some (.type "type"))
    (mbBadCars : PySem.W.mroIn K CBadCars (.type "BaseException") = some true)
    (qBadCar : PySem.W.nsIn K mainGlobals "BadCar" = some (some (.ref CBadCar)))
    (yBadCar : PySem.W.clsIn K CBadCar = some cdBadCar)
    (tyBadCar : PySem.W.typeIn K (.ref CBadCar) = some (.type "type"))
    (mbBadCar : PySem.W.mroIn K CBadCar (.type "BaseException") = some true)
    (qBadSteps : PySem.W.nsIn K mainGlobals "BadSteps" = some (some (.ref CBadSteps)))
    (yBadSteps : PySem.W.clsIn K CBadSteps = some cdBadSteps)
    (tyBadSteps : PySem.W.typeIn K (.ref CBadSteps) = some (.type "type"))
    (mbBadSteps : PySem.W.mroIn K CBadSteps (.type "BaseException") = some true)
    (qBadRing : PySem.W.nsIn K mainGlobals "BadRing" = some (some (.ref CBadRing)))
    (yBadRing : PySem.W.clsIn K CBadRing = some cdBadRing)
    (tyBadRing : PySem.W.typeIn K (.ref CBadRing) = some (.type "type"))
    (mbBadRing : PySem.W.mroIn K CBadRing (.type "BaseException") = some true)
    (xBadCars : PySem.W.excIn K CBadCars vErr "ValueError.__new__" = true)
    (gaBadCars : PySem.W.findIn K (.ref CBadCars) "__getattribute__" = some (some (.builtin "BaseException.__getattribute__")))
    (naBadCars : PySem.W.findIn K (.ref CBadCars) "__getattr__" = some none)
    (hcBadCars : PySem.W.findIn K (.ref CBadCars) "__class__" = some (some (.builtin "object.__class__")))
    (moBadCars : PySem.W.mroIn K CBadCars (.type "object") = some true)
    (mvBadCars : PySem.W.mroIn K CBadCars (.type "ValueError") = some true)
    (mrBadCars : PySem.W.mroIn K CBadCars (.ref CRoadError) = some true)
    (rBadCars_BadCars : PySem.W.mroIn K CBadCars (.ref CBadCars) = some true)
    (rBadCars_BadCar : PySem.W.mroIn K CBadCars (.ref CBadCar) = some false)
    (eBadCars_BadCar : (Value.ref CBadCars == Value.ref CBadCar) = false)
    (rBadCars_BadSteps : PySem.W.mroIn K CBadCars (.ref CBadSteps) = some false)
    (eBadCars_BadSteps : (Value.ref CBadCars == Value.ref CBadSteps) = false)
    (rBadCars_BadRing : PySem.W.mroIn K CBadCars (.ref CBadRing) = some false)
    (eBadCars_BadRing : (Value.ref CBadCars == Value.ref CBadRing) = false)
    (xBadCar : PySem.W.excIn K CBadCar vErr "ValueError.__new__" = true)
    (gaBadCar : PySem.W.findIn K (.ref CBadCar) "__getattribute__" = some (some (.builtin "BaseException.__getattribute__")))
    (naBadCar : PySem.W.findIn K (.ref CBadCar) "__getattr__" = some none)
    (hcBadCar : PySem.W.findIn K (.ref CBadCar) "__class__" = some (some (.builtin "object.__class__")))
    (moBadCar : PySem.W.mroIn K CBadCar (.type "object") = some true)
    (mvBadCar : PySem.W.mroIn K CBadCar (.type "ValueError") = some true)
    (mrBadCar : PySem.W.mroIn K CBadCar (.ref CRoadError) = some true)
    (rBadCar_BadCars : PySem.W.mroIn K CBadCar (.ref CBadCars) = some false)
    (eBadCar_BadCars : (Value.ref CBadCar == Value.ref CBadCars) = false)
    (rBadCar_BadCar : PySem.W.mroIn K CBadCar (.ref CBadCar) = some true)
    (rBadCar_BadSteps : PySem.W.mroIn K CBadCar (.ref CBadSteps) = some false)
    (eBadCar_BadSteps : (Value.ref CBadCar == Value.ref CBadSteps) = false)
    (rBadCar_BadRing : PySem.W.mroIn K CBadCar (.ref CBadRing) = some false)
    (eBadCar_BadRing : (Value.ref CBadCar == Value.ref CBadRing) = false)
    (xBadSteps : PySem.W.excIn K CBadSteps vErr "ValueError.__new__" = true)
    (gaBadSteps : PySem.W.findIn K (.ref CBadSteps) "__getattribute__" = some (some (.builtin "BaseException.__getattribute__")))
    (naBadSteps : PySem.W.findIn K (.ref CBadSteps) "__getattr__" = some none)
    (hcBadSteps : PySem.W.findIn K (.ref CBadSteps) "__class__" = some (some (.builtin "object.__class__")))
    (moBadSteps : PySem.W.mroIn K CBadSteps (.type "object") = some true)
    (mvBadSteps : PySem.W.mroIn K CBadSteps (.type "ValueError") = some true)
    (mrBadSteps : PySem.W.mroIn K CBadSteps (.ref CRoadError) = some true)
    (rBadSteps_BadCars : PySem.W.mroIn K CBadSteps (.ref CBadCars) = some false)
    (eBadSteps_BadCars : (Value.ref CBadSteps == Value.ref CBadCars) = false)
    (rBadSteps_BadCar : PySem.W.mroIn K CBadSteps (.ref CBadCar) = some false)
    (eBadSteps_BadCar : (Value.ref CBadSteps == Value.ref CBadCar) = false)
    (rBadSteps_BadSteps : PySem.W.mroIn K CBadSteps (.ref CBadSteps) = some true)
    (rBadSteps_BadRing : PySem.W.mroIn K CBadSteps (.ref CBadRing) = some false)
    (eBadSteps_BadRing : (Value.ref CBadSteps == Value.ref CBadRing) = false)
    (xBadRing : PySem.W.excIn K CBadRing vErr "ValueError.__new__" = true)
    (gaBadRing : PySem.W.findIn K (.ref CBadRing) "__getattribute__" = some (some (.builtin "BaseException.__getattribute__")))
    (naBadRing : PySem.W.findIn K (.ref CBadRing) "__getattr__" = some none)
    (hcBadRing : PySem.W.findIn K (.ref CBadRing) "__class__" = some (some (.builtin "object.__class__")))
    (moBadRing : PySem.W.mroIn K CBadRing (.type "object") = some true)
    (mvBadRing : PySem.W.mroIn K CBadRing (.type "ValueError") = some true)
    (mrBadRing : PySem.W.mroIn K CBadRing (.ref CRoadError) = some true)
    (rBadRing_BadCars : PySem.W.mroIn K CBadRing (.ref CBadCars) = some false)
    (eBadRing_BadCars : (Value.ref CBadRing == Value.ref CBadCars) = false)
    (rBadRing_BadCar : PySem.W.mroIn K CBadRing (.ref CBadCar) = some false)
    (eBadRing_BadCar : (Value.ref CBadRing == Value.ref CBadCar) = false)
    (rBadRing_BadSteps : PySem.W.mroIn K CBadRing (.ref CBadSteps) = some false)
    (eBadRing_BadSteps : (Value.ref CBadRing == Value.ref CBadSteps) = false)
    (rBadRing_BadRing : PySem.W.mroIn K CBadRing (.ref CBadRing) = some true)
    (zV : PySem.W.nsIn K mainGlobals "ValueError" = some none)
    (z0 : PySem.W.nsIn K mainGlobals "isinstance" = some none)
    (z1 : PySem.W.nsIn K mainGlobals "int" = some none)
    (z2 : PySem.W.nsIn K mainGlobals "bool" = some none)
    (z3 : PySem.W.nsIn K mainGlobals "list" = some none)
    (z4 : PySem.W.nsIn K mainGlobals "all" = some none)
    (z5 : PySem.W.nsIn K mainGlobals "zip" = some none)
    (z6 : PySem.W.nsIn K mainGlobals "enumerate" = some none)
    (z7 : PySem.W.nsIn K mainGlobals "range" = some none)
    (z8 : PySem.W.nsIn K mainGlobals "len" = some none)
    (z9 : PySem.W.nsIn K mainGlobals "sum" = some none)
    (z10 : PySem.W.nsIn K mainGlobals "str" = some none)
    (z11 : PySem.W.nsIn K mainGlobals "max" = some none)
    (z12 : PySem.W.nsIn K mainGlobals "min" = some none)
    (z13 : PySem.W.nsIn K mainGlobals "any" = some none)
    (z14 : PySem.W.nsIn K mainGlobals "sorted" = some none)
    (z15 : PySem.W.nsIn K mainGlobals "reversed" = some none)
    : ∃ fd : FuncData, (∀ (s : Shared) (v : Value), BindsTo s fd ⟨[v], []⟩ [("_law_script", v)]) ∧ ∀ base : Heap, K.In base → base.Ns mainGlobals mg → FnOk l.prog w K mg base CX0 9 fa fd ["_law_script"] (spLaw K) := by
  have e := hfa.symm.trans (PySem.W.mg_of X G a30)
  cases e
  have O : Own mg := { isi := PySem.W.mg_none_of X G z0, int := PySem.W.mg_none_of X G z1, bool := PySem.W.mg_none_of X G z2, list := PySem.W.mg_none_of X G z3, all := PySem.W.mg_none_of X G z4, zip := PySem.W.mg_none_of X G z5, enum := PySem.W.mg_none_of X G z6, range := PySem.W.mg_none_of X G z7, len := PySem.W.mg_none_of X G z8, sum := PySem.W.mg_none_of X G z9, str := PySem.W.mg_none_of X G z10, max := PySem.W.mg_none_of X G z11, min := PySem.W.mg_none_of X G z12, any := PySem.W.mg_none_of X G z13, sorted := PySem.W.mg_none_of X G z14, rev := PySem.W.mg_none_of X G z15 }
  have F0 := fun_mk (st := s_is_whole) l0 c0 k0
  have b0 := F0.binds (ps := ["value"]) fun _ _ _ _ _ _ us hl => by obtain ⟨_, rfl⟩ := us1 hl; exact rfl
  have F1 := fun_mk (st := s_are_cars) l1 c1 k1
  have b1 := F1.binds (ps := ["cars"]) fun _ _ _ _ _ _ us hl => by obtain ⟨_, rfl⟩ := us1 hl; exact rfl
  have F2 := fun_mk (st := s_is_count) l2 c2 k2
  have b2 := F2.binds (ps := ["steps"]) fun _ _ _ _ _ _ us hl => by obtain ⟨_, rfl⟩ := us1 hl; exact rfl
  have F3 := fun_mk (st := s_check_cars) l3 c3 k3
  have b3 := F3.binds (ps := ["cars"]) fun _ _ _ _ _ _ us hl => by obtain ⟨_, rfl⟩ := us1 hl; exact rfl
  have F4 := fun_mk (st := s_check_steps) l4 c4 k4
  have b4 := F4.binds (ps := ["steps"]) fun _ _ _ _ _ _ us hl => by obtain ⟨_, rfl⟩ := us1 hl; exact rfl
  have F5 := fun_mk (st := s_let_to) l5 c5 k5
  have b5 := F5.binds (ps := ["cars", "car", "by", "steps"]) fun _ _ _ _ _ _ us hl => by obtain ⟨_, _, _, _, rfl⟩ := us4 hl; exact rfl
  have F6 := fun_mk (st := s_holders) l6 c6 k6
  have b6 := F6.binds (ps := ["cars", "steps"]) fun _ _ _ _ _ _ us hl => by obtain ⟨_, _, rfl⟩ := us2 hl; exact rfl
  have F7 := fun_mk (st := s_after) l7 c7 k7
  have b7 := F7.binds (ps := ["cars", "steps"]) fun _ _ _ _ _ _ us hl => by obtain ⟨_, _, rfl⟩ := us2 hl; exact rfl
  have F8 := fun_mk (st := s_stepped) l8 c8 k8
  have b8 := F8.binds (ps := ["cars"]) fun _ _ _ _ _ _ us hl => by obtain ⟨_, rfl⟩ := us1 hl; exact rfl
  have F9 := fun_mk (st := s_delays) l9 c9 k9
  have b9 := F9.binds (ps := ["cars"]) fun _ _ _ _ _ _ us hl => by obtain ⟨_, rfl⟩ := us1 hl; exact rfl
  have F10 := fun_mk (st := s_free_from) l10 c10 k10
  have b10 := F10.binds (ps := ["cars"]) fun _ _ _ _ _ _ us hl => by obtain ⟨_, rfl⟩ := us1 hl; exact rfl
  have F11 := fun_mk (st := s_is_car) l11 c11 k11
  have b11 := F11.binds (ps := ["cars", "car"]) fun _ _ _ _ _ _ us hl => by obtain ⟨_, _, rfl⟩ := us2 hl; exact rfl
  have F12 := fun_mk (st := s_has_one_in_front) l12 c12 k12
  have b12 := F12.binds (ps := ["cars", "car"]) fun _ _ _ _ _ _ us hl => by obtain ⟨_, _, rfl⟩ := us2 hl; exact rfl
  have F13 := fun_mk (st := s_check_car) l13 c13 k13
  have b13 := F13.binds (ps := ["cars", "car"]) fun _ _ _ _ _ _ us hl => by obtain ⟨_, _, rfl⟩ := us2 hl; exact rfl
  have F14 := fun_mk (st := s_held) l14 c14 k14
  have b14 := F14.binds (ps := ["cars", "car", "steps"]) fun _ _ _ _ _ _ us hl => by obtain ⟨_, _, _, rfl⟩ := us3 hl; exact rfl
  have F15 := fun_mk (st := s_check_has_one_in_front) l15 c15 k15
  have b15 := F15.binds (ps := ["cars", "car"]) fun _ _ _ _ _ _ us hl => by obtain ⟨_, _, rfl⟩ := us2 hl; exact rfl
  have F16 := fun_mk (st := s_touches) l16 c16 k16
  have b16 := F16.binds (ps := ["cars", "car"]) fun _ _ _ _ _ _ us hl => by obtain ⟨_, _, rfl⟩ := us2 hl; exact rfl
  have F17 := fun_mk (st := s_is_ring) l17 c17 k17
  have b17 := F17.binds (ps := ["ring"]) fun _ _ _ _ _ _ us hl => by obtain ⟨_, rfl⟩ := us1 hl; exact rfl
  have F18 := fun_mk (st := s_check_ring) l18 c18 k18
  have b18 := F18.binds (ps := ["ring"]) fun _ _ _ _ _ _ us hl => by obtain ⟨_, rfl⟩ := us1 hl; exact rfl
  have F19 := fun_mk (st := s_exchanged) l19 c19 k19
  have b19 := F19.binds (ps := ["ring"]) fun _ _ _ _ _ _ us hl => by obtain ⟨_, rfl⟩ := us1 hl; exact rfl
  have F20 := fun_mk (st := s_is_crowded) l20 c20 k20
  have b20 := F20.binds (ps := ["ring"]) fun _ _ _ _ _ _ us hl => by obtain ⟨_, rfl⟩ := us1 hl; exact rfl
  have F21 := fun_mk (st := s_two_laps) l21 c21 k21
  have b21 := F21.binds (ps := ["ring"]) fun _ _ _ _ _ _ us hl => by obtain ⟨_, rfl⟩ := us1 hl; exact rfl
  have F22 := fun_mk (st := s_around_after) l22 c22 k22
  have b22 := F22.binds (ps := ["ring", "steps"]) fun _ _ _ _ _ _ us hl => by obtain ⟨_, _, rfl⟩ := us2 hl; exact rfl
  have F23 := fun_mk (st := s_around) l23 c23 k23
  have b23 := F23.binds (ps := ["ring"]) fun _ _ _ _ _ _ us hl => by obtain ⟨_, rfl⟩ := us1 hl; exact rfl
  have F24 := fun_mk (st := s_flow) l24 c24 k24
  have b24 := F24.binds (ps := ["ring", "steps"]) fun _ _ _ _ _ _ us hl => by obtain ⟨_, _, rfl⟩ := us2 hl; exact rfl
  have F25 := fun_mk (st := s_settled) l25 c25 k25
  have b25 := F25.binds (ps := ["ring"]) fun _ _ _ _ _ _ us hl => by obtain ⟨_, rfl⟩ := us1 hl; exact rfl
  have F26 := fun_mk (st := s_law_cars_asked) l26 c26 k26
  have b26 := F26.binds (ps := ["_law_which", "_law_more"]) fun _ _ _ _ _ _ us hl => by obtain ⟨_, _, rfl⟩ := us2 hl; exact rfl
  have F27 := fun_mk (st := s_law_car_asked) l27 c27 k27
  have b27 := F27.binds (ps := ["_law_which", "_law_more"]) fun _ _ _ _ _ _ us hl => by obtain ⟨_, _, rfl⟩ := us2 hl; exact rfl
  have F28 := fun_mk (st := s_law_others_asked) l28 c28 k28
  have b28 := F28.binds (ps := ["_law_kind", "_law_which", "_law_more"]) fun _ _ _ _ _ _ us hl => by obtain ⟨_, _, _, rfl⟩ := us3 hl; exact rfl
  have F29 := fun_mk (st := s_law_told) l29 c29 k29
  have b29 := F29.binds (ps := ["_law_kind", "_law_which", "_law_more"]) fun _ _ _ _ _ _ us hl => by obtain ⟨_, _, _, rfl⟩ := us3 hl; exact rfl
  have F30 := fun_mk (st := s_law) l30 c30 k30
  have kBadCars : XKl K CBadCars := ⟨gaBadCars, naBadCars, hcBadCars, ⟨_, yBadCars⟩, moBadCars, mbBadCars⟩
  have kBadCar : XKl K CBadCar := ⟨gaBadCar, naBadCar, hcBadCar, ⟨_, yBadCar⟩, moBadCar, mbBadCar⟩
  have kBadSteps : XKl K CBadSteps := ⟨gaBadSteps, naBadSteps, hcBadSteps, ⟨_, yBadSteps⟩, moBadSteps, mbBadSteps⟩
  have kBadRing : XKl K CBadRing := ⟨gaBadRing, naBadRing, hcBadRing, ⟨_, yBadRing⟩, moBadRing, mbBadRing⟩
  have TE : Errs K mg CRoadError CBadCars CBadCar CBadSteps CBadRing := ⟨PySem.W.mg_of X G qRoadError, PySem.W.mg_of X G qBadCars, PySem.W.mg_of X G qBadCar, PySem.W.mg_of X G qBadSteps, PySem.W.mg_of X G qBadRing, PySem.W.mg_none_of X G zV, kBadCars, kBadCar, kBadSteps, kBadRing, exm_yes yRoadError tyRoadError mrBadCars mbRoadError, exm_yes yRoadError tyRoadError mrBadCar mbRoadError, exm_yes yRoadError tyRoadError mrBadSteps mbRoadError, exm_yes yRoadError tyRoadError mrBadRing mbRoadError, ⟨kit_yes yBadCars tyBadCars rBadCars_BadCars, kit_no yBadCar tyBadCar eBadCars_BadCar rBadCars_BadCar, kit_no yBadSteps tyBadSteps eBadCars_BadSteps rBadCars_BadSteps, kit_no yBadRing tyBadRing eBadCars_BadRing rBadCars_BadRing, kit_ty mvBadCars⟩, ⟨kit_no yBadCars tyBadCars eBadCar_BadCars rBadCar_BadCars, kit_yes yBadCar tyBadCar rBadCar_BadCar, kit_no yBadSteps tyBadSteps eBadCar_BadSteps rBadCar_BadSteps, kit_no yBadRing tyBadRing eBadCar_BadRing rBadCar_BadRing, kit_ty mvBadCar⟩, ⟨kit_no yBadCars tyBadCars eBadSteps_BadCars rBadSteps_BadCars, kit_no yBadCar tyBadCar eBadSteps_BadCar rBadSteps_BadCar, kit_yes yBadSteps tyBadSteps rBadSteps_BadSteps, kit_no yBadRing tyBadRing eBadSteps_BadRing rBadSteps_BadRing, kit_ty mvBadSteps⟩, ⟨kit_no yBadCars tyBadCars eBadRing_BadCars rBadRing_BadCars, kit_no yBadCar tyBadCar eBadRing_BadCar rBadRing_BadCar, kit_no yBadSteps tyBadSteps eBadRing_BadSteps rBadRing_BadSteps, kit_yes yBadRing tyBadRing rBadRing_BadRing, kit_ty mvBadRing⟩⟩
  refine ⟨PySem.W.fnOf "law" "law" (defArgs s_law) (defBody s_law) (defScope s_law) .none kV30 dc30 pm30 an30 cd30 ct30, fun s v => .of_eq rfl, fun base _ _ => ?_⟩
  have D_is_whole : Def l.prog w K mg base "is_whole" 1 ["value"] spWhole := ⟨_, _, ok_is_whole F0 O, PySem.W.mg_of X G a0, k0, b0⟩
  have D_are_cars : Def l.prog w K mg base "are_cars" 2 ["cars"] spAre := ⟨_, _, ok_are_cars F1 O D_is_whole, PySem.W.mg_of X G a1, k1, b1⟩
  have D_is_count : Def l.prog w K mg base "is_count" 2 ["steps"] spCount := ⟨_, _, ok_is_count F2 D_is_whole, PySem.W.mg_of X G a2, k2, b2⟩
  have D_check_cars : Def l.prog w K mg base "check_cars" 3 ["cars"] spCars := ⟨_, _, ok_check_cars F3 D_are_cars, PySem.W.mg_of X G a3, k3, b3⟩
  have D_check_steps : Def l.prog w K mg base "check_steps" 3 ["steps"] spSteps := ⟨_, _, ok_check_steps F4 D_is_count, PySem.W.mg_of X G a4, k4, b4⟩
  have D_let_to : Def l.prog w K mg base "let_to" 1 ["cars", "car", "by", "steps"] spLet := ⟨_, _, ok_let_to F5, PySem.W.mg_of X G a5, k5, b5⟩
  have D_holders : Def l.prog w K mg base "holders" 2 ["cars", "steps"] spHold := ⟨_, _, ok_holders F6 O D_let_to, PySem.W.mg_of X G a6, k6, b6⟩
  have D_after : Def l.prog w K mg base "after" 4 ["cars", "steps"] spAfter := ⟨_, _, ok_after F7 O D_check_cars D_check_steps D_holders D_let_to, PySem.W.mg_of X G a7, k7, b7⟩
  have D_stepped : Def l.prog w K mg base "stepped" 5 ["cars"] spStepped := ⟨_, _, ok_stepped F8 D_after, PySem.W.mg_of X G a8, k8, b8⟩
  have D_delays : Def l.prog w K mg base "delays" 4 ["cars"] spDelays := ⟨_, _, ok_delays F9 O D_check_cars D_holders D_let_to, PySem.W.mg_of X G a9, k9, b9⟩
  have D_free_from : Def l.prog w K mg base "free_from" 4 ["cars"] spFree := ⟨_, _, ok_free F10 O D_check_cars D_holders, PySem.W.mg_of X G a10, k10, b10⟩
  have D_is_car : Def l.prog w K mg base "is_car" 2 ["cars", "car"] spIsCar := ⟨_, _, ok_is_car F11 O D_is_whole, PySem.W.mg_of X G a11, k11, b11⟩
  have D_has_one_in_front : Def l.prog w K mg base "has_one_in_front" 3 ["cars", "car"] spFront := ⟨_, _, ok_front F12 O D_is_car, PySem.W.mg_of X G a12, k12, b12⟩
  have D_check_car : Def l.prog w K mg base "check_car" 3 ["cars", "car"] spChkCar := ⟨_, _, ok_check_car F13 D_is_car, PySem.W.mg_of X G a13, k13, b13⟩
  have D_is_ring : Def l.prog w K mg base "is_ring" 1 ["ring"] spIsRing := ⟨_, _, ok_is_ring F17 O, PySem.W.mg_of X G a17, k17, b17⟩
  have D_check_ring : Def l.prog w K mg base "check_ring" 2 ["ring"] spRing := ⟨_, _, ok_check_ring F18 D_is_ring, PySem.W.mg_of X G a18, k18, b18⟩
  have D_exchanged : Def l.prog w K mg base "exchanged" 3 ["ring"] spExch := ⟨_, _, ok_exch F19 O D_check_ring, PySem.W.mg_of X G a19, k19, b19⟩
  have D_is_crowded : Def l.prog w K mg base "is_crowded" 1 ["ring"] spCrowd := ⟨_, _, ok_crowd F20 O, PySem.W.mg_of X G a20, k20, b20⟩
  have D_two_laps : Def l.prog w K mg base "two_laps" 1 ["ring"] spLaps := ⟨_, _, ok_laps F21 O, PySem.W.mg_of X G a21, k21, b21⟩
  have D_aft0 : Def l.prog w K mg base "around_after" 5 ["ring", "steps"] spAft0 := ⟨_, _, ok_aft0 F22 O D_check_ring D_check_steps D_is_crowded D_after D_two_laps, PySem.W.mg_of X G a22, k22, b22⟩
  have D_around_after : Def l.prog w K mg base "around_after" 6 ["ring", "steps"] spAft := ⟨_, _, ok_aft F22 O D_check_ring D_check_steps D_is_crowded D_exchanged D_aft0 (ok_aft0 F22 O D_check_ring D_check_steps D_is_crowded D_after D_two_laps), PySem.W.mg_of X G a22, k22, b22⟩
  have D_around : Def l.prog w K mg base "around" 7 ["ring"] spAround := ⟨_, _, ok_around F23 D_around_after, PySem.W.mg_of X G a23, k23, b23⟩
  have D_flow : Def l.prog w K mg base "flow" 7 ["ring", "steps"] spFlow := ⟨_, _, ok_flow F24 D_around_after, PySem.W.mg_of X G a24, k24, b24⟩
  have D_set0 : Def l.prog w K mg base "settled" 5 ["ring"] spSet0 := ⟨_, _, ok_set0 F25 O D_check_ring D_is_crowded D_free_from D_two_laps, PySem.W.mg_of X G a25, k25, b25⟩
  have D_settled : Def l.prog w K mg base "settled" 6 ["ring"] spSettled := ⟨_, _, ok_settled F25 D_check_ring D_is_crowded D_exchanged D_set0 (ok_set0 F25 O D_check_ring D_is_crowded D_free_from D_two_laps), PySem.W.mg_of X G a25, k25, b25⟩
  have X_check_cars : DefE l.prog w K mg base "check_cars" 3 ["cars"] (xpCars CBadCars) := ⟨_, _, ok_xcars F3 ⟨xBadCars, _, qBadCars⟩ (PySem.W.mg_of X G qBadCars) D_are_cars, PySem.W.mg_of X G a3, k3, b3⟩
  have X_check_steps : DefE l.prog w K mg base "check_steps" 3 ["steps"] (xpSteps CBadSteps) := ⟨_, _, ok_xsteps F4 ⟨xBadSteps, _, qBadSteps⟩ (PySem.W.mg_of X G qBadSteps) D_is_count, PySem.W.mg_of X G a4, k4, b4⟩
  have X_check_car : DefE l.prog w K mg base "check_car" 3 ["cars", "car"] (xpCar CBadCar) := ⟨_, _, ok_xcar F13 ⟨xBadCar, _, qBadCar⟩ (PySem.W.mg_of X G qBadCar) D_is_car, PySem.W.mg_of X G a13, k13, b13⟩
  have X_front : DefE l.prog w K mg base "check_has_one_in_front" 4 ["cars", "car"] (xpFront CBadCar) := ⟨_, _, ok_xfront F15 ⟨xBadCar, _, qBadCar⟩ (PySem.W.mg_of X G qBadCar) D_has_one_in_front, PySem.W.mg_of X G a15, k15, b15⟩
  have X_check_ring : DefE l.prog w K mg base "check_ring" 2 ["ring"] (xpRing CBadRing) := ⟨_, _, ok_xring F18 ⟨xBadRing, _, qBadRing⟩ (PySem.W.mg_of X G qBadRing) D_is_ring, PySem.W.mg_of X G a18, k18, b18⟩
  have X_after : DefE l.prog w K mg base "after" 4 ["cars", "steps"] (xpAfter CBadCars CBadSteps) := ⟨_, _, ok_xafter F7 D_check_cars X_check_cars X_check_steps, PySem.W.mg_of X G a7, k7, b7⟩
  have X_stepped : DefE l.prog w K mg base "stepped" 5 ["cars"] (xpOne CBadCars) := ⟨_, _, ok_xstepped F8 X_after, PySem.W.mg_of X G a8, k8, b8⟩
  have X_delays : DefE l.prog w K mg base "delays" 4 ["cars"] (xpOne CBadCars) := ⟨_, _, ok_xdelays F9 X_check_cars, PySem.W.mg_of X G a9, k9, b9⟩
  have X_free_from : DefE l.prog w K mg base "free_from" 4 ["cars"] (xpOne CBadCars) := ⟨_, _, ok_xfree F10 X_check_cars, PySem.W.mg_of X G a10, k10, b10⟩
  have X_held : DefE l.prog w K mg base "held" 4 ["cars", "car", "steps"] (xpHeld CBadCars CBadCar CBadSteps) := ⟨_, _, ok_xheld F14 D_check_cars D_check_car X_check_cars X_check_car X_check_steps, PySem.W.mg_of X G a14, k14, b14⟩
  have X_touches : DefE l.prog w K mg base "touches" 6 ["cars", "car"] (xpTouches CBadCars CBadCar) := ⟨_, _, ok_xtouches F16 D_check_cars X_check_cars X_front, PySem.W.mg_of X G a16, k16, b16⟩
  have X_exchanged : DefE l.prog w K mg base "exchanged" 3 ["ring"] (xpRg CBadRing) := ⟨_, _, ok_xexch F19 X_check_ring, PySem.W.mg_of X G a19, k19, b19⟩
  have X_settled : DefE l.prog w K mg base "settled" 3 ["ring"] (xpRg CBadRing) := ⟨_, _, ok_xsettled F25 X_check_ring, PySem.W.mg_of X G a25, k25, b25⟩
  have X_around_after : DefE l.prog w K mg base "around_after" 5 ["ring", "steps"] (xpAft CBadRing CBadSteps) := ⟨_, _, ok_xaft F22 D_check_ring X_check_ring X_check_steps, PySem.W.mg_of X G a22, k22, b22⟩
  have X_around : DefE l.prog w K mg base "around" 6 ["ring"] (xpRg CBadRing) := ⟨_, _, ok_xaround F23 X_around_after, PySem.W.mg_of X G a23, k23, b23⟩
  have X_flow : DefE l.prog w K mg base "flow" 6 ["ring", "steps"] (xpAft CBadRing CBadSteps) := ⟨_, _, ok_xflow F24 X_around_after, PySem.W.mg_of X G a24, k24, b24⟩
  have X_ca : DefE l.prog w K mg base "_law_cars_asked" 7 ["_law_which", "_law_more"] (xpCA CBadCars) := ⟨_, _, ok_CA F26 X_stepped X_delays X_free_from X_after X_held X_touches, PySem.W.mg_of X G a26, k26, b26⟩
  have X_c1 : DefE l.prog w K mg base "_law_car_asked" 7 ["_law_which", "_law_more"] (xpCA CBadCar) := ⟨_, _, ok_C1 F27 X_held X_touches, PySem.W.mg_of X G a27, k27, b27⟩
  have X_co : DefE l.prog w K mg base "_law_others_asked" 7 ["_law_kind", "_law_which", "_law_more"] (xpCO CBadSteps CBadRing) := ⟨_, _, ok_CO F28 X_after X_held X_around_after X_flow X_around X_exchanged X_settled, PySem.W.mg_of X G a28, k28, b28⟩
  have D_told : Def l.prog w K mg base "_law_told" 8 ["_law_kind", "_law_which", "_law_more"] spTold := ⟨_, _, ok_told F29 O TE X_ca X_c1 X_co, PySem.W.mg_of X G a29, k29, b29⟩
  exact ok_law F30 D_told D_stepped D_delays D_free_from D_after D_settled D_flow D_around_after
theorem walk {l : PySem.W.OpenLaw} {q : Program} {loose : List Str} {XP : (Str → Option Value) → Heap → Prop} {YP : World → Heap → Prop} {d : DefRec} {K : Params → PySem.W.Frag} (hn : l.most = some 63) (hdf : d.params.defaults = [])
    (hY : ∀ (w : World) (h : Heap), YP w h → (K w.params).In h)
    (F : ∀ (w : World) (mg : Str → Option Value) (fa : Addr) (h : Heap), (K w.params).In h → h.Ns mainGlobals mg → mg d.name = some (.ref fa) →
      ∃ fd : FuncData, (∀ (s : Shared) (u : Value), BindsTo s fd ⟨[u], []⟩ [("_law_script", u)]) ∧ ∀ base : Heap, (K w.params).In base → base.Ns mainGlobals mg → FnOk l.prog w (K w.params) mg base CX0 9 fa fd ["_law_script"] (spLaw (K w.params))) :
    PySem.W.WalkO q loose XP YP l.row.toRowW d [] (fun f vs => PySem.call f vs) :=
  L2.walk_of (n := 63) (k := 9) (x := "_law_script") (CX := fun _ => CX0) (sp := fun w => spLaw (K w.params)) hn (by decide) hdf ⟨rfl, by decide, by decide⟩ hY F (fun _ _ a ns hl _ hS => ⟨a, ns, rfl, hS, hl, fun _ => rfl⟩) fun _ _ _ _ _ z => z
end JM
namespace JM
open PySem
noncomputable def kw1 (P : Params) (x0 : Nat) (x1 : Nat) (x2 : Nat) (x3 : Nat) (x4 : Nat) (x5 : Nat) (x6 : Nat) : Obj := Obj.mk (Value.type "dict") Option.none (Data.dict #[DictEntry.mk (PyData.keyHash P (Str.ofString "__module__")) (Value.str (Str.ofString "__module__") x0) (Value.str (Str.ofString "jamroad.errors") 194), DictEntry.mk (PyData.keyHash P (Str.ofString "__firstlineno__")) (Value.str (Str.ofString "__firstlineno__") x1) (Value.int (Int.ofNat x2) x3), DictEntry.mk (PyData.keyHash P (Str.ofString "__static_attributes__")) (Value.str (Str.ofString "__static_attributes__") x4) (Value.ref x5), DictEntry.mk (PyData.keyHash P (Str.ofString "__doc__")) (Value.str (Str.ofString "__doc__") x6) Value.none] 2) #[]
noncomputable def kw2 (x0 : Str) (x1 : Nat) (x2 : Nat) (x3 : Nat) (x4 : Nat) (x5 : Nat) : Obj := Obj.mk (Value.type "type") Option.none (Data.cls (ClassData.mk x0 [Value.ref 31] [Value.ref x1, Value.ref 31, Value.type "ValueError", Value.type "Exception", Value.type "BaseException", Value.type "object"] x2 x0 Bool.true [] [] Bool.false Option.none Bool.false)) #[Option.some (Value.ref x3), Option.none, Option.some (Value.str x0 x4), Option.some (Value.str x0 x5), Option.some (Value.builtin "ValueError.__new__"), Option.some (Value.bool Bool.true)]
noncomputable def kw3 (x0 : Str) (x1 : Nat) (x2 : Nat) (x3 : Nat) (x4 : Nat) (x5 : Nat) (x6 : Nat) (x7 : Nat) (x8 : Nat) (x9 : Nat) (x10 : Nat) (x11 : Nat) (x12 : Nat) : Obj := Obj.mk (Value.type "code") Option.none (Data.fields #[Value.str x0 x1, Value.str x0 x2, Value.str (Str.ofString "/claim/cut.py") x3, Value.int (Int.ofNat x4) 0, Value.int (Int.ofNat x5) 0, Value.int 0 0, Value.int 0 0, Value.int 3 0, Value.ref x6, Value.bool Bool.true, Value.int 181 0, Value.ref x7, Value.none, Value.ref x8, Value.ref x9, Value.ref x10, Value.int (Int.ofNat x11) 0, Value.int (Int.ofNat x4) 0, Value.str (Str.ofString "/claim/cut.py") x12]) #[]
noncomputable def kw4 (x0 : Str) (x1 : Stmt) (x2 : Str) (x3 : Nat) (x4 : Nat) : Obj := Obj.mk (Value.type "function") Option.none (.func (W.fnOf x0 x0 (L2.defArgs x1) (L2.defBody x1) (L2.defScope x1) .none Value.none Value.none (Value.str x2 x3) Option.none (Value.ref x4) Value.none)) #[]
noncomputable def kw5 (x0 : Str) (x1 : Nat) (x2 : Nat) (x3 : Nat) (x4 : Nat) (x5 : Nat) (x6 : Nat) (x7 : Nat) (x8 : Nat) (x9 : Nat) (x10 : Nat) : Obj := Obj.mk (Value.type "code") Option.none (Data.fields #[Value.str x0 x1, Value.str x0 x2, Value.str (Str.ofString "/claim/cut.py") x3, Value.int (Int.ofNat x4) 0, Value.int (Int.ofNat x5) 0, Value.int 0 0, Value.int 0 0, Value.int 3 0, Value.ref x6, Value.bool Bool.true, Value.int 181 0, Value.ref x7, Value.none, Value.none, Value.none, Value.ref x8, Value.int (Int.ofNat x9) 0, Value.int (Int.ofNat x4) 0, Value.str (Str.ofString "/claim/cut.py") x10]) #[]
noncomputable def ns0 (P : Params) : List DictEntry := [DictEntry.mk (PyData.keyHash P (Str.ofString "__name__")) (Value.str (Str.ofString "__name__") 165) (Value.str (Str.ofString "law_jamroad_k09_refused") 615), DictEntry.mk (PyData.keyHash P (Str.ofString "__doc__")) (Value.str (Str.ofString "__doc__") 166) Value.none, DictEntry.mk (PyData.keyHash P (Str.ofString "__package__")) (Value.str (Str.ofString "__package__") 167) Value.none, DictEntry.mk (PyData.keyHash P (Str.ofString "__loader__")) (Value.str (Str.ofString "__loader__") 168) (Value.builtin "__main__.__loader__#opaque"), DictEntry.mk (PyData.keyHash P (Str.ofString "__spec__")) (Value.str (Str.ofString "__spec__") 169) Value.none, DictEntry.mk (PyData.keyHash P (Str.ofString "__annotations__")) (Value.str (Str.ofString "__annotations__") 170) (Value.ref 6), DictEntry.mk (PyData.keyHash P (Str.ofString "__builtins__")) (Value.str (Str.ofString "__builtins__") 171) (Value.ref 4), DictEntry.mk (PyData.keyHash P (Str.ofString "__file__")) (Value.str (Str.ofString "__file__") 173) (Value.str (Str.ofString "/claim/cut.py") 172), DictEntry.mk (PyData.keyHash P (Str.ofString "__cached__")) (Value.str (Str.ofString "__cached__") 174) Value.none, DictEntry.mk (PyData.keyHash P (Str.ofString "_wall")) (Value.str (Str.ofString "_wall") 193) (Value.ref 21), DictEntry.mk (PyData.keyHash P (Str.ofString "RoadError")) (Value.str (Str.ofString "RoadError") 213) (Value.ref 31), DictEntry.mk (PyData.keyHash P (Str.ofString "BadCars")) (Value.str (Str.ofString "BadCars") 229) (Value.ref 44)]
noncomputable def ns1 (P : Params) : List DictEntry := [DictEntry.mk (PyData.keyHash P (Str.ofString "BadCar")) (Value.str (Str.ofString "BadCar") 245) (Value.ref 56), DictEntry.mk (PyData.keyHash P (Str.ofString "BadSteps")) (Value.str (Str.ofString "BadSteps") 261) (Value.ref 68), DictEntry.mk (PyData.keyHash P (Str.ofString "BadRing")) (Value.str (Str.ofString "BadRing") 277) (Value.ref 80), DictEntry.mk (PyData.keyHash P (Str.ofString "is_whole")) (Value.str (Str.ofString "is_whole") 286) (Value.ref 89), DictEntry.mk (PyData.keyHash P (Str.ofString "are_cars")) (Value.str (Str.ofString "are_cars") 292) (Value.ref 94), DictEntry.mk (PyData.keyHash P (Str.ofString "is_car")) (Value.str (Str.ofString "is_car") 300) (Value.ref 101), DictEntry.mk (PyData.keyHash P (Str.ofString "has_one_in_front")) (Value.str (Str.ofString "has_one_in_front") 308) (Value.ref 108), DictEntry.mk (PyData.keyHash P (Str.ofString "is_count")) (Value.str (Str.ofString "is_count") 315) (Value.ref 115), DictEntry.mk (PyData.keyHash P (Str.ofString "is_ring")) (Value.str (Str.ofString "is_ring") 322) (Value.ref 122), DictEntry.mk (PyData.keyHash P (Str.ofString "check_cars")) (Value.str (Str.ofString "check_cars") 329) (Value.ref 129), DictEntry.mk (PyData.keyHash P (Str.ofString "check_car")) (Value.str (Str.ofString "check_car") 337) (Value.ref 136), DictEntry.mk (PyData.keyHash P (Str.ofString "check_has_one_in_front")) (Value.str (Str.ofString "check_has_one_in_front") 345) (Value.ref 143)]
noncomputable def ns2 (P : Params) : List DictEntry := [DictEntry.mk (PyData.keyHash P (Str.ofString "check_steps")) (Value.str (Str.ofString "check_steps") 352) (Value.ref 150), DictEntry.mk (PyData.keyHash P (Str.ofString "check_ring")) (Value.str (Str.ofString "check_ring") 359) (Value.ref 157), DictEntry.mk (PyData.keyHash P (Str.ofString "stepped")) (Value.str (Str.ofString "stepped") 368) (Value.ref 164), DictEntry.mk (PyData.keyHash P (Str.ofString "after")) (Value.str (Str.ofString "after") 374) (Value.ref 169), DictEntry.mk (PyData.keyHash P (Str.ofString "delays")) (Value.str (Str.ofString "delays") 380) (Value.ref 174), DictEntry.mk (PyData.keyHash P (Str.ofString "free_from")) (Value.str (Str.ofString "free_from") 386) (Value.ref 179), DictEntry.mk (PyData.keyHash P (Str.ofString "nearest")) (Value.str (Str.ofString "nearest") 394) (Value.ref 186), DictEntry.mk (PyData.keyHash P (Str.ofString "let_to")) (Value.str (Str.ofString "let_to") 404) (Value.ref 193), DictEntry.mk (PyData.keyHash P (Str.ofString "holders")) (Value.str (Str.ofString "holders") 416) (Value.ref 200), DictEntry.mk (PyData.keyHash P (Str.ofString "Answer")) (Value.str (Str.ofString "Answer") 438) (Value.ref 210), DictEntry.mk (PyData.keyHash P (Str.ofString "Held")) (Value.str (Str.ofString "Held") 475) (Value.ref 238), DictEntry.mk (PyData.keyHash P (Str.ofString "Touch")) (Value.str (Str.ofString "Touch") 509) (Value.ref 264)]
noncomputable def ns3 (P : Params) : List DictEntry := [DictEntry.mk (PyData.keyHash P (Str.ofString "Clear")) (Value.str (Str.ofString "Clear") 543) (Value.ref 290), DictEntry.mk (PyData.keyHash P (Str.ofString "held")) (Value.str (Str.ofString "held") 555) (Value.ref 299), DictEntry.mk (PyData.keyHash P (Str.ofString "touches")) (Value.str (Str.ofString "touches") 564) (Value.ref 306), DictEntry.mk (PyData.keyHash P (Str.ofString "around")) (Value.str (Str.ofString "around") 573) (Value.ref 313), DictEntry.mk (PyData.keyHash P (Str.ofString "exchanged")) (Value.str (Str.ofString "exchanged") 579) (Value.ref 318), DictEntry.mk (PyData.keyHash P (Str.ofString "around_after")) (Value.str (Str.ofString "around_after") 585) (Value.ref 323), DictEntry.mk (PyData.keyHash P (Str.ofString "flow")) (Value.str (Str.ofString "flow") 594) (Value.ref 330), DictEntry.mk (PyData.keyHash P (Str.ofString "settled")) (Value.str (Str.ofString "settled") 601) (Value.ref 337), DictEntry.mk (PyData.keyHash P (Str.ofString "is_crowded")) (Value.str (Str.ofString "is_crowded") 608) (Value.ref 344), DictEntry.mk (PyData.keyHash P (Str.ofString "two_laps")) (Value.str (Str.ofString "two_laps") 614) (Value.ref 349), DictEntry.mk (PyData.keyHash P (Str.ofString "_law_cars_asked")) (Value.str (Str.ofString "_law_cars_asked") 626) (Value.ref 356), DictEntry.mk (PyData.keyHash P (Str.ofString "_law_car_asked")) (Value.str (Str.ofString "_law_car_asked") 635) (Value.ref 363)]
noncomputable def ns4 (P : Params) : List DictEntry := [DictEntry.mk (PyData.keyHash P (Str.ofString "_law_others_asked")) (Value.str (Str.ofString "_law_others_asked") 646) (Value.ref 370), DictEntry.mk (PyData.keyHash P (Str.ofString "_law_told")) (Value.str (Str.ofString "_law_told") 657) (Value.ref 377), DictEntry.mk (PyData.keyHash P (Str.ofString "law")) (Value.str (Str.ofString "law") 667) (Value.ref 384)]
noncomputable def ob3 (P : Params) : Obj := Obj.mk (Value.type "dict") Option.none (Data.dict (List.toArray (ns0 P ++ ns1 P ++ ns2 P ++ ns3 P ++ ns4 P)) 51) #[]
noncomputable def pick (l : List Obj) (n : Nat) : Obj := l.getD n (Obj.mk Value.none Option.none Data.plain #[])
noncomputable def ch0 (P : Params) : List Obj := [Obj.mk (Value.type "dict") Option.none (Data.dict #[DictEntry.mk (PyData.keyHash P (Str.ofString "__module__")) (Value.str (Str.ofString "__module__") 203) (Value.str (Str.ofString "jamroad.errors") 194), DictEntry.mk (PyData.keyHash P (Str.ofString "__firstlineno__")) (Value.str (Str.ofString "__firstlineno__") 207) (Value.int 5 206), DictEntry.mk (PyData.keyHash P (Str.ofString "__static_attributes__")) (Value.str (Str.ofString "__static_attributes__") 208) (Value.ref 29), DictEntry.mk (PyData.keyHash P (Str.ofString "__weakref__")) (Value.str (Str.ofString "__weakref__") 210) (Value.ref 32), DictEntry.mk (PyData.keyHash P (Str.ofString "__doc__")) (Value.str (Str.ofString "__doc__") 211) Value.none] 3) #[], Obj.mk (Value.type "type") Option.none (Data.cls (ClassData.mk (Str.ofString "RoadError") [Value.type "ValueError"] [Value.ref 31, Value.type "ValueError", Value.type "Exception", Value.type "BaseException", Value.type "object"] 30 (Str.ofString "RoadError") Bool.true [] [Value.ref 44, Value.ref 56, Value.ref 68, Value.ref 80] Bool.false Option.none Bool.false)) #[Option.some (Value.ref 22), Option.none, Option.some (Value.str (Str.ofString "RoadError") 196), Option.some (Value.str (Str.ofString "RoadError") 204), Option.some (Value.builtin "ValueError.__new__"), Option.some (Value.bool Bool.true)], kw1 P (nat_lit 221) (nat_lit 225) (nat_lit 7) (nat_lit 224) (nat_lit 226) (nat_lit 42) (nat_lit 227), kw2 (Str.ofString "BadCars") (nat_lit 44) (nat_lit 43) (nat_lit 35) (nat_lit 214) (nat_lit 222), kw1 P (nat_lit 237) (nat_lit 241) (nat_lit 9) (nat_lit 240) (nat_lit 242) (nat_lit 54) (nat_lit 243), kw2 (Str.ofString "BadCar") (nat_lit 56) (nat_lit 55) (nat_lit 47) (nat_lit 230) (nat_lit 238), kw1 P (nat_lit 253) (nat_lit 257) (nat_lit 11) (nat_lit 256) (nat_lit 258) (nat_lit 66) (nat_lit 259), kw2 (Str.ofString "BadSteps") (nat_lit 68) (nat_lit 67) (nat_lit 59) (nat_lit 246) (nat_lit 254)]
noncomputable def ch1 (P : Params) : List Obj := [kw1 P (nat_lit 269) (nat_lit 273) (nat_lit 13) (nat_lit 272) (nat_lit 274) (nat_lit 78) (nat_lit 275), kw2 (Str.ofString "BadRing") (nat_lit 80) (nat_lit 79) (nat_lit 71) (nat_lit 262) (nat_lit 270), kw3 (Str.ofString "is_whole") (nat_lit 280) (nat_lit 281) (nat_lit 282) (nat_lit 16) (nat_lit 1) (nat_lit 83) (nat_lit 84) (nat_lit 85) (nat_lit 86) (nat_lit 87) (nat_lit 284) (nat_lit 285), kw4 (Str.ofString "is_whole") s_is_whole (Str.ofString "jamroad.checks") (nat_lit 278) (nat_lit 88), kw5 (Str.ofString "are_cars") (nat_lit 287) (nat_lit 288) (nat_lit 289) (nat_lit 18) (nat_lit 1) (nat_lit 90) (nat_lit 91) (nat_lit 92) (nat_lit 290) (nat_lit 291), kw4 (Str.ofString "are_cars") s_are_cars (Str.ofString "jamroad.checks") (nat_lit 278) (nat_lit 93), kw3 (Str.ofString "is_car") (nat_lit 293) (nat_lit 294) (nat_lit 295) (nat_lit 22) (nat_lit 2) (nat_lit 95) (nat_lit 96) (nat_lit 97) (nat_lit 98) (nat_lit 99) (nat_lit 298) (nat_lit 299), kw4 (Str.ofString "is_car") s_is_car (Str.ofString "jamroad.checks") (nat_lit 278) (nat_lit 100)]
noncomputable def ch2 (P : Params) : List Obj := [kw3 (Str.ofString "has_one_in_front") (nat_lit 301) (nat_lit 302) (nat_lit 303) (nat_lit 24) (nat_lit 2) (nat_lit 102) (nat_lit 103) (nat_lit 104) (nat_lit 105) (nat_lit 106) (nat_lit 306) (nat_lit 307), kw4 (Str.ofString "has_one_in_front") s_has_one_in_front (Str.ofString "jamroad.checks") (nat_lit 278) (nat_lit 107), kw3 (Str.ofString "is_count") (nat_lit 309) (nat_lit 310) (nat_lit 311) (nat_lit 26) (nat_lit 1) (nat_lit 109) (nat_lit 110) (nat_lit 111) (nat_lit 112) (nat_lit 113) (nat_lit 313) (nat_lit 314), kw4 (Str.ofString "is_count") s_is_count (Str.ofString "jamroad.checks") (nat_lit 278) (nat_lit 114), kw3 (Str.ofString "is_ring") (nat_lit 316) (nat_lit 317) (nat_lit 318) (nat_lit 28) (nat_lit 1) (nat_lit 116) (nat_lit 117) (nat_lit 118) (nat_lit 119) (nat_lit 120) (nat_lit 320) (nat_lit 321), kw4 (Str.ofString "is_ring") s_is_ring (Str.ofString "jamroad.checks") (nat_lit 278) (nat_lit 121), kw3 (Str.ofString "check_cars") (nat_lit 323) (nat_lit 324) (nat_lit 325) (nat_lit 30) (nat_lit 1) (nat_lit 123) (nat_lit 124) (nat_lit 125) (nat_lit 126) (nat_lit 127) (nat_lit 327) (nat_lit 328), kw4 (Str.ofString "check_cars") s_check_cars (Str.ofString "jamroad.checks") (nat_lit 278) (nat_lit 128)]
noncomputable def ch3 (P : Params) : List Obj := [kw3 (Str.ofString "check_car") (nat_lit 330) (nat_lit 331) (nat_lit 332) (nat_lit 33) (nat_lit 2) (nat_lit 130) (nat_lit 131) (nat_lit 132) (nat_lit 133) (nat_lit 134) (nat_lit 335) (nat_lit 336), kw4 (Str.ofString "check_car") s_check_car (Str.ofString "jamroad.checks") (nat_lit 278) (nat_lit 135), kw3 (Str.ofString "check_has_one_in_front") (nat_lit 338) (nat_lit 339) (nat_lit 340) (nat_lit 36) (nat_lit 2) (nat_lit 137) (nat_lit 138) (nat_lit 139) (nat_lit 140) (nat_lit 141) (nat_lit 343) (nat_lit 344), kw4 (Str.ofString "check_has_one_in_front") s_check_has_one_in_front (Str.ofString "jamroad.checks") (nat_lit 278) (nat_lit 142), kw3 (Str.ofString "check_steps") (nat_lit 346) (nat_lit 347) (nat_lit 348) (nat_lit 39) (nat_lit 1) (nat_lit 144) (nat_lit 145) (nat_lit 146) (nat_lit 147) (nat_lit 148) (nat_lit 350) (nat_lit 351), kw4 (Str.ofString "check_steps") s_check_steps (Str.ofString "jamroad.checks") (nat_lit 278) (nat_lit 149), kw3 (Str.ofString "check_ring") (nat_lit 353) (nat_lit 354) (nat_lit 355) (nat_lit 42) (nat_lit 1) (nat_lit 151) (nat_lit 152) (nat_lit 153) (nat_lit 154) (nat_lit 155) (nat_lit 357) (nat_lit 358), kw4 (Str.ofString "check_ring") s_check_ring (Str.ofString "jamroad.checks") (nat_lit 278) (nat_lit 156)]
noncomputable def ch4 (P : Params) : List Obj := [kw3 (Str.ofString "stepped") (nat_lit 362) (nat_lit 363) (nat_lit 364) (nat_lit 46) (nat_lit 1) (nat_lit 158) (nat_lit 159) (nat_lit 160) (nat_lit 161) (nat_lit 162) (nat_lit 366) (nat_lit 367), kw4 (Str.ofString "stepped") s_stepped (Str.ofString "jamroad.roads") (nat_lit 360) (nat_lit 163), kw5 (Str.ofString "after") (nat_lit 369) (nat_lit 370) (nat_lit 371) (nat_lit 48) (nat_lit 2) (nat_lit 165) (nat_lit 166) (nat_lit 167) (nat_lit 372) (nat_lit 373), kw4 (Str.ofString "after") s_after (Str.ofString "jamroad.roads") (nat_lit 360) (nat_lit 168), kw5 (Str.ofString "delays") (nat_lit 375) (nat_lit 376) (nat_lit 377) (nat_lit 52) (nat_lit 1) (nat_lit 170) (nat_lit 171) (nat_lit 172) (nat_lit 378) (nat_lit 379), kw4 (Str.ofString "delays") s_delays (Str.ofString "jamroad.roads") (nat_lit 360) (nat_lit 173), kw5 (Str.ofString "free_from") (nat_lit 381) (nat_lit 382) (nat_lit 383) (nat_lit 55) (nat_lit 1) (nat_lit 175) (nat_lit 176) (nat_lit 177) (nat_lit 384) (nat_lit 385), kw4 (Str.ofString "free_from") s_free_from (Str.ofString "jamroad.roads") (nat_lit 360) (nat_lit 178)]
noncomputable def ch5 (P : Params) : List Obj := [kw3 (Str.ofString "let_to") (nat_lit 395) (nat_lit 396) (nat_lit 397) (nat_lit 60) (nat_lit 4) (nat_lit 187) (nat_lit 188) (nat_lit 189) (nat_lit 190) (nat_lit 191) (nat_lit 402) (nat_lit 403), kw4 (Str.ofString "let_to") s_let_to (Str.ofString "jamroad.roads") (nat_lit 360) (nat_lit 192), kw3 (Str.ofString "holders") (nat_lit 405) (nat_lit 406) (nat_lit 407) (nat_lit 62) (nat_lit 2) (nat_lit 194) (nat_lit 195) (nat_lit 196) (nat_lit 197) (nat_lit 198) (nat_lit 414) (nat_lit 415), kw4 (Str.ofString "holders") s_holders (Str.ofString "jamroad.roads") (nat_lit 360) (nat_lit 199), kw3 (Str.ofString "held") (nat_lit 546) (nat_lit 547) (nat_lit 548) (nat_lit 101) (nat_lit 3) (nat_lit 293) (nat_lit 294) (nat_lit 295) (nat_lit 296) (nat_lit 297) (nat_lit 553) (nat_lit 554), kw4 (Str.ofString "held") s_held (Str.ofString "jamroad.telling") (nat_lit 544) (nat_lit 298), kw3 (Str.ofString "touches") (nat_lit 556) (nat_lit 557) (nat_lit 558) (nat_lit 107) (nat_lit 2) (nat_lit 300) (nat_lit 301) (nat_lit 302) (nat_lit 303) (nat_lit 304) (nat_lit 562) (nat_lit 563), kw4 (Str.ofString "touches") s_touches (Str.ofString "jamroad.telling") (nat_lit 544) (nat_lit 305)]
noncomputable def ch6 (P : Params) : List Obj := [kw3 (Str.ofString "around") (nat_lit 567) (nat_lit 568) (nat_lit 569) (nat_lit 115) (nat_lit 1) (nat_lit 307) (nat_lit 308) (nat_lit 309) (nat_lit 310) (nat_lit 311) (nat_lit 571) (nat_lit 572), kw4 (Str.ofString "around") s_around (Str.ofString "jamroad.rings") (nat_lit 565) (nat_lit 312), kw5 (Str.ofString "exchanged") (nat_lit 574) (nat_lit 575) (nat_lit 576) (nat_lit 117) (nat_lit 1) (nat_lit 314) (nat_lit 315) (nat_lit 316) (nat_lit 577) (nat_lit 578), kw4 (Str.ofString "exchanged") s_exchanged (Str.ofString "jamroad.rings") (nat_lit 565) (nat_lit 317), kw5 (Str.ofString "around_after") (nat_lit 580) (nat_lit 581) (nat_lit 582) (nat_lit 120) (nat_lit 2) (nat_lit 319) (nat_lit 320) (nat_lit 321) (nat_lit 583) (nat_lit 584), kw4 (Str.ofString "around_after") s_around_after (Str.ofString "jamroad.rings") (nat_lit 565) (nat_lit 322), kw3 (Str.ofString "flow") (nat_lit 586) (nat_lit 587) (nat_lit 588) (nat_lit 130) (nat_lit 2) (nat_lit 324) (nat_lit 325) (nat_lit 326) (nat_lit 327) (nat_lit 328) (nat_lit 592) (nat_lit 593), kw4 (Str.ofString "flow") s_flow (Str.ofString "jamroad.rings") (nat_lit 565) (nat_lit 329)]
noncomputable def ch7 (P : Params) : List Obj := [kw3 (Str.ofString "settled") (nat_lit 595) (nat_lit 596) (nat_lit 597) (nat_lit 133) (nat_lit 1) (nat_lit 331) (nat_lit 332) (nat_lit 333) (nat_lit 334) (nat_lit 335) (nat_lit 599) (nat_lit 600), kw4 (Str.ofString "settled") s_settled (Str.ofString "jamroad.rings") (nat_lit 565) (nat_lit 336), kw3 (Str.ofString "is_crowded") (nat_lit 602) (nat_lit 603) (nat_lit 604) (nat_lit 138) (nat_lit 1) (nat_lit 338) (nat_lit 339) (nat_lit 340) (nat_lit 341) (nat_lit 342) (nat_lit 606) (nat_lit 607), kw4 (Str.ofString "is_crowded") s_is_crowded (Str.ofString "jamroad.rings") (nat_lit 565) (nat_lit 343), kw5 (Str.ofString "two_laps") (nat_lit 609) (nat_lit 610) (nat_lit 611) (nat_lit 140) (nat_lit 1) (nat_lit 345) (nat_lit 346) (nat_lit 347) (nat_lit 612) (nat_lit 613), kw4 (Str.ofString "two_laps") s_two_laps (Str.ofString "jamroad.rings") (nat_lit 565) (nat_lit 348), kw3 (Str.ofString "_law_cars_asked") (nat_lit 617) (nat_lit 618) (nat_lit 619) (nat_lit 144) (nat_lit 2) (nat_lit 350) (nat_lit 351) (nat_lit 352) (nat_lit 353) (nat_lit 354) (nat_lit 624) (nat_lit 625), kw4 (Str.ofString "_law_cars_asked") s_law_cars_asked (Str.ofString "law_jamroad_k09_refused") (nat_lit 615) (nat_lit 355)]
noncomputable def ch8 (P : Params) : List Obj := [kw3 (Str.ofString "_law_car_asked") (nat_lit 627) (nat_lit 628) (nat_lit 629) (nat_lit 152) (nat_lit 2) (nat_lit 357) (nat_lit 358) (nat_lit 359) (nat_lit 360) (nat_lit 361) (nat_lit 633) (nat_lit 634), kw4 (Str.ofString "_law_car_asked") s_law_car_asked (Str.ofString "law_jamroad_k09_refused") (nat_lit 615) (nat_lit 362), kw3 (Str.ofString "_law_others_asked") (nat_lit 636) (nat_lit 637) (nat_lit 638) (nat_lit 157) (nat_lit 3) (nat_lit 364) (nat_lit 365) (nat_lit 366) (nat_lit 367) (nat_lit 368) (nat_lit 644) (nat_lit 645), kw4 (Str.ofString "_law_others_asked") s_law_others_asked (Str.ofString "law_jamroad_k09_refused") (nat_lit 615) (nat_lit 369), kw3 (Str.ofString "_law_told") (nat_lit 647) (nat_lit 648) (nat_lit 649) (nat_lit 169) (nat_lit 3) (nat_lit 371) (nat_lit 372) (nat_lit 373) (nat_lit 374) (nat_lit 375) (nat_lit 655) (nat_lit 656), kw4 (Str.ofString "_law_told") s_law_told (Str.ofString "law_jamroad_k09_refused") (nat_lit 615) (nat_lit 376), kw3 (Str.ofString "law") (nat_lit 658) (nat_lit 659) (nat_lit 660) (nat_lit 181) (nat_lit 1) (nat_lit 378) (nat_lit 379) (nat_lit 380) (nat_lit 381) (nat_lit 382) (nat_lit 665) (nat_lit 666), kw4 (Str.ofString "law") s_law (Str.ofString "law_jamroad_k09_refused") (nat_lit 615) (nat_lit 383)]
noncomputable def KK : Params → W.Frag := fun P => (nat_lit 3, ob3 P) :: (nat_lit 30, pick (ch0 P) (nat_lit 0)) :: (nat_lit 31, pick (ch0 P) (nat_lit 1)) :: (nat_lit 43, pick (ch0 P) (nat_lit 2)) :: (nat_lit 44, pick (ch0 P) (nat_lit 3)) :: (nat_lit 55, pick (ch0 P) (nat_lit 4)) :: (nat_lit 56, pick (ch0 P) (nat_lit 5)) :: (nat_lit 67, pick (ch0 P) (nat_lit 6)) :: (nat_lit 68, pick (ch0 P) (nat_lit 7)) :: (nat_lit 79, pick (ch1 P) (nat_lit 0)) :: (nat_lit 80, pick (ch1 P) (nat_lit 1)) :: (nat_lit 88, pick (ch1 P) (nat_lit 2)) :: (nat_lit 89, pick (ch1 P) (nat_lit 3)) :: (nat_lit 93, pick (ch1 P) (nat_lit 4)) :: (nat_lit 94, pick (ch1 P) (nat_lit 5)) :: (nat_lit 100, pick (ch1 P) (nat_lit 6)) :: (nat_lit 101, pick (ch1 P) (nat_lit 7)) :: (nat_lit 107, pick (ch2 P) (nat_lit 0)) :: (nat_lit 108, pick (ch2 P) (nat_lit 1)) :: (nat_lit 114, pick (ch2 P) (nat_lit 2)) :: (nat_lit 115, pick (ch2 P) (nat_lit 3)) :: (nat_lit 121, pick (ch2 P) (nat_lit 4)) :: (nat_lit 122, pick (ch2 P) (nat_lit 5)) :: (nat_lit 128, pick (ch2 P) (nat_lit 6)) :: (nat_lit 129, pick (ch2 P) (nat_lit 7)) :: (nat_lit 135, pick (ch3 P) (nat_lit 0)) :: (nat_lit 136, pick (ch3 P) (nat_lit 1)) :: (nat_lit 142, pick (ch3 P) (nat_lit 2)) :: (nat_lit 143, pick (ch3 P) (nat_lit 3)) :: (nat_lit 149, pick (ch3 P) (nat_lit 4)) :: (nat_lit 150, pick (ch3 P) (nat_lit 5)) :: (nat_lit 156, pick (ch3 P) (nat_lit 6)) :: (nat_lit 157, pick (ch3 P) (nat_lit 7)) :: (nat_lit 163, pick (ch4 P) (nat_lit 0)) :: (nat_lit 164, pick (ch4 P) (nat_lit 1)) :: (nat_lit 168, pick (ch4 P) (nat_lit 2)) :: (nat_lit 169, pick (ch4 P) (nat_lit 3)) :: (nat_lit 173, pick (ch4 P) (nat_lit 4)) :: (nat_lit 174, pick (ch4 P) (nat_lit 5)) :: (nat_lit 178, pick (ch4 P) (nat_lit 6)) :: (nat_lit 179, pick (ch4 P) (nat_lit 7)) :: (nat_lit 192, pick (ch5 P) (nat_lit 0)) :: (nat_lit 193, pick (ch5 P) (nat_lit 1)) :: (nat_lit 199, pick (ch5 P) (nat_lit 2)) :: (nat_lit 200, pick (ch5 P) (nat_lit 3)) :: (nat_lit 298, pick (ch5 P) (nat_lit 4)) :: (nat_lit 299, pick (ch5 P) (nat_lit 5)) :: (nat_lit 305, pick (ch5 P) (nat_lit 6)) :: (nat_lit 306, pick (ch5 P) (nat_lit 7)) :: (nat_lit 312, pick (ch6 P) (nat_lit 0)) :: (nat_lit 313, pick (ch6 P) (nat_lit 1)) :: (nat_lit 317, pick (ch6 P) (nat_lit 2)) :: (nat_lit 318, pick (ch6 P) (nat_lit 3)) :: (nat_lit 322, pick (ch6 P) (nat_lit 4)) :: (nat_lit 323, pick (ch6 P) (nat_lit 5)) :: (nat_lit 329, pick (ch6 P) (nat_lit 6)) :: (nat_lit 330, pick (ch6 P) (nat_lit 7)) :: (nat_lit 336, pick (ch7 P) (nat_lit 0)) :: (nat_lit 337, pick (ch7 P) (nat_lit 1)) :: (nat_lit 343, pick (ch7 P) (nat_lit 2)) :: (nat_lit 344, pick (ch7 P) (nat_lit 3)) :: (nat_lit 348, pick (ch7 P) (nat_lit 4)) :: (nat_lit 349, pick (ch7 P) (nat_lit 5)) :: (nat_lit 355, pick (ch7 P) (nat_lit 6)) :: (nat_lit 356, pick (ch7 P) (nat_lit 7)) :: (nat_lit 362, pick (ch8 P) (nat_lit 0)) :: (nat_lit 363, pick (ch8 P) (nat_lit 1)) :: (nat_lit 369, pick (ch8 P) (nat_lit 2)) :: (nat_lit 370, pick (ch8 P) (nat_lit 3)) :: (nat_lit 376, pick (ch8 P) (nat_lit 4)) :: (nat_lit 377, pick (ch8 P) (nat_lit 5)) :: (nat_lit 383, pick (ch8 P) (nat_lit 6)) :: (nat_lit 384, pick (ch8 P) (nat_lit 7)) :: []
noncomputable def KA : List Addr := 3 :: 30 :: 31 :: 43 :: 44 :: 55 :: 56 :: 67 :: 68 :: 79 :: 80 :: 88 :: 89 :: 93 :: 94 :: 100 :: 101 :: 107 :: 108 :: 114 :: 115 :: 121 :: 122 :: 128 :: 129 :: 135 :: 136 :: 142 :: 143 :: 149 :: 150 :: 156 :: 157 :: 163 :: 164 :: 168 :: 169 :: 173 :: 174 :: 178 :: 179 :: 192 :: 193 :: 199 :: 200 :: 298 :: 299 :: 305 :: 306 :: 312 :: 313 :: 317 :: 318 :: 322 :: 323 :: 329 :: 330 :: 336 :: 337 :: 343 :: 344 :: 348 :: 349 :: 355 :: 356 :: 362 :: 363 :: 369 :: 370 :: 376 :: 377 :: 383 :: 384 :: []
end JM
open PySem PySem.W PyProof.Rows
set_option maxRecDepth 100000 in
set_option maxHeartbeats 0 in
theorem PySem.Challenge.cw_jamroad_k09_refused_holds : PySem.Challenge.rw_jamroad_k09_refused.Holds := by
  w_on; o_law; o_head (kHook JM.KK JM.KA (fun _ => rfl)); (case hw => w_witness2)
  k_fill
  refine JM.walk (l := PySem.Challenge.rw_jamroad_k09_refused) rfl rfl (fun w h Y => PySem.W.kIn_of Y) ?F
  case F =>
    intro w mg fa h KX G hmg
    refine' JM.all_mk KX G hmg ?a0 ?l0 ?c0 ?k0 ?a1 ?l1 ?c1 ?k1 ?a2 ?l2 ?c2 ?k2 ?a3 ?l3 ?c3 ?k3 ?a4 ?l4 ?c4 ?k4 ?a5 ?l5 ?c5 ?k5 ?a6 ?l6 ?c6 ?k6 ?a7 ?l7 ?c7 ?k7 ?a8 ?l8 ?c8 ?k8 ?a9 ?l9 ?c9 ?k9 ?a10 ?l10 ?c10 ?k10 ?a11 ?l11 ?c11 ?k11 ?a12 ?l12 ?c12 ?k12 ?a13 ?l13 ?c13 ?k13 ?a14 ?l14 ?c14 ?k14 ?a15 ?l15 ?c15 ?k15 ?a16 ?l16 ?c16 ?k16 ?a17 ?l17 ?c17 ?k17 ?a18 ?l18 ?c18 ?k18 ?a19 ?l19 ?c19 ?k19 ?a20 ?l20 ?c20 ?k20 ?a21 ?l21 ?c21 ?k21 ?a22 ?l22 ?c22 ?k22 ?a23 ?l23 ?c23 ?k23 ?a24 ?l24 ?c24 ?k24 ?a25 ?l25 ?c25 ?k25 ?a26 ?l26 ?c26 ?k26 ?a27 ?l27 ?c27 ?k27 ?a28 ?l28 ?c28 ?k28 ?a29 ?l29 ?c29 ?k29 ?a30 ?l30 ?c30 ?k30 ?qRoadError ?yRoadError ?tyRoadError ?mbRoadError ?qBadCars ?yBadCars ?tyBadCars ?mbBadCars ?qBadCar ?yBadCar ?tyBadCar ?mbBadCar ?qBadSteps ?yBadSteps ?tyBadSteps ?mbBadSteps ?qBadRing ?yBadRing ?tyBadRing ?mbBadRing ?xBadCars ?gaBadCars ?naBadCars ?hcBadCars ?moBadCars ?mvBadCars ?mrBadCars ?rBadCars_BadCars ?rBadCars_BadCar ?eBadCars_BadCar ?rBadCars_BadSteps ?eBadCars_BadSteps ?rBadCars_BadRing ?eBadCars_BadRing ?xBadCar ?gaBadCar ?naBadCar ?hcBadCar ?moBadCar ?mvBadCar ?mrBadCar ?rBadCar_BadCars ?eBadCar_BadCars ?rBadCar_BadCar ?rBadCar_BadSteps ?eBadCar_BadSteps ?rBadCar_BadRing ?eBadCar_BadRing ?xBadSteps ?gaBadSteps ?naBadSteps ?hcBadSteps ?moBadSteps ?mvBadSteps ?mrBadSteps ?rBadSteps_BadCars ?eBadSteps_BadCars ?rBadSteps_BadCar ?eBadSteps_BadCar ?rBadSteps_BadSteps ?rBadSteps_BadRing ?eBadSteps_BadRing ?xBadRing ?gaBadRing ?naBadRing ?hcBadRing ?moBadRing ?mvBadRing ?mrBadRing ?rBadRing_BadCars ?eBadRing_BadCars ?rBadRing_BadCar ?eBadRing_BadCar ?rBadRing_BadSteps ?eBadRing_BadSteps ?rBadRing_BadRing ?zV ?z0 ?z1 ?z2 ?z3 ?z4 ?z5 ?z6 ?z7 ?z8 ?z9 ?z10 ?z11 ?z12 ?z13 ?z14 ?z15
    (case a0 => k_is)
    (case l0 => k_is)
    (case c0 => k_is)
    (case k0 => k_is)
    (case a1 => k_is)
    (case l1 => k_is)
    (case c1 => k_is)
    (case k1 => k_is)
    (case a2 => k_is)
    (case l2 => k_is)
    (case c2 => k_is)
    (case k2 => k_is)
    (case a3 => k_is)
    (case l3 => k_is)
    (case c3 => k_is)
    (case k3 => k_is)
    (case a4 => k_is)
    (case l4 => k_is)
    (case c4 => k_is)
    (case k4 => k_is)
    (case a5 => k_is)
    (case l5 => k_is)
    (case c5 => k_is)
    (case k5 => k_is)
    (case a6 => k_is)
    (case l6 => k_is)
    (case c6 => k_is)
    (case k6 => k_is)
    (case a7 => k_is)
    (case l7 => k_is)
    (case c7 => k_is)
    (case k7 => k_is)
    (case a8 => k_is)
    (case l8 => k_is)
    (case c8 => k_is)
    (case k8 => k_is)
    (case a9 => k_is)
    (case l9 => k_is)
    (case c9 => k_is)
    (case k9 => k_is)
    (case a10 => k_is)
    (case l10 => k_is)
    (case c10 => k_is)
    (case k10 => k_is)
    (case a11 => k_is)
    (case l11 => k_is)
    (case c11 => k_is)
    (case k11 => k_is)
    (case a12 => k_is)
    (case l12 => k_is)
    (case c12 => k_is)
    (case k12 => k_is)
    (case a13 => k_is)
    (case l13 => k_is)
    (case c13 => k_is)
    (case k13 => k_is)
    (case a14 => k_is)
    (case l14 => k_is)
    (case c14 => k_is)
    (case k14 => k_is)
    (case a15 => k_is)
    (case l15 => k_is)
    (case c15 => k_is)
    (case k15 => k_is)
    (case a16 => k_is)
    (case l16 => k_is)
    (case c16 => k_is)
    (case k16 => k_is)
    (case a17 => k_is)
    (case l17 => k_is)
    (case c17 => k_is)
    (case k17 => k_is)
    (case a18 => k_is)
    (case l18 => k_is)
    (case c18 => k_is)
    (case k18 => k_is)
    (case a19 => k_is)
    (case l19 => k_is)
    (case c19 => k_is)
    (case k19 => k_is)
    (case a20 => k_is)
    (case l20 => k_is)
    (case c20 => k_is)
    (case k20 => k_is)
    (case a21 => k_is)
    (case l21 => k_is)
    (case c21 => k_is)
    (case k21 => k_is)
    (case a22 => k_is)
    (case l22 => k_is)
    (case c22 => k_is)
    (case k22 => k_is)
    (case a23 => k_is)
    (case l23 => k_is)
    (case c23 => k_is)
    (case k23 => k_is)
    (case a24 => k_is)
    (case l24 => k_is)
    (case c24 => k_is)
    (case k24 => k_is)
    (case a25 => k_is)
    (case l25 => k_is)
    (case c25 => k_is)
    (case k25 => k_is)
    (case a26 => k_is)
    (case l26 => k_is)
    (case c26 => k_is)
    (case k26 => k_is)
    (case a27 => k_is)
    (case l27 => k_is)
    (case c27 => k_is)
    (case k27 => k_is)
    (case a28 => k_is)
    (case l28 => k_is)
    (case c28 => k_is)
    (case k28 => k_is)
    (case a29 => k_is)
    (case l29 => k_is)
    (case c29 => k_is)
    (case k29 => k_is)
    (case a30 => k_is)
    (case l30 => k_is)
    (case c30 => k_is)
    (case k30 => k_is)
    (case qRoadError => k_is)
    (case yRoadError => k_is)
    (case tyRoadError => k_is)
    (case mbRoadError => k_is)
    (case qBadCars => k_is)
    (case yBadCars => k_is)
    (case tyBadCars => k_is)
    (case mbBadCars => k_is)
    (case qBadCar => k_is)
    (case yBadCar => k_is)
    (case tyBadCar => k_is)
    (case mbBadCar => k_is)
    (case qBadSteps => k_is)
    (case yBadSteps => k_is)
    (case tyBadSteps => k_is)
    (case mbBadSteps => k_is)
    (case qBadRing => k_is)
    (case yBadRing => k_is)
    (case tyBadRing => k_is)
    (case mbBadRing => k_is)
    (case xBadCars => k_exc)
    (case gaBadCars => k_is)
    (case naBadCars => k_is)
    (case hcBadCars => k_is)
    (case moBadCars => k_is)
    (case mvBadCars => k_is)
    (case mrBadCars => k_is)
    (case rBadCars_BadCars => k_is)
    (case rBadCars_BadCar => k_is)
    (case eBadCars_BadCar => rfl)
    (case rBadCars_BadSteps => k_is)
    (case eBadCars_BadSteps => rfl)
    (case rBadCars_BadRing => k_is)
    (case eBadCars_BadRing => rfl)
    (case xBadCar => k_exc)
    (case gaBadCar => k_is)
    (case naBadCar => k_is)
    (case hcBadCar => k_is)
    (case moBadCar => k_is)
    (case mvBadCar => k_is)
    (case mrBadCar => k_is)
    (case rBadCar_BadCars => k_is)
    (case eBadCar_BadCars => rfl)
    (case rBadCar_BadCar => k_is)
    (case rBadCar_BadSteps => k_is)
    (case eBadCar_BadSteps => rfl)
    (case rBadCar_BadRing => k_is)
    (case eBadCar_BadRing => rfl)
    (case xBadSteps => k_exc)
    (case gaBadSteps => k_is)
    (case naBadSteps => k_is)
    (case hcBadSteps => k_is)
    (case moBadSteps => k_is)
    (case mvBadSteps => k_is)
    (case mrBadSteps => k_is)
    (case rBadSteps_BadCars => k_is)
    (case eBadSteps_BadCars => rfl)
    (case rBadSteps_BadCar => k_is)
    (case eBadSteps_BadCar => rfl)
    (case rBadSteps_BadSteps => k_is)
    (case rBadSteps_BadRing => k_is)
    (case eBadSteps_BadRing => rfl)
    (case xBadRing => k_exc)
    (case gaBadRing => k_is)
    (case naBadRing => k_is)
    (case hcBadRing => k_is)
    (case moBadRing => k_is)
    (case mvBadRing => k_is)
    (case mrBadRing => k_is)
    (case rBadRing_BadCars => k_is)
    (case eBadRing_BadCars => rfl)
    (case rBadRing_BadCar => k_is)
    (case eBadRing_BadCar => rfl)
    (case rBadRing_BadSteps => k_is)
    (case eBadRing_BadSteps => rfl)
    (case rBadRing_BadRing => k_is)
    (case zV => k_is)
    (case z0 => k_is)
    (case z1 => k_is)
    (case z2 => k_is)
    (case z3 => k_is)
    (case z4 => k_is)
    (case z5 => k_is)
    (case z6 => k_is)
    (case z7 => k_is)
    (case z8 => k_is)
    (case z9 => k_is)
    (case z10 => k_is)
    (case z11 => k_is)
    (case z12 => k_is)
    (case z13 => k_is)
    (case z14 => k_is)
    (case z15 => k_is)
#print axioms PySem.Challenge.cw_jamroad_k09_refused_holds
