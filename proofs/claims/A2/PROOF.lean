
import PyProof.Rows.All
import Wide.All
import OpenK.AllK
import Wide.FinOn
import PyProof.EqAt
import PyProof.EqKinds
import PyProof.TupleCall
import KE.BitLaws
import Open.SpecLaws
import KE.OsHead
import KE.OsGo
import PyProof.ListRange
import PySem.Challenge.RW_twocommitted_s01_answers
set_option compiler.extract_closed false
section
set_option Elab.async false
set_option linter.all false
set_option maxRecDepth 100000
namespace L2
open PySem PySem.Spec PyProof.Rows
noncomputable abbrev Key := Sum Int Str
noncomputable def keyIs : Key → Value → Bool
  | .inl k, v => Value.isInt k v
  | .inr x, v => Value.isStrOf x v
noncomputable def keyH (w : World) : Key → Int
  | .inl k => hashInt k
  | .inr x => hashStr w x
theorem keyIs_shape : ∀ {k : Key} {v : Value}, keyIs k v = true → (∃ i t, k = Sum.inl i ∧ v = Value.int i t) ∨ (∃ x t, k = Sum.inr x ∧ v = Value.str x t)
  | .inl i, v, h => by
    obtain ⟨t, e⟩ := Value.isInt_shape (k := i) (v := v) h
    exact .inl ⟨i, t, rfl, e⟩
  | .inr x, v, h => by
    obtain ⟨t, e⟩ := Value.isStrOf_shape (x := x) (v := v) h
    exact .inr ⟨x, t, rfl, e⟩
theorem keyIs_int (i : Int) (t : Tok) : keyIs (.inl i) (.int i t) = true := by simp [keyIs, Value.isInt]
theorem keyIs_str (x : Str) (t : Tok) : keyIs (.inr x) (.str x t) = true := by simp [keyIs, Value.isStrOf]
theorem key_ll (a b : Int) : decide ((Sum.inl a : Key) = Sum.inl b) = (a == b) := by
  by_cases e : a = b
  · subst e; simp
  · have h : ¬ (Sum.inl a : Key) = Sum.inl b := fun q => e (Sum.inl.inj q)
    rw [decide_eq_false h]
    exact (beq_eq_false_iff_ne.mpr e).symm
theorem key_rr (a b : Str) : decide ((Sum.inr a : Key) = Sum.inr b) = decide (a = b) := by
  by_cases e : a = b
  · subst e; simp
  · have h : ¬ (Sum.inr a : Key) = Sum.inr b := fun q => e (Sum.inr.inj q)
    rw [decide_eq_false h, decide_eq_false e]
theorem key_lr (a : Int) (b : Str) : decide ((Sum.inl a : Key) = Sum.inr b) = false := decide_eq_false (fun q => nomatch q)
theorem key_rl (a : Str) (b : Int) : decide ((Sum.inr a : Key) = Sum.inl b) = false := decide_eq_false (fun q => nomatch q)
noncomputable def mixKind (prog : Program) (w : World) : PySem.KeyKind prog w Key where
  is := keyIs
  hash := keyH w
  inj := fun v a b ha hb => by
    rcases keyIs_shape ha with ⟨i, t, rfl, rfl⟩ | ⟨x, t, rfl, rfl⟩
    · rcases keyIs_shape hb with ⟨j, u, rfl, e⟩ | ⟨y, u, rfl, e⟩
      · injection e with e1 _; rw [e1]
      · exact nomatch e
    · rcases keyIs_shape hb with ⟨j, u, rfl, e⟩ | ⟨y, u, rfl, e⟩
      · exact nomatch e
      · injection e with e1 _; rw [e1]
  byValue := fun k v h => by
    rcases keyIs_shape h with ⟨i, t, rfl, rfl⟩ | ⟨x, t, rfl, rfl⟩ <;> rfl
  pyHash := fun hv h => by
    rcases keyIs_shape hv with ⟨i, t, rfl, rfl⟩ | ⟨x, t, rfl, rfl⟩
    · exact wpAny_pyHash_int h
    · exact wpAny_pyHash_str h
  eqBool := fun hu hv h => by
    rcases keyIs_shape hu with ⟨i, t, rfl, rfl⟩ | ⟨x, t, rfl, rfl⟩
    · rcases keyIs_shape hv with ⟨j, u, rfl, rfl⟩ | ⟨y, u, rfl, rfl⟩
      · rw [key_ll] at h; exact wpAny_eqBool_int h
      · rw [key_lr] at h; exact SeqAt.EqAt.int_str i t y u _ _ _ _ h
    · rcases keyIs_shape hv with ⟨j, u, rfl, rfl⟩ | ⟨y, u, rfl, rfl⟩
      · rw [key_rl] at h; exact SeqAt.EqAt.str_int x t j u _ _ _ _ h
      · rw [key_rr] at h; exact wpAny_eqBool_str h
  «strs» := fun k x t v h => by
    rcases keyIs_shape h with ⟨i, u, rfl, e⟩ | ⟨y, u, rfl, e⟩
    · exact nomatch e
    · injection e with e1 _
      subst e1
      cases v <;> rfl
theorem mixKind_int (prog : Program) (w : World) (i : Int) (t : Tok) : (mixKind prog w).is (.inl i) (.int i t) = true := keyIs_int i t
theorem mixKind_str (prog : Program) (w : World) (x : Str) (t : Tok) : (mixKind prog w).is (.inr x) (.str x t) = true := keyIs_str x t
end L2
namespace L2
open PySem PySem.Spec PyProof.Rows
inductive V where
  | non | bl (b : Bool) | int (i : Int) | str (x : Str) | byt (b : Array UInt8) | flt (b : UInt64) | ref (a : Addr) | ty (n : String)
  deriving DecidableEq
noncomputable def RelV : V → Value → Prop
  | .non, u => u = Value.none
  | .bl b, u => u = Value.bool b
  | .int i, u => ∃ t, u = Value.int i t
  | .str x, u => ∃ t, u = Value.str x t
  | .byt b, u => ∃ t, u = Value.bytes b t
  | .flt b, u => ∃ t, u = Value.float b t
  | .ref a, u => u = Value.ref a
  | .ty n, u => u = Value.type n
noncomputable abbrev Vals : List V → List Value → Prop := Paired RelV
theorem Vals.length {xs : List V} {us : List Value} (r : Vals xs us) : xs.length = us.length := Paired.length r
theorem Vals.get : ∀ {xs : List V} {us : List Value} {i : Nat} {x : V}, Vals xs us → xs[i]? = some x → ∃ u, us[i]? = some u ∧ RelV x u
  | _, _, _, _, .nil, e => by simp at e
  | _, _, 0, _, .cons r _, e => by simp at e; subst e; exact ⟨_, rfl, r⟩
  | _, _, i + 1, x, .cons _ t, e => by
    obtain ⟨u, h1, h2⟩ := Vals.get (i := i) (x := x) t (by simpa using e)
    exact ⟨u, by simpa using h1, h2⟩
theorem Vals.append : ∀ {xs ys : List V} {us ws : List Value}, Vals xs us → Vals ys ws → Vals (xs ++ ys) (us ++ ws)
  | _, _, _, _, .nil, s => s
  | _, _, _, _, .cons r t, s => .cons r (Vals.append t s)
theorem Vals.take : ∀ {xs : List V} {us : List Value} (n : Nat), Vals xs us → Vals (xs.take n) (us.take n)
  | _, _, 0, _ => .nil
  | _, _, _ + 1, .nil => .nil
  | _, _, n + 1, .cons r t => .cons r (Vals.take n t)
theorem Vals.drop : ∀ {xs : List V} {us : List Value} (n : Nat), Vals xs us → Vals (xs.drop n) (us.drop n)
  | _, _, 0, r => r
  | _, _, _ + 1, .nil => .nil
  | _, _, n + 1, .cons _ t => Vals.drop n t
noncomputable def RelO : Option V → Option Value → Prop
  | some v, some u => RelV v u
  | none, none => True
  | _, _ => False
noncomputable def KV {κ : Type} : List (κ × V) → List (κ × Value) → Prop := Paired fun (p : κ × V) (q : κ × Value) => p.1 = q.1 ∧ RelV p.2 q.2
noncomputable def kV : Key → V
  | .inl i => .int i
  | .inr x => .str x
inductive HO where
  /-- a list -/
  | lst (xs : List V)
  /-- a tuple (never changes) -/
  | tup (xs : List V)
  /-- a dict whose keys are ints and texts; one whose keys are tuples of ints and texts (the empty one is both) -/
  | dK (kvs : List (Key × V)) | dT (kvs : List (List Key × V))
  /-- a set of ints: its members, its size -/
  | set (S : Int → Bool) (n : Nat)
  /-- an instance of the class at C, its dict at dx, its attributes -/
  | ins (C dx : Addr) (fs : List (Str × V))
  /-- the dict of the instance at x -/
  | own (x : Addr)
  /-- the dict of an exception -/
  | xd (fs : List (Str × V))
  /-- a bound method, f of x -/
  | met (f x : Addr)
  /-- a range object lo, lo + 1, .. below hi -/
  | rng (lo hi : Int)
  /-- a thing that is known to the object (the script; a dict while a loop walks it): read, never written while it is so -/
  | frz (o : Obj) (u : HO)
  /-- a code object's table -/
  | tbl (ps : Array Value)
  /-- any other thing, by what is true of its one object (a def of one's own: SetO a S n := HO.ext fun h => ..) -/
  | ext (φ : Heap → Prop)
noncomputable abbrev Hp := Addr → Option HO
noncomputable def upd (H : Hp) (a : Addr) (o : HO) : Hp := fun b => if b = a then some o else H b
theorem upd_same {H : Hp} {a : Addr} {o : HO} : upd H a o a = some o := by unfold upd; rw [if_pos rfl]
theorem upd_ne {H : Hp} {a b : Addr} {o : HO} (h : b ≠ a) : upd H a o b = H b := by unfold upd; rw [if_neg h]
theorem upd_upd {H : Hp} {a : Addr} {o u : HO} : upd (upd H a o) a u = upd H a u := by
  funext b; unfold upd; split <;> rfl
theorem ne_of {H : Hp} {a b : Addr} {o u : HO} (h : H a = some o) (h' : H b = some u) (d : o ≠ u) : a ≠ b := by
  intro e; subst e; rw [h] at h'; exact d (Option.some.inj h')
theorem ne_of_none {H : Hp} {a b : Addr} {o : HO} (h : H a = some o) (h' : H b = none) : a ≠ b := by
  intro e; subst e; rw [h] at h'; cases h'
section
variable (P : Program) (w : World)
noncomputable def ObjOk (H : Hp) (h : Heap) (a : Addr) : HO → Prop
  | .lst xs => xs.length ≤ sizeLine ∧ ∃ (its : List Value) (n : Nat), Vals xs its ∧ h.get? a = some { cls := .type "list", data := .seq its.toArray n }
  | .tup xs => xs.length ≤ sizeLine ∧ ∃ its : List Value, Vals xs its ∧ IsTup h a its.toArray
  | .dK kvs => kvs.length ≤ sizeLine ∧ (a == sysModules) = false ∧ ∃ vs, KV kvs vs ∧ h.DictOf (mixKind P w) a vs
  | .dT kvs => kvs.length ≤ sizeLine ∧ (a == sysModules) = false ∧ ∃ xs : List (List Key × Addr × Value),
      Paired (fun (p : List Key × V) (q : List Key × Addr × Value) => p.1 = q.1 ∧ H q.2.1 = some (.tup (p.1.map kV)) ∧ RelV p.2 q.2.2) kvs xs ∧
      ∃ o es ep, h.get? a = some o ∧ o.ExactDict ∧ o.data = .dict es ep ∧ es.toList = xs.map (entryOfKey (tupleKind (mixKind P w))) ∧ (xs.map (·.1)).Nodup
  | .set S n => h.SetOf (intKind P w) a S n
  | .ins C dx fs => H dx = some (.own a) ∧ fs.length ≤ 1000 ∧ dx ≠ a ∧ h.get? a = some (PySem.W.instObj C dx) ∧
      ∃ mA, h.Ns1 dx mA ∧ (∀ f, RelO (fs.lookup f) (mA f)) ∧ PySem.Within mA (fs.map (·.1))
  | .own _ => ∃ o, h.get? a = some o
  | .xd fs => ∃ mA, h.Ns1 a mA ∧ ∀ f, RelO (fs.lookup f) (mA f)
  | .rng lo hi => ∃ t u v, h.get? a = some { cls := .type "range", data := .fields #[.int lo t, .int hi u, .int 1 v] }
  | .frz o u => h.get? a = some o ∧ ObjOk H h a u
  | .tbl ps => h.get? a = some { cls := .none, data := .fields ps }
  | .met f x => h.get? a = some (PySem.W.methodObj (.ref f) (.ref x))
  | .ext φ => φ h ∧ (∃ o, h.get? a = some o) ∧ ∀ h1 h2 : Heap, φ h1 → (∀ o, h1.get? a = some o → h2.get? a = some o) → φ h2
noncomputable def HOk (H : Hp) (h : Heap) : Prop := ∀ a o, H a = some o → ObjOk P w H h a o
end
section
variable {P : Program} {w : World} {H H' : Hp} {h h' : Heap} {a : Addr} {o : HO}
theorem ObjOk.lt (x : ObjOk P w H h a o) : a < h.objs.size := by
  cases o with
  | lst xs => obtain ⟨_, _, _, _, e⟩ := x; exact Heap.lt_size e
  | tup xs => obtain ⟨_, _, _, p⟩ := x; exact p.lt
  | dK kvs => obtain ⟨_, _, _, _, o, _, _, e, _⟩ := x; exact Heap.lt_size e
  | dT kvs => obtain ⟨_, _, _, _, o, _, _, e, _⟩ := x; exact Heap.lt_size e
  | set S n => obtain ⟨o, _, _, _, e, _⟩ := x; exact Heap.lt_size e
  | ins C dx fs => obtain ⟨_, _, _, e, _⟩ := x; exact Heap.lt_size e
  | own y => obtain ⟨_, e⟩ := x; exact Heap.lt_size e
  | xd fs => obtain ⟨_, ⟨_, _, _, e, _⟩, _⟩ := x; exact Heap.lt_size e
  | rng lo hi => obtain ⟨_, _, _, e⟩ := x; exact Heap.lt_size e
  | frz ob u => obtain ⟨e, _⟩ := x; exact Heap.lt_size e
  | tbl ps => exact Heap.lt_size (show h.get? a = some _ from x)
  | met f y => exact Heap.lt_size (show h.get? a = some _ from x)
  | ext φ => obtain ⟨_, ⟨_, e⟩, _⟩ := x; exact Heap.lt_size e
theorem Paired.mapP {α β : Type} {F G : α → β → Prop} : ∀ {l₁ : List α} {l₂ : List β}, Paired F l₁ l₂ → (∀ a b, F a b → G a b) → Paired G l₁ l₂
  | _, _, .nil, _ => .nil
  | _, _, .cons r t, f => .cons (f _ _ r) (Paired.mapP t f)
theorem ObjOk.stay (x : ObjOk P w H h a o) (k : ∀ b u, (b = a ∨ H b = some (.own a)) → h.get? b = some u → h'.get? b = some u)
    (ho : ∀ b, H b = some (.own a) → H' b = some (.own a)) (ht : ∀ b xs, H b = some (.tup xs) → H' b = some (.tup xs)) : ObjOk P w H' h' a o := by
  induction o with
  | lst xs => obtain ⟨z, its, n, r, e⟩ := x; exact ⟨z, its, n, r, k _ _ (.inl rfl) e⟩
  | tup xs => obtain ⟨z, its, r, ob, e, c⟩ := x; exact ⟨z, its, r, ob, k _ _ (.inl rfl) e, c⟩
  | dK kvs => obtain ⟨z, y, vs, r, ob, es, ep, e, c⟩ := x; exact ⟨z, y, vs, r, ob, es, ep, k _ _ (.inl rfl) e, c⟩
  | dT kvs =>
    obtain ⟨z, y, xs, r, ob, es, ep, e, c⟩ := x
    exact ⟨z, y, xs, Paired.mapP r fun p q z => ⟨z.1, ht _ _ z.2.1, z.2.2⟩, ob, es, ep, k _ _ (.inl rfl) e, c⟩
  | set S n => obtain ⟨ob, es, ep, t, e, c⟩ := x; exact ⟨ob, es, ep, t, k _ _ (.inl rfl) e, c⟩
  | ins C dx fs =>
    obtain ⟨d, z, ne, e, mA, ⟨od, es, ep, e2, c⟩, r⟩ := x
    exact ⟨ho _ d, z, ne, k _ _ (.inl rfl) e, mA, ⟨od, es, ep, k _ _ (.inr d) e2, c⟩, r⟩
  | own y => obtain ⟨ob, e⟩ := x; exact ⟨ob, k _ _ (.inl rfl) e⟩
  | xd fs => obtain ⟨mA, ⟨od, es, ep, e, c⟩, r⟩ := x; exact ⟨mA, ⟨od, es, ep, k _ _ (.inl rfl) e, c⟩, r⟩
  | rng lo hi => obtain ⟨t, u, v, e⟩ := x; exact ⟨t, u, v, k _ _ (.inl rfl) e⟩
  | frz ob u ih => obtain ⟨e, q⟩ := x; exact ⟨k _ _ (.inl rfl) e, ih q⟩
  | tbl ps =>
    have e : h.get? a = some { cls := .none, data := .fields ps } := x
    show h'.get? a = some { cls := .none, data := .fields ps }
    exact k a _ (.inl rfl) e
  | met f y =>
    have e : h.get? a = some (PySem.W.methodObj (.ref f) (.ref y)) := x
    show h'.get? a = some (PySem.W.methodObj (.ref f) (.ref y))
    exact k a _ (.inl rfl) e
  | ext φ => obtain ⟨p, ⟨o, e⟩, st⟩ := x; exact ⟨st _ _ p fun o q => k _ _ (.inl rfl) q, ⟨o, k _ _ (.inl rfl) e⟩, st⟩
theorem HOk.lt (x : HOk P w H h) (e : H a = some o) : a < h.objs.size := (x a o e).lt
theorem HOk.fresh (x : HOk P w H h) (e : h.objs.size ≤ a) : H a = none := by
  cases q : H a with
  | none => rfl
  | some u => exact absurd (Nat.lt_of_lt_of_le (x.lt q) e) (Nat.lt_irrefl _)
theorem HOk.kept (x : HOk P w H h) (k : ∀ b u, h.get? b = some u → h'.get? b = some u) : HOk P w H h' := fun a o e =>
  (x a o e).stay (fun b u _ q => k b u q) (fun _ q => q) fun _ _ q => q
theorem HOk.laid (x : HOk P w H h) (k : ∀ b u, h.get? b = some u → h'.get? b = some u) (hp : h.objs.size ≤ a) (new : ObjOk P w (upd H a o) h' a o) : HOk P w (upd H a o) h' := fun b u e => by
  have hn := x.fresh hp
  by_cases hb : b = a
  · subst hb; rw [upd_same] at e; cases e; exact new
  · rw [upd_ne hb] at e
    exact (x b u e).stay (fun c v _ q => k c v q) (fun c q => by rw [upd_ne (ne_of_none q hn)]; exact q) fun c xs q => by rw [upd_ne (ne_of_none q hn)]; exact q
end
noncomputable def Rd (H : Hp) (a : Addr) (u : HO) : Prop := H a = some u ∨ ∃ o, H a = some (.frz o u)
theorem Rd.ok {P : Program} {w : World} {H : Hp} {h : Heap} {a : Addr} {u : HO} (r : Rd H a u) (x : HOk P w H h) : ObjOk P w H h a u := by
  rcases r with r | ⟨o, r⟩
  · exact x a u r
  · obtain ⟨_, q⟩ := x a _ r
    exact q
noncomputable def Mut : Option HO → Prop
  | some (.lst _) => True
  | some (.dK _) => True
  | some (.dT _) => True
  | some (.set _ _) => True
  | some (.ins _ _ _) => True
  | some (.ext _) => True
  | _ => False
section
variable {P : Program} {w : World} {H : Hp} {h h' : Heap} {x e : Addr} {o' : HO}
theorem HOk.write (ok : HOk P w H h) (mu : Mut (H x)) (he : e = x ∨ H e = some (.own x)) (k : ∀ b u, b ≠ e → h.get? b = some u → h'.get? b = some u) (heo : ∃ u, h'.get? e = some u)
    (new : ObjOk P w (upd H x o') h' x o') : HOk P w (upd H x o') h' := fun b u q => by
  have nown : ∀ c y, H c = some (.own y) → c ≠ x := fun c y r z => by subst z; rw [r] at mu; exact mu
  have ntup : ∀ c xs, H c = some (.tup xs) → c ≠ x := fun c xs r z => by subst z; rw [r] at mu; exact mu
  by_cases hb : b = x
  · subst hb; rw [upd_same] at q; cases q; exact new
  · rw [upd_ne hb] at q
    by_cases hbe : b = e
    · have q' : H b = some (.own x) := by
        rcases he with z | z
        · exact absurd (hbe.trans z) hb
        · rw [hbe]; exact z
      rw [q] at q'; cases q'
      obtain ⟨v, hv⟩ := heo
      exact ⟨v, by rw [hbe]; exact hv⟩
    · refine (ok b u q).stay (fun c v hc r => k c v ?_ r) (fun c r => by rw [upd_ne (nown c b r)]; exact r) fun c xs r => by rw [upd_ne (ntup c xs r)]; exact r
      rcases hc with rfl | hc
      · exact hbe
      · rintro rfl
        rcases he with z | z
        · exact nown c b hc z
        · rw [hc] at z; cases z; exact hb rfl
end
structure Un (fs ex : List Addr) (H H' : Hp) (h h' : Heap) : Prop where
  keep : ∀ b o, h.get? b = some o → H b = none → b ∉ fs → b ∉ ex → h'.get? b = some o
  slot : ∀ b o, h.get? b = some o → H b = none → b ∈ fs → b ∉ ex → ∃ sl, h'.get? b = some { o with slots := sl }
  free : ∀ b o, h.get? b = some o → H b = none → b ∉ ex → H' b = none
  there : ∀ b o, h.get? b = some o → b ∉ ex → ∃ o', h'.get? b = some o'
  tups : ∀ b xs, H b = some (.tup xs) → H' b = some (.tup xs)
  frzs : ∀ b o u, H b = some (.frz o u) → H' b = some (.frz o u)
  tbls : ∀ b ps, H b = some (.tbl ps) → ∃ more, H' b = some (.tbl (ps ++ more))
section
variable {fs fs' ex ex' : List Addr} {H H1 H2 : Hp} {h h1 h2 h' : Heap} {a x e : Addr} {o : HO}
theorem Un.any (u : Un fs ex H H1 h h1) {b : Addr} {ob : Obj} (q : h.get? b = some ob) (n : H b = none) (hx : b ∉ ex) : ∃ sl, h1.get? b = some { ob with slots := sl } := by
  by_cases hb : b ∈ fs
  · exact u.slot b ob q n hb hx
  · exact ⟨ob.slots, u.keep b ob q n hb hx⟩
theorem Un.kept (k : ∀ b u, h.get? b = some u → h'.get? b = some u) : Un fs ex H H h h' :=
  ⟨fun b ob q _ _ _ => k b ob q, fun b ob q _ _ _ => ⟨ob.slots, k b ob q⟩, fun _ _ _ n _ => n, fun b ob q _ => ⟨ob, k b ob q⟩, fun _ _ q => q, fun _ _ _ q => q, fun _ ps q => ⟨#[], by rw [q]; simp⟩⟩
theorem Un.refl : Un fs ex H H h h := Un.kept fun _ _ q => q
theorem Un.laid (k : ∀ b u, h.get? b = some u → h'.get? b = some u) (hp : h.objs.size ≤ a) (hn : H a = none) : Un fs ex H (upd H a o) h h' where
  keep := fun b u q _ _ _ => k b u q
  slot := fun b u q _ _ _ => ⟨u.slots, k b u q⟩
  free := fun b u q n _ => by rw [upd_ne (Nat.ne_of_lt (Nat.lt_of_lt_of_le (Heap.lt_size q) hp))]; exact n
  there := fun b u q _ => ⟨u, k b u q⟩
  tups := fun b xs q => by rw [upd_ne (ne_of_none q hn)]; exact q
  frzs := fun b u xs q => by rw [upd_ne (ne_of_none q hn)]; exact q
  tbls := fun b ps q => ⟨#[], by rw [upd_ne (ne_of_none q hn), q]; simp⟩
theorem Un.write (mu : Mut (H x)) (he : e = x ∨ H e = some (.own x)) (k : ∀ b u, b ≠ e → h.get? b = some u → h'.get? b = some u) (heo : ∃ u, h'.get? e = some u) : Un fs ex H (upd H x o) h h' := by
  have hx : ∀ b, H b = none → b ≠ x := fun b n z => by subst z; rw [n] at mu; exact mu
  have hb : ∀ b, H b = none → b ≠ e := fun b n z => by
    subst z
    rcases he with r | r
    · exact hx b n r
    · rw [n] at r; cases r
  have hm : ∀ b u, H b = some u → ¬ Mut (some u) → b ≠ x := fun b u q nm z => by subst z; rw [q] at mu; exact nm mu
  refine ⟨fun b u q n _ _ => k b u (hb b n) q, fun b u q n _ _ => ⟨u.slots, k b u (hb b n) q⟩, fun b u q n _ => by rw [upd_ne (hx b n)]; exact n, fun b u q _ => ?_,
    fun b xs q => by rw [upd_ne (hm b _ q fun z => z)]; exact q, fun b u xs q => by rw [upd_ne (hm b _ q fun z => z)]; exact q, fun b ps q => ⟨#[], by rw [upd_ne (hm b _ q fun z => z), q]; simp⟩⟩
  by_cases hbe : b = e
  · subst hbe; exact heo
  · exact ⟨u, k b u hbe q⟩
end
noncomputable def trk (h : Heap) (H : Hp) : List Addr := (List.range h.objs.size).filter fun a => (H a).isSome
noncomputable def hidT (h : Heap) (H : Hp) : Heap := PySem.W.hideAll h (trk h H)
theorem hidT_size (h : Heap) (H : Hp) : (hidT h H).objs.size = h.objs.size := PySem.W.hideAll_size _ _
theorem hidT_get {h : Heap} {H : Hp} {b : Addr} {o : Obj} (e : h.get? b = some o) (n : H b = none) : (hidT h H).get? b = some o :=
  PySem.W.hideAll_get _ e fun hm => by
    have q : (H b).isSome = true := (List.mem_filter.mp hm).2
    rw [n] at q; simp at q
theorem of_hidT {h : Heap} {H : Hp} {b : Addr} {o : Obj} (e : (hidT h H).get? b = some o) : h.get? b = some o ∧ H b = none := by
  have e' : h.get? b = some o := PySem.W.of_hideAll (trk h H) e
  refine ⟨e', ?_⟩
  cases q : H b with
  | none => rfl
  | some x =>
    have hm : b ∈ trk h H := List.mem_filter.mpr ⟨List.mem_range.mpr (Heap.lt_size e'), by simp [q]⟩
    have z : (hidT h H).get? b = none := PySem.W.hideAll_none (trk h H) hm
    rw [z] at e; cases e
end L2
namespace L2
open PySem PySem.Spec PyProof.Rows
structure Mod (K : PySem.W.Frag) (mg : Str → Option Value) (base : Heap) : Prop where
  kin : K.In base
  glob : base.Ns mainGlobals mg
  blt : ∃ mb, base.Ns builtinsNs mb ∧ ∀ x : Str, x ≠ "__name__" → mb x = bootBuiltins x
  nolimit : base.NoLimit
/-- the context: a def's body (or a comprehension's block) running. base: fixed through the whole law; s₀, H₀: the entry; outer: the frames whose slots others may change (a def's callers); stack: all frames that run;
   ex: iterators that were made ahead of the entry and are walked here (a comprehension's); fn: the names whose cells were made at the entry (a def: all; a comprehension's block: its own); calm: not within an except suite; pn: pins that every state bears; xe: what is wanted of an exception that leaves the code -/
structure Cx where
  prog : Program
  w : World
  K : PySem.W.Frag
  mg : Str → Option Value
  base : Heap
  A : Around
  N : List Str
  s_0 : Shared
  H_0 : Hp
  env : Env
  outer : List Env
  stack : List Env
  ex : List Addr
  fn : Str → Bool
  calm : Bool
  pn : List (Addr × Obj)
  xe : Value → Shared → Prop
noncomputable def frs (l : List Env) : List Addr := l.filterMap (·.frame)
noncomputable abbrev Cx.fs (X : Cx) : List Addr := frs X.outer
noncomputable def Vis (sc : Scope) (x : Str) : Prop := sc.names.lookup x = some .local ∨ sc.names.lookup x = some .cell ∨ sc.names.lookup x = some .free
noncomputable def Loc (sc : Scope) (x : Str) : Prop := sc.names.lookup x = some .local ∨ sc.names.lookup x = some .cell
noncomputable def Look (env : Env) (h : Heap) (m : Str → Option Value) (x : Str) (u : Value) : Prop :=
  (env.kindOf x = some .local ∧ m x = some u) ∨ ((env.kindOf x = some .cell ∨ env.kindOf x = some .free) ∧ ∃ c, env.cells.lookup x = some c ∧ h.IsCell c (some u))
structure Cx.Ok (X : Cx) : Prop where
  mod : Mod X.K X.mg X.base
  kind : X.env.scope.kind = .function
  glob : X.env.globals = mainGlobals
  blt : X.env.builtins = builtinsNs
  above : X.s_0.heap.objs.size ≤ X.env.locals
  inj : ∀ x y c, X.env.cells.lookup x = some c → X.env.cells.lookup y = some c → x = y
  has : ∀ x, (X.env.kindOf x = some .cell ∨ X.env.kindOf x = some .free) → ∃ c, X.env.cells.lookup x = some c
  cab : ∀ x c, X.fn x = true → X.env.cells.lookup x = some c → X.s_0.heap.objs.size ≤ c
  hd : X.calm = true → X.A.handled = none
  frames : X.A.frames = some X.stack
  stk : X.stack = X.outer ∨ (X.stack = X.env :: X.outer ∧ X.env.frame = some X.env.locals)
  exf : ∀ b ∈ X.ex, b ≠ X.env.locals ∧ ∀ x c, X.env.cells.lookup x = some c → c ≠ b
  bs : ∀ b o, X.base.get? b = some o → X.s_0.heap.get? b = some o ∧ X.H_0 b = none
  bsz : X.base.objs.size ≤ X.s_0.heap.objs.size
  noex : ∀ b o, X.base.get? b = some o → b ∉ X.ex
  exfs : ∀ b ∈ X.ex, b ∉ X.fs
  funs : X.s_0.heap.FunFrames X.base X.outer
  frf : ∀ b ∈ X.fs, X.H_0 b = none
structure Inv (X : Cx) (pins : List (Addr × Obj)) (σ : List (Option V)) (H : Hp) (s : Shared) : Prop where
  ok : X.Ok
  os : s.os = X.s_0.os
  bare : AllBare s.gens
  base : Un X.fs X.ex X.H_0 H X.s_0.heap s.heap
  loc : ∃ m, s.heap.Ns X.env.locals m ∧ ∀ (i : Nat) (x : Str) (v : V), X.N[i]? = some x → σ[i]? = some (some v) → Vis X.env.scope x → ∃ u, RelV v u ∧ Look X.env s.heap m x u
  cell : ∀ x c, X.env.cells.lookup x = some c → ∃ v, s.heap.IsCell c v
  free : H X.env.locals = none
  freeC : ∀ x c, X.env.cells.lookup x = some c → H c = none
  pin : ∀ p ∈ X.pn ++ pins, s.heap.get? p.1 = some p.2 ∧ H p.1 = none ∧ p.1 ≠ X.env.locals ∧ p.1 ∉ X.fs ∧ ∀ v, p.2.data ≠ .cell v
  hok : HOk X.prog X.w H s.heap
  len : σ.length = X.N.length
section
variable {X : Cx} {pins : List (Addr × Obj)} {σ : List (Option V)} {H H' : Hp} {s : Shared} {h' : Heap}
theorem Cx.Ok.nofr (ok : X.Ok) {b : Addr} {o : Obj} (e : X.base.get? b = some o) : b ∉ X.fs := fun hb => by
  have := (ok.funs.mem hb).1
  rw [e] at this; cases this
theorem Inv.bs (I : Inv X pins σ H s) : ∀ b o, X.base.get? b = some o → s.heap.get? b = some o ∧ H b = none := fun b o e =>
  ⟨I.base.keep b o (I.ok.bs b o e).1 (I.ok.bs b o e).2 (I.ok.nofr e) (I.ok.noex b o e), I.base.free b o (I.ok.bs b o e).1 (I.ok.bs b o e).2 (I.ok.noex b o e)⟩
theorem Inv.bk (I : Inv X pins σ H s) : ∀ b o, X.base.get? b = some o → s.heap.get? b = some o := fun b o e => (I.bs b o e).1
theorem Inv.mod (I : Inv X pins σ H s) : Mod X.K X.mg X.base := I.ok.mod
theorem Inv.kIn (I : Inv X pins σ H s) : X.K.In s.heap := I.ok.mod.kin.keeps I.bk
theorem Inv.lt (I : Inv X pins σ H s) : X.env.locals < s.heap.objs.size := let ⟨_, hn, _⟩ := I.loc; hn.lt
theorem Inv.sz (I : Inv X pins σ H s) : X.s_0.heap.objs.size ≤ s.heap.objs.size := Nat.le_trans I.ok.above (Nat.le_of_lt I.lt)
theorem Inv.nofs (I : Inv X pins σ H s) {a : Addr} (h : s.heap.objs.size ≤ a) : a ∉ X.fs := fun hb => by
  obtain ⟨_, o, ho, _⟩ := I.ok.funs.mem hb
  exact absurd (Nat.lt_of_lt_of_le (Heap.lt_size ho) (Nat.le_trans I.sz h)) (Nat.lt_irrefl _)
theorem Inv.cne (I : Inv X pins σ H s) : ∀ x c, X.env.cells.lookup x = some c → c ≠ X.env.locals := fun x c e z => by
  obtain ⟨v, o, ho, hd⟩ := I.cell x c e
  obtain ⟨m, ⟨o', es, ep, ho', hd', _⟩, _⟩ := I.loc
  rw [z, ho'] at ho; cases ho; rw [hd'] at hd; cases hd
theorem Inv.funs (I : Inv X pins σ H s) : s.heap.FunFrames X.base X.outer := by
  have all : ∀ (l : List Env), (∀ b ∈ frs l, b ∈ X.fs) → X.s_0.heap.FunFrames X.base l → s.heap.FunFrames X.base l := by
    intro l
    induction l with
    | nil => intro _ _; trivial
    | cons env r ih =>
      intro hs hl
      obtain ⟨hk, ⟨L, o, hf, hn, ho, hd⟩, hr⟩ := hl
      have hL : L ∈ X.fs := hs L (by unfold frs; rw [List.filterMap_cons, hf]; exact List.mem_cons_self)
      obtain ⟨sl, e⟩ := I.base.slot L o ho (I.ok.frf L hL) hL fun z => I.ok.exfs L z hL
      exact ⟨hk, ⟨L, _, hf, hn, e, hd⟩, ih (fun b hb => hs b (by unfold frs; rw [List.filterMap_cons, hf]; exact List.mem_cons_of_mem _ hb)) hr⟩
  exact all X.outer (fun _ hb => hb) I.ok.funs
theorem Inv.stack (I : Inv X pins σ H s) : s.heap.FunFrames X.base X.stack := by
  rcases I.ok.stk with e | ⟨e, hf⟩
  · rw [e]; exact I.funs
  · rw [e]
    obtain ⟨m, hn, _⟩ := I.loc
    refine .cons (by rw [I.ok.kind]; decide) hf hn ?_ I.funs
    exact Heap.get?_none_of_le (Nat.le_trans I.ok.bsz I.ok.above)
theorem Inv.stkSub (I : Inv X pins σ H s) : ∀ b ∈ frs X.stack, b ∈ X.env.locals :: X.fs := fun b hb => by
  rcases I.ok.stk with e | ⟨e, hf⟩
  · rw [e] at hb; exact List.mem_cons_of_mem _ hb
  · rw [e] at hb
    unfold frs at hb
    rw [List.filterMap_cons, hf] at hb
    exact hb
theorem Inv.stkFree (I : Inv X pins σ H s) : ∀ b ∈ frs X.stack, H b = none := fun b hb => by
  rcases List.mem_cons.mp (I.stkSub b hb) with e | hb
  · rw [e]; exact I.free
  · obtain ⟨_, o, ho, _⟩ := I.ok.funs.mem hb
    exact I.base.free b o ho (I.ok.frf b hb) fun z => I.ok.exfs b z hb
theorem Inv.step {g' : Array GenState} {t' : Nat} {d' : Drawn} {ch : List Addr} (I : Inv X pins σ H s)
    (hch : ∀ b ∈ ch, (b ∈ X.ex ∨ X.s_0.heap.objs.size ≤ b) ∧ b ≠ X.env.locals ∧ (∀ x c, X.env.cells.lookup x = some c → c ≠ b) ∧ ∀ p ∈ X.pn ++ pins, p.1 ≠ b)
    (keep : ∀ b o, b ≠ X.env.locals → b ∉ X.fs → b ∉ ch → s.heap.get? b = some o → H b = none → h'.get? b = some o)
    (slot : ∀ b o, b ≠ X.env.locals → b ∈ X.fs → b ∉ ch → s.heap.get? b = some o → H b = none → ∃ sl, h'.get? b = some { o with slots := sl }) (free : ∀ b o, b ∉ ch → s.heap.get? b = some o → H b = none → H' b = none)
    (there : ∀ b o, b ∉ ch → s.heap.get? b = some o → ∃ o', h'.get? b = some o')
    (tups : ∀ b xs, H b = some (.tup xs) → H' b = some (.tup xs)) (frzs : ∀ b o u, H b = some (.frz o u) → H' b = some (.frz o u)) (tbls : ∀ b ps, H b = some (.tbl ps) → ∃ more, H' b = some (.tbl (ps ++ more)))
    (ns : ∀ m, s.heap.Ns X.env.locals m → h'.Ns X.env.locals m) (hok : HOk X.prog X.w H' h') (hg : AllBare g') :
    Inv X pins σ H' { s with heap := h', gens := g', drawn := d', toks := t' } := by
  have neL : ∀ b o, X.s_0.heap.get? b = some o → b ≠ X.env.locals := fun b o e => Nat.ne_of_lt (Nat.lt_of_lt_of_le (Heap.lt_size e) I.ok.above)
  have neC : ∀ b o, X.s_0.heap.get? b = some o → b ∉ X.ex → b ∉ ch := fun b o e hx hb => by
    rcases (hch b hb).1 with z | z
    · exact hx z
    · exact absurd (Nat.lt_of_lt_of_le (Heap.lt_size e) z) (Nat.lt_irrefl _)
  have cellK : ∀ x c, X.env.cells.lookup x = some c → ∀ v, s.heap.IsCell c v → h'.IsCell c v := fun x c e v ⟨o, ho, hd⟩ => by
    have nch : c ∉ ch := fun z => (hch c z).2.2.1 x c e rfl
    by_cases hc : c ∈ X.fs
    · obtain ⟨sl, q⟩ := slot c o (I.cne x c e) hc nch ho (I.freeC x c e)
      exact ⟨_, q, hd⟩
    · exact ⟨o, keep c o (I.cne x c e) hc nch ho (I.freeC x c e), hd⟩
  refine ⟨I.ok, I.os, hg, ⟨fun b o e n hb hx => ?_, fun b o e n hb hx => ?_, fun b o e n hx => ?_, fun b o e hx => ?_, fun b xs e => tups b xs (I.base.tups b xs e), fun b o xs e => frzs b o xs (I.base.frzs b o xs e), fun b ps e => ?_⟩, ?_, fun x c e => ?_, ?_, fun x c e => ?_, fun p hp => ?_, hok, I.len⟩
  · exact keep b o (neL b o e) hb (neC b o e hx) (I.base.keep b o e n hb hx) (I.base.free b o e n hx)
  · obtain ⟨sl, e1⟩ := I.base.slot b o e n hb hx
    obtain ⟨sl', e2⟩ := slot b _ (neL b o e) hb (neC b o e hx) e1 (I.base.free b o e n hx)
    exact ⟨sl', e2⟩
  · obtain ⟨o', e1⟩ := I.base.there b o e hx
    exact free b o' (neC b o e hx) e1 (I.base.free b o e n hx)
  · obtain ⟨o', e1⟩ := I.base.there b o e hx
    exact there b o' (neC b o e hx) e1
  · obtain ⟨m1, e1⟩ := I.base.tbls b ps e
    obtain ⟨m2, e2⟩ := tbls b _ e1
    exact ⟨m1 ++ m2, by rw [e2, Array.append_assoc]⟩
  · obtain ⟨m, hn, hl⟩ := I.loc
    refine ⟨m, ns m hn, fun i x v e1 e2 e3 => ?_⟩
    obtain ⟨u, r, l⟩ := hl i x v e1 e2 e3
    refine ⟨u, r, ?_⟩
    rcases l with l | ⟨k, c, e, z⟩
    · exact .inl l
    · exact .inr ⟨k, c, e, cellK x c e _ z⟩
  · obtain ⟨v, z⟩ := I.cell x c e
    exact ⟨v, cellK x c e v z⟩
  · obtain ⟨m, ⟨o, _, _, ho, _⟩, _⟩ := I.loc
    exact free _ o (fun z => (hch _ z).2.1 rfl) ho I.free
  · obtain ⟨v, o, ho, hd⟩ := I.cell x c e
    exact free c o (fun z => (hch c z).2.2.1 x c e rfl) ho (I.freeC x c e)
  · obtain ⟨e, n, ne, nf, d⟩ := I.pin p hp
    have nch : p.1 ∉ ch := fun z => (hch p.1 z).2.2.2 p hp rfl
    exact ⟨keep p.1 p.2 ne nf nch e n, free p.1 p.2 nch e n, ne, nf, d⟩
theorem Inv.un {t' : Nat} (I : Inv X pins σ H s) (u : Un X.fs [] H H' s.heap h') (hok : HOk X.prog X.w H' h') : Inv X pins σ H' { s with heap := h', toks := t' } := by
  obtain ⟨m, ⟨o, es, ep, ho, r⟩, _⟩ := id I.loc
  obtain ⟨sl, hL⟩ := u.any ho I.free (by simp)
  exact I.step (g' := s.gens) (d' := s.drawn) (ch := []) (fun _ z => nomatch z) (fun b o _ hb _ e n => u.keep b o e n hb (by simp)) (fun b o _ hb _ e n => u.slot b o e n hb (by simp)) (fun b o _ e n => u.free b o e n (by simp)) (fun b o _ e => u.there b o e (by simp)) u.tups u.frzs u.tbls (fun m' hm => by
    obtain ⟨o', es', ep', ho', r'⟩ := hm
    rw [ho] at ho'; cases ho'
    exact ⟨_, es', ep', hL, r'⟩) hok I.bare
theorem Inv.call {g' : Array GenState} {t' : Nat} {d' : Drawn} {ch : List Addr} (I : Inv X pins σ H s) (u : Un (frs X.stack) ch H H' s.heap h') (hok : HOk X.prog X.w H' h') (hg : AllBare g')
    (hch : ∀ b ∈ ch, (b ∈ X.ex ∨ X.s_0.heap.objs.size ≤ b) ∧ b ≠ X.env.locals ∧ (∀ x c, X.env.cells.lookup x = some c → c ≠ b) ∧ ∀ p ∈ X.pn ++ pins, p.1 ≠ b) :
    Inv X pins σ H' { s with heap := h', gens := g', drawn := d', toks := t' } := by
  obtain ⟨m, ⟨o, es, ep, ho, r⟩, _⟩ := id I.loc
  obtain ⟨sl, hL⟩ := u.any ho I.free fun z => (hch _ z).2.1 rfl
  exact I.step (ch := ch) hch (fun b o hL hb hc e n => u.keep b o e n (fun z => (List.mem_cons.mp (I.stkSub b z)).elim hL hb) hc) (fun b o _ _ hc e n => u.any e n hc) (fun b o hc e n => u.free b o e n hc) (fun b o hc e => u.there b o e hc) u.tups u.frzs u.tbls (fun m' hm => by
    obtain ⟨o', es', ep', ho', r'⟩ := hm
    rw [ho] at ho'; cases ho'
    exact ⟨_, es', ep', hL, r'⟩) hok hg
theorem Inv.turned {t' : Nat} {it : Addr} (I : Inv X pins σ H s) (k : ∀ b o, b ≠ it → s.heap.get? b = some o → h'.get? b = some o) (hn : H it = none) (hL : it ≠ X.env.locals)
    (h1 : it ∈ X.ex ∨ X.s_0.heap.objs.size ≤ it) (h2 : ∀ x c, X.env.cells.lookup x = some c → c ≠ it) (h3 : ∀ p ∈ X.pn ++ pins, p.1 ≠ it) : Inv X pins σ H { s with heap := h', toks := t' } := by
  have nit : ∀ b u, H b = some u → b ≠ it := fun b u e z => by rw [z, hn] at e; cases e
  refine I.step (g' := s.gens) (d' := s.drawn) (ch := [it]) (fun b hb => ?_) (fun b o _ _ hc e _ => k b o (fun z => hc (by simp [z])) e) (fun b o _ _ hc e _ => ⟨o.slots, k b o (fun z => hc (by simp [z])) e⟩) (fun _ _ _ _ n => n)
    (fun b o hc e => ⟨o, k b o (fun z => hc (by simp [z])) e⟩) (fun _ _ e => e) (fun _ _ _ e => e) (fun b ps e => ⟨#[], by rw [e]; simp⟩) (fun m hm => ?_) (fun b u e => ?_) I.bare
  · have e : b = it := by simpa using hb
    subst e
    exact ⟨h1, hL, h2, h3⟩
  · obtain ⟨o, es, ep, ho, r⟩ := hm
    exact ⟨o, es, ep, k _ o (Ne.symm hL) ho, r⟩
  · refine (I.hok b u e).stay (fun c v hc q => k c v ?_ q) (fun _ q => q) fun _ _ q => q
    rcases hc with z | z
    · rw [z]; exact nit b u e
    · exact nit c _ z
theorem Inv.tok (I : Inv X pins σ H s) (t : Nat) : Inv X pins σ H { s with toks := t } := I.un (h' := s.heap) (t' := t) Un.refl I.hok
theorem Inv.kept {t' : Nat} (I : Inv X pins σ H s) (k : ∀ b u, s.heap.get? b = some u → h'.get? b = some u) : Inv X pins σ H { s with heap := h', toks := t' } := I.un (Un.kept k) (I.hok.kept k)
theorem Inv.laid {a : Addr} {o : HO} {t' : Nat} (I : Inv X pins σ H s) (k : ∀ b u, s.heap.get? b = some u → h'.get? b = some u) (hp : s.heap.objs.size ≤ a) (new : ObjOk X.prog X.w (upd H a o) h' a o) :
    Inv X pins σ (upd H a o) { s with heap := h', toks := t' } := I.un (Un.laid k hp (I.hok.fresh hp)) (I.hok.laid k hp new)
theorem Inv.write {x e : Addr} {o : HO} {t' : Nat} (I : Inv X pins σ H s) (mu : Mut (H x)) (he : e = x ∨ H e = some (.own x)) (k : ∀ b u, b ≠ e → s.heap.get? b = some u → h'.get? b = some u) (heo : ∃ u, h'.get? e = some u)
    (new : ObjOk X.prog X.w (upd H x o) h' x o) : Inv X pins σ (upd H x o) { s with heap := h', toks := t' } := I.un (Un.write mu he k heo) (I.hok.write mu he k heo new)
theorem Inv.weak {σ' : List (Option V)} (I : Inv X pins σ H s) (hl : σ'.length = σ.length) (w : ∀ (i : Nat) v, σ'[i]? = some (some v) → σ[i]? = some (some v)) : Inv X pins σ' H s :=
  ⟨I.ok, I.os, I.bare, I.base, let ⟨m, hn, hl'⟩ := I.loc; ⟨m, hn, fun i x v e1 e2 e3 => hl' i x v e1 (w i v e2) e3⟩, I.cell, I.free, I.freeC, I.pin, I.hok, hl.trans I.len⟩
theorem Inv.pins_of {pins' : List (Addr × Obj)} (I : Inv X pins σ H s) (h : ∀ p ∈ pins', s.heap.get? p.1 = some p.2 ∧ H p.1 = none ∧ p.1 ≠ X.env.locals ∧ p.1 ∉ X.fs ∧ ∀ v, p.2.data ≠ .cell v) : Inv X pins' σ H s :=
  ⟨I.ok, I.os, I.bare, I.base, I.loc, I.cell, I.free, I.freeC, fun p hp => (List.mem_append.mp hp).elim (fun z => I.pin p (List.mem_append_left _ z)) (h p), I.hok, I.len⟩
theorem nodup_ix {N : List Str} (hN : N.Nodup) {i j : Nat} {x : Str} (a : N[i]? = some x) (b : N[j]? = some x) : i = j := by
  obtain ⟨h1, e1⟩ := List.getElem?_eq_some_iff.mp a
  obtain ⟨h2, e2⟩ := List.getElem?_eq_some_iff.mp b
  exact (List.getElem_inj hN).mp (e1.trans e2.symm)
theorem store_ok2 {M : Model} {A : Around} {E : Value → Shared → Prop} {i : Nat} {x : Str} {v : V} {u : Value} {Q : Unit → Shared → Prop} (I : Inv X pins σ H s) (hN : X.N.Nodup) (hi : X.N[i]? = some x) (hx : Loc X.env.scope x) (r : RelV v u)
    (h : ∀ s', Inv X pins (σ.set i (some v)) H s' → (∃ a, Heap.SameBut a s.heap s'.heap ∧ (a = X.env.locals ∨ X.env.cells.lookup x = some a)) → Q () s') (hf : X.fn x = true ∨ X.env.scope.names.lookup x = some .local) : wpAny M A (storeName X.env x u) Q E s := by
  obtain ⟨m, hn, hl⟩ := id I.loc
  have hcls : (X.env.scope.kind == .class || (X.env.scope.kind == .module && X.env.locals != X.env.globals)) = false := by rw [I.ok.kind]; rfl
  have hiσ : i < σ.length := by rw [I.len]; exact (List.getElem?_eq_some_iff.mp hi).1
  have cne := I.cne
  have tracked : ∀ {a : Addr} {h' : Heap}, (∃ o, s.heap.get? a = some o ∧ H a = none) → Heap.SameBut a s.heap h' → HOk X.prog X.w H h' := fun {a h'} ha hs b ob e => by
    obtain ⟨_, _, hfree⟩ := ha
    refine (I.hok b ob e).stay (fun c w' hc q => (hs.2 c ?_).trans q) (fun _ q => q) fun _ _ q => q
    rintro rfl
    rcases hc with rfl | hc
    · rw [hfree] at e; cases e
    · rw [hfree] at hc; cases hc
  rcases hx with hk | hk
  · refine wpAny_storeName_local hk hn (fun h' hn' hs => ?_) hcls
    obtain ⟨oL, _, _, hoL, _⟩ := id hn
    refine h _ ⟨I.ok, I.os, I.bare, ⟨fun b o e n hb hx => ?_, fun b o e n hb hx => ?_, I.base.free, fun b o e hx => ?_, I.base.tups, I.base.frzs, I.base.tbls⟩, ⟨_, hn', fun j y v' e1 e2 e3 => ?_⟩, fun y c e => ?_, I.free, I.freeC, fun p hp => ?_, tracked ⟨oL, hoL, I.free⟩ hs, by simpa using I.len⟩ ⟨_, hs, .inl rfl⟩
    · exact (hs.2 b (Nat.ne_of_lt (Nat.lt_of_lt_of_le (Heap.lt_size e) I.ok.above))).trans (I.base.keep b o e n hb hx)
    · obtain ⟨sl, e1⟩ := I.base.slot b o e n hb hx
      exact ⟨sl, (hs.2 b (Nat.ne_of_lt (Nat.lt_of_lt_of_le (Heap.lt_size e) I.ok.above))).trans e1⟩
    · obtain ⟨o', e1⟩ := I.base.there b o e hx
      exact ⟨o', (hs.2 b (Nat.ne_of_lt (Nat.lt_of_lt_of_le (Heap.lt_size e) I.ok.above))).trans e1⟩
    · by_cases hj : j = i
      · subst hj
        rw [hi] at e1; cases e1
        rw [List.getElem?_set_self hiσ] at e2
        cases e2
        exact ⟨u, r, .inl ⟨hk, by simp⟩⟩
      · rw [List.getElem?_set_ne (Ne.symm hj)] at e2
        obtain ⟨u', r', q⟩ := hl j y v' e1 e2 e3
        refine ⟨u', r', ?_⟩
        rcases q with ⟨k, e⟩ | ⟨k, c, e, z⟩
        · refine .inl ⟨k, ?_⟩
          have : y ≠ x := fun e => hj (nodup_ix hN e1 (e ▸ hi))
          simp [this, e]
        · exact .inr ⟨k, c, e, z.sameBut hs (cne y c e)⟩
    · obtain ⟨w', z⟩ := I.cell y c e
      exact ⟨w', z.sameBut hs (cne y c e)⟩
    · obtain ⟨e, n, ne, nf, d⟩ := I.pin p hp
      exact ⟨(hs.2 p.1 ne).trans e, n, ne, nf, d⟩
  · have hfn : X.fn x = true := by
      rcases hf with z | z
      · exact z
      · rw [z] at hk; cases hk
    obtain ⟨c, hc⟩ := I.ok.has x (.inl hk)
    obtain ⟨w', z⟩ := I.cell x c hc
    refine wpAny_storeName_cell I.ok.kind hk hc z (fun h' hc' hs => ?_)
    obtain ⟨oc, hoc, hocd⟩ := id z
    refine h { s with heap := h' } ⟨I.ok, I.os, I.bare, ⟨fun b o e n hb hx => ?_, fun b o e n hb hx => ?_, I.base.free, fun b o e hx => ?_, I.base.tups, I.base.frzs, I.base.tbls⟩, ⟨m, hn.sameBut hs (Ne.symm (cne x c hc)), fun j y v' e1 e2 e3 => ?_⟩, fun y c' e => ?_, I.free, I.freeC, fun p hp => ?_, tracked ⟨oc, hoc, I.freeC x c hc⟩ hs, by simpa using I.len⟩ ⟨c, hs, .inr hc⟩
    · exact (hs.2 b (Nat.ne_of_lt (Nat.lt_of_lt_of_le (Heap.lt_size e) (I.ok.cab x c hfn hc)))).trans (I.base.keep b o e n hb hx)
    · obtain ⟨sl, e1⟩ := I.base.slot b o e n hb hx
      exact ⟨sl, (hs.2 b (Nat.ne_of_lt (Nat.lt_of_lt_of_le (Heap.lt_size e) (I.ok.cab x c hfn hc)))).trans e1⟩
    · obtain ⟨o', e1⟩ := I.base.there b o e hx
      exact ⟨o', (hs.2 b (Nat.ne_of_lt (Nat.lt_of_lt_of_le (Heap.lt_size e) (I.ok.cab x c hfn hc)))).trans e1⟩
    · by_cases hj : j = i
      · subst hj
        rw [hi] at e1; cases e1
        rw [List.getElem?_set_self hiσ] at e2
        cases e2
        exact ⟨u, r, .inr ⟨.inl hk, c, hc, hc'⟩⟩
      · rw [List.getElem?_set_ne (Ne.symm hj)] at e2
        obtain ⟨u', r', q⟩ := hl j y v' e1 e2 e3
        refine ⟨u', r', ?_⟩
        rcases q with q | ⟨k, c', e, z'⟩
        · exact .inl q
        · refine .inr ⟨k, c', e, z'.sameBut hs ?_⟩
          rintro rfl
          exact hj (nodup_ix hN e1 (I.ok.inj _ _ _ e hc ▸ hi))
    · by_cases hcc : c' = c
      · subst hcc; exact ⟨_, hc'⟩
      · obtain ⟨w2, z2⟩ := I.cell y c' e
        exact ⟨w2, z2.sameBut hs hcc⟩
    · obtain ⟨e, n, ne, nf, d⟩ := I.pin p hp
      refine ⟨(hs.2 p.1 ?_).trans e, n, ne, nf, d⟩
      intro q
      rw [q, hoc] at e
      have q' : oc = p.2 := Option.some.inj e
      exact d w' (by rw [← q']; exact hocd)
theorem store_ok {M : Model} {A : Around} {E : Value → Shared → Prop} {i : Nat} {x : Str} {v : V} {u : Value} {Q : Unit → Shared → Prop} (I : Inv X pins σ H s) (hN : X.N.Nodup) (hi : X.N[i]? = some x) (hx : Loc X.env.scope x) (r : RelV v u)
    (h : ∀ s', Inv X pins (σ.set i (some v)) H s' → Q () s') (hf : X.fn x = true ∨ X.env.scope.names.lookup x = some .local) : wpAny M A (storeName X.env x u) Q E s :=
  store_ok2 I hN hi hx r (fun s' I' _ => h s' I') hf
theorem Inv.call' {s' : Shared} {ch : List Addr} (I : Inv X pins σ H s) (ho : s'.os = s.os) (u : Un (frs X.stack) ch H H' s.heap s'.heap) (hok : HOk X.prog X.w H' s'.heap) (hg : AllBare s'.gens)
    (hch : ∀ b ∈ ch, (b ∈ X.ex ∨ X.s_0.heap.objs.size ≤ b) ∧ b ≠ X.env.locals ∧ (∀ x c, X.env.cells.lookup x = some c → c ≠ b) ∧ ∀ p ∈ X.pn ++ pins, p.1 ≠ b) : Inv X pins σ H' s' := by
  obtain ⟨h', g', d', t', o'⟩ := s'
  have e : o' = s.os := ho
  subst e
  exact I.call (g' := g') (t' := t') (d' := d') u hok hg hch
end
noncomputable abbrev XK := Value → Option Addr → Hp → Prop
noncomputable abbrev St := List (Option V)
noncomputable abbrev VK := V → Hp → Prop
noncomputable abbrev TE := St → Hp → VK → Prop
noncomputable abbrev TT := St → Hp → (Bool → Hp → Prop) → Prop
noncomputable abbrev TA := St → Hp → (List V → Hp → Prop) → Prop
structure Ends where
  nx : St → Hp → Prop
  rt : VK
  bk : St → Hp → Prop := fun _ _ => False
  ct : St → Hp → Prop := fun _ _ => False
noncomputable abbrev TS := Ends → St → Hp → Prop
noncomputable def EP (X : Cx) (pins : List (Addr × Obj)) (σ : St) (Q : VK) (u : Value) (s' : Shared) : Prop := ∃ v H', Inv X pins σ H' s' ∧ RelV v u ∧ Q v H'
noncomputable def TP (X : Cx) (pins : List (Addr × Obj)) (σ : St) (Q : Bool → Hp → Prop) (b : Bool) (s' : Shared) : Prop := ∃ H', Inv X pins σ H' s' ∧ Q b H'
noncomputable def AP (X : Cx) (pins : List (Addr × Obj)) (σ : St) (Q : List V → Hp → Prop) (us : List Value) (s' : Shared) : Prop := ∃ vs H', Inv X pins σ H' s' ∧ Vals vs us ∧ Q vs H'
noncomputable def SP (X : Cx) (pins : List (Addr × Obj)) (D : Ends) (f : Flow) (s' : Shared) : Prop :=
  match f with
  | .next => ∃ σ' H', Inv X pins σ' H' s' ∧ D.nx σ' H'
  | .brk => ∃ σ' H', Inv X pins σ' H' s' ∧ D.bk σ' H'
  | .cont => ∃ σ' H', Inv X pins σ' H' s' ∧ D.ct σ' H'
  | .ret u => ∃ v σ' H', Inv X pins σ' H' s' ∧ RelV v u ∧ D.rt v H'
noncomputable def PE (X : Cx) (e : Expr) (t : TE) : Prop :=
  ∀ (pins : List (Addr × Obj)) (s : Shared) (σ : St) (H : Hp) (Q : VK), Inv X pins σ H s → t σ H Q → wpAny (model X.prog X.w) X.A (eval e X.env) (EP X pins σ Q) X.xe s
noncomputable def PT (X : Cx) (e : Expr) (t : TT) : Prop :=
  ∀ (pins : List (Addr × Obj)) (s : Shared) (σ : St) (H : Hp) (Q : Bool → Hp → Prop), Inv X pins σ H s → t σ H Q → wpAny (model X.prog X.w) X.A (isTrue e X.env (eval e X.env)) (TP X pins σ Q) X.xe s
noncomputable def PW (X : Cx) (e : Expr) (t : TT) : Prop :=
  ∀ (whole : Sem Value) (pins : List (Addr × Obj)) (s : Shared) (σ : St) (H : Hp) (Q : Bool → Hp → Prop), Inv X pins σ H s → t σ H Q → wpAny (model X.prog X.w) X.A (isTrue e X.env whole) (TP X pins σ Q) X.xe s
theorem PW.pt {X : Cx} {e : Expr} {t : TT} (h : PW X e t) : PT X e t := h _
noncomputable def PA (X : Cx) (es : List Expr) (t : TA) : Prop :=
  ∀ (pos : Pos) (pins : List (Addr × Obj)) (s : Shared) (σ : St) (H : Hp) (Q : List V → Hp → Prop), Inv X pins σ H s → t σ H Q → wpAny (model X.prog X.w) X.A (spliced (backTo pos (starEach es X.env))) (AP X pins σ Q) X.xe s
noncomputable def PS (X : Cx) (st : Stmt) (t : TS) : Prop :=
  ∀ (pins : List (Addr × Obj)) (s : Shared) (σ : St) (H : Hp) (D : Ends), Inv X pins σ H s → t D σ H → wpAny (model X.prog X.w) X.A (exec st X.env) (SP X pins D) X.xe s
noncomputable def PSs (X : Cx) (st : List Stmt) (t : TS) : Prop :=
  ∀ (pins : List (Addr × Obj)) (s : Shared) (σ : St) (H : Hp) (D : Ends), Inv X pins σ H s → t D σ H → wpAny (model X.prog X.w) X.A (execs st X.env) (SP X pins D) X.xe s
theorem thn {α : Type} {t : Sem α} {Q Q' : α → Shared → Prop} {M : Model} {A : Around} {E : Value → Shared → Prop} {s : Shared} (h : wpAny M A t Q E s) (hQ : ∀ a s, Q a s → Q' a s) : wpAny M A t Q' E s := wpAny_mono h hQ fun _ _ x => x
end L2
namespace L2
open PySem PySem.Spec PyProof.Rows
section
variable {X : Cx}
noncomputable def tVar (i : Nat) : TE := fun σ H Q => ∃ v, σ[i]? = some (some v) ∧ Q v H
noncomputable def tC (v : V) : TE := fun _ H Q => Q v H
theorem pe_var {i : Nat} {x : Str} {pos : Pos} (hN : X.N[i]? = some x) (hv : Vis X.env.scope x) (hd : (x == ("__debug__" : Str)) = false := by decide) (hcd : (x == ("__classdict__" : Str)) = false := by decide) : PE X (.Name x pos) (tVar i) := by
  intro pins s σ H Q I h
  obtain ⟨v, e, h⟩ := h
  obtain ⟨m, hn, hl⟩ := I.loc
  obtain ⟨u, r, l⟩ := hl i x v hN e hv
  have fin : EP X pins σ Q u s := ⟨v, H, I, r, h⟩
  rcases l with ⟨hk, hm⟩ | ⟨hk, c, hc, hcell⟩
  · exact wpAny_Name (wpAny_loadName_local I.ok.kind hk hn hm fin) hd
  · rcases hk with hk | hk
    · exact wpAny_Name (wpAny_loadName_cell I.ok.kind hk hc hcell fin) hd
    · exact wpAny_Name (wpAny_loadName_free I.ok.kind hk hc hcell fin hcd) hd
theorem pe_int {i j pos} : PE X (.Constant (.int i) j pos) (tC (.int i)) := fun _ _ _ H _ I h => wpAny_Constant_int ⟨.int i, H, I.tok _, ⟨_, rfl⟩, h⟩
noncomputable def Gl (X : Cx) (x : Str) : Prop := X.env.kindOf x = some .globalImplicit
theorem ld_glob {E : Value → Shared → Prop} {pins : List (Addr × Obj)} {s : Shared} {σ : St} {H : Hp} {x : Str} {u : Value} {pos : Pos} {Q : Value → Shared → Prop} (I : Inv X pins σ H s) (hg : Gl X x) (hm : X.mg x = some u) (h : Q u s)
    (hd : (x == ("__debug__" : Str)) = false := by decide) : wpAny (model X.prog X.w) X.A (eval (.Name x pos) X.env) Q E s :=
  Calls.Name_function_global I.ok.kind hg (Calls.loadGlobal_global (by rw [I.ok.glob]; exact I.mod.glob.keeps I.bk) hm h) hd
theorem ld_blt {E : Value → Shared → Prop} {pins : List (Addr × Obj)} {s : Shared} {σ : St} {H : Hp} {x : Str} {u : Value} {pos : Pos} {Q : Value → Shared → Prop} (I : Inv X pins σ H s) (hg : Gl X x) (hm : X.mg x = none) (hv : bootBuiltins x = some u) (h : Q u s)
    (hn : x ≠ "__name__" := by decide) (hd : (x == ("__debug__" : Str)) = false := by decide) : wpAny (model X.prog X.w) X.A (eval (.Name x pos) X.env) Q E s := by
  obtain ⟨mb, h1, h2⟩ := I.mod.blt
  exact Calls.Name_function_global I.ok.kind hg (Calls.loadGlobal_builtin (by rw [I.ok.glob]; exact I.mod.glob.keeps I.bk) hm (by rw [I.ok.blt]; exact h1.keeps I.bk) ((h2 x hn).trans hv) h) hd
theorem pe_glob {x : Str} {v : V} {u : Value} {pos : Pos} (hg : Gl X x) (hm : X.mg x = some u) (r : RelV v u) (hd : (x == ("__debug__" : Str)) = false := by decide) : PE X (.Name x pos) (tC v) :=
  fun _ _ _ H _ I h => ld_glob I hg hm ⟨v, H, I, r, h⟩ hd
variable {a b : Expr} {ta tb : TE} {pos : Pos}
noncomputable def PC (X : Cx) (op : CmpOp) (a b : Expr) (t : TE) : Prop :=
  ∀ (pins : List (Addr × Obj)) (s : Shared) (σ : St) (H : Hp) (Q : VK), Inv X pins σ H s → t σ H Q →
    wpAny (model X.prog X.w) X.A (eval a X.env) (fun v s₁ => wpAny (model X.prog X.w) X.A (eval b X.env) (fun u s₂ => wpAny (model X.prog X.w) X.A (compareOp op v u) (EP X pins σ Q) X.xe s₂) X.xe s₁) X.xe s
noncomputable def tB (t : TE) : TT := fun σ H Q => t σ H fun x H1 => ∃ c, x = .bl c ∧ Q c H1
theorem pt_cmp {op : CmpOp} {t : TE} (h : PC X op a b t) (h1 : behindInMarks op b = false) : PT X (.Compare a [op] [b] pos) (tB t) := by
  intro pins s σ H Q I hw
  refine wpAny_isTrue_Compare1 (thn (h pins s σ H _ I hw) fun v s1 h1 => thn h1 fun u s2 h2 => thn h2 fun c s3 ⟨x, H1, I1, r1, q1⟩ => ?_) h1
  obtain ⟨d, rfl, q⟩ := q1
  cases r1
  exact wpAny_truthy_bool ⟨H1, I1, q⟩
variable {tA tB' : TT} {rest : List Expr}
noncomputable def tAnd (t u : TT) : TT := fun σ H Q => t σ H fun c H1 => if c = true then u σ H1 Q else Q false H1
noncomputable def tOr (t u : TT) : TT := fun σ H Q => t σ H fun c H1 => if c = true then Q true H1 else u σ H1 Q
noncomputable def tNot (t : TT) : TT := fun σ H Q => t σ H fun c H1 => Q (!c) H1
theorem pw_and1 (ha : PT X a tA) : PW X (.BoolOp .And [a] pos) tA := by
  intro wh pins s σ H Q I h
  refine isTrue_and (thn (ha pins s σ H Q I h) fun c s1 e => ?_)
  cases c with
  | true => exact isTrue_and_nil e
  | false => exact e
theorem pw_or1 (ha : PT X a tA) : PW X (.BoolOp .Or [a] pos) tA := by
  intro wh pins s σ H Q I h
  refine isTrue_or (thn (ha pins s σ H Q I h) fun c s1 e => ?_)
  cases c with
  | false => exact isTrue_or_nil e
  | true => exact e
theorem pw_and (ha : PT X a tA) (hb : PW X (.BoolOp .And (b :: rest) pos) tB') : PW X (.BoolOp .And (a :: b :: rest) pos) (tAnd tA tB') := by
  intro wh pins s σ H Q I h
  refine isTrue_and (thn (ha pins s σ H _ I h) fun c s1 ⟨H1, I1, q1⟩ => ?_)
  cases c with
  | true => exact hb wh pins s1 σ H1 Q I1 q1
  | false => exact ⟨H1, I1, q1⟩
theorem pw_or (ha : PT X a tA) (hb : PW X (.BoolOp .Or (b :: rest) pos) tB') : PW X (.BoolOp .Or (a :: b :: rest) pos) (tOr tA tB') := by
  intro wh pins s σ H Q I h
  refine isTrue_or (thn (ha pins s σ H _ I h) fun c s1 ⟨H1, I1, q1⟩ => ?_)
  cases c with
  | true => exact ⟨H1, I1, q1⟩
  | false => exact hb wh pins s1 σ H1 Q I1 q1
theorem pt_not (ha : PT X a tA) : PT X (.UnaryOp .Not a pos) (tNot tA) := by
  intro pins s σ H Q I h
  exact isTrue_not (ha pins s σ H (fun c H1 => Q (!c) H1) I h)
noncomputable def tIf (t : TT) (ta tb : TE) : TE := fun σ H Q => t σ H fun c H1 => if c = true then ta σ H1 Q else tb σ H1 Q
theorem pe_ifExp {c : Expr} (hc : PT X c tA) (ha : PE X a ta) (hb : PE X b tb) : PE X (.IfExp c a b pos) (tIf tA ta tb) := by
  intro pins s σ H Q I h
  refine wpAny_IfExp (thn (hc pins s σ H _ I h) fun d s1 ⟨H1, I1, q1⟩ => ?_)
  cases d with
  | true => exact ha pins s1 σ H1 Q I1 q1
  | false => exact hb pins s1 σ H1 Q I1 q1
end
end L2
namespace L2
open PySem PySem.Spec PyProof.Rows
noncomputable def SqL (K : PySem.W.Frag) (H : Hp) (a : Addr) (xs : List V) : Prop :=
  Rd H a (.lst xs) ∨
    ∃ (o : Obj) (its : Array Value) (n : Nat), K.lookup a = some o ∧ o.cls = .type "list" ∧ o.dict = none ∧ o.data = .seq its n ∧ its.size ≤ sizeLine ∧ Vals xs its.toList
noncomputable def SqT (K : PySem.W.Frag) (H : Hp) (a : Addr) (xs : List V) : Prop :=
  Rd H a (.tup xs) ∨
    ∃ (o : Obj) (its : Array Value) (n : Nat), K.lookup a = some o ∧ o.cls = .type "tuple" ∧ o.data = .seq its n ∧ its.size ≤ sizeLine ∧ Vals xs its.toList
noncomputable def absV : Value → Option V
  | .none => some .non
  | .bool b => some (.bl b)
  | .int i _ => some (.int i)
  | .str x _ => some (.str x)
  | .bytes b _ => some (.byt b)
  | .float b _ => some (.flt b)
  | .ref a => some (.ref a)
  | .type n => some (.ty n)
  | _ => none
theorem RelV.abs {x : V} {u : Value} (r : RelV x u) : absV u = some x := by
  cases x with
  | non => cases r; rfl
  | bl _ => cases r; rfl
  | int _ => obtain ⟨t, rfl⟩ := r; rfl
  | str _ => obtain ⟨t, rfl⟩ := r; rfl
  | byt _ => obtain ⟨t, rfl⟩ := r; rfl
  | flt _ => obtain ⟨t, rfl⟩ := r; rfl
  | ref _ => cases r; rfl
  | ty _ => cases r; rfl
theorem RelV.inj {x y : V} {u : Value} (r : RelV x u) (q : RelV y u) : x = y := Option.some.inj (r.abs.symm.trans q.abs)
theorem Vals.inj : ∀ {xs ys : List V} {us : List Value}, Vals xs us → Vals ys us → xs = ys
  | _, _, _, .nil, .nil => rfl
  | _, _, _, .cons r t, .cons r' t' => by rw [r.inj r', Vals.inj t t']
section
variable {X : Cx} {pins : List (Addr × Obj)} {σ : St} {H : Hp} {s : Shared} {a : Addr} {xs ys : List V}
theorem SqL.of {K : PySem.W.Frag} (h : H a = some (.lst xs)) : SqL K H a xs := .inl (.inl h)
theorem SqT.of {K : PySem.W.Frag} (h : H a = some (.tup xs)) : SqT K H a xs := .inl (.inl h)
theorem Inv.list (I : Inv X pins σ H s) (h : SqL X.K H a xs) : ∃ its : List Value, Vals xs its ∧ PlainL s.heap a its.toArray ∧ xs.length ≤ sizeLine := by
  rcases h with h | ⟨o, its, n, hk, hc, hd, hs, hz, r⟩
  · obtain ⟨z, its, n, r, e⟩ := h.ok I.hok
    exact ⟨its, r, ⟨_, n, e, rfl, rfl, rfl⟩, z⟩
  · refine ⟨its.toList, r, ⟨o, n, I.kIn a o hk, hc, hd, by simpa using hs⟩, ?_⟩
    have e := r.length
    simp only [Array.length_toList] at e
    omega
theorem Inv.tuple (I : Inv X pins σ H s) (h : SqT X.K H a xs) : ∃ its : List Value, Vals xs its ∧ IsTup s.heap a its.toArray ∧ xs.length ≤ sizeLine := by
  rcases h with h | ⟨o, its, n, hk, hc, hs, hz, r⟩
  · obtain ⟨z, its, r, p⟩ := h.ok I.hok
    exact ⟨its, r, p, z⟩
  · refine ⟨its.toList, r, ⟨o, I.kIn a o hk, hc, n, by simpa using hs⟩, ?_⟩
    have e := r.length
    simp only [Array.length_toList] at e
    omega
theorem Inv.list_inj (I : Inv X pins σ H s) (h : SqL X.K H a xs) (h' : SqL X.K H a ys) : xs = ys := by
  obtain ⟨its, r, ⟨o, n, e, _, _, d⟩, _⟩ := I.list h
  obtain ⟨its', r', ⟨o', n', e', _, _, d'⟩, _⟩ := I.list h'
  rw [e] at e'; cases e'
  rw [d] at d'
  injection d' with d1 _
  have : its = its' := by simpa using congrArg Array.toList d1
  subst this
  exact r.inj r'
end
noncomputable abbrev Cx.wish (X : Cx) (E : Value → Shared → Prop) : Cx := { X with xe := E }
noncomputable abbrev Cx.nox (X : Cx) : Cx := X.wish fun _ _ => False
theorem Cx.Ok.wish {X : Cx} (ok : X.Ok) (E : Value → Shared → Prop) : (X.wish E).Ok :=
  ⟨ok.mod, ok.kind, ok.glob, ok.blt, ok.above, ok.inj, ok.has, ok.cab, ok.hd, ok.frames, ok.stk, ok.exf, ok.bs, ok.bsz, ok.noex, ok.exfs, ok.funs, ok.frf⟩
theorem Cx.Ok.unwish {X : Cx} {E : Value → Shared → Prop} (ok : (X.wish E).Ok) : X.Ok :=
  ⟨ok.mod, ok.kind, ok.glob, ok.blt, ok.above, ok.inj, ok.has, ok.cab, ok.hd, ok.frames, ok.stk, ok.exf, ok.bs, ok.bsz, ok.noex, ok.exfs, ok.funs, ok.frf⟩
section
variable {X : Cx} {pins : List (Addr × Obj)} {σ : St} {H : Hp} {s : Shared} {E : Value → Shared → Prop}
theorem Inv.wish (I : Inv X pins σ H s) (E : Value → Shared → Prop) : Inv (X.wish E) pins σ H s := ⟨I.ok.wish E, I.os, I.bare, I.base, I.loc, I.cell, I.free, I.freeC, I.pin, I.hok, I.len⟩
theorem Inv.unwish (I : Inv (X.wish E) pins σ H s) : Inv X pins σ H s := ⟨I.ok.unwish, I.os, I.bare, I.base, I.loc, I.cell, I.free, I.freeC, I.pin, I.hok, I.len⟩
theorem SP.unwish {D : Ends} {f : Flow} {s' : Shared} (h : SP (X.wish E) pins D f s') : SP X pins D f s' := by
  cases f with
  | next => obtain ⟨σ', H', I, q⟩ := h; exact ⟨σ', H', I.unwish, q⟩
  | brk => obtain ⟨σ', H', I, q⟩ := h; exact ⟨σ', H', I.unwish, q⟩
  | cont => obtain ⟨σ', H', I, q⟩ := h; exact ⟨σ', H', I.unwish, q⟩
  | ret u => obtain ⟨v, σ', H', I, r, q⟩ := h; exact ⟨v, σ', H', I.unwish, r, q⟩
theorem PSs.nox {st : List Stmt} {t : TS} (h : PSs X.nox st t) : PSs X st t := fun pins s σ H D I hw =>
  wpAny_mono (h pins s σ H D (I.wish _) hw) (fun _ _ q => q.unwish) fun _ _ z => False.elim z
end
section
variable {X : Cx} {st : Stmt} {rest : List Stmt} {t u : TS} {e : Expr} {te : TE} {pos : Pos}
noncomputable def tNext : TS := fun D σ H => D.nx σ H
noncomputable def tSeq (t u : TS) : TS := fun D σ H => t { D with nx := u D } σ H
theorem pss_nil : PSs X [] tNext := fun _ _ σ H _ I h => wpAny_execs_nil ⟨σ, H, I, h⟩
theorem pss_cons (h1 : PS X st t) (h2 : PSs X rest u) : PSs X (st :: rest) (tSeq t u) := by
  intro pins s σ H D I h
  refine wpAny_execs_cons (thn (h1 pins s σ H { D with nx := u D } I h) fun f s1 q => ?_)
  cases f with
  | next =>
    obtain ⟨σ', H', I', q⟩ := q
    exact h2 pins s1 σ' H' D I' q
  | ret v => exact q
  | brk => exact q
  | cont => exact q
theorem pss_one (h1 : PS X st t) : PSs X [st] t := by
  intro pins s σ H D I h
  refine wpAny_execs_cons (thn (h1 pins s σ H D I h) fun f s1 q => ?_)
  cases f with
  | next => exact wpAny_execs_nil q
  | ret v => exact q
  | brk => exact q
  | cont => exact q
theorem Inv.quiet {pins : List (Addr × Obj)} {σ : St} {H : Hp} {s : Shared} (I : Inv X pins σ H s) : interactive X.env = false := by simp [interactive, I.ok.kind]
noncomputable def tDrop (te : TE) : TS := fun D σ H => te σ H fun _ H1 => D.nx σ H1
theorem ps_expr (he : PE X e te) (hs : swapsWith e none pos.line X.env = pure false := by rfl) : PS X (.Expr e pos) (tDrop te) := by
  intro pins s σ H D I h
  exact wpAny_Expr_any (thn (he pins s σ H _ I h) fun v s1 ⟨x, H1, I1, r1, q1⟩ => ⟨σ, H1, I1, q1⟩) I.quiet hs
noncomputable def tRet (te : TE) : TS := fun D σ H => te σ H D.rt
theorem ps_ret (he : PE X e te) : PS X (.Return (some e) pos) (tRet te) := by
  intro pins s σ H D I h
  exact wpAny_Return_some (thn (he pins s σ H _ I h) fun v s1 ⟨x, H1, I1, r1, q1⟩ => ⟨x, σ, H1, I1, r1, q1⟩)
noncomputable def tIfS (c : TT) (t u : TS) : TS := fun D σ H => c σ H fun b H1 => if b = true then t D σ H1 else u D σ H1
theorem ps_if {c : Expr} {a b : List Stmt} {tc : TT} (hc : PT X c tc) (ha : PSs X a t) (hb : PSs X b u) : PS X (.If c a b pos) (tIfS tc t u) := by
  intro pins s σ H D I h
  refine wpAny_If (thn (hc pins s σ H _ I h) fun d s1 ⟨H1, I1, q1⟩ => ?_)
  cases d with
  | true => exact ha pins s1 σ H1 D I1 q1
  | false => exact hb pins s1 σ H1 D I1 q1
end
noncomputable abbrev TG := V → St → Hp → (St → Hp → Prop) → Prop
noncomputable def PG (X : Cx) (target : Expr) (t : TG) : Prop :=
  ∀ (pins : List (Addr × Obj)) (s : Shared) (σ : St) (H : Hp) (v : V) (u : Value) (Q : St → Hp → Prop), Inv X pins σ H s → RelV v u → t v σ H Q →
    wpAny (model X.prog X.w) X.A (assign target X.env u) (fun _ s' => ∃ σ' H', Inv X pins σ' H' s' ∧ Q σ' H') X.xe s
section
variable {X : Cx} {pos : Pos}
noncomputable def gName (i : Nat) : TG := fun v σ H Q => Q (σ.set i (some v)) H
theorem pg_name {i : Nat} {x : Str} (hN : X.N.Nodup) (hi : X.N[i]? = some x) (hx : Loc X.env.scope x) (hf : X.fn x = true ∨ X.env.scope.names.lookup x = some .local := by first | exact .inl rfl | exact .inr rfl | assumption) : PG X (.Name x pos) (gName i) := by
  intro pins s σ H v u Q I r h
  exact wpAny_assign_Name (store_ok I hN hi hx r (fun s' I' => ⟨_, H, I', h⟩) hf)
noncomputable def tAsg (te : TE) (g : TG) : TS := fun D σ H => te σ H fun x H1 => g x σ H1 D.nx
theorem ps_set {i : Nat} {x : Str} {e : Expr} {te : TE} {pos' : Pos} (hN : X.N.Nodup) (hi : X.N[i]? = some x) (hx : Loc X.env.scope x) (he : PE X e te) (hs : swapsWith e (some (.Name x pos')) pos.line X.env = pure false := by rfl) (hf : X.fn x = true ∨ X.env.scope.names.lookup x = some .local := by first | exact .inl rfl | exact .inr rfl | assumption) :
    PS X (.Assign [.Name x pos'] e pos) (tAsg te (gName i)) := by
  intro pins s σ H D I h
  refine wpAny_Assign_Name (thn (he pins s σ H _ I h) fun v s1 ⟨y, H1, I1, r1, q1⟩ => ?_) hs
  exact store_ok I1 hN hi hx r1 (fun s2 I2 => ⟨_, H1, I2, q1⟩) hf
end
section
variable {X : Cx} {pos : Pos}
noncomputable def tWhile (c : TT) (tb : TS) : TS := fun D σ H => ∃ W : Nat → St → Hp → Prop, (∃ m, W m σ H) ∧ ∀ m σ H, W m σ H →
  c σ H fun b H1 => if b = true then ∃ N : St → Hp → Prop, (∀ σ' H', N σ' H' → ∃ m', m' < m ∧ W m' σ' H') ∧ tb { D with nx := N, ct := N, bk := D.nx } σ H1 else D.nx σ H1
theorem ps_while {c : Expr} {body : List Stmt} {tc : TT} {tb : TS} (hp : PassesOwn (model X.prog X.w) X.A X.env X.xe) (hc : PT X c tc) (hb : PSs X body tb) : PS X (.While c body [] pos) (tWhile tc tb) := by
  intro pins s σ H D I h
  obtain ⟨W, ⟨m0, w0⟩, turn⟩ := h
  refine wpAny_While (codeAny_whileLoop (fun n s' => ∃ σ' H', Inv X pins σ' H' s' ∧ W n σ' H') ?_ m0 ⟨σ, H, I, w0⟩)
  rintro n s1 ⟨σ1, H1, I1, w1⟩
  refine wpAny_passesOwn hp (thn (hc pins s1 σ1 H1 _ I1 (turn n σ1 H1 w1)) fun b s2 ⟨H2, I2, q2⟩ => ?_)
  cases b with
  | true =>
    obtain ⟨N, hN, q2⟩ := q2
    rw [if_pos rfl]
    refine wpAny_passesOwn hp (thn (hb pins s2 σ1 H2 _ I2 q2) fun f s3 q3 => ?_)
    cases f with
    | next =>
      obtain ⟨σ3, H3, I3, n3⟩ := q3
      obtain ⟨m', hm, w3⟩ := hN σ3 H3 n3
      exact ⟨m', hm, σ3, H3, I3, w3⟩
    | cont =>
      obtain ⟨σ3, H3, I3, n3⟩ := q3
      obtain ⟨m', hm, w3⟩ := hN σ3 H3 n3
      exact ⟨m', hm, σ3, H3, I3, w3⟩
    | brk => exact q3
    | ret v => exact q3
  | false =>
    rw [if_neg Bool.false_ne_true]
    exact wpAny_execs_nil ⟨σ1, H2, I2, q2⟩
end
structure It where
  go : Nat → Hp → Prop
  yld : Nat → Hp → V → Hp → Prop
  stop : Nat → Hp → Prop
noncomputable def FpOk (X : Cx) (pins : List (Addr × Obj)) (H : Hp) (b : Addr) : Prop :=
  H b = none ∧ b ≠ X.env.locals ∧ b ∉ X.fs ∧ (b ∈ X.ex ∨ X.s_0.heap.objs.size ≤ b) ∧ (∀ x c, X.env.cells.lookup x = some c → c ≠ b) ∧ ∀ p ∈ X.pn ++ pins, p.1 ≠ b
theorem Inv.fpOk {X : Cx} {pins : List (Addr × Obj)} {σ : St} {H H' : Hp} {s : Shared} {b : Addr} (I : Inv X pins σ H s) (hb : s.heap.objs.size ≤ b) (hn : H' b = none) : FpOk X pins H' b := by
  refine ⟨hn, Nat.ne_of_gt (Nat.lt_of_lt_of_le I.lt hb), I.nofs hb, .inr (Nat.le_trans I.sz hb), fun x c e z => ?_, fun p hp z => ?_⟩
  · obtain ⟨v, q⟩ := I.cell x c e
    exact absurd (Nat.lt_of_lt_of_le q.lt (by rw [z]; exact hb)) (Nat.lt_irrefl _)
  · exact absurd (Nat.lt_of_lt_of_le (Heap.lt_size (I.pin p hp).1) (by rw [z]; exact hb)) (Nat.lt_irrefl _)
structure Turn (P : Program) (w : World) (K : PySem.W.Frag) (tg : Expr) (J : It) (fp : List Addr) (it : Addr) (tn : Nat → Heap → Prop) : Prop where
  mem : it ∈ fp
  obj : ∀ i h, tn i h → ∀ b ∈ fp, ∃ o, h.get? b = some o ∧ ∀ v, o.data ≠ .cell v
  keep : ∀ i h h', tn i h → (∀ b ∈ fp, ∀ o, h.get? b = some o → h'.get? b = some o) → tn i h'
  item : ∀ (X : Cx), X.prog = P → X.w = w → X.K = K → X.calm = true → ∀ (i : Nat) (pins : List (Addr × Obj)) (s : Shared) (σ : St) (H : Hp) (E : Value → Shared → Prop), Inv X pins σ H s → (∀ b ∈ fp, FpOk X pins H b) → tn i s.heap → J.go i H →
    wpAny (model P w) X.A (pyNext (.ref it)) (fun r s1 => ∃ u, r = some u ∧
      wpAny (model P w) X.A (letOwnedTupleGo tg (.ref it) u) (fun _ s2 => ∃ x H', Inv X pins σ H' s2 ∧ RelV x u ∧ J.yld i H x H' ∧ tn (i + 1) s2.heap ∧ ∀ b ∈ fp, H' b = none) E s1) E s
  done : ∀ (X : Cx), X.prog = P → X.w = w → X.K = K → X.calm = true → ∀ (i : Nat) (pins : List (Addr × Obj)) (s : Shared) (σ : St) (H : Hp) (E : Value → Shared → Prop), Inv X pins σ H s → (∀ b ∈ fp, FpOk X pins H b) → tn i s.heap → J.stop i H →
    wpAny (model P w) X.A (pyNext (.ref it)) (fun r s1 => r = none ∧ Inv X pins σ H s1) E s
  self : ∀ (A : Around) (i : Nat) (s : Shared) (Q : Value → Shared → Prop) (E : Value → Shared → Prop), tn i s.heap → Q (.ref it) s → wpAny (model P w) A (pyIter (.ref it)) Q E s
noncomputable abbrev TI := St → Hp → (It → Hp → Prop) → Prop
noncomputable def PIE (X : Cx) (pins : List (Addr × Obj)) (σ : St) (tg : Expr) (R : It → Hp → Prop) (itv : Value) (s2 : Shared) : Prop :=
  ∃ (it : Addr) (fp : List Addr) (tn : Nat → Heap → Prop) (J : It) (H' : Hp), itv = .ref it ∧ Inv X pins σ H' s2 ∧ Turn X.prog X.w X.K tg J fp it tn ∧ tn 0 s2.heap ∧ (∀ b ∈ fp, FpOk X pins H' b) ∧ R J H'
noncomputable def PI (X : Cx) (tg iter : Expr) (wi : TI) : Prop :=
  ∀ (pins : List (Addr × Obj)) (s : Shared) (σ : St) (H : Hp) (R : It → Hp → Prop), Inv X pins σ H s → wi σ H R →
    wpAny (model X.prog X.w) X.A (eval iter X.env) (fun v s1 => wpAny (model X.prog X.w) X.A (pyIter v) (PIE X pins σ tg R) X.xe s1) X.xe s
theorem go_of {M : Model} {A : Around} {E : Value → Shared → Prop} {s : Shared} {tg : Expr} {it : Addr} {u : Value} {o : Obj} {n : String} {vs : Array Value} {Q : Unit → Shared → Prop} (ho : s.heap.get? it = some o) (hc : o.cls = .type n) (hd : o.data = .fields vs)
    (hn : ["enumerate", "zip", "dict_itemiterator", "dict_reverseitemiterator", "odict_iterator", "itertools.zip_longest", "itertools.pairwise"].contains n = false) (hQ : Q () s) : wpAny M A (letOwnedTupleGo tg (.ref it) u) Q E s := by
  unfold letOwnedTupleGo
  cases tg <;> first
    | exact wpAny_pure hQ
    | (cases u <;> first
        | exact wpAny_pure hQ
        | (refine wpAny_bind (wpAny_load ho ?_)
           rw [hc, hd]
           show wpAny M A (if (["enumerate", "zip", "dict_itemiterator", "dict_reverseitemiterator", "odict_iterator", "itertools.zip_longest", "itertools.pairwise"].contains n && vs[0]? == some (rawInt _)) = true then _ else _) Q E s
           rw [if_neg (by intro h; rw [hn, Bool.false_and] at h; cases h)]
           exact wpAny_pure hQ))
noncomputable def Itl (K : PySem.W.Frag) (a : Addr) : It :=
  ⟨fun i H => ∃ xs x, SqL K H a xs ∧ xs[i]? = some x, fun i H x H' => H' = H ∧ ∀ xs, SqL K H a xs → xs[i]? = some x, fun i H => ∃ xs, SqL K H a xs ∧ xs.length ≤ i⟩
noncomputable def Itr (lo : Int) (n : Nat) : It := ⟨fun i _ => i < n, fun i H x H' => H' = H ∧ x = .int (lo + i), fun i _ => n ≤ i⟩
theorem turn_list {P : Program} {w : World} {K : PySem.W.Frag} {tg : Expr} (a it : Addr) : Turn P w K tg (Itl K a) [it] it (fun i h => h.IsListIter it a i) where
  mem := by simp
  obj := fun i h st b hb => by
    have e : b = it := by simpa using hb
    subst e
    obtain ⟨o, e, c, d⟩ := st
    exact ⟨o, e, fun v z => by rw [d] at z; cases z⟩
  keep := fun i h h' st k => st.at fun o e => k it (by simp) o e
  item := by
    intro X hP hw hK hc i pins s σ H E I hf st hg
    subst hP hw hK
    obtain ⟨xs, x, hq, hx⟩ := hg
    obtain ⟨its, rv, p, hz⟩ := I.list hq
    obtain ⟨u, hu, ru⟩ := rv.get hx
    obtain ⟨f0, f1, f2, f3, f4, f5⟩ := hf it (by simp)
    refine wpAny_pyNext_list_item st p.isList (x := u) (by simpa using hu) fun h' st' sb => ?_
    have I1 : Inv X pins σ H { s with heap := h' } := I.turned (t' := s.toks) (fun b o hb e => (sb.2 b hb).trans e) f0 f1 f3 f4 f5
    obtain ⟨o, e, c, d⟩ := id st'
    exact ⟨u, rfl, go_of (s := { s with heap := h' }) e c d (by decide) ⟨x, H, I1, ru, ⟨rfl, fun ys hy => by rw [I.list_inj hy hq]; exact hx⟩, st', fun b hb => (hf b hb).1⟩⟩
  done := by
    intro X hP hw hK hc i pins s σ H E I hf st hg
    subst hP hw hK
    obtain ⟨xs, hq, hx⟩ := hg
    obtain ⟨its, rv, p, hz⟩ := I.list hq
    obtain ⟨f0, f1, f2, f3, f4, f5⟩ := hf it (by simp)
    have hl := rv.length
    exact wpAny_pyNext_list_end (I.ok.hd hc) st p.isList (by simp; omega) fun h' eb => ⟨rfl, I.turned (t' := s.toks) (fun b o hb e => eb b o hb e) f0 f1 f3 f4 f5⟩
  self := fun _ _ _ _ _ st h => wpAny_pyIter_listiter st h
theorem turn_range {P : Program} {w : World} {K : PySem.W.Frag} {tg : Expr} (it : Addr) (lo : Int) (n : Nat) : Turn P w K tg (Itr lo n) [it] it (fun i h => IsRangeIter h it (lo + (i : Nat) * 1) ((n : Int) - (i : Nat)) 1) where
  mem := by simp
  obj := fun i h st b hb => by
    have e : b = it := by simpa using hb
    subst e
    exact ⟨_, st, fun v z => by
      have z' : Data.fields _ = Data.cell v := z
      cases z'⟩
  keep := fun i h h' st k => k it (by simp) _ st
  item := by
    intro X hP hw hK hc i pins s σ H E I hf st hg
    subst hP hw hK
    obtain ⟨f0, f1, f2, f3, f4, f5⟩ := hf it (by simp)
    have W := Walks.range (prog := X.prog) (w := X.w) (I.ok.hd hc) it lo 1 n
    refine W.item i s _ _ hg st fun v h' tk hv st' kk => ?_
    obtain ⟨t, rfl⟩ := hv
    have I1 : Inv X pins σ H { s with heap := h', toks := tk } := I.turned (fun b o hb e => kk b o (by simpa using hb) e) f0 f1 f3 f4 f5
    refine ⟨_, rfl, go_of (s := { s with heap := h', toks := tk }) (n := "range_iterator") st' rfl rfl (by decide) ⟨.int (lo + i), H, I1, ⟨t, ?_⟩, ⟨rfl, rfl⟩, st', fun b hb => (hf b hb).1⟩⟩
    rw [Int.mul_one]
  done := by
    intro X hP hw hK hc i pins s σ H E I hf st hg
    subst hP hw hK
    obtain ⟨f0, f1, f2, f3, f4, f5⟩ := hf it (by simp)
    exact wpAny_pyNext_range_end (I.ok.hd hc) st (by have : n ≤ i := hg; omega) fun h' eb => ⟨rfl, I.turned (t' := s.toks) (fun b o hb e => eb b o hb e) f0 f1 f3 f4 f5⟩
  self := fun _ _ _ _ _ st h => wpAny_pyIter_rangeiter st h
end L2
namespace L2
open PySem PySem.Spec PyProof.Rows
section
variable {X : Cx} {tg : Expr}
noncomputable def iList (K : PySem.W.Frag) (tl : TE) : TI := fun σ H R => tl σ H fun x H1 => ∃ a, x = .ref a ∧ (∃ xs, SqL K H1 a xs) ∧ R (Itl K a) H1
theorem pi_list {l : Expr} {tl : TE} (hl : PE X l tl) : PI X tg l (iList X.K tl) := by
  intro pins s σ H R I h
  refine thn (hl pins s σ H _ I h) fun v s1 ⟨x, H1, I1, r1, q1⟩ => ?_
  obtain ⟨a, e, ⟨xs, hq⟩, q⟩ := q1
  subst e
  cases r1
  obtain ⟨its, rv, p, hz⟩ := I1.list hq
  refine wpAny_pyIter_list p.isList ?_
  refine ⟨s1.heap.objs.size, [s1.heap.objs.size], _, _, H1, rfl, I1.kept (t' := s1.toks) fun b o e => Heap.get?_push_of_some _ e, turn_list a _, ⟨_, Heap.get?_push_size _ rfl, rfl, rfl⟩, fun b hb => ?_, q⟩
  have e : b = s1.heap.objs.size := by simpa using hb
  subst e
  exact I1.fpOk (Nat.le_refl _) (I1.hok.fresh (Nat.le_refl _))
theorem range_it {pins : List (Addr × Obj)} {σ : St} {H : Hp} {s : Shared} {R : It → Hp → Prop} {E : Value → Shared → Prop} {lo hi : Int} {t u v : Tok} {tk : Nat} (I : Inv X pins σ H s) (h1 : -(2 ^ 62) ≤ lo) (h2 : lo < 2 ^ 62) (h3 : -(2 ^ 62) ≤ hi) (h4 : hi < 2 ^ 62)
    (q : R (Itr lo (hi - lo).toNat) H) : wpAny (model X.prog X.w) X.A (pyIter (.ref s.heap.objs.size)) (PIE X pins σ tg R) E { s with heap := s.heap.push { cls := .type "range", data := .fields #[.int lo t, .int hi u, .int 1 v] }, toks := tk } := by
  refine wpAny_pyIter_range (IsRange.new ..) (small_one h1 h2 h3 h4) ?_
  have I1 : Inv X pins σ H { s with heap := s.heap.push { cls := .type "range", data := .fields #[.int lo t, .int hi u, .int 1 v] }, toks := tk } := I.kept fun b o e => Heap.get?_push_of_some _ e
  refine ⟨(s.heap.push { cls := .type "range", data := .fields #[.int lo t, .int hi u, .int 1 v] }).objs.size, [(s.heap.push { cls := .type "range", data := .fields #[.int lo t, .int hi u, .int 1 v] }).objs.size], _, _, H, rfl,
    I1.kept (t' := tk) fun b o e => Heap.get?_push_of_some _ e, turn_range _ lo (hi - lo).toNat, ?_, fun b hb => ?_, q⟩
  · have e1 : lo + ((0 : Nat) : Int) * 1 = lo := by simp
    have e2 : (((hi - lo).toNat : Nat) : Int) - ((0 : Nat) : Int) = Builtin.Range.rangeSize lo hi 1 := by rw [rangeSize_one]; split <;> omega
    show IsRangeIter _ _ (lo + ((0 : Nat) : Int) * 1) ((((hi - lo).toNat : Nat) : Int) - ((0 : Nat) : Int)) 1
    rw [e1, e2]
    exact Heap.get?_push_size _ rfl
  · have e : b = (s.heap.push { cls := .type "range", data := .fields #[.int lo t, .int hi u, .int 1 v] }).objs.size := by simpa using hb
    subst e
    exact I1.fpOk (Nat.le_refl _) (I1.hok.fresh (Nat.le_refl _))
noncomputable def iRng1 (ta : TA) : TI := fun σ H R => ta σ H fun vs H1 => ∃ j : Int, vs = [.int j] ∧ -(2 ^ 62) ≤ j ∧ j < 2 ^ 62 ∧ R (Itr 0 j.toNat) H1
theorem pi_range1 {a : Expr} {ta : TA} {p pos : Pos} (hg : Gl X "range") (hm : X.mg "range" = none) (ha : PA X [a] ta) (hs : starEach [a] X.env = [(false, eval a X.env)] := by rfl) : PI X tg (.Call (.Name "range" p) [a] [] pos) (iRng1 ta) := by
  intro pins s σ H R I h
  refine Call_ (ld_blt I hg hm boot_range (PyProof.Rows.callWith_type1 (thn (ha pos pins s σ H _ I h) fun us s1 ⟨vs, H1, I1, r1, q1⟩ => ?_) hs rfl))
  obtain ⟨j, e, q1, q2, q⟩ := q1
  subst e
  cases r1 with
  | cons r rr =>
    cases rr
    obtain ⟨t, rfl⟩ := r
    exact call_range_1 (range_it I1 (by omega) (by omega) q1 q2 (by simpa using q))
noncomputable def tFor (wi : TI) (g : TG) (tb : TS) : TS := fun D σ H => wi σ H fun J H1 => ∃ W : Nat → Nat → St → Hp → Prop, (∃ m, W 0 m σ H1) ∧ ∀ i m σ H, W i m σ H →
  (J.stop i H ∧ D.nx σ H) ∨ (J.go i H ∧ ∃ N : St → Hp → Prop, (∀ σ' H', N σ' H' → ∃ m', m' < m ∧ W (i + 1) m' σ' H') ∧ ∀ x H', J.yld i H x H' → g x σ H' fun σ2 H2 => tb { D with nx := N, ct := N, bk := D.nx } σ2 H2)
noncomputable def pinsAt (fp : List Addr) (h : Heap) : List (Addr × Obj) := fp.filterMap fun b => (h.get? b).map fun o => (b, o)
theorem mem_pinsAt {fp : List Addr} {h : Heap} {b : Addr} {o : Obj} (hb : b ∈ fp) (e : h.get? b = some o) : (b, o) ∈ pinsAt fp h := List.mem_filterMap.mpr ⟨b, hb, by rw [e]; rfl⟩
theorem of_pinsAt {fp : List Addr} {h : Heap} {p : Addr × Obj} (hp : p ∈ pinsAt fp h) : p.1 ∈ fp ∧ h.get? p.1 = some p.2 := by
  obtain ⟨b, hb, e⟩ := List.mem_filterMap.mp hp
  cases q : h.get? b with
  | none => rw [q] at e; cases e
  | some o =>
    rw [q] at e
    have e' : (b, o) = p := Option.some.inj e
    subst e'
    exact ⟨hb, q⟩
theorem Inv.pinned {pins : List (Addr × Obj)} {σ : St} {H : Hp} {s : Shared} {fp : List Addr} (I : Inv X pins σ H s) (hf : ∀ b ∈ fp, FpOk X pins H b) (ho : ∀ b ∈ fp, ∃ o, s.heap.get? b = some o ∧ ∀ v, o.data ≠ .cell v) : Inv X (pins ++ pinsAt fp s.heap) σ H s :=
  I.pins_of fun p hp => (List.mem_append.mp hp).elim (fun z => I.pin p (List.mem_append_right _ z)) fun z => by
    obtain ⟨hb, e⟩ := of_pinsAt z
    obtain ⟨f0, f1, f2, _⟩ := hf p.1 hb
    obtain ⟨o, e', d⟩ := ho p.1 hb
    rw [e] at e'; cases e'
    exact ⟨e, f0, f1, f2, d⟩
theorem Inv.unpinned {pins pl : List (Addr × Obj)} {σ : St} {H : Hp} {s : Shared} (I : Inv X (pins ++ pl) σ H s) : Inv X pins σ H s := I.pins_of fun p hp => I.pin p (List.mem_append_right _ (List.mem_append_left _ hp))
theorem ps_for {iter : Expr} {body : List Stmt} {wi : TI} {g : TG} {tb : TS} {pos : Pos} (hp : PassesOwn (model X.prog X.w) X.A X.env X.xe) (hc : X.calm = true) (hi : PI X tg iter wi) (hg : PG X tg g) (hb : PSs X body tb)
    (hs : ∀ x, foldedSetIterable iter X.env x = pure x := by intro _; rfl) : PS X (.For tg iter body [] pos) (tFor wi g tb) := by
  intro pins s σ H D I h
  refine wpAny_For (thn (hi pins s σ H _ I h) fun v s1 h1 => thn h1 fun itv s2 h2 => ?_) hs
  obtain ⟨it, fp, tn, J, H2, e, I2, T, st2, f2, W, ⟨m0, w0⟩, turn⟩ := h2
  subst e
  -- what stays true of the iterator's objects through the loop
  have stat : ∀ {H' : Hp}, (∀ b ∈ fp, H' b = none) → ∀ b ∈ fp, FpOk X pins H' b := fun hn b hb => ⟨hn b hb, (f2 b hb).2⟩
  refine codeAny_forLoop_any (fun n s' => ∃ i σ' H', Inv X pins σ' H' s' ∧ tn i s'.heap ∧ (∀ b ∈ fp, H' b = none) ∧ W i n σ' H') ?_ m0 ⟨0, σ, H2, I2, st2, fun b hb => (f2 b hb).1, w0⟩
  rintro n s3 ⟨i, σ3, H3, I3, st3, fr3, w3⟩
  rcases turn i n σ3 H3 w3 with ⟨stop, qn⟩ | ⟨go, N, hN, step⟩
  · refine wpAny_passesOwn hp (thn (T.done X rfl rfl rfl hc i pins s3 σ3 H3 X.xe I3 (stat fr3) st3 stop) fun r s4 ⟨hr, I4⟩ => ?_)
    subst hr
    exact wpAny_execs_nil ⟨σ3, H3, I4, qn⟩
  · refine wpAny_passesOwn hp (thn (T.item X rfl rfl rfl hc i pins s3 σ3 H3 X.xe I3 (stat fr3) st3 go) fun r s4 ⟨u, hr, h4⟩ => ?_)
    subst hr
    refine wpAny_passesOwn hp (thn h4 fun _ s5 ⟨x, H5, I5, r5, y5, st5, fr5⟩ => ?_)
    have I5' := I5.pinned (stat fr5) (T.obj _ _ st5)
    refine wpAny_passesOwn hp (thn (hg _ s5 σ3 H5 x u _ I5' r5 (step x H5 y5)) fun _ s6 ⟨σ6, H6, I6, q6⟩ => ?_)
    refine wpAny_passesOwn hp (thn (hb _ s6 σ6 H6 _ I6 q6) fun f s7 q7 => ?_)
    have again : ∀ {σ7 : St} {H7 : Hp}, Inv X (pins ++ pinsAt fp s5.heap) σ7 H7 s7 → N σ7 H7 → ∃ m, m < n ∧ ∃ i σ' H', Inv X pins σ' H' s7 ∧ tn i s7.heap ∧ (∀ b ∈ fp, H' b = none) ∧ W i m σ' H' := fun {σ7 H7} I7 n7 => by
      obtain ⟨m', hm, w7⟩ := hN σ7 H7 n7
      refine ⟨m', hm, i + 1, σ7, H7, I7.unpinned, T.keep _ _ _ st5 fun b hb o e => (I7.pin (b, o) (List.mem_append_right _ (List.mem_append_right _ (mem_pinsAt hb e)))).1, fun b hb => ?_, w7⟩
      obtain ⟨o, e, d⟩ := T.obj _ _ st5 b hb
      exact (I7.pin (b, o) (List.mem_append_right _ (List.mem_append_right _ (mem_pinsAt hb e)))).2.1
    cases f with
    | next => obtain ⟨σ7, H7, I7, n7⟩ := q7; exact again I7 n7
    | cont => obtain ⟨σ7, H7, I7, n7⟩ := q7; exact again I7 n7
    | brk => obtain ⟨σ7, H7, I7, q7⟩ := q7; exact ⟨σ7, H7, I7.unpinned, q7⟩
    | ret v => obtain ⟨x7, σ7, H7, I7, r7, q7⟩ := q7; exact ⟨x7, σ7, H7, I7.unpinned, r7, q7⟩
end
theorem for_list {K : PySem.W.Frag} {a : Addr} {xs : List V} {g : TG} {tb : TS} {D : Ends} {σ : St} {H : Hp} (Pv : Nat → St → Hp → Prop) (h0 : Pv 0 σ H) (hl : ∀ i σ H, i ≤ xs.length → Pv i σ H → SqL K H a xs)
    (hs : ∀ i x σ H, xs[i]? = some x → Pv i σ H → g x σ H fun σ2 H2 => tb { D with nx := Pv (i + 1), ct := Pv (i + 1), bk := D.nx } σ2 H2) (hd : ∀ σ H, Pv xs.length σ H → D.nx σ H) :
    ∃ W : Nat → Nat → St → Hp → Prop, (∃ m, W 0 m σ H) ∧ ∀ i m σ H, W i m σ H →
      ((Itl K a).stop i H ∧ D.nx σ H) ∨ ((Itl K a).go i H ∧ ∃ N : St → Hp → Prop, (∀ σ' H', N σ' H' → ∃ m', m' < m ∧ W (i + 1) m' σ' H') ∧ ∀ x H', (Itl K a).yld i H x H' → g x σ H' fun σ2 H2 => tb { D with nx := N, ct := N, bk := D.nx } σ2 H2) := by
  refine ⟨fun i m σ H => m = xs.length - i ∧ i ≤ xs.length ∧ Pv i σ H, ⟨xs.length, by simp, Nat.zero_le _, h0⟩, ?_⟩
  rintro i m σ H ⟨rfl, hi, p⟩
  have q := hl i σ H hi p
  by_cases hlt : i < xs.length
  · refine .inr ⟨⟨xs, xs[i], q, by simp [hlt]⟩, Pv (i + 1), fun σ' H' p' => ⟨xs.length - (i + 1), by omega, rfl, hlt, p'⟩, fun x H' y => ?_⟩
    obtain ⟨e, y⟩ := y
    subst e
    exact hs i x σ _ (y xs q) p
  · have e : i = xs.length := by omega
    subst e
    exact .inl ⟨⟨xs, q, Nat.le_refl _⟩, hd σ H p⟩
theorem for_range {lo : Int} {n : Nat} {g : TG} {tb : TS} {D : Ends} {σ : St} {H : Hp} (Pv : Nat → St → Hp → Prop) (h0 : Pv 0 σ H)
    (hs : ∀ i σ H, i < n → Pv i σ H → g (.int (lo + i)) σ H fun σ2 H2 => tb { D with nx := Pv (i + 1), ct := Pv (i + 1), bk := D.nx } σ2 H2) (hd : ∀ σ H, Pv n σ H → D.nx σ H) :
    ∃ W : Nat → Nat → St → Hp → Prop, (∃ m, W 0 m σ H) ∧ ∀ i m σ H, W i m σ H →
      ((Itr lo n).stop i H ∧ D.nx σ H) ∨ ((Itr lo n).go i H ∧ ∃ N : St → Hp → Prop, (∀ σ' H', N σ' H' → ∃ m', m' < m ∧ W (i + 1) m' σ' H') ∧ ∀ x H', (Itr lo n).yld i H x H' → g x σ H' fun σ2 H2 => tb { D with nx := N, ct := N, bk := D.nx } σ2 H2) := by
  refine ⟨fun i m σ H => m = n - i ∧ i ≤ n ∧ Pv i σ H, ⟨n, by simp, Nat.zero_le _, h0⟩, ?_⟩
  rintro i m σ H ⟨rfl, hi, p⟩
  by_cases hlt : i < n
  · refine .inr ⟨hlt, Pv (i + 1), fun σ' H' p' => ⟨n - (i + 1), by omega, rfl, hlt, p'⟩, fun x H' y => ?_⟩
    obtain ⟨e, y⟩ := y
    subst e y
    exact hs i σ _ hlt p
  · have e : i = n := by omega
    subst e
    exact .inl ⟨Nat.le_refl _, hd σ H p⟩
end L2
namespace L2
open PySem PySem.Spec PyProof.Rows
noncomputable abbrev R2 := V → V → Hp → VK → Prop
noncomputable def OpR (X : Cx) (f : Value → Value → Sem Value) (r : R2) : Prop :=
  ∀ (pins : List (Addr × Obj)) (s : Shared) (σ : St) (H : Hp) (x y : V) (v u : Value) (Q : VK), Inv X pins σ H s → RelV x v → RelV y u → r x y H Q →
    wpAny (model X.prog X.w) X.A (f v u) (EP X pins σ Q) X.xe s
noncomputable def CallR (X : Cx) (f : Value) (r : List V → Hp → VK → Prop) : Prop :=
  ∀ (pins : List (Addr × Obj)) (s : Shared) (σ : St) (H : Hp) (xs : List V) (us : List Value) (Q : VK), Inv X pins σ H s → Vals xs us → r xs H Q →
    wpAny (model X.prog X.w) X.A (call f us) (EP X pins σ Q) X.xe s
noncomputable def TruR (X : Cx) (r : V → Hp → (Bool → Hp → Prop) → Prop) : Prop :=
  ∀ (pins : List (Addr × Obj)) (s : Shared) (σ : St) (H : Hp) (x : V) (v : Value) (Q : Bool → Hp → Prop), Inv X pins σ H s → RelV x v → r x H Q →
    wpAny (model X.prog X.w) X.A (truthy v) (TP X pins σ Q) X.xe s
noncomputable def tOp (r : R2) (ta tb : TE) : TE := fun σ H Q => ta σ H fun x H1 => tb σ H1 fun y H2 => r x y H2 Q
noncomputable def rI (C : Int → Int → Prop) (g : Int → Int → V) : R2 := fun x y H Q => ∃ i j, x = .int i ∧ y = .int j ∧ C i j ∧ Q (g i j) H
noncomputable def rI0 (g : Int → Int → V) : R2 := fun x y H Q => ∃ i j, x = .int i ∧ y = .int j ∧ Q (g i j) H
section
variable {X : Cx} {a b c : Expr} {ta tb tc : TE} {pos : Pos}
theorem binT (ha : PE X a ta) (hb : PE X b tb) {pins : List (Addr × Obj)} {s : Shared} {σ : St} {H : Hp} {R : V → V → Hp → Prop} (I : Inv X pins σ H s)
    (h : ta σ H fun x H1 => tb σ H1 fun y H2 => R x y H2) {Q : Value → Shared → Prop} {f : Value → Value → Sem Value}
    (hf : ∀ v u s2 x y H2, Inv X pins σ H2 s2 → RelV x v → RelV y u → R x y H2 → wpAny (model X.prog X.w) X.A (f v u) Q X.xe s2) :
    wpAny (model X.prog X.w) X.A (eval a X.env) (fun v s₁ => wpAny (model X.prog X.w) X.A (eval b X.env) (fun u s₂ => wpAny (model X.prog X.w) X.A (f v u) Q X.xe s₂) X.xe s₁) X.xe s := by
  refine thn (ha pins s σ H _ I h) fun v s1 ⟨x, H1, I1, r1, q1⟩ => ?_
  refine thn (hb pins s1 σ H1 _ I1 q1) fun u s2 ⟨y, H2, I2, r2, q2⟩ => ?_
  exact hf v u s2 x y H2 I2 r1 r2 q2
theorem pe_op {op : Operator} {r : R2} (ho : OpR X (binaryOp op) r) (ha : PE X a ta) (hb : PE X b tb) : PE X (.BinOp a op b pos) (tOp r ta tb) := by
  intro pins s σ H Q I h
  exact wpAny_BinOp (binT ha hb I h fun v u s2 x y H2 I2 rx ry q => ho pins s2 σ H2 x y v u Q I2 rx ry q)
theorem opI {f : Value → Value → Sem Value} {C : Int → Int → Prop} {g : Int → Int → Int}
    (rule : ∀ (i j : Int) (t u : Tok) (s : Shared) (Q : Value → Shared → Prop) (E : Value → Shared → Prop), C i j → Q (.int (g i j) s.toks) { s with toks := s.toks + 1 } → wpAny (model X.prog X.w) X.A (f (.int i t) (.int j u)) Q E s) :
    OpR X f (rI C fun i j => .int (g i j)) := by
  intro pins s σ H x y v u Q I rx ry h
  obtain ⟨i, j, rfl, rfl, hc, q⟩ := h
  obtain ⟨t, rfl⟩ := rx
  obtain ⟨t', rfl⟩ := ry
  exact rule i j t t' s _ _ hc ⟨.int (g i j), H, I.tok _, ⟨_, rfl⟩, q⟩
theorem opI0 {f : Value → Value → Sem Value} {g : Int → Int → Int}
    (rule : ∀ (i j : Int) (t u : Tok) (s : Shared) (Q : Value → Shared → Prop) (E : Value → Shared → Prop), Q (.int (g i j) s.toks) { s with toks := s.toks + 1 } → wpAny (model X.prog X.w) X.A (f (.int i t) (.int j u)) Q E s) :
    OpR X f (rI0 fun i j => .int (g i j)) := by
  intro pins s σ H x y v u Q I rx ry h
  obtain ⟨i, j, rfl, rfl, q⟩ := h
  obtain ⟨t, rfl⟩ := rx
  obtain ⟨t', rfl⟩ := ry
  exact rule i j t t' s _ _ ⟨.int (g i j), H, I.tok _, ⟨_, rfl⟩, q⟩
theorem opB0 {f : Value → Value → Sem Value} {g : Int → Int → Bool}
    (rule : ∀ (i j : Int) (t u : Tok) (s : Shared) (Q : Value → Shared → Prop) (E : Value → Shared → Prop), Q (.bool (g i j)) s → wpAny (model X.prog X.w) X.A (f (.int i t) (.int j u)) Q E s) :
    OpR X f (rI0 fun i j => .bl (g i j)) := by
  intro pins s σ H x y v u Q I rx ry h
  obtain ⟨i, j, rfl, rfl, q⟩ := h
  obtain ⟨t, rfl⟩ := rx
  obtain ⟨t', rfl⟩ := ry
  exact rule i j t t' s _ _ ⟨.bl (g i j), H, I, rfl, q⟩
noncomputable def CDiv (i j : Int) : Prop := 0 < j ∧ j < 1073741824
theorem op_add : OpR X (binaryOp .Add) (rI0 fun i j => .int (i + j)) := opI0 fun _ _ _ _ _ _ _ q => add_int q
theorem op_sub : OpR X (binaryOp .Sub) (rI0 fun i j => .int (i - j)) := opI0 fun _ _ _ _ _ _ _ q => sub_int q
theorem op_fdiv : OpR X (binaryOp .FloorDiv) (rI CDiv fun i j => .int (i / j)) := opI fun i j _ _ _ _ _ hc q => by
  have h1 : (0 : Int) < j := hc.1
  have h2 : j < 1073741824 := hc.2
  exact floordiv_int (by omega) (by rw [Int.fdiv_eq_ediv_of_nonneg i (by omega)]; exact q) (.inl (PyProof.noPylong_small (by omega)))
theorem op_mod : OpR X (binaryOp .Mod) (rI (fun _ j => 0 < j) fun i j => .int (i % j)) := opI fun i j _ _ _ _ _ hc q => by
  have h1 : (0 : Int) < j := hc
  exact mod_int' (by omega) (by rw [Int.fmod_eq_emod_of_nonneg i (by omega)]; exact q)
theorem op_and : OpR X (binaryOp .BitAnd) (rI0 fun i j => .int (Builtin.bitAnd i j)) := opI0 fun _ _ _ _ _ _ _ q => and_int q
theorem op_or : OpR X (binaryOp .BitOr) (rI0 fun i j => .int (Builtin.bitOr i j)) := opI0 fun _ _ _ _ _ _ _ q => or_int q
end
noncomputable def scal : V → V → Bool
  | .non, .non => true | .non, .int _ => true | .int _, .non => true | .non, .bl _ => true | .bl _, .non => true | .non, .str _ => true | .str _, .non => true
  | .int _, .int _ => true | .bl _, .bl _ => true | .str _, .str _ => true | .byt _, .byt _ => true
  | .int _, .str _ => true | .str _, .int _ => true | .bl _, .str _ => true | .str _, .bl _ => true
  | _, _ => false
noncomputable def rEq : R2 := fun x y H Q => scal x y = true ∧ Q (.bl (decide (x = y))) H
noncomputable def rNe : R2 := fun x y H Q => scal x y = true ∧ Q (.bl (!decide (x = y))) H
theorem dec_int {i j : Int} : decide (V.int i = V.int j) = (i == j) := by
  rw [Bool.eq_iff_iff]
  simp
theorem dec_bl {i j : Bool} : decide (V.bl i = V.bl j) = (i == j) := by
  rw [Bool.eq_iff_iff]
  simp
theorem dec_str {i j : Str} : decide (V.str i = V.str j) = (i == j) := by
  rw [Bool.eq_iff_iff]
  simp
theorem dec_byt {i j : Array UInt8} : decide (V.byt i = V.byt j) = (i.toList == j.toList) := by
  rw [Bool.eq_iff_iff]
  cases i
  cases j
  simp
section
variable {X : Cx} {a b c : Expr} {ta tb tc : TE} {pos : Pos}
theorem fin_bl {pins : List (Addr × Obj)} {σ : St} {H : Hp} {s : Shared} {Q : VK} {k k' : Bool} (I : Inv X pins σ H s) (q : Q (.bl k) H) (e : k = k') : EP X pins σ Q (.bool k') s := by
  subst e
  exact ⟨.bl k, H, I, rfl, q⟩
theorem op_eq : OpR X (compareOp .Eq) rEq := by
  intro pins s σ H x y v u Q I rx ry h
  obtain ⟨hs, q⟩ := h
  cases x with
  | non =>
    cases rx
    cases y with
    | non => cases ry; exact PySem.EqNone.eq_none_none (fin_bl I q (by simp))
    | bl j => cases ry; exact PySem.EqNone.eq_none_bool (fin_bl I q (by simp))
    | int j => obtain ⟨t', rfl⟩ := ry; exact PySem.EqNone.eq_none_int (fin_bl I q (by simp))
    | str j => obtain ⟨t', rfl⟩ := ry; exact PySem.EqNone.eq_none_str (fin_bl I q (by simp))
    | _ => exact absurd (show false = true from hs) Bool.false_ne_true
  | bl i =>
    cases rx
    cases y with
    | non => cases ry; exact PySem.EqNone.eq_bool_none (fin_bl I q (by simp))
    | bl j => cases ry; exact eq_bool (fin_bl I q dec_bl)
    | str j => obtain ⟨t', rfl⟩ := ry; exact PySem.EqMixed.eq_bool_str (fin_bl I q (by simp))
    | _ => exact absurd (show false = true from hs) Bool.false_ne_true
  | int i =>
    obtain ⟨t, rfl⟩ := rx
    cases y with
    | non => cases ry; exact PySem.EqNone.eq_int_none (fin_bl I q (by simp))
    | int j => obtain ⟨t', rfl⟩ := ry; exact eq_int (fin_bl I q dec_int)
    | str j => obtain ⟨t', rfl⟩ := ry; exact PySem.EqMixed.eq_int_str (fin_bl I q (by simp))
    | _ => exact absurd (show false = true from hs) Bool.false_ne_true
  | str i =>
    obtain ⟨t, rfl⟩ := rx
    cases y with
    | non => cases ry; exact PySem.EqNone.eq_str_none (fin_bl I q (by simp))
    | bl j => cases ry; exact PySem.EqMixed.eq_str_bool (fin_bl I q (by simp))
    | int j => obtain ⟨t', rfl⟩ := ry; exact PySem.EqMixed.eq_str_int (fin_bl I q (by simp))
    | str j => obtain ⟨t', rfl⟩ := ry; exact eq_str (fin_bl I q dec_str)
    | _ => exact absurd (show false = true from hs) Bool.false_ne_true
  | byt i =>
    obtain ⟨t, rfl⟩ := rx
    cases y with
    | byt j => obtain ⟨t', rfl⟩ := ry; exact PySem.W.eq_bytes (fin_bl I q dec_byt)
    | _ => exact absurd (show false = true from hs) Bool.false_ne_true
  | _ => cases y <;> exact absurd (show false = true from hs) Bool.false_ne_true
theorem op_ne : OpR X (compareOp .NotEq) rNe := by
  intro pins s σ H x y v u Q I rx ry h
  obtain ⟨hs, q⟩ := h
  cases x with
  | non =>
    cases rx
    cases y with
    | non => cases ry; exact PySem.EqNone.ne_none_none (fin_bl I q (by simp))
    | bl j => cases ry; exact PySem.EqNone.ne_none_bool (fin_bl I q (by simp))
    | int j => obtain ⟨t', rfl⟩ := ry; exact PySem.EqNone.ne_none_int (fin_bl I q (by simp))
    | str j => obtain ⟨t', rfl⟩ := ry; exact PySem.EqNone.ne_none_str (fin_bl I q (by simp))
    | _ => exact absurd (show false = true from hs) Bool.false_ne_true
  | bl i =>
    cases rx
    cases y with
    | non => cases ry; exact PySem.EqNone.ne_bool_none (fin_bl I q (by simp))
    | bl j => cases ry; exact ne_bool (fin_bl I q (congrArg not dec_bl))
    | str j => obtain ⟨t', rfl⟩ := ry; exact PySem.EqMixed.ne_bool_str (fin_bl I q (by simp))
    | _ => exact absurd (show false = true from hs) Bool.false_ne_true
  | int i =>
    obtain ⟨t, rfl⟩ := rx
    cases y with
    | non => cases ry; exact PySem.EqNone.ne_int_none (fin_bl I q (by simp))
    | int j => obtain ⟨t', rfl⟩ := ry; exact ne_int (fin_bl I q (congrArg not dec_int))
    | str j => obtain ⟨t', rfl⟩ := ry; exact PySem.EqMixed.ne_int_str (fin_bl I q (by simp))
    | _ => exact absurd (show false = true from hs) Bool.false_ne_true
  | str i =>
    obtain ⟨t, rfl⟩ := rx
    cases y with
    | non => cases ry; exact PySem.EqNone.ne_str_none (fin_bl I q (by simp))
    | bl j => cases ry; exact PySem.EqMixed.ne_str_bool (fin_bl I q (by simp))
    | int j => obtain ⟨t', rfl⟩ := ry; exact PySem.EqMixed.ne_str_int (fin_bl I q (by simp))
    | str j => obtain ⟨t', rfl⟩ := ry; exact ne_str (fin_bl I q (congrArg not dec_str))
    | _ => exact absurd (show false = true from hs) Bool.false_ne_true
  | byt i =>
    obtain ⟨t, rfl⟩ := rx
    cases y with
    | byt j => obtain ⟨t', rfl⟩ := ry; exact PySem.W.ne_bytes (fin_bl I q (congrArg not dec_byt))
    | _ => exact absurd (show false = true from hs) Bool.false_ne_true
  | _ => cases y <;> exact absurd (show false = true from hs) Bool.false_ne_true
theorem op_lt : OpR X (compareOp .Lt) (rI0 fun i j => .bl (decide (i < j))) := opB0 fun _ _ _ _ _ _ _ q => lt_int q
theorem op_le : OpR X (compareOp .LtE) (rI0 fun i j => .bl (decide (i ≤ j))) := opB0 fun _ _ _ _ _ _ _ q => le_int q
theorem op_gt : OpR X (compareOp .Gt) (rI0 fun i j => .bl (decide (j < i))) := opB0 fun _ _ _ _ _ _ _ q => gt_int q
theorem op_ge : OpR X (compareOp .GtE) (rI0 fun i j => .bl (decide (j ≤ i))) := opB0 fun _ _ _ _ _ _ _ q => ge_int q
theorem nomark (b : Expr) {op : CmpOp} (h : op ≠ .In := by decide) (h2 : op ≠ .NotIn := by decide) : behindInMarks op b = false := by
  have e1 : (op == CmpOp.In) = false := by cases op <;> first | rfl | exact absurd rfl h
  have e2 : (op == CmpOp.NotIn) = false := by cases op <;> first | rfl | exact absurd rfl h2
  cases b <;> simp [behindInMarks, e1, e2]
theorem pe_cmpR {op : CmpOp} {r : R2} (ho : OpR X (compareOp op) r) (ha : PE X a ta) (hb : PE X b tb) (hm : behindInMarks op b = false) : PE X (.Compare a [op] [b] pos) (tOp r ta tb) := by
  intro pins s σ H Q I h
  exact wpAny_Compare1 (binT ha hb I h fun v u s2 x y H2 I2 rx ry q => ho pins s2 σ H2 x y v u Q I2 rx ry q) hm
noncomputable def tTest (t : TE) : TT := fun σ H Q => t σ H fun x H' => ∃ k, x = .bl k ∧ Q k H'
theorem pt_cmpR {op : CmpOp} {r : R2} (ho : OpR X (compareOp op) r) (ha : PE X a ta) (hb : PE X b tb) (hm : behindInMarks op b = false) : PT X (.Compare a [op] [b] pos) (tTest (tOp r ta tb)) := by
  intro pins s σ H Q I h
  refine wpAny_isTrue_Compare1 (thn (ha pins s σ H _ I h) fun v s1 ⟨x, H1, I1, r1, q1⟩ => thn (hb pins s1 σ H1 _ I1 q1) fun u s2 ⟨y, H2, I2, r2, q2⟩ =>
    thn (ho pins s2 σ H2 x y v u _ I2 r1 r2 q2) fun c s3 ⟨z, H3, I3, r3, k, e, q3⟩ => ?_) hm
  subst e
  cases r3
  exact wpAny_truthy_bool ⟨H3, I3, q3⟩
noncomputable def tChain (r r' : R2) (ta tb tc : TE) : TE := fun σ H Q => ta σ H fun x H1 => tb σ H1 fun y H2 => r x y H2 fun z H3 => ∃ k, z = .bl k ∧
  (if k = true then tc σ H3 fun w' H4 => r' y w' H4 Q else Q (.bl false) H3)
theorem pe_chain {op op' : CmpOp} {r r' : R2} (ho : OpR X (compareOp op) r) (ho' : OpR X (compareOp op') r') (ha : PE X a ta) (hb : PE X b tb) (hc : PE X c tc)
    (hm : lastMarks [op, op'] [b, c] = false := by with_unfolding_all rfl) : PE X (.Compare a [op, op'] [b, c] pos) (tChain r r' ta tb tc) := by
  intro pins s σ H Q I h
  refine Compare_chain (thn (ha pins s σ H _ I h) fun v s1 ⟨x, H1, I1, r1, q1⟩ => chain_link (thn (hb pins s1 σ H1 _ I1 q1) fun u s2 ⟨y, H2, I2, r2, q2⟩ =>
    thn (ho pins s2 σ H2 x y v u _ I2 r1 r2 q2) fun d s3 ⟨z, H3, I3, r3, k, e, q3⟩ => ?_)) hm
  subst e
  cases r3
  refine wpAny_truthy_bool ?_
  cases k with
  | false => exact ite_ff ⟨.bl false, H3, I3, rfl, q3⟩
  | true => exact ite_tt (chain_last (thn (hc pins s3 σ H3 _ I3 q3) fun w' s4 ⟨z', H4, I4, r4, q4⟩ => ho' pins s4 σ H4 y z' u w' Q I4 r2 r4 q4))
theorem pt_chain {op op' : CmpOp} {r r' : R2} (ho : OpR X (compareOp op) r) (ho' : OpR X (compareOp op') r') (ha : PE X a ta) (hb : PE X b tb) (hc : PE X c tc)
    (hm : lastMarks [op, op'] [b, c] = false := by with_unfolding_all rfl) : PT X (.Compare a [op, op'] [b, c] pos) (tTest (tChain r r' ta tb tc)) := by
  intro pins s σ H Q I h
  refine isTrue_chain (thn (ha pins s σ H _ I h) fun v s1 ⟨x, H1, I1, r1, q1⟩ => test_link (thn (hb pins s1 σ H1 _ I1 q1) fun u s2 ⟨y, H2, I2, r2, q2⟩ =>
    thn (ho pins s2 σ H2 x y v u _ I2 r1 r2 q2) fun d s3 ⟨z, H3, I3, r3, k, e, q3⟩ => ?_)) hm
  subst e
  cases r3
  refine wpAny_truthy_bool ?_
  cases k with
  | false =>
    obtain ⟨k', e', q'⟩ := q3
    cases e'
    exact ite_ff ⟨H3, I3, q'⟩
  | true =>
    refine ite_tt (test_last (thn (hc pins s3 σ H3 _ I3 q3) fun w' s4 ⟨z', H4, I4, r4, q4⟩ => thn (ho' pins s4 σ H4 y z' u w' _ I4 r2 r4 q4) fun d' s5 ⟨z2, H5, I5, r5, k2, e2, q5⟩ => ?_))
    subst e2
    cases r5
    exact wpAny_truthy_bool ⟨H5, I5, q5⟩
noncomputable def TruV (K : PySem.W.Frag) (x : V) (H : Hp) (k : Bool) : Prop :=
  match x with
  | .non => k = false
  | .bl b => k = b
  | .int i => k = (i != 0)
  | .str y => y.length ≤ sizeLine ∧ k = ((y.length : Int) != 0)
  | .byt y => y.size ≤ sizeLine ∧ k = ((y.size : Int) != 0)
  | .ref p => (∃ xs, SqL K H p xs ∧ k = !xs.isEmpty) ∨ (∃ xs, SqT K H p xs ∧ k = !xs.isEmpty) ∨ ∃ kvs, H p = some (.dK kvs) ∧ k = !kvs.isEmpty
  | _ => False
theorem isEmpty_kv {κ : Type} {kvs : List (κ × V)} {vs : List (κ × Value)} (r : KV kvs vs) : (!vs.isEmpty) = !kvs.isEmpty := by
  cases r <;> rfl
theorem isEmpty_of {xs : List V} {its : List Value} (r : Vals xs its) : (!its.toArray.isEmpty) = !xs.isEmpty := by
  cases r <;> simp
theorem line63 : (sizeLine : Nat) < 2 ^ 63 := by rw [sizeLine_eq]; decide
theorem tru_ok : TruR X (fun x H Q => ∃ k, TruV X.K x H k ∧ Q k H) := by
  intro pins s σ H x v Q I rx h
  obtain ⟨k, e, q⟩ := h
  have hl := line63
  have hs : sizeLine = 16777216 := sizeLine_eq
  cases x with
  | non =>
    cases rx
    have e' : k = false := e
    subst e'
    exact truthy_none ⟨H, I, q⟩
  | bl b =>
    cases rx
    have e' : k = b := e
    subst e'
    exact wpAny_truthy_bool ⟨H, I, q⟩
  | int i =>
    obtain ⟨t, rfl⟩ := rx
    have e' : k = (i != 0) := e
    subst e'
    exact PySem.P.truthy_int ⟨H, I, q⟩
  | str y =>
    obtain ⟨t, rfl⟩ := rx
    obtain ⟨hy, e'⟩ : y.length ≤ sizeLine ∧ k = ((y.length : Int) != 0) := e
    subst e'
    exact PySem.P.truthy_str (by omega) ⟨H, I.tok _, q⟩
  | byt y =>
    obtain ⟨t, rfl⟩ := rx
    obtain ⟨hy, e'⟩ : y.size ≤ sizeLine ∧ k = ((y.size : Int) != 0) := e
    subst e'
    exact PySem.W.truthy_bytes (by omega) ⟨H, I.tok _, q⟩
  | ref p =>
    cases rx
    have e' : (∃ xs, SqL X.K H p xs ∧ k = !xs.isEmpty) ∨ (∃ xs, SqT X.K H p xs ∧ k = !xs.isEmpty) ∨ ∃ kvs, H p = some (.dK kvs) ∧ k = !kvs.isEmpty := e
    rcases e' with ⟨xs, hx, e'⟩ | ⟨xs, hx, e'⟩ | ⟨kvs, hx, e'⟩
    · subst e'
      obtain ⟨its, r, pl, hz⟩ := I.list hx
      have hlen := r.length
      exact wpAny_truthy_list pl.isList (by simp only [List.size_toArray]; omega) ⟨H, I.tok _, by rw [isEmpty_of r]; exact q⟩
    · subst e'
      obtain ⟨its, r, pl, hz⟩ := I.tuple hx
      have hlen := r.length
      exact truthy_tuple pl (by simp only [List.size_toArray]; omega) ⟨H, I.tok _, by rw [isEmpty_of r]; exact q⟩
    · subst e'
      obtain ⟨hz, hS, vs, r, m⟩ : kvs.length ≤ sizeLine ∧ (p == sysModules) = false ∧ ∃ vs, KV kvs vs ∧ s.heap.DictOf (mixKind X.prog X.w) p vs := I.hok p _ hx
      have hlen : kvs.length = vs.length := Paired.length r
      exact wpAny_truthy_dict hS m (by omega) ⟨H, I.tok _, by rw [isEmpty_kv r]; exact q⟩
  | _ => exact (show False from e).elim
theorem pt_truth (ha : PE X a ta) (he : ∀ whole, isTrue a X.env whole = (do let v ← whole; standAt a.pos; holding [v] (truthy v))) :
    PT X a (fun σ H Q => ta σ H fun x H' => ∃ k, TruV X.K x H' k ∧ Q k H') := by
  intro pins s σ H Q I h
  exact isTrue_plain (thn (ha pins s σ H _ I h) fun v s1 ⟨x, H1, I1, r1, q1⟩ => tru_ok pins s1 σ H1 x v Q I1 r1 q1) (he _)
theorem vals1 {x : V} {us : List Value} (r : Vals [x] us) : ∃ u, us = [u] ∧ RelV x u := by
  cases r with
  | cons r1 r2 => cases r2; exact ⟨_, rfl, r1⟩
end
end L2
namespace L2
open PySem PySem.Spec PyProof.Rows
structure ObjM (h : Heap) (x dx C : Addr) (mA : Str → Option Value) : Prop where
  obj : h.get? x = some (PySem.W.instObj C dx)
  ns : h.Ns1 dx mA
  ne : dx ≠ x
theorem lookIn_ns {h : Heap} {dx : Addr} {mA : Str → Option Value} (n : h.Ns1 dx mA) : ∃ od, h.get? dx = some od ∧ ∀ name, PySem.W.lookIn name od = some (mA name) := by
  obtain ⟨o, es, ep, ho, hd, hk, _, hm⟩ := n
  refine ⟨o, ho, fun name => ?_⟩
  have e := hm name
  unfold nsFind findBy at e
  rw [← Array.find?_toList] at e
  unfold PySem.W.lookIn
  rw [hd]
  dsimp only
  split
  · rename_i y q
    rw [q] at e
    exact congrArg some e
  · rename_i q
    rw [q] at e
    have a : es.toList.any (·.refKey) = false := by
      rw [List.any_eq_false]
      intro y hy
      obtain ⟨z, t, hkey⟩ := hk y (Array.mem_toList_iff.mp hy)
      simp [DictEntry.refKey, hkey]
    have a' : ¬ es.toList.any (·.refKey) = true := by rw [a]; exact Bool.false_ne_true
    rw [if_neg a']
    exact congrArg some e
theorem ObjM.look {h : Heap} {x dx C : Addr} {mA : Str → Option Value} (I : ObjM h x dx C mA) : ∃ od, PySem.W.InstAt h x (PySem.W.instObj C dx) C (some od) ∧ ∀ name, PySem.W.lookIn name od = some (mA name) :=
  let ⟨od, ho, hl⟩ := lookIn_ns I.ns
  ⟨od, ⟨I.obj, rfl, rfl, ho⟩, hl⟩
section
variable {prog : Program} {w : World} {A : Around} {E : Value → Shared → Prop} {s : Shared} {K : PySem.W.Frag} {x dx C f : Addr} {mA : Str → Option Value} {name : Str} {v : Value}
theorem get_map {expr : Bool} {Q : Value → Shared → Prop} (X : K.In s.heap) (I : ObjM s.heap x dx C mA) (hg : PySem.W.plainGet K C name = true) (hh : PySem.W.hasDictIn K C = true)
    (ha : PySem.W.findIn K (.ref C) name = some none) (hv : mA name = some v) (hv' : PySem.W.handedIn v = true) (h : Q v { s with toks := s.toks + 1 }) :
    wpAny (model prog w) A (getAttr (.ref x) name expr) Q E s := by
  obtain ⟨od, J, hl⟩ := I.look
  exact PySem.W.get_value X J (PySem.W.plainGet_of hg).1 (PySem.W.findObj_own hh ha rfl (by rw [hl, hv])) hv' h
theorem get_meth {pl : Sem Bool} {Q : Value × List Value → Shared → Prop} (X : K.In s.heap) (I : ObjM s.heap x dx C mA) (hg : PySem.W.plainGet K C name = true)
    (hf : PySem.W.findIn K (.ref C) name = some (some (.ref f))) (ht : PySem.W.isFn K (.ref f) = true) (hv : mA name = none) (h : Q (.ref f, [.ref x]) s) :
    wpAny (model prog w) A (getMethod (.ref x) name pl) Q E s := by
  obtain ⟨od, J, hl⟩ := I.look
  exact PySem.W.method_fn X J (PySem.W.plainGet_of hg).1 (PySem.W.plainGet_of hg).2 hf (beq_iff_eq.mp ht) (by show (PySem.W.lookIn name od).map (·.isSome) = some false; rw [hl, hv]; rfl) h
theorem set_map {ns : List Str} {Q : Unit → Shared → Prop} (X : K.In s.heap) (I : ObjM s.heap x dx C mA)
    (hs : PySem.W.findIn K (.ref C) "__setattr__" = some (some (.builtin "object.__setattr__"))) (hp : PySem.W.plainOver K C = true) (ht : PySem.W.takerIn K C name = some none) (hh : PySem.W.hasDictIn K C = true)
    (hw : PySem.Within mA ns) (hsz : ns.length ≤ sizeLine)
    (h : ∀ h', ObjM h' x dx C (fun y => if y = name then some v else mA y) → Heap.SameBut dx s.heap h' → Q () { s with heap := h', toks := s.toks + 2 }) :
    wpAny (model prog w) A (setAttr (.ref x) name v) Q E s := by
  obtain ⟨od, J, hl⟩ := I.look
  refine PySem.W.set_plain X J hs (PySem.W.osa_open (s := { s with toks := s.toks + 1 }) (r := none) X J hp ht fun b => ?_)
  obtain ⟨cd, hc, hd'⟩ := PySem.W.any_some hh
  have hx : s.heap.get? x = some ⟨.ref C, some dx, .plain, #[]⟩ := I.obj
  refine wpAny_bind (wpAny_pure (wpAny_bind (wpAny_bind (wpAny_loadPart hx (wpAny_bind (PySem.W.Looks.here (s := { s with toks := s.toks + 1 }) (PySem.W.looks_clsIn X hc) ?_))))))
  rw [hd']
  refine wpAny_pure (a := some dx) (wpAny_bind (wpAny_pure (wpAny_bind ?_)))
  refine wpAny_nsSet1 (s := { s with toks := s.toks + 1 }) I.ns fun h' hn2 hs2 => ?_
  obtain ⟨oD, esD, epD, hoD, hdD, hcD⟩ := hn2.count (PySem.Within.cons name v hw)
  refine wpAny_bind (wpAny_lookBehind hoD (by rw [hdD]; exact pastItsLine_dict (Nat.le_trans hcD (by rw [List.length_cons]; omega))) ?_)
  exact wpAny_pure (h _ ⟨(hs2.2 _ (Ne.symm I.ne)).trans I.obj, hn2, I.ne⟩ hs2)
theorem make_map {R : Result → Shared → Prop} {vs : List Value} {kw : List (Str × Value)} (X : K.In s.heap) (hm : PySem.W.makesIn K C = true)
    (hi : PySem.W.findIn K (.ref C) "__init__" = some (some (.ref f))) (hf : PySem.W.typeIn K (.ref f) = some (.type "function"))
    (h : codeAny (model prog w) (A.under (.builtin "type.__call__" ⟨.ref C :: vs, kw⟩)) (.call (.ref f) ⟨.ref (s.heap.objs.size + 1) :: vs, kw⟩) (PySem.W.InitBack (s.heap.objs.size + 1) R)
      { s with heap := (s.heap.push PySem.W.emptyDict).push (PySem.W.instObj C s.heap.objs.size) }) :
    codeAny (model prog w) A (.call (.ref C) ⟨vs, kw⟩) R s := by
  obtain ⟨hh, g, d, t, os⟩ := s
  exact PySem.W.make_core (PySem.W.makes_of X hm) (PySem.W.looks_findIn X hi) (fun self => PySem.W.bind_fn X self hf) (.inl rfl) h
end
noncomputable def putF (f : Str) (v : V) : List (Str × V) → List (Str × V)
  | [] => [(f, v)]
  | (g, x) :: r => if g = f then (g, v) :: r else (g, x) :: putF f v r
theorem lookup_putF (f g : Str) (v : V) : ∀ fs : List (Str × V), (putF f v fs).lookup g = if g = f then some v else fs.lookup g
  | [] => by
    show List.lookup g [(f, v)] = _
    by_cases h : g = f
    · have hb : (g == f) = true := beq_iff_eq.mpr h
      simp only [List.lookup, hb, if_pos h]
    · have hb : (g == f) = false := beq_eq_false_iff_ne.mpr h
      simp only [List.lookup, hb, if_neg h]
  | (k, x) :: r => by
    have ih := lookup_putF f g v r
    rw [show putF f v ((k, x) :: r) = (if k = f then (k, v) :: r else (k, x) :: putF f v r) from rfl]
    by_cases hk : k = f
    · rw [if_pos hk]
      by_cases h : g = k
      · have hb : (g == k) = true := beq_iff_eq.mpr h
        simp only [List.lookup, hb, if_pos (h.trans hk)]
      · have hb : (g == k) = false := beq_eq_false_iff_ne.mpr h
        simp only [List.lookup, hb, if_neg (fun e : g = f => h (e.trans hk.symm))]
    · rw [if_neg hk]
      by_cases h : g = k
      · have hb : (g == k) = true := beq_iff_eq.mpr h
        simp only [List.lookup, hb, if_neg (fun e : g = f => hk (h.symm.trans e))]
      · have hb : (g == k) = false := beq_eq_false_iff_ne.mpr h
        simp only [List.lookup, hb]
        exact ih
theorem keys_putF (f : Str) (v : V) : ∀ fs : List (Str × V), f ∈ (putF f v fs).map (·.1) ∧ ∀ g, g ∈ fs.map (·.1) → g ∈ (putF f v fs).map (·.1)
  | [] => ⟨by simp [putF], fun g h => by simp at h⟩
  | (k, x) :: r => by
    obtain ⟨i1, i2⟩ := keys_putF f v r
    rw [show putF f v ((k, x) :: r) = (if k = f then (k, v) :: r else (k, x) :: putF f v r) from rfl]
    by_cases hk : k = f
    · rw [if_pos hk]
      subst hk
      exact ⟨by simp, fun g h => by simpa using h⟩
    · rw [if_neg hk]
      refine ⟨?_, fun g h => ?_⟩
      · rw [List.map_cons]
        exact List.mem_cons_of_mem _ i1
      · rw [List.map_cons] at h ⊢
        rcases List.mem_cons.mp h with e | e
        · exact List.mem_cons.mpr (.inl e)
        · exact List.mem_cons_of_mem _ (i2 g e)
theorem length_putF (f : Str) (v : V) : ∀ fs : List (Str × V), (putF f v fs).length ≤ fs.length + 1
  | [] => by simp [putF]
  | (k, x) :: r => by
    have ih := length_putF f v r
    rw [show putF f v ((k, x) :: r) = (if k = f then (k, v) :: r else (k, x) :: putF f v r) from rfl]
    by_cases hk : k = f
    · rw [if_pos hk, List.length_cons, List.length_cons]; omega
    · rw [if_neg hk, List.length_cons, List.length_cons]; omega
theorem RelO.some_of {v : V} {o : Option Value} (r : RelO (some v) o) : ∃ u, o = some u ∧ RelV v u := by
  cases o with
  | none => exact (show False from r).elim
  | some u => exact ⟨u, rfl, r⟩
theorem RelO.none_of {o : Option Value} (r : RelO none o) : o = none := by
  cases o with
  | none => rfl
  | some u => exact (show False from r).elim
theorem handed_of {v : V} {u : Value} (r : RelV v u) : PySem.W.handedIn u = true := by
  cases v with
  | non => cases (show u = Value.none from r); rfl
  | bl b => cases (show u = Value.bool b from r); rfl
  | int i => obtain ⟨t, e⟩ := (show ∃ t, u = Value.int i t from r); cases e; rfl
  | str x => obtain ⟨t, e⟩ := (show ∃ t, u = Value.str x t from r); cases e; rfl
  | byt b => obtain ⟨t, e⟩ := (show ∃ t, u = Value.bytes b t from r); cases e; rfl
  | flt b => obtain ⟨t, e⟩ := (show ∃ t, u = Value.float b t from r); cases e; rfl
  | ref a => cases (show u = Value.ref a from r); rfl
  | ty n => cases (show u = Value.type n from r); rfl
section
variable {P : Program} {w : World} {H H' : Hp} {h h' : Heap} {a C dx : Addr} {fs fs' : List (Str × V)}
theorem ins_get (hok : HOk P w H h) (e : H a = some (.ins C dx fs)) : ∃ mA, ObjM h a dx C mA ∧ (∀ f, RelO (fs.lookup f) (mA f)) ∧ PySem.Within mA (fs.map (·.1)) ∧ fs.length ≤ 1000 ∧ H dx = some (.own a) := by
  obtain ⟨d, z, ne, ob, mA, n, r, q⟩ := (show ObjOk P w H h a (.ins C dx fs) from hok a _ e)
  exact ⟨mA, ⟨ob, n, ne⟩, r, q, z, d⟩
end
structure Cls (K : PySem.W.Frag) (C : Addr) : Prop where
  pg : PySem.W.plainGet K C Str.empty = true
  hd : PySem.W.hasDictIn K C = true
  po : PySem.W.plainOver K C = true
  sa : PySem.W.findIn K (.ref C) "__setattr__" = some (some (.builtin "object.__setattr__"))
theorem Cls.get {K : PySem.W.Frag} {C : Addr} (c : Cls K C) (f : Str) : PySem.W.plainGet K C f = true := c.pg
noncomputable def NoAttr (K : PySem.W.Frag) (C : Addr) (f : Str) : Prop := PySem.W.findIn K (.ref C) f = some none
theorem NoAttr.taker {K : PySem.W.Frag} {C : Addr} {f : Str} (n : NoAttr K C f) : PySem.W.takerIn K C f = some none := by
  unfold PySem.W.takerIn
  rw [show PySem.W.findIn K (.ref C) f = some none from n]
  rfl
structure Meth (K : PySem.W.Frag) (C : Addr) (m : Str) (f : Addr) : Prop where
  at_ : PySem.W.findIn K (.ref C) m = some (some (.ref f))
  fn : PySem.W.isFn K (.ref f) = true
  kp : PySem.W.keepIn K (.ref f) = true
section
variable {X : Cx} {pins : List (Addr × Obj)} {σ : St} {H : Hp} {s : Shared} {a C dx : Addr} {fs : List (Str × V)} {f : Str} {v : V} {A : Around} {E : Value → Shared → Prop}
theorem getattr_ok {b : Bool} {Q : Value → Shared → Prop} (I : Inv X pins σ H s) (e : H a = some (.ins C dx fs)) (c : Cls X.K C) (n : NoAttr X.K C f) (l : fs.lookup f = some v)
    (h : ∀ u s', Inv X pins σ H s' → RelV v u → Q u s') : wpAny (model X.prog X.w) A (getAttr (.ref a) f b) Q E s := by
  obtain ⟨mA, O, r, _, _, _⟩ := ins_get I.hok e
  obtain ⟨u, hu, ru⟩ := RelO.some_of (v := v) (o := mA f) (by rw [← l]; exact r f)
  exact get_map I.kIn O (c.get f) c.hd n hu (handed_of ru) (h u _ (I.tok _) ru)
theorem getmeth_ok {m : Str} {g : Addr} {pl : Sem Bool} {Q : Value × List Value → Shared → Prop} (I : Inv X pins σ H s) (e : H a = some (.ins C dx fs)) (c : Cls X.K C) (k : Meth X.K C m g) (l : fs.lookup m = none)
    (h : Q (.ref g, [.ref a]) s) : wpAny (model X.prog X.w) A (getMethod (.ref a) m pl) Q E s := by
  obtain ⟨mA, O, r, _, _, _⟩ := ins_get I.hok e
  have hn : mA m = none := RelO.none_of (by rw [← l]; exact r m)
  exact get_meth I.kIn O (c.get m) k.at_ k.fn hn h
theorem setattr_ok {y : V} {u : Value} {Q : Unit → Shared → Prop} (I : Inv X pins σ H s) (e : H a = some (.ins C dx fs)) (c : Cls X.K C) (n : NoAttr X.K C f) (hl : fs.length < 1000) (ry : RelV y u)
    (h : ∀ s', Inv X pins σ (upd H a (.ins C dx (putF f y fs))) s' → Q () s') : wpAny (model X.prog X.w) A (setAttr (.ref a) f u) Q E s := by
  obtain ⟨mA, O, r, wi, _, ho⟩ := ins_get I.hok e
  have hz : (fs.map (·.1)).length ≤ sizeLine := by rw [List.length_map, sizeLine_eq]; omega
  refine set_map I.kIn O c.sa c.po n.taker c.hd wi hz fun h' O' sb => h _ ?_
  have hd : ∃ o, h'.get? dx = some o := let ⟨o, _, _, e', _⟩ := O'.ns; ⟨o, e'⟩
  refine I.write (x := a) (e := dx) (by rw [e]; exact True.intro) (.inr ho) (fun b q hb z => (sb.2 b hb).trans z) hd ?_
  refine ⟨by rw [upd_ne O.ne]; exact ho, ?_, O.ne, O'.obj, _, O'.ns, fun g => ?_, fun g hg => ?_⟩
  · have := length_putF f y fs; omega
  · show RelO ((putF f y fs).lookup g) (if g = f then some u else mA g)
    rw [lookup_putF]
    by_cases q : g = f
    · rw [if_pos q, if_pos q]; exact ry
    · rw [if_neg q, if_neg q]; exact r g
  · by_cases q : g = f
    · rw [q]; exact (keys_putF f y fs).1
    · refine (keys_putF f y fs).2 g (wi g fun z => hg ?_)
      show (if g = f then some u else mA g) = none
      rw [if_neg q]; exact z
theorem Inv.made (I : Inv X pins σ H s) : Inv X pins σ (upd (upd H s.heap.objs.size (.own (s.heap.objs.size + 1))) (s.heap.objs.size + 1) (.ins C s.heap.objs.size []))
    { s with heap := (s.heap.push PySem.W.emptyDict).push (PySem.W.instObj C s.heap.objs.size) } := by
  have e1 : (s.heap.push PySem.W.emptyDict).get? s.heap.objs.size = some PySem.W.emptyDict := Heap.get?_push_size s.heap rfl
  have e2 : ((s.heap.push PySem.W.emptyDict).push (PySem.W.instObj C s.heap.objs.size)).get? (s.heap.objs.size + 1) = some (PySem.W.instObj C s.heap.objs.size) := by
    have := Heap.get?_push_size (s.heap.push PySem.W.emptyDict) (o := PySem.W.instObj C s.heap.objs.size) rfl
    rwa [Heap.size_push] at this
  have e3 : (s.heap.push PySem.W.emptyDict).Ns s.heap.objs.size (fun _ => none) := ⟨PySem.W.emptyDict, #[], _, e1, rfl, (fun e he => absurd he (by simp)), fun _ => rfl⟩
  have I1 := I.laid (a := s.heap.objs.size) (o := .own (s.heap.objs.size + 1)) (h' := s.heap.push PySem.W.emptyDict) (t' := s.toks) (fun b u q => Heap.get?_push_of_some _ q) (Nat.le_refl _) ⟨_, e1⟩
  refine I1.laid (a := s.heap.objs.size + 1) (o := .ins C s.heap.objs.size []) (t' := s.toks) (fun b u q => Heap.get?_push_of_some _ q) (Nat.le_of_eq (Heap.size_push _ _)) ?_
  have ne : s.heap.objs.size ≠ s.heap.objs.size + 1 := Nat.ne_of_lt (Nat.lt_succ_self _)
  refine ⟨by rw [upd_ne ne, upd_same], Nat.zero_le _, ne, e2, fun _ => none, (Heap.Ns1.of_empty e3).at fun o q => Heap.get?_push_of_some _ q, fun _ => True.intro, fun y hy => absurd rfl hy⟩
theorem attr_of {prog : Program} {w : World} {env : Env} {e : Expr} {f : Str} {pos : Pos} {s : Shared} {Q : Value → Shared → Prop} (hb : attributeBase e f env (eval e env) = eval e env)
    (h : wpAny (model prog w) A (eval e env) (fun o s₁ => wpAny (model prog w) A (getAttr o f true) Q E s₁) E s) : wpAny (model prog w) A (eval (.Attribute e f pos) env) Q E s :=
  Attribute_any_ h (by rw [arm_eval_Attribute, hb])
end
noncomputable def tFld (K : PySem.W.Frag) (ta : TE) (f : Str) : TE := fun σ H Q => ta σ H fun x H1 => ∃ a C dx fs v, x = .ref a ∧ H1 a = some (.ins C dx fs) ∧ Cls K C ∧ NoAttr K C f ∧ fs.lookup f = some v ∧ Q v H1
noncomputable def sFld (K : PySem.W.Frag) (ta tv : TE) (f : Str) : TS := fun D σ H => tv σ H fun y H1 => ta σ H1 fun x H2 => ∃ a C dx fs, x = .ref a ∧ H2 a = some (.ins C dx fs) ∧ Cls K C ∧ NoAttr K C f ∧ fs.length < 1000 ∧
  D.nx σ (upd H2 a (.ins C dx (putF f y fs)))
section
variable {X : Cx} {o e value : Expr} {f : Str} {pos pos' tpos : Pos} {ta tv : TE}
theorem pe_fld (he : PE X e ta) (hb : attributeBase e f X.env (eval e X.env) = eval e X.env) : PE X (.Attribute e f pos) (tFld X.K ta f) := by
  intro pins s σ H Q I h
  refine attr_of hb (thn (he pins s σ H _ I h) fun u s1 ⟨x, H1, I1, rx, a, C, dx, fs, v, ex, ea, c, n, l, q⟩ => ?_)
  subst ex
  obtain rfl : u = Value.ref a := rx
  exact getattr_ok I1 ea c n l fun u' s2 I2 ru => ⟨v, H1, I2, ru, q⟩
theorem ps_fld (ha : PE X o ta) (hv : PE X value tv) (hs : swapsWith value (some (.Attribute o f pos')) pos.line X.env = pure false) : PS X (.Assign [.Attribute o f pos'] value pos) (sFld X.K ta tv f) := by
  intro pins s σ H D I h
  refine plainObj_wpAny_Assign_Attribute (thn (hv pins s σ H _ I h) fun u s1 ⟨y, H1, I1, ry, q⟩ => thn (ha pins s1 σ H1 _ I1 q) fun ov s2 ⟨x, H2, I2, rx, a, C, dx, fs, ex, ea, c, n, l, q2⟩ => ?_) hs
  subst ex
  obtain rfl : ov = Value.ref a := rx
  exact setattr_ok I2 ea c n l ry fun s3 I3 => ⟨σ, _, I3, q2⟩
end
section
variable {X : Cx} {pins : List (Addr × Obj)} {σ : St} {H : Hp} {s : Shared} {A : Around} {E : Value → Shared → Prop} {Q : Value → Shared → Prop} {c : Value} {b : Bool}
end
end L2
namespace L2
open PySem PySem.Spec PyProof.Rows
structure Room (k : Nat) (A : Around) : Prop where
  hd : A.handled = none
  dp : A.depth + 3 * k + 5 < recursionLimit
  un : A.units + 16 * k + 200 < cLine
theorem Room.mono {j k : Nat} {A : Around} (r : Room k A) (h : j ≤ k) : Room j A := ⟨r.hd, by have := r.dp; omega, by have := r.un; omega⟩
theorem Room.deeper {k : Nat} {A : Around} (r : Room (k + 1) A) (env : Env) : Room k (A.deeper env) :=
  ⟨r.hd, by have := r.dp; show A.depth + 1 + 3 * k + 5 < _; omega, by have := r.un; show A.units + 3 + 16 * k + 200 < _; omega⟩
theorem make_depth {A : Around} {C : Addr} {us : List Value} {kw : List (Str × Value)} : (A.under (.builtin "type.__call__" ⟨.ref C :: us, kw⟩)).depth = A.depth + 1 := by
  first | rfl | simp [Around.under, Code.weight, Code.isCreation, Code.isGuard, Code.isCaller, Code.frames, Code.isFrame, guardIds]
theorem make_units {A : Around} {C : Addr} {us : List Value} {kw : List (Str × Value)} : (A.under (.builtin "type.__call__" ⟨.ref C :: us, kw⟩)).units = A.units + 1 := by
  first | rfl | simp [Around.under, Code.cUnits, Code.frames, Code.isFrame]
theorem Room.make {k : Nat} {A : Around} (r : Room (k + 1) A) (C : Addr) (us : List Value) (kw : List (Str × Value)) : Room k (A.under (.builtin "type.__call__" ⟨.ref C :: us, kw⟩)) :=
  ⟨r.hd, by have := r.dp; rw [make_depth]; omega, by have := r.un; rw [make_units]; omega⟩
theorem Room.depth {k : Nat} {A : Around} (r : Room k A) : A.depth < recursionLimit := by have := r.dp; omega
noncomputable def tNil : TA := fun _ H Q => Q [] H
noncomputable def tCons (ta : TE) (tr : TA) : TA := fun σ H Q => ta σ H fun x H1 => tr σ H1 fun xs H2 => Q (x :: xs) H2
section
variable {X : Cx} {e : Expr} {es : List Expr} {te : TE} {t : TA} {pos : Pos}
theorem pa_nil : PA X [] tNil := fun _ _ _ _ H Q I h => Calls.spliced_nil ⟨[], H, I, .nil, h⟩
theorem pa_cons (ha : PE X e te) (hr : PA X es t) (hs : starEach (e :: es) X.env = (false, eval e X.env) :: starEach es X.env := by rfl) : PA X (e :: es) (tCons te t) := by
  intro pos pins s σ H Q I h
  rw [hs]
  show wpAny _ _ (spliced ((false, eval e X.env) :: backTo pos (starEach es X.env))) _ _ s
  refine Calls.spliced_cons (thn (ha pins s σ H _ I h) fun u s1 ⟨x, H1, I1, r1, q1⟩ => ?_)
  exact thn (hr pos pins s1 σ H1 _ I1 q1) fun us s2 ⟨xs, H2, I2, r2, q2⟩ => ⟨x :: xs, H2, I2, .cons r1 r2, q2⟩
noncomputable def tTup (t : TA) : TE := fun σ H Q => t σ H fun xs H1 => xs.length ≤ sizeLine ∧ ∀ p, H1 p = none → Q (.ref p) (upd H1 p (.tup xs))
noncomputable def tLst (t : TA) : TE := fun σ H Q => t σ H fun xs H1 => xs.length ≤ sizeLine ∧ ∀ p, H1 p = none → Q (.ref p) (upd H1 p (.lst xs))
theorem pe_tup {x1} (h : PA X es t) : PE X (.Tuple es x1 pos) (tTup t) := by
  intro pins s σ H Q I hq
  refine wpAny_Tuple_spliced (thn (h pos pins s σ H _ I hq) fun us s1 ⟨xs, H1, I1, r, z, q⟩ => ⟨by rw [← r.length]; exact z, ?_⟩)
  have hf : H1 s1.heap.objs.size = none := I1.hok.fresh (Nat.le_refl _)
  refine ⟨.ref s1.heap.objs.size, upd H1 s1.heap.objs.size (.tup xs), I1.laid (t' := s1.toks) (fun b u e => Heap.get?_push_of_some _ e) (Nat.le_refl _) ?_, rfl, q _ hf⟩
  exact ⟨z, us, r, ⟨_, Heap.get?_push_size _ rfl, rfl, _, rfl⟩⟩
theorem pe_lst (h : PA X es t) : PE X (.List es pos) (tLst t) := by
  intro pins s σ H Q I hq
  refine wpAny_List_spliced (thn (h pos pins s σ H _ I hq) fun us s1 ⟨xs, H1, I1, r, z, q⟩ => ⟨by rw [← r.length]; exact z, ?_⟩)
  have hf : H1 s1.heap.objs.size = none := I1.hok.fresh (Nat.le_refl _)
  refine ⟨.ref s1.heap.objs.size, upd H1 s1.heap.objs.size (.lst xs), I1.laid (t' := s1.toks) (fun b u e => Heap.get?_push_of_some _ e) (Nat.le_refl _) ?_, rfl, q _ hf⟩
  exact ⟨z, us, 0, r, Heap.get?_push_size _ rfl⟩
end
noncomputable abbrev Sp := List V → Hp → VK → XK → Prop
noncomputable abbrev CXT := List Env → Hp → Shared → XK → Value → Shared → Prop
structure Env0 (P : Program) (w : World) (K : PySem.W.Frag) (mg : Str → Option Value) (base : Heap) (A : Around) (outer : List Env) (s : Shared) (H : Hp) : Prop where
  frames : A.frames = some outer
  mod : Mod K mg base
  bs : ∀ b o, base.get? b = some o → s.heap.get? b = some o ∧ H b = none
  bsz : base.objs.size ≤ s.heap.objs.size
  funs : s.heap.FunFrames base outer
  frf : ∀ b ∈ frs outer, H b = none
  hok : HOk P w H s.heap
  bare : AllBare s.gens
noncomputable def CE (outer : List Env) (P : Program) (w : World) (H : Hp) (s : Shared) (Q : VK) (u : Value) (s' : Shared) : Prop :=
  ∃ v H', s'.os = s.os ∧ AllBare s'.gens ∧ Un (frs outer) [] H H' s.heap s'.heap ∧ HOk P w H' s'.heap ∧ RelV v u ∧ Q v H'
noncomputable def CR (CX : CXT) (outer : List Env) (P : Program) (w : World) (H : Hp) (s : Shared) (Q : VK) (E : XK) (r : Result) (s' : Shared) : Prop :=
  match r with
  | .ok (.ret u) => CE outer P w H s Q u s'
  | .ok _ => False
  | .error e => CX outer H s E e s'
structure FnOk (P : Program) (w : World) (K : PySem.W.Frag) (mg : Str → Option Value) (base : Heap) (CX : CXT) (k : Nat) (f : Addr) (fd : FuncData) (ps : List Str) (sp : Sp) : Prop where
  len : ∀ vs H Q E, sp vs H Q E → vs.length = ps.length
  run : ∀ (A : Around) (outer : List Env) (s : Shared) (H : Hp) (args : Args) (us : List Value) (vs : List V) (Q : VK) (E : XK), Room k A → Env0 P w K mg base A outer s H → BindsTo s fd args (ps.zip us) → Vals vs us → sp vs H Q E →
    codeAny (model P w) A (.call (.ref f) args) (CR CX outer P w H s Q E) s
theorem Env0.make {P : Program} {w : World} {K : PySem.W.Frag} {mg : Str → Option Value} {base : Heap} {A : Around} {outer : List Env} {s : Shared} {H : Hp} (e : Env0 P w K mg base A outer s H) (C : Addr) (us : List Value) (kw : List (Str × Value)) :
    Env0 P w K mg base (A.under (.builtin "type.__call__" ⟨.ref C :: us, kw⟩)) outer s H := ⟨by first | exact e.frames | (simpa [Around.under, Code.envs, Code.isFrame, pushEnvs] using e.frames), e.mod, e.bs, e.bsz, e.funs, e.frf, e.hok, e.bare⟩
section
variable {X : Cx} {pins : List (Addr × Obj)} {σ : St} {H : Hp} {s s' : Shared}
theorem Inv.env0 (I : Inv X pins σ H s) : Env0 X.prog X.w X.K X.mg X.base X.A X.stack s H :=
  ⟨I.ok.frames, I.ok.mod, I.bs, Nat.le_trans I.ok.bsz I.sz, I.stack, I.stkFree, I.hok, I.bare⟩
theorem Inv.after {Q : VK} {u : Value} (I : Inv X pins σ H s) (h : CE X.stack X.prog X.w H s Q u s') : EP X pins σ Q u s' := by
  obtain ⟨v, H', os, bare, un, hok, r, q⟩ := h
  obtain ⟨hh, g, d, t, os'⟩ := s'
  obtain rfl : os' = s.os := os
  exact ⟨v, H', I.call (h' := hh) (g' := g) (d' := d) (t' := t) (ch := []) un hok bare (fun b z => absurd z (by simp)), r, q⟩
end
noncomputable def tCall (sp : Sp) (dvs : List V) (E : XK) (t : TA) : TE := fun σ H Q => t σ H fun vs H1 => sp (vs ++ dvs) H1 Q E
noncomputable def tMeth (C : Addr) (m : Str) (sp : Sp) (dvs : List V) (E : XK) (ta : TE) (t : TA) : TE := fun σ H Q => ta σ H fun x H1 => ∃ a dx fs, x = .ref a ∧ H1 a = some (.ins C dx fs) ∧ fs.lookup m = none ∧
  t σ H1 fun vs H2 => sp (x :: (vs ++ dvs)) H2 Q E
noncomputable def tMake (C : Addr) (sp : Sp) (dvs : List V) (E : XK) (t : TA) : TE := fun σ H Q => t σ H fun vs H1 => ∀ x dx, H1 x = none → H1 dx = none → dx ≠ x →
  sp (.ref x :: (vs ++ dvs)) (upd (upd H1 dx (.own x)) x (.ins C dx [])) (fun v H2 => v = .non ∧ Q (.ref x) H2) E
noncomputable def Binds (K : PySem.W.Frag) (fd : FuncData) (ps : List Str) (ds : List Value) : Prop :=
  ∀ (s : Shared) (us : List Value), K.In s.heap → (us ++ ds).length = ps.length → BindsTo s fd ⟨us, []⟩ (ps.zip (us ++ ds))
theorem Binds.all {K : PySem.W.Frag} {fd : FuncData} {ps : List Str} (h : ∀ us : List Value, us.length = ps.length → bindArgs fd ⟨us, []⟩ = pure (ps.zip us)) : Binds K fd ps [] := fun s us _ hl => by
  rw [List.append_nil] at hl ⊢
  exact .of_eq (h us hl)
noncomputable def Passes (CX : CXT) (X : Cx) (E : XK) : Prop := ∀ (pins : List (Addr × Obj)) (σ : St) (H : Hp) (s : Shared) (e : Value) (s' : Shared), Inv X pins σ H s → CX X.stack H s E e s' → X.xe e s'
section
variable {X : Cx} {CX : CXT} {k : Nat} {f C : Addr} {fd : FuncData} {ps : List Str} {sp : Sp} {dvs : List V} {ds : List Value} {E : XK} {x m : Str} {p pos apos : Pos} {e o : Expr} {es : List Expr} {ta : TE} {t : TA}
theorem run_fn {pins : List (Addr × Obj)} {σ : St} {H : Hp} {s : Shared} {Q : VK} {us : List Value} {vs : List V} (F : FnOk X.prog X.w X.K X.mg X.base CX k f fd ps sp) (hr : Room k X.A) (hb : Binds X.K fd ps ds) (hd : Vals dvs ds) (hx : Passes CX X E)
    (I : Inv X pins σ H s) (r : Vals vs us) (h : sp (vs ++ dvs) H Q E) : wpAny (model X.prog X.w) X.A (call (.ref f) us) (EP X pins σ Q) X.xe s := by
  have r2 : Vals (vs ++ dvs) (us ++ ds) := r.append hd
  have hl : (us ++ ds).length = ps.length := by rw [← r2.length]; exact F.len _ _ _ _ h
  refine wpAny_call (codeAny_mono (F.run X.A X.stack s H ⟨us, []⟩ (us ++ ds) (vs ++ dvs) Q E hr I.env0 (hb s us I.kIn hl) r2 h) fun r s' hq => ?_)
  cases r with
  | error e => exact hx pins σ H s e s' I hq
  | ok fl =>
    cases fl with
    | ret u => exact I.after hq
    | next => exact False.elim hq
    | brk => exact False.elim hq
    | cont => exact False.elim hq
theorem pe_call (F : FnOk X.prog X.w X.K X.mg X.base CX k f fd ps sp) (hr : Room k X.A) (hg : Gl X x) (hm : X.mg x = some (.ref f)) (hk : PySem.W.keepIn X.K (.ref f) = true) (hb : Binds X.K fd ps ds) (hd : Vals dvs ds) (hx : Passes CX X E)
    (ha : PA X (e :: es) t) (hdb : (x == ("__debug__" : Str)) = false := by decide) (he : starEach (e :: es) X.env = (false, eval e X.env) :: starEach es X.env := by rfl) (hpl : (backTo pos (starEach es X.env)).any (·.1) = false := by rfl) :
    PE X (.Call (.Name x p) (e :: es) [] pos) (tCall sp dvs E t) := by
  intro pins s σ H Q I h
  refine wpAny_Call_Name_kw (ld_glob I hg hm ?_ hdb)
  refine PySem.W.callWith_K (h₀ := X.base) I.ok.mod.kin hk (thn (ha pos pins s σ H _ I h) fun us s1 ⟨vs, H1, I1, r, q⟩ => ⟨I1.kIn, ?_⟩) he hpl
  exact run_fn F hr hb hd hx I1 r q
theorem pe_meth {pl : Sem Bool} (he : PE X o ta) (c : Cls X.K C) (hm : Meth X.K C m f) (F : FnOk X.prog X.w X.K X.mg X.base CX k f fd ps sp) (hr : Room k X.A) (hb : Binds X.K fd ps ds) (hd : Vals dvs ds) (hx : Passes CX X E) (ha : PA X (e :: es) t)
    (hst : starEach (e :: es) X.env = (false, eval e X.env) :: starEach es X.env := by rfl) (hpl : (backTo pos (starEach es X.env)).any (·.1) = false := by rfl)
    (ht : eval (.Call (.Attribute o m apos) (e :: es) [] pos) X.env = (do
      let ov ← eval o X.env
      standAt apos.atName
      let (f, first) ← holding [ov] (getMethod ov m pl)
      callWith pos f first (backTo pos (starEach (e :: es) X.env)) (backToKw pos (keywordEach [] X.env))) := by rfl) :
    PE X (.Call (.Attribute o m apos) (e :: es) [] pos) (tMeth C m sp dvs E ta t) := by
  intro pins s σ H Q I h
  refine PySem.W.methodCall_KW (pl := pl) (thn (he pins s σ H _ I h) fun u s1 ⟨x, H1, I1, rx, a, dx, fs, ex, ea, l, q⟩ => ?_) ht
  subst ex
  obtain rfl : u = Value.ref a := rx
  refine getmeth_ok I1 ea c hm l ?_
  refine PySem.W.callWith_K (first := [.ref a]) (h₀ := X.base) I.ok.mod.kin hm.kp (thn (ha pos pins s1 σ H1 _ I1 q) fun us s2 ⟨vs, H2, I2, r, q2⟩ => ⟨I2.kIn, ?_⟩) hst hpl
  exact run_fn (us := .ref a :: us) (vs := .ref a :: vs) F hr hb hd hx I2 (.cons rfl r) q2
theorem pe_meth0 {pl : Sem Bool} (he : PE X o ta) (c : Cls X.K C) (hm : Meth X.K C m f) (F : FnOk X.prog X.w X.K X.mg X.base CX k f fd ps sp) (hr : Room k X.A) (hb : Binds X.K fd ps ds) (hd : Vals dvs ds) (hx : Passes CX X E)
    (ht : eval (.Call (.Attribute o m apos) [] [] pos) X.env = (do
      let ov ← eval o X.env
      standAt apos.atName
      let (f, first) ← holding [ov] (getMethod ov m pl)
      callWith pos f first (backTo pos (starEach [] X.env)) (backToKw pos (keywordEach [] X.env))) := by rfl) :
    PE X (.Call (.Attribute o m apos) [] [] pos) (tMeth C m sp dvs E ta tNil) := by
  intro pins s σ H Q I h
  refine PySem.W.methodCall_KW (pl := pl) (thn (he pins s σ H _ I h) fun u s1 ⟨x, H1, I1, rx, a, dx, fs, ex, ea, l, q⟩ => ?_) ht
  subst ex
  obtain rfl : u = Value.ref a := rx
  refine getmeth_ok I1 ea c hm l ?_
  exact PySem.W.callWith_K0 (first := [.ref a]) I1.kIn hm.kp (run_fn (us := [.ref a]) (vs := [.ref a]) F hr hb hd hx I1 (.cons rfl .nil) q)
structure Mk (K : PySem.W.Frag) (C f : Addr) : Prop where
  makes : PySem.W.makesIn K C = true
  init : PySem.W.findIn K (.ref C) "__init__" = some (some (.ref f))
  fn : PySem.W.isFn K (.ref f) = true
  kp : PySem.W.keepIn K (.ref C) = true
theorem run_make {pins : List (Addr × Obj)} {σ : St} {H : Hp} {s : Shared} {Q : VK} {us : List Value} {vs : List V} (M : Mk X.K C f) (F : FnOk X.prog X.w X.K X.mg X.base CX k f fd ps sp) (hr : Room (k + 1) X.A) (hb : Binds X.K fd ps ds) (hd : Vals dvs ds)
    (hx : Passes CX X E) (I : Inv X pins σ H s) (r : Vals vs us)
    (h : ∀ x dx, H x = none → H dx = none → dx ≠ x → sp (.ref x :: (vs ++ dvs)) (upd (upd H dx (.own x)) x (.ins C dx [])) (fun v H2 => v = .non ∧ Q (.ref x) H2) E) :
    wpAny (model X.prog X.w) X.A (call (.ref C) us) (EP X pins σ Q) X.xe s := by
  have hq := h (s.heap.objs.size + 1) s.heap.objs.size (I.hok.fresh (Nat.le_succ _)) (I.hok.fresh (Nat.le_refl _)) (Nat.ne_of_lt (Nat.lt_succ_self _))
  have I2 := Inv.made (C := C) I
  have r2 : Vals (V.ref (s.heap.objs.size + 1) :: (vs ++ dvs)) (Value.ref (s.heap.objs.size + 1) :: (us ++ ds)) := .cons rfl (r.append hd)
  have hl : (Value.ref (s.heap.objs.size + 1) :: us ++ ds).length = ps.length := by
    have e := r2.length
    rw [F.len _ _ _ _ hq] at e
    exact e.symm
  refine wpAny_call (make_map (f := f) I.kIn M.makes M.init (beq_iff_eq.mp M.fn) (codeAny_mono (F.run _ X.stack _ _ ⟨Value.ref (s.heap.objs.size + 1) :: us, []⟩ (Value.ref (s.heap.objs.size + 1) :: (us ++ ds)) _ _ E (hr.make C us [])
    (I2.env0.make C us []) (hb _ (Value.ref (s.heap.objs.size + 1) :: us) I2.kIn hl) r2 hq) fun r s' hq' => ?_))
  cases r with
  | error e => exact hx pins σ _ _ e s' I2 hq'
  | ok fl =>
    cases fl with
    | ret u =>
      obtain ⟨v, H', I3, rv, ev, q3⟩ := I2.after hq'
      subst ev
      exact ⟨rv, ⟨V.ref (s.heap.objs.size + 1), H', I3, rfl, q3⟩⟩
    | next => exact False.elim hq'
    | brk => exact False.elim hq'
    | cont => exact False.elim hq'
theorem pe_make0 (M : Mk X.K C f) (F : FnOk X.prog X.w X.K X.mg X.base CX k f fd ps sp) (hr : Room (k + 1) X.A) (hg : Gl X x) (hm : X.mg x = some (.ref C)) (hb : Binds X.K fd ps ds) (hd : Vals dvs ds) (hx : Passes CX X E)
    (hdb : (x == ("__debug__" : Str)) = false := by decide) : PE X (.Call (.Name x p) [] [] pos) (tMake C sp dvs E tNil) := by
  intro pins s σ H Q I h
  refine wpAny_Call_Name_kw (ld_glob I hg hm ?_ hdb)
  exact PySem.W.callWith_K0 I.kIn M.kp (run_make (us := []) M F hr hb hd hx I .nil h)
end
section
variable {X : Cx} {CX : CXT} {k : Nat} {f C : Addr} {fd : FuncData} {ps ks : List Str} {sp : Sp} {E : XK} {x m : Str} {p pos apos kpos : Pos} {e o : Expr} {es : List Expr} {kws : List Keyword} {te ta : TE} {t tk : TA} {nm : Option Str}
variable {g : List Value → List Value → List Value} {gV : List V → List V → List V}
end
structure FnScope (N P : List Str) (sc : Scope) : Prop where
  kind : sc.kind = .function
  co : sc.isCoroutine = false
  gen : sc.isGenerator = false
  nd : N.Nodup
  pre : N.take P.length = P
  par : ∀ x ∈ P, sc.names.lookup x = some .local ∨ sc.names.lookup x = some .cell
  nofree : ∀ y ∈ sc.names, y.2 ≠ .free
theorem bindL_out {kindOf : Str → Option NameKind} {x : Str} : ∀ {binds : List (Str × Value)} {m : Str → Option Value}, (∀ v, (x, v) ∉ binds) → bindL kindOf binds m x = m x
  | [], _, _ => rfl
  | (n, v) :: r, m, h => by
    unfold bindL
    rw [bindL_out fun w hw => h w (List.mem_cons_of_mem _ hw)]
    split
    · have : x ≠ n := by rintro rfl; exact h v List.mem_cons_self
      simp [this]
    · rfl
theorem bindC_out {kindOf : Str → Option NameKind} {x : Str} : ∀ {binds : List (Str × Value)} {m : Str → Option Value}, (∀ v, (x, v) ∉ binds) → bindC kindOf binds m x = m x
  | [], _, _ => rfl
  | (n, v) :: r, m, h => by
    unfold bindC
    rw [bindC_out fun w hw => h w (List.mem_cons_of_mem _ hw)]
    split
    · rfl
    · have : x ≠ n := by rintro rfl; exact h v List.mem_cons_self
      simp [this]
theorem bindL_get {kindOf : Str → Option NameKind} {x : Str} {v : Value} : ∀ {P : List Str} {vs : List Value} {i : Nat} {m : Str → Option Value}, P.Nodup → P[i]? = some x → vs[i]? = some v → kindOf x = some .local →
    bindL kindOf (P.zip vs) m x = some v
  | [], _, _, _, _, h, _, _ => by simp at h
  | _ :: _, [], _, _, _, _, h, _ => by simp at h
  | p :: P, w :: vs, 0, m, nd, h1, h2, hk => by
    simp at h1 h2; subst h1; subst h2
    show bindL kindOf ((p, w) :: P.zip vs) m p = _
    unfold bindL
    rw [bindL_out fun v hv => (List.nodup_cons.mp nd).1 (List.of_mem_zip hv).1, if_pos hk]
    simp
  | p :: P, w :: vs, i + 1, m, nd, h1, h2, hk => by
    show bindL kindOf ((p, w) :: P.zip vs) m x = _
    unfold bindL
    exact bindL_get (i := i) (List.nodup_cons.mp nd).2 (by simpa using h1) (by simpa using h2) hk
theorem bindC_get {kindOf : Str → Option NameKind} {x : Str} {v : Value} : ∀ {P : List Str} {vs : List Value} {i : Nat} {m : Str → Option Value}, P.Nodup → P[i]? = some x → vs[i]? = some v → kindOf x ≠ some .local →
    bindC kindOf (P.zip vs) m x = some v
  | [], _, _, _, _, h, _, _ => by simp at h
  | _ :: _, [], _, _, _, _, h, _ => by simp at h
  | p :: P, w :: vs, 0, m, nd, h1, h2, hk => by
    simp at h1 h2; subst h1; subst h2
    show bindC kindOf ((p, w) :: P.zip vs) m p = _
    unfold bindC
    rw [bindC_out fun v hv => (List.nodup_cons.mp nd).1 (List.of_mem_zip hv).1, if_neg hk]
    simp
  | p :: P, w :: vs, i + 1, m, nd, h1, h2, hk => by
    show bindC kindOf ((p, w) :: P.zip vs) m x = _
    unfold bindC
    exact bindC_get (i := i) (List.nodup_cons.mp nd).2 (by simpa using h1) (by simpa using h2) hk
noncomputable def start (N : List Str) (vs : List V) : St := vs.map some ++ List.replicate (N.length - vs.length) none
noncomputable def cxOf (CX : CXT) (P : Program) (w : World) (K : PySem.W.Frag) (mg : Str → Option Value) (base : Heap) (N : List Str) (qual : Str) (scope : Scope) (f : Addr) (cd : Value) (A : Around) (outer : List Env) (s : Shared) (H : Hp) (E : XK) : Cx where
  prog := P
  w := w
  K := K
  mg := mg
  base := base
  A := A.deeper (envOfC qual scope s.heap.objs.size f cd)
  N := N
  s_0 := s
  H_0 := H
  env := envOfC qual scope s.heap.objs.size f cd
  outer := outer
  stack := envOfC qual scope s.heap.objs.size f cd :: outer
  ex := []
  calm := true
  fn := fun _ => true
  pn := []
  xe := fun e s' => wpAny (model P w) (A.deeper (envOfC qual scope s.heap.objs.size f cd)) (leaving (envOfC qual scope s.heap.objs.size f cd) e) (fun _ s'' => CX outer H s E e s'') (fun e' s'' => CX outer H s E e' s'') s'
theorem cell_has {sc : Scope} {n : Nat} {x : Str} (h : sc.names.lookup x = some .cell) : ∃ c, (cellsFrom n sc.names []).lookup x = some c := by
  have q := PySem.W.cellsFrom_some sc.names n [] (.inl h)
  exact Option.isSome_iff_exists.mp q
theorem inv_start {CX : CXT} {P : Program} {w : World} {K : PySem.W.Frag} {mg : Str → Option Value} {base : Heap} {N ps : List Str} {qual : Str} {scope : Scope} {f : Addr} {cd : Value} {A : Around} {outer : List Env} {s s1 : Shared} {H : Hp} {E : XK} {us : List Value} {vs : List V}
    (S : FnScope N ps scope) (hd : A.handled = none) (e0 : Env0 P w K mg base A outer s H) (hl : vs.length = ps.length) (r : Vals vs us)
    (x : InCallC s s.heap.objs.size (bindL (envOfC qual scope s.heap.objs.size f cd).kindOf (ps.zip us) fun _ => none) (cellsFrom (s.heap.objs.size + 1) scope.names []) (bindC (envOfC qual scope s.heap.objs.size f cd).kindOf (ps.zip us) fun _ => none) s1) :
    Inv (cxOf CX P w K mg base N qual scope f cd A outer s H E) [] (start N vs) H s1 := by
  have hpl : ps.length ≤ N.length := by have := congrArg List.length S.pre; rw [List.length_take] at this; omega
  obtain ⟨h1, tk, rfl, hk⟩ := x.done
  have noA : ∀ b : Addr, b ∉ (cxOf CX P w K mg base N qual scope f cd A outer s H E).ex := fun b z => absurd (show b ∈ ([] : List Addr) from z) (by simp)
  refine ⟨⟨e0.mod, S.kind, rfl, rfl, Nat.le_refl _, fun y z c h1 h2 => ?_, fun y hy => ?_, fun y c _ h => ?_, fun _ => hd, Around.frames_deeper e0.frames, .inr ⟨rfl, rfl⟩, fun b z => absurd z (noA b), e0.bs, e0.bsz, fun b _ _ => noA b, fun b z => absurd z (noA b), e0.funs, e0.frf⟩,
    rfl, e0.bare, Un.kept hk, ⟨_, x.toInCall.ns, fun i y v h1 h2 h3 => ?_⟩, fun y c h => ⟨_, x.cell y c h⟩, e0.hok.fresh (Nat.le_refl _), fun y c h => ?_, fun p hp => absurd (show p ∈ ([] : List (Addr × Obj)) from hp) (by simp), e0.hok.kept hk, ?_⟩
  · exact name_of_addr x.apart (PySem.mem_of_lookup h1) (PySem.mem_of_lookup h2)
  · have hy : scope.names.lookup y = some .cell ∨ scope.names.lookup y = some .free := hy
    rcases hy with hy | hy
    · exact cell_has hy
    · exact absurd rfl (S.nofree _ (PySem.mem_of_lookup hy))
  · exact Nat.le_of_lt (x.above y c (PySem.mem_of_lookup h))
  · have hi : i < vs.length := by
      unfold start at h2
      by_cases hi : i < vs.length
      · exact hi
      · rw [List.getElem?_append_right (by simpa using hi)] at h2
        rw [List.getElem?_replicate] at h2
        split at h2 <;> cases h2
    have ha : vs[i]? = some v := by
      unfold start at h2
      rw [List.getElem?_append_left (by simpa using hi), List.getElem?_map] at h2
      cases e : vs[i]? with
      | none => rw [e] at h2; cases h2
      | some a => rw [e] at h2; cases h2; rfl
    obtain ⟨u, hu, rv⟩ := r.get ha
    have hp : ps[i]? = some y := by
      rw [← S.pre, List.getElem?_take_of_lt (by omega)]; exact h1
    have ndP : ps.Nodup := by rw [← S.pre]; exact S.nd.sublist (List.take_sublist _ _)
    refine ⟨u, rv, ?_⟩
    rcases S.par y (List.mem_of_getElem? hp) with k | k
    · exact .inl ⟨k, bindL_get ndP hp hu k⟩
    · obtain ⟨c, e⟩ := cell_has (n := s.heap.objs.size + 1) k
      refine .inr ⟨.inl k, c, e, ?_⟩
      have q := x.cell y c e
      rw [bindC_get ndP hp hu (by show scope.names.lookup y ≠ _; rw [k]; decide)] at q
      exact q
  · exact e0.hok.fresh (Nat.le_of_lt (x.above y c (PySem.mem_of_lookup h)))
  · unfold start
    show _ = N.length
    rw [List.length_append, List.length_map, List.length_replicate]
    omega
theorem fn_of {CX : CXT} {P : Program} {w : World} {K : PySem.W.Frag} {mg : Str → Option Value} {base : Heap} {k : Nat} {f : Addr} {name qual : Str} {params : Arguments} {body : List Stmt} {scope : Scope} {dV kV doc pm cdv ct oc : Value} {an od : Option Addr}
    {osl : Array (Option Value)} {N ps : List Str} {sp : Sp} (lk : K.lookup f = some ⟨oc, od, .func (PySem.W.fnOf name qual params body scope dV kV doc pm an cdv ct), osl⟩) (hcd : PySem.W.codeIn K cdv qual = true) (S : FnScope N ps scope)
    (len : ∀ vs H Q E, sp vs H Q E → vs.length = ps.length)
    (hbody : ∀ (A : Around) (outer : List Env) (s : Shared) (H : Hp) (vs : List V) (Q : VK) (E : XK), Room k (A.deeper (envOfC qual scope s.heap.objs.size f cdv)) → sp vs H Q E →
      ∃ t, PSs (cxOf CX P w K mg base N qual scope f cdv A outer s H E) body t ∧ t { nx := fun _ H' => Q .non H', rt := Q } (start N vs) H) :
    FnOk P w K mg base CX (k + 1) f (PySem.W.fnOf name qual params body scope dV kV doc pm an cdv ct) ps sp := by
  refine ⟨len, fun A outer s H args us vs Q E hr e0 hb r hsp => ?_⟩
  have hl := len _ _ _ _ hsp
  have KX : K.In s.heap := e0.mod.kin.keeps fun b o e => (e0.bs b o e).1
  have lim : s.heap.NoLimit := e0.mod.nolimit.keeps fun b o e => (e0.bs b o e).1
  have hkind : ∀ y ∈ ps.zip us, scope.names.lookup y.1 = some .local ∨ (scope.names.lookup y.1 = some .cell ∧ ((cellsFrom (s.heap.objs.size + 1) scope.names []).lookup y.1).isSome = true) := fun ⟨n, v⟩ hy => by
    rcases S.par n (List.of_mem_zip hy).1 with q | q
    · exact .inl q
    · exact .inr ⟨q, PySem.W.cellsFrom_some _ _ _ (.inl q)⟩
  refine codeAny_call_function hr.depth (KX _ _ lk) rfl S.co S.gen rfl (PySem.W.codeRec_of KX hcd) (hb _ _ _ _ ?_)
  refine wpAny_newFunctionEnv_cells S.kind hkind fun env he s1 x => ?_
  subst he
  refine ⟨lim.keeps x.toInCall.keep, codeAny_func ?_⟩
  obtain ⟨t, ht, hq⟩ := hbody A outer s H vs Q E (hr.deeper _) hsp
  have I : Inv (cxOf CX P w K mg base N qual scope f cdv A outer s H E) [] (start N vs) H s1 := inv_start S hr.hd e0 hl r x
  refine wpAny_mono (ht [] s1 (start N vs) H _ I hq) (fun fl s' hs => ?_) fun e s' hs => hs
  have fin : ∀ {σ' : St} {H' : Hp} {v : V} {u : Value}, Inv (cxOf CX P w K mg base N qual scope f cdv A outer s H E) [] σ' H' s' → RelV v u → Q v H' → CE outer P w H s Q u s' :=
    fun {σ' H' v u} J rv q => ⟨v, H', J.os, J.bare, J.base, J.hok, rv, q⟩
  cases fl with
  | ret u =>
    obtain ⟨v, σ', H', J, rv, q⟩ := hs
    exact fin J rv q
  | next =>
    obtain ⟨σ', H', J, q⟩ := hs
    exact fin (v := V.non) (u := Value.none) J rfl q
  | brk =>
    obtain ⟨_, _, _, q⟩ := hs
    exact False.elim q
  | cont =>
    obtain ⟨_, _, _, q⟩ := hs
    exact False.elim q
end L2
namespace L2
open PySem PySem.Spec PyProof.Rows
section
variable {X : Cx} {x : Str} {p pos : Pos} {e : Expr} {es : List Expr} {t : TA} {id T : String} {r : List V → Hp → VK → Prop}
noncomputable def tCB (r : List V → Hp → VK → Prop) (t : TA) : TE := fun σ H Q => t σ H fun vs H1 => r vs H1 Q
theorem pe_callB (hc : CallR X (.builtin id) r) (hg : Gl X x) (hm : X.mg x = none) (hv : bootBuiltins x = some (.builtin id)) (ha : PA X (e :: es) t) (hn : x ≠ "__name__" := by decide) (hdb : (x == ("__debug__" : Str)) = false := by decide)
    (he : starEach (e :: es) X.env = (false, eval e X.env) :: starEach es X.env := by rfl) (hpl : (backTo pos (starEach es X.env)).any (·.1) = false := by rfl) : PE X (.Call (.Name x p) (e :: es) [] pos) (tCB r t) := by
  intro pins s σ H Q I h
  refine wpAny_Call_Name_kw (ld_blt I hg hm hv ?_ hn hdb)
  exact PyProof.Rows.callWith_builtin1 (thn (ha pos pins s σ H _ I h) fun us s1 ⟨vs, H1, I1, r1, q1⟩ => hc pins s1 σ H1 vs us Q I1 r1 q1) he hpl
theorem pe_callTy (hc : CallR X (.type T) r) (hg : Gl X x) (hm : X.mg x = none) (hv : bootBuiltins x = some (.type T)) (ha : PA X (e :: es) t) (hn : x ≠ "__name__" := by decide) (hdb : (x == ("__debug__" : Str)) = false := by decide)
    (he : starEach (e :: es) X.env = (false, eval e X.env) :: starEach es X.env := by rfl) (hpl : (backTo pos (starEach es X.env)).any (·.1) = false := by rfl) : PE X (.Call (.Name x p) (e :: es) [] pos) (tCB r t) := by
  intro pins s σ H Q I h
  refine wpAny_Call_Name_kw (ld_blt I hg hm hv ?_ hn hdb)
  exact PyProof.Rows.callWith_type1 (thn (ha pos pins s σ H _ I h) fun us s1 ⟨vs, H1, I1, r1, q1⟩ => hc pins s1 σ H1 vs us Q I1 r1 q1) he hpl
end
end L2
namespace HT
open PySem PyProof.Rows
section
open PySem.SeqAt
open PySem.AutoSeq1 (wpAny_loadPart')
open PySem.MeetsSeq PySem.MeetsSeq2 PySem.MeetsSeq3
end
section
variable {prog : Program} {w : World} {A : Around} {E : Value → Shared → Prop} {s : Shared}
noncomputable def sIx (n d : Nat) : Option Int → Nat
  | none => d
  | some v => if v < 0 then (v + (n : Int)).toNat else min v.toNat n
theorem sIx_nat (n d k : Nat) : sIx n d (some (k : Int)) = min k n := by
  show (if (k : Int) < 0 then ((k : Int) + (n : Int)).toNat else min (k : Int).toNat n) = min k n
  rw [if_neg (by omega), Int.toNat_natCast]
end
end HT
namespace L2
open PySem PySem.Spec PyProof.Rows
noncomputable abbrev TO := St → Hp → (Option Int → Hp → Prop) → Prop
noncomputable def PO (X : Cx) (e : Option Expr) (t : TO) : Prop :=
  ∀ (pins : List (Addr × Obj)) (s : Shared) (σ : St) (H : Hp) (Q : Option Int → Hp → Prop), Inv X pins σ H s → t σ H Q →
    wpAny (model X.prog X.w) X.A (evalPart e X.env) (fun u s' => ∃ o H', Inv X pins σ H' s' ∧ IsPart u o ∧ Q o H') X.xe s
noncomputable def tPart (t : TE) : TO := fun σ H Q => t σ H fun x H1 => ∃ i, x = .int i ∧ Q (some i) H1
section
variable {X : Cx} {e : Expr} {te : TE} {lo hi : Option Expr} {tl th : TO} {pos p2 : Pos}
theorem po_some (h : PE X e te) : PO X (some e) (tPart te) := by
  intro pins s σ H Q I hw
  rw [evalPart_some]
  refine thn (h pins s σ H _ I hw) fun u s1 ⟨x, H1, I1, r1, q1⟩ => ?_
  obtain ⟨i, rfl, q⟩ := q1
  obtain ⟨t, rfl⟩ := r1
  exact ⟨some i, H1, I1, .int i t, q⟩
noncomputable def SlR (X : Cx) (r : V → Option Int → Option Int → Hp → VK → Prop) : Prop :=
  ∀ (pins : List (Addr × Obj)) (s : Shared) (σ : St) (H : Hp) (x : V) (v vl vu : Value) (lo hi : Option Int) (sl : Addr) (Q : VK), Inv X pins σ H s → RelV x v → s.heap.IsSliceOf sl vl vu .none → IsPart vl lo → IsPart vu hi → r x lo hi H Q →
    ∃ T id, typeLookup (.type T) "__getitem__" = pure (some (.builtin id)) ∧ s.TypeIs v T ∧ wpAny (model X.prog X.w) X.A (getItem v (.ref sl)) (EP X pins σ Q) X.xe s
noncomputable def tSl (r : V → Option Int → Option Int → Hp → VK → Prop) (te : TE) (tl th : TO) : TE := fun σ H Q => te σ H fun x H1 => tl σ H1 fun l H2 => th σ H2 fun u H3 => r x l u H3 Q
theorem pe_slice {r : V → Option Int → Option Int → Hp → VK → Prop} (hr : SlR X r) (he : PE X e te) (hl : PO X lo tl) (hu : PO X hi th) : PE X (.Subscript e (.Slice lo hi none p2) pos) (tSl r te tl th) := by
  intro pins s σ H Q I h
  refine Subscript_ (thn (he pins s σ H _ I h) fun v s1 ⟨x, H1, I1, r1, q1⟩ => ?_)
  refine wpAny_Slice (thn (hl pins s1 σ H1 _ I1 q1) fun vl s2 ⟨l, H2, I2, pl, q2⟩ => thn (hu pins s2 σ H2 _ I2 q2) fun vu s3 ⟨u, H3, I3, pu, q3⟩ => ?_)
  rw [evalPart_none]
  refine wpAny_pure ?_
  have I4 : Inv X pins σ H3 { s3 with heap := s3.heap.push { cls := .type "slice", data := .fields #[vl, vu, .none] } } := I3.kept (t' := s3.toks) fun b ob q => Heap.get?_push_of_some _ q
  obtain ⟨T, id, hT, ht, hg⟩ := hr pins { s3 with heap := s3.heap.push { cls := .type "slice", data := .fields #[vl, vu, .none] } } σ H3 x v vl vu l u s3.heap.objs.size Q I4 r1 (Heap.IsSliceOf.new ..) pl pu q3
  show wpAny (model X.prog X.w) X.A (subscriptTail e (.Slice lo hi none p2) v (.ref s3.heap.objs.size)) (EP X pins σ Q) X.xe { s3 with heap := s3.heap.push { cls := .type "slice", data := .fields #[vl, vu, .none] } }
  exact tail_any (ops := [.ref s3.heap.objs.size, v]) ht hT hg (by with_unfolding_all rfl)
noncomputable def cutV (xs : List V) (lo hi : Option Int) : List V := (xs.drop (HT.sIx xs.length 0 lo)).take (HT.sIx xs.length xs.length hi - HT.sIx xs.length 0 lo)
theorem cutV_length (xs : List V) (lo hi : Option Int) : (cutV xs lo hi).length ≤ xs.length := by
  unfold cutV
  rw [List.length_take, List.length_drop]
  omega
end
end L2
namespace L2
open PySem PySem.Spec PyProof.Rows
noncomputable def ixN (n : Nat) (i : Int) : Option Nat := if 0 ≤ i then (if i < n then some i.toNat else none) else if -(n : Int) ≤ i then some (i + n).toNat else none
noncomputable def atI {α : Type} (xs : List α) (i : Int) : Option α := (ixN xs.length i).bind fun j => xs[j]?
theorem ixN_seq {n : Nat} {i : Int} {j : Nat} (h : ixN n i = some j) : seqIndex? i n = some j ∧ j < n ∧ -(n : Int) ≤ i ∧ i < n := by
  unfold ixN at h
  by_cases h0 : 0 ≤ i
  · rw [if_pos h0] at h
    by_cases h1 : i < n
    · rw [if_pos h1] at h
      have e : i.toNat = j := Option.some.inj h
      exact ⟨by rw [seqIndex_of h0 h1, e], by omega, by omega, h1⟩
    · rw [if_neg h1] at h; cases h
  · rw [if_neg h0] at h
    by_cases h1 : -(n : Int) ≤ i
    · rw [if_pos h1] at h
      have e : (i + n).toNat = j := Option.some.inj h
      exact ⟨by rw [seqIndex_neg (by omega) h1, e], by omega, h1, by omega⟩
    · rw [if_neg h1] at h; cases h
theorem atI_get {α : Type} {xs : List α} {i : Int} {v : α} (h : atI xs i = some v) : ∃ j, seqIndex? i xs.length = some j ∧ xs[j]? = some v ∧ j < xs.length ∧ -(xs.length : Int) ≤ i ∧ i < xs.length := by
  unfold atI at h
  cases e : ixN xs.length i with
  | none => rw [e] at h; cases h
  | some j =>
    rw [e] at h
    obtain ⟨h1, h2, h3, h4⟩ := ixN_seq e
    exact ⟨j, h1, h, h2, h3, h4⟩
theorem atI_nat {α : Type} {xs : List α} {j : Nat} {v : α} (h : xs[j]? = some v) : atI xs (j : Int) = some v := by
  have hj : j < xs.length := (List.getElem?_eq_some_iff.mp h).1
  have e : ixN xs.length (j : Int) = some j := by
    unfold ixN
    rw [if_pos (by omega), if_pos (by omega)]; simp
  unfold atI; rw [e]; exact h
noncomputable def PlainIx (b : Expr) : Prop := ∀ o i, subscripted b false o i = operate [o, i] (getItem o i)
noncomputable def IxR (X : Cx) (r : R2) : Prop :=
  ∀ (value slice : Expr) (pins : List (Addr × Obj)) (s : Shared) (σ : St) (H : Hp) (x y : V) (v u : Value) (Q : VK), Inv X pins σ H s → RelV x v → RelV y u → r x y H Q →
    subscripted slice false v u = operate [v, u] (getItem v u) → wpAny (model X.prog X.w) X.A (subscriptTail value slice v u) (EP X pins σ Q) X.xe s
noncomputable def MtR (X : Cx) (id : String) (r : V → List V → Hp → VK → Prop) : Prop :=
  ∀ (pins : List (Addr × Obj)) (s : Shared) (σ : St) (H : Hp) (x : V) (xs : List V) (v : Value) (us : List Value) (Q : VK), Inv X pins σ H s → RelV x v → Vals xs us → r x xs H Q →
    wpAny (model X.prog X.w) X.A (call (.builtin id) (v :: us)) (EP X pins σ Q) X.xe s
section
variable {X : Cx} {a b : Expr} {ta tb : TE} {pos : Pos}
theorem pe_ix {r : R2} (hr : IxR X r) (ha : PE X a ta) (hb : PE X b tb) (hs : PlainIx b) : PE X (.Subscript a b pos) (tOp r ta tb) := by
  intro pins s σ H Q I h
  exact Subscript_ (binT ha hb I h fun v u s2 x y H2 I2 rx ry q => hr a b pins s2 σ H2 x y v u Q I2 rx ry q (hs _ _))
noncomputable def rIxL (K : PySem.W.Frag) : R2 := fun x y H Q => ∃ p xs i v, x = .ref p ∧ y = .int i ∧ SqL K H p xs ∧ atI xs i = some v ∧ Q v H
noncomputable def rIxT (K : PySem.W.Frag) : R2 := fun x y H Q => ∃ p xs i v, x = .ref p ∧ y = .int i ∧ SqT K H p xs ∧ atI xs i = some v ∧ Q v H
theorem ix_list : IxR X (rIxL X.K) := by
  intro value slice pins s σ H x y v u Q I rx ry h hs
  obtain ⟨p, xs, i, z, rfl, rfl, hq, he, q⟩ := h
  cases rx
  obtain ⟨t, rfl⟩ := ry
  obtain ⟨its, r, pl, hz⟩ := I.list hq
  obtain ⟨j, h1, h2, h3, h4, h5⟩ := atI_get he
  obtain ⟨w, ew, rw'⟩ := r.get h2
  have hl := r.length
  have hn := line63
  have fin : EP X pins σ Q w s := ⟨z, H, I, rw', q⟩
  by_cases h0 : 0 ≤ i
  · have hj : i.toNat = j := by
      rw [seqIndex_of h0 h5] at h1
      exact Option.some.inj h1
    exact item_listR pl.isList h0 (by omega) (by rw [hj]; simpa using ew) fin hs
  · have hj : (i + (its.toArray.size : Int)).toNat = j := by
      rw [seqIndex_neg (by omega) h4] at h1
      rw [List.size_toArray, ← hl]
      exact Option.some.inj h1
    exact subscriptTail_builtinR (x := w) pl.isList.typeIs slot_list_getitem.lookup
      (wpAny_getItem_list_neg (Q := fun r s' => r = w ∧ EP X pins σ Q r s') pl.isList (by omega) (by rw [List.size_toArray] <;> omega) (by omega) (by rw [hj]; simpa using ew) ⟨rfl, fin⟩) hs
theorem ix_tup : IxR X (rIxT X.K) := by
  intro value slice pins s σ H x y v u Q I rx ry h hs
  obtain ⟨p, xs, i, z, rfl, rfl, hq, he, q⟩ := h
  cases rx
  obtain ⟨t, rfl⟩ := ry
  obtain ⟨its, r, pl, hz⟩ := I.tuple hq
  obtain ⟨j, h1, h2, h3, h4, h5⟩ := atI_get he
  obtain ⟨w, ew, rw'⟩ := r.get h2
  have hl := r.length
  have hn := line63
  have fin : EP X pins σ Q w s := ⟨z, H, I, rw', q⟩
  exact subscriptTail_builtinR (x := w) pl.typeIs slot_tuple_getitem.lookup
    (getItem_tuple (j := j) (Q := fun r s' => r = w ∧ EP X pins σ Q r s') pl (by omega) (by omega) (by rw [List.size_toArray, ← hl]; exact h1) (by simpa using ew) ⟨rfl, fin⟩) hs
theorem slice_bounds (lo hi : Option Int) (n : Nat) : (sliceBounds lo hi none n).1 = ((HT.sIx n 0 lo : Nat) : Int) ∧ (sliceBounds lo hi none n).2.1 = ((HT.sIx n n hi : Nat) : Int) ∧ (sliceBounds lo hi none n).2.2 = 1 := by
  refine ⟨?_, ?_, rfl⟩
  · cases lo with
    | none => simp [sliceBounds, HT.sIx]
    | some i =>
      simp only [sliceBounds, HT.sIx, Option.getD_none, show (1 : Int) > 0 by decide, if_true]
      by_cases h : i < 0
      · simp only [h, if_true] <;> omega
      · simp only [h, if_false] <;> omega
  · cases hi with
    | none => simp [sliceBounds, HT.sIx]
    | some i =>
      simp only [sliceBounds, HT.sIx, Option.getD_none, show (1 : Int) > 0 by decide, if_true]
      by_cases h : i < 0
      · simp only [h, if_true] <;> omega
      · simp only [h, if_false] <;> omega
theorem slicePick_cut (its : List Value) (lo hi : Option Int) : slicePick its.toArray lo hi none = ((its.drop (HT.sIx its.length 0 lo)).take (HT.sIx its.length its.length hi - HT.sIx its.length 0 lo)).toArray := by
  obtain ⟨h1, h2, h3⟩ := slice_bounds lo hi its.toArray.size
  unfold slicePick
  rw [h1, h2, h3]
  simp only [sliceRange_one, pick_run, List.size_toArray] <;> rfl
noncomputable def rSlL (K : PySem.W.Frag) : V → Option Int → Option Int → Hp → VK → Prop := fun x lo hi H Q => ∃ a xs, x = .ref a ∧ SqL K H a xs ∧ ∀ p, H p = none → Q (.ref p) (upd H p (.lst (cutV xs lo hi)))
theorem sl_list : SlR X (rSlL X.K) := by
  intro pins s σ H x v vl vu lo hi sl Q I rx hs pl pu h
  obtain ⟨a, xs, rfl, hx, q⟩ := h
  cases rx
  obtain ⟨its, r, ht, hz⟩ := I.list hx
  have hlen := r.length
  refine ⟨"list", _, slot_list_getitem.lookup, ht.isList.typeIs, ?_⟩
  refine wpAny_getItem_list_slice ht.isList hs pl pu .none (by simp) ?_ (by rw [List.size_toArray] <;> omega)
  rw [slicePick_cut, ← hlen]
  refine ⟨.ref s.heap.objs.size, _, I.laid (t' := s.toks) (o := .lst (cutV xs lo hi)) (fun b ob q => Heap.get?_push_of_some _ q) (Nat.le_refl _) ?_, rfl, q _ (I.hok.fresh (Nat.le_refl _))⟩
  exact ⟨Nat.le_trans (cutV_length xs lo hi) hz, _, 0, (r.drop (HT.sIx xs.length 0 lo)).take (HT.sIx xs.length xs.length hi - HT.sIx xs.length 0 lo), Heap.get?_push_size _ rfl⟩
noncomputable def flatV : V → Bool
  | .non => true
  | .bl _ => true
  | .int _ => true
  | .str _ => true
  | _ => false
noncomputable def eqV : V → V → Bool
  | .non, .non => true
  | .bl a, .bl b => a == b
  | .bl a, .int b => (if a then 1 else 0) == b
  | .int a, .bl b => a == (if b then 1 else 0)
  | .int a, .int b => a == b
  | .str a, .str b => a == b
  | _, _ => false
theorem eqAt_V {A : Around} {s : Shared} {y x : V} {u v : Value} (ry : RelV y u) (rx : RelV x v) (fy : flatV y = true) (fx : flatV x = true) : SeqAt.EqAt A s u v (eqV y x) := by
  cases y with
  | non =>
    cases ry
    cases x with
    | non => cases rx; exact SeqAt.EqAt.same _
    | bl b => cases rx; exact SeqAt.EqAt.none_bool b
    | int b => obtain ⟨t, rfl⟩ := rx; exact SeqAt.EqAt.none_int b t
    | str b => obtain ⟨t, rfl⟩ := rx; exact SeqAt.EqAt.none_str b t
    | _ => exact absurd (show false = true from fx) Bool.false_ne_true
  | bl a =>
    cases ry
    cases x with
    | non => cases rx; exact SeqAt.EqAt.bool_none a
    | bl b => cases rx; exact SeqAt.EqAt.bool_bool a b
    | int b => obtain ⟨t, rfl⟩ := rx; exact SeqAt.EqAt.bool_int a b t
    | str b => obtain ⟨t, rfl⟩ := rx; exact SeqAt.EqAt.bool_str a b t
    | _ => exact absurd (show false = true from fx) Bool.false_ne_true
  | int a =>
    obtain ⟨t', rfl⟩ := ry
    cases x with
    | non => cases rx; exact SeqAt.EqAt.int_none a t'
    | bl b => cases rx; exact SeqAt.EqAt.int_bool a t' b
    | int b => obtain ⟨t, rfl⟩ := rx; exact SeqAt.EqAt.int_int a t' b t
    | str b => obtain ⟨t, rfl⟩ := rx; exact SeqAt.EqAt.int_str a t' b t
    | _ => exact absurd (show false = true from fx) Bool.false_ne_true
  | str a =>
    obtain ⟨t', rfl⟩ := ry
    cases x with
    | non => cases rx; exact SeqAt.EqAt.str_none a t'
    | bl b => cases rx; exact SeqAt.EqAt.str_bool a t' b
    | int b => obtain ⟨t, rfl⟩ := rx; exact SeqAt.EqAt.str_int a t' b t
    | str b => obtain ⟨t, rfl⟩ := rx; exact SeqAt.EqAt.str_str a t' b t
    | _ => exact absurd (show false = true from fx) Bool.false_ne_true
  | _ => exact absurd (show false = true from fy) Bool.false_ne_true
noncomputable def eqU (x : V) (u : Value) : Bool := match u with
  | .none => eqV .non x
  | .bool b => eqV (.bl b) x
  | .int i _ => eqV (.int i) x
  | .str z _ => eqV (.str z) x
  | _ => false
theorem eqU_of {x y : V} {u : Value} (r : RelV y u) (f : flatV y = true) : eqU x u = eqV y x := by
  cases y with
  | non => cases r; rfl
  | bl b => cases r; rfl
  | int i => obtain ⟨t, rfl⟩ := r; rfl
  | str z => obtain ⟨t, rfl⟩ := r; rfl
  | _ => exact absurd (show false = true from f) Bool.false_ne_true
theorem any_eqU {x : V} : ∀ {xs : List V} {us : List Value}, Vals xs us → xs.all flatV = true → us.any (eqU x) = xs.any fun y => eqV y x
  | _, _, .nil, _ => rfl
  | y :: xs, u :: us, .cons r t, f => by
    rw [List.all_cons, Bool.and_eq_true] at f
    rw [List.any_cons, List.any_cons, eqU_of r f.1, any_eqU t f.2]
theorem mem_eqAt {A : Around} {s : Shared} {x : V} {v : Value} (rx : RelV x v) (fx : flatV x = true) : ∀ {xs : List V} {us : List Value}, Vals xs us → xs.all flatV = true → ∀ u ∈ us, SeqAt.EqAt A s u v (eqU x u)
  | _, _, .nil, _ => fun u hu => by cases hu
  | y :: xs, u :: us, .cons r t, f => fun u' hu => by
    rw [List.all_cons, Bool.and_eq_true] at f
    rcases List.mem_cons.mp hu with rfl | hu
    · rw [eqU_of r f.1]; exact eqAt_V r rx f.1 fx
    · exact mem_eqAt rx fx t f.2 u' hu
noncomputable def inV (x : V) (xs : List V) : Bool := xs.any fun y => eqV y x
noncomputable def rIn (K : PySem.W.Frag) (neg : Bool) : R2 := fun x y H Q => ∃ p xs, y = .ref p ∧ (SqL K H p xs ∨ SqT K H p xs) ∧ flatV x = true ∧ xs.all flatV = true ∧ Q (.bl (if neg then !inV x xs else inV x xs)) H
theorem op_notIn_seq : OpR X (compareOp .NotIn) (rIn X.K true) := by
  intro pins s σ H x y v u Q I rx ry h
  obtain ⟨p, xs, rfl, hq, fx, fs, q⟩ := h
  cases ry
  rcases hq with hq | hq
  · obtain ⟨its, r, pl, hz⟩ := I.list hq
    refine SeqAt.notIn_listAt (eqU x) pl.isList (fun w hw => mem_eqAt rx fx r fs w (by simpa using hw)) ⟨.bl _, H, I, rfl, ?_⟩
    rw [show its.toArray.any (eqU x) = its.any (eqU x) by simp, any_eqU r fs]
    exact q
  · obtain ⟨its, r, pl, hz⟩ := I.tuple hq
    refine SeqAt.notIn_tupleAt (eqU x) pl (fun w hw => mem_eqAt rx fx r fs w (by simpa using hw)) ⟨.bl _, H, I, rfl, ?_⟩
    rw [show its.toArray.any (eqU x) = its.any (eqU x) by simp, any_eqU r fs]
    exact q
theorem call_len_seq : CallR X (.builtin "len") (fun xs H Q => ∃ p ys, xs = [.ref p] ∧ (SqL X.K H p ys ∨ SqT X.K H p ys) ∧ Q (.int ys.length) H) := by
  intro pins s σ H xs us Q I r h
  obtain ⟨p, ys, rfl, hq, q⟩ := h
  obtain ⟨u, rfl, rx⟩ := vals1 r
  cases rx
  have hn := line63
  rcases hq with hq | hq
  · obtain ⟨its, r', pl, hz⟩ := I.list hq
    have hlen := r'.length
    exact Calls.call_len_list pl.isList (by simp only [List.size_toArray] <;> omega) ⟨.int ys.length, H, I.tok _, ⟨s.toks + 1, by rw [List.size_toArray, hlen]⟩, q⟩
  · obtain ⟨its, r', pl, hz⟩ := I.tuple hq
    have hlen := r'.length
    exact len_tuple pl (by simp only [List.size_toArray] <;> omega) ⟨.int ys.length, H, I.tok _, ⟨s.toks + 1, by rw [List.size_toArray, hlen]⟩, q⟩
theorem call_list_of : CallR X (.type "list") (fun xs H Q => ∃ p ys, xs = [.ref p] ∧ (SqL X.K H p ys ∨ SqT X.K H p ys) ∧ ∀ l, H l = none → Q (.ref l) (upd H l (.lst ys))) := by
  intro pins s σ H xs us Q I r h
  obtain ⟨p, ys, rfl, hq, q⟩ := h
  obtain ⟨u, rfl, rx⟩ := vals1 r
  cases rx
  have fin : ∀ (its : List Value), Vals ys its → ys.length ≤ sizeLine → ∀ (h' : Heap) (c' : Nat), (∀ b o', s.heap.get? b = some o' → h'.get? b = some o') →
      h'.get? s.heap.objs.size = some { cls := .type "list", dict := none, data := .seq its.toArray c', slots := #[] } → EP X pins σ Q (.ref s.heap.objs.size) { s with heap := h' } := fun its r' hz h' c' kp e =>
    ⟨.ref s.heap.objs.size, _, I.laid (t' := s.toks) kp (Nat.le_refl _) (show ObjOk X.prog X.w _ h' _ (.lst ys) from ⟨hz, its, c', r', e⟩), rfl, q _ (I.hok.fresh (Nat.le_refl _))⟩
  rcases hq with hq | hq
  · obtain ⟨its, r', pl, hz⟩ := I.list hq
    have hlen := r'.length
    obtain ⟨o, ho, hc, n, hd⟩ := pl.isList
    exact call_list_seq p (.inl rfl) ho hc hd (fun h' c' kp e => fin its r' hz h' c' kp e) (by simp only [List.size_toArray] <;> omega)
  · obtain ⟨its, r', pl, hz⟩ := I.tuple hq
    have hlen := r'.length
    obtain ⟨o, ho, hc, n, hd⟩ := pl
    exact call_list_seq p (.inr rfl) ho hc hd (fun h' c' kp e => fin its r' hz h' c' kp e) (by simp only [List.size_toArray] <;> omega)
noncomputable def tyV (K : PySem.W.Frag) (T : String) (x : V) (H : Hp) : Prop := match x with
  | .str _ => T = "str"
  | .int _ => T = "int"
  | .ref p => (T = "list" ∧ ∃ xs, SqL K H p xs) ∨ (T = "tuple" ∧ ∃ o, K.lookup p = some o ∧ o.cls = .type "tuple" ∧ o.dict = none) ∨
      (T = "dict" ∧ ((∃ kvs, H p = some (.dK kvs)) ∨ ∃ kvs, H p = some (.dT kvs))) ∨ (T = "set" ∧ ∃ S n, H p = some (.set S n))
  | _ => False
theorem tyV_is {pins : List (Addr × Obj)} {σ : St} {H : Hp} {s : Shared} {T : String} {x : V} {v : Value} (I : Inv X pins σ H s) (r : RelV x v) (ty : tyV X.K T x H) :
    s.TypeIs v T ∧ ∀ a, v = .ref a → ∃ ob, s.heap.get? a = some ob ∧ ob.dict = none := by
  cases x with
  | str z =>
    obtain ⟨t, rfl⟩ := r
    cases (show T = "str" from ty)
    exact ⟨typeIs_str s z t, fun _ e => nomatch e⟩
  | int i =>
    obtain ⟨t, rfl⟩ := r
    cases (show T = "int" from ty)
    exact ⟨typeIs_int s i t, fun _ e => nomatch e⟩
  | ref p =>
    cases r
    rcases ty with ⟨rfl, xs, hq⟩ | ⟨rfl, o, hk, hc, hd⟩ | ⟨rfl, hk⟩ | ⟨rfl, S, n, hk⟩
    · obtain ⟨its, _, pl, _⟩ := I.list hq
      refine ⟨pl.isList.typeIs, fun a e => ?_⟩
      cases e
      obtain ⟨o, n, e, c, hd, _⟩ := pl
      exact ⟨o, e, hd⟩
    · refine ⟨⟨o, I.kIn p o hk, hc⟩, fun a e => ?_⟩
      cases e
      exact ⟨o, I.kIn _ o hk, hd⟩
    · have z : ∃ o, s.heap.get? p = some o ∧ o.ExactDict := by
        rcases hk with ⟨kvs, hk⟩ | ⟨kvs, hk⟩
        · obtain ⟨_, _, _, _, o, _, _, e, ex, _⟩ := I.hok p _ hk
          exact ⟨o, e, ex⟩
        · obtain ⟨_, _, _, _, o, _, _, e, ex, _⟩ := I.hok p _ hk
          exact ⟨o, e, ex⟩
      obtain ⟨o, e, ex⟩ := z
      refine ⟨⟨o, e, ex.1⟩, fun a e2 => ?_⟩
      cases e2
      exact ⟨o, e, ex.2.1⟩
    · obtain ⟨o, _, _, _, e, ex, _⟩ := I.hok p _ hk
      refine ⟨⟨o, e, ex.1⟩, fun a e2 => ?_⟩
      cases e2
      exact ⟨o, e, ex.2.1⟩
  | _ => exact False.elim ty
noncomputable def tBM (K : PySem.W.Frag) (T : String) (r : V → List V → Hp → VK → Prop) (to : TE) (t : TA) : TE := fun σ H Q => to σ H fun x H1 => tyV K T x H1 ∧ t σ H1 fun xs H2 => r x xs H2 Q
variable {o e : Expr} {es : List Expr} {to : TE} {t : TA} {name : Str} {apos cpos : Pos} {T id : String} {r : V → List V → Hp → VK → Prop}
theorem pe_bm (pa : PlainAttrs T) (slot : Slot T name id) (hty : typeOf (.builtin id) = pure (.type "method_descriptor")) (hm : MtR X id r) (ho : PE X o to) (ha : PA X (e :: es) t)
    (hbase : attributeBase o name X.env (eval o X.env) = eval o X.env := by rfl)
    (hfew : ((backTo cpos (starEach (e :: es) X.env)).all (fun x => !x.1) && (backToKw cpos (keywordEach [] X.env)).all (fun x => x.1.isSome)
      && decide ((e :: es).length + ([] : List Keyword).length + (if ([] : List Keyword).isEmpty then 0 else 1) < 30)) = true := by rfl)
    (hline : (apos.endLine == cpos.line) = true := by rfl) (hs : starEach (e :: es) X.env = (false, eval e X.env) :: starEach es X.env := by rfl) (hplain : (backTo cpos (starEach es X.env)).any (·.1) = false := by rfl) :
    PE X (.Call (.Attribute o name apos) (e :: es) [] cpos) (tBM X.K T r to t) := by
  intro pins s σ H Q I h
  refine wpAny_Call_method_late hbase hfew hline rfl (thn (ho pins s σ H _ I h) fun v s1 ⟨x, H1, I1, r1, ty, q1⟩ => ?_)
  obtain ⟨h1, h2⟩ := tyV_is I1 r1 ty
  refine ⟨T, id, pa, slot, hty, h1, h2, ?_⟩
  have hA := ha cpos pins s1 σ H1 _ I1 q1
  rw [hs] at hA ⊢
  refine Calls.callWith_builtin (by show (false || (backTo cpos (starEach es X.env)).any (·.1)) = false; rw [hplain] <;> rfl) (Calls.evalArgs_plain ?_)
  exact thn hA fun us s2 ⟨vs, H2, I2, r2, q2⟩ => hm pins s2 σ H2 x vs v us Q I2 r1 r2 q2
/- xs.append(e), list.index on a module's tuple .. are MtR facts of 06m -/
end
end L2
namespace L2
open PySem PySem.Spec PyProof.Rows
noncomputable def MtM (X : Cx) (id : String) (r : V → List V → Hp → VK → Prop) : Prop :=
  ∀ (pins : List (Addr × Obj)) (s : Shared) (σ : St) (H : Hp) (x : V) (xs : List V) (v : Value) (us : List Value) (Q : VK), Inv X pins σ H s → RelV x v → Vals xs us → r x xs H Q →
    wpAny (model X.prog X.w) X.A (call (.builtin id) (v :: us)) (EP X pins σ Q) X.xe s
theorem Vals.one : ∀ {x : V} {us : List Value}, Vals [x] us → ∃ u, us = [u] ∧ RelV x u
  | _, _, .cons r .nil => ⟨_, rfl, r⟩
theorem Vals.eraseIdx : ∀ {xs : List V} {us : List Value} (i : Nat), Vals xs us → Vals (xs.eraseIdx i) (us.eraseIdx i)
  | _, _, _, .nil => .nil
  | _, _, 0, .cons _ t => t
  | _, _, i + 1, .cons r t => .cons r (Vals.eraseIdx i t)
section
variable {X : Cx} {pins : List (Addr × Obj)} {σ : St} {H : Hp} {s : Shared} {l b : Addr} {xs ys zs : List V}
theorem Inv.lset {its its' : List Value} {n : Nat} {f : Array Value → Array Value} {t' : Nat} (I : Inv X pins σ H s) (hH : H l = some (.lst xs))
    (e : s.heap.get? l = some { cls := .type "list", data := .seq its.toArray n }) (hf : f its.toArray = its'.toArray) (hv : Vals ys its') (hz : ys.length ≤ sizeLine) :
    Inv X pins σ (upd H l (.lst ys)) { s with heap := s.heap.update l (Obj.mapSeq f), toks := t' } := by
  have q := PySem.IsL.update e f
  rw [hf] at q
  refine I.write (x := l) (e := l) (by rw [hH]; exact trivial) (.inl rfl) (fun b' u hb hu => (Heap.get?_update_other s.heap (Obj.mapSeq f) (Ne.symm hb)).trans hu) ⟨_, q⟩ ?_
  exact ⟨hz, its', _, hv, q⟩
theorem Inv.lnew {its : List Value} {t' : Nat} (I : Inv X pins σ H s) (hv : Vals ys its) (hz : ys.length ≤ sizeLine) :
    Inv X pins σ (upd H s.heap.objs.size (.lst ys)) { s with heap := s.heap.push { cls := .type "list", data := .seq its.toArray }, toks := t' } :=
  I.laid (fun _ _ q => Heap.get?_push_of_some _ q) (Nat.le_refl _) ⟨hz, its, 0, hv, Heap.get?_push_size _ rfl⟩
theorem Inv.fresh (I : Inv X pins σ H s) : H s.heap.objs.size = none := I.hok.fresh (Nat.le_refl _)
theorem Inv.lstM (I : Inv X pins σ H s) (hH : H l = some (.lst xs)) : xs.length ≤ sizeLine ∧ ∃ (its : List Value) (n : Nat), Vals xs its ∧ xs.length = its.length ∧ s.heap.get? l = some { cls := .type "list", data := .seq its.toArray n } := by
  obtain ⟨z, its, n, r, e⟩ := I.hok l _ hH
  exact ⟨z, its, n, r, r.length, e⟩
theorem notLongL {n : Nat} (h : n ≤ sizeLine) : Builtin.List.listTooLong n = false := by
  unfold Builtin.List.listTooLong
  exact decide_eq_false (by omega)
end
section
variable {X : Cx}
noncomputable def rAppend : V → List V → Hp → VK → Prop := fun x vs H Q => ∃ l xs y, x = .ref l ∧ vs = [y] ∧ H l = some (.lst xs) ∧ xs.length < sizeLine ∧ Q .non (upd H l (.lst (xs ++ [y])))
theorem mt_append : MtM X "list.append" rAppend := by
  intro pins s σ H x vs v us Q I rx rv h
  obtain ⟨l, xs, y, rfl, rfl, hH, hz, q⟩ := h
  cases rx
  obtain ⟨u, rfl, ru⟩ := rv.one
  obtain ⟨z, its, n, r, hl, e⟩ := I.lstM hH
  refine call_meets F.slot_list_append ⟨_, e, rfl⟩ F.entry_list_append (F.args_list_append_2 _ _) (PySem.list_append l its.toArray n u (by rw [List.size_toArray]; omega)) ⟨e, ?_⟩
  refine ⟨.non, _, I.lset (its' := its ++ [u]) hH e (by simp) (r.append (.cons ru .nil)) ?_, rfl, q⟩
  rw [List.length_append, List.length_singleton]
  omega
noncomputable def rExtend : V → List V → Hp → VK → Prop := fun x vs H Q => ∃ l b xs zs, x = .ref l ∧ vs = [.ref b] ∧ H l = some (.lst xs) ∧ H b = some (.lst zs) ∧ xs.length + zs.length ≤ sizeLine ∧ Q .non (upd H l (.lst (xs ++ zs)))
theorem mt_extend : MtM X "list.extend" rExtend := by
  intro pins s σ H x vs v us Q I rx rv h
  obtain ⟨l, b, xs, zs, rfl, rfl, hH, hB, hz, q⟩ := h
  cases rx
  obtain ⟨u, rfl, ru⟩ := rv.one
  cases ru
  obtain ⟨z, its, n, r, hl, e⟩ := I.lstM hH
  obtain ⟨z2, its2, n2, r2, hl2, e2⟩ := I.lstM hB
  have hsz : its.toArray.size + its2.toArray.size ≤ sizeLine := by rw [List.size_toArray, List.size_toArray]; omega
  have hlong : ¬ (!its.toArray.isEmpty && Builtin.List.listTooLong (its.toArray.size + its2.toArray.size)) = true := by
    rw [notLongL hsz, Bool.and_false]
    exact Bool.false_ne_true
  refine call_meets F.slot_list_extend ⟨_, e, rfl⟩ F.entry_list_extend (F.args_list_extend_2 _ _)
    (AutoSeq1.list_extend_list_list_0 l its.toArray n b its2.toArray n2 hlong (by rw [List.size_toArray]; omega) (by omega)) ⟨e, e2, ?_⟩
  refine ⟨.non, _, I.lset (its' := its ++ its2) hH e (by simp) (r.append r2) ?_, rfl, q⟩
  rw [List.length_append]
  omega
noncomputable def rCat : R2 := fun x y H Q => ∃ l b xs zs, x = .ref l ∧ y = .ref b ∧ H l = some (.lst xs) ∧ H b = some (.lst zs) ∧ xs.length + zs.length ≤ sizeLine ∧ ∀ p, H p = none → Q (.ref p) (upd H p (.lst (xs ++ zs)))
theorem op_cat : OpR X (binaryOp .Add) rCat := by
  intro pins s σ H x y v u Q I rx ry h
  obtain ⟨l, b, xs, zs, rfl, rfl, hH, hB, hz, q⟩ := h
  cases rx
  cases ry
  obtain ⟨z, its, n, r, hl, e⟩ := I.lstM hH
  obtain ⟨z2, its2, n2, r2, hl2, e2⟩ := I.lstM hB
  refine PySem.P.add_list e e2 ?_ (by rw [List.size_toArray, List.size_toArray]; omega)
  have ea : its.toArray ++ its2.toArray = (its ++ its2).toArray := by simp
  rw [ea]
  exact ⟨.ref _, _, I.lnew (t' := s.toks) (r.append r2) (by rw [List.length_append]; omega), rfl, q _ I.fresh⟩
end
section
variable {prog : Program} {w : World} {A : Around} {E : Value → Shared → Prop} {s : Shared}
end
section
variable {X : Cx}
end
end L2
namespace L2
open PySem PySem.Spec PyProof.Rows
theorem Vals.ints : ∀ {ns : List Int} {us : List Value}, Vals (ns.map V.int) us → IntsAre us ns
  | [], us, h => by
    rw [List.map_nil] at h
    cases h
    exact IntsAre.nil
  | n :: ns, us, h => by
    rw [List.map_cons] at h
    cases h with
    | cons r t =>
      obtain ⟨k, rfl⟩ := r
      exact IntsAre.cons n k (Vals.ints t)
section
variable {prog : Program} {w : World} {A : Around} {E : Value → Shared → Prop} {s : Shared} {l : Addr} {its : List Value} {ns : List Int} {Q : Value → Shared → Prop}
end
section
variable {X : Cx}
end
section
variable {X : Cx}
end
section
variable {X : Cx}
end
section
variable {X : Cx}
end
section
variable {X : Cx} {pins : List (Addr × Obj)} {σ : St} {H : Hp} {s : Shared}
end
section
variable {X : Cx}
end
end L2
namespace L2
open PySem PySem.Spec PyProof.Rows
noncomputable abbrev CellAt (h : Heap) (c : Addr) (v : Option Value) : Prop := h.IsCell c v
noncomputable def relS (scope sc : Scope) : Scope :=
  { scope with names := scope.names.map fun (n, k) => if (k == .free && sc.kind == .function && sc.names.lookup n == some .cell) then (n, .cell) else (n, k) }
noncomputable def cloFrom (cells : List (Str × Addr)) : List (Str × NameKind) → List (Str × Addr) → List (Str × Addr)
  | [], acc => acc
  | (n, k) :: r, acc => if k == .free then cloFrom cells r ((n, (cells.lookup n).getD 0) :: acc) else cloFrom cells r acc
theorem closure_loop (env : Env) (f : Str × NameKind → List (Str × Addr) → Sem (ForInStep (List (Str × Addr))))
    (hf : ∀ n k c, f (n, k) c = if k == .free then (do let a ← cellOf env n; pure (.yield ((n, a) :: c))) else pure (.yield c)) :
    ∀ (names : List (Str × NameKind)) (acc : List (Str × Addr)), (∀ y ∈ names, y.2 = .free → ∃ c, env.cells.lookup y.1 = some c) → forIn names acc f = pure (cloFrom env.cells names acc)
  | [], acc, _ => by rw [List.forIn_nil]; rfl
  | (n, k) :: r, acc, h => by
    rw [List.forIn_cons, hf]
    have ih := fun acc => closure_loop env f hf r acc fun y hy => h y (List.mem_cons_of_mem _ hy)
    unfold cloFrom
    by_cases hk : (k == NameKind.free) = true
    · rw [if_pos hk, if_pos hk]
      obtain ⟨c, hc⟩ := h (n, k) List.mem_cons_self (by simpa using hk)
      have e : cellOf env n = pure c := by unfold cellOf; rw [hc]
      rw [e]
      have e2 : (env.cells.lookup n).getD 0 = c := by rw [hc]; rfl
      rw [e2]
      exact ih _
    · rw [if_neg hk, if_neg hk]
      exact ih _
theorem closure_ok {scope : Scope} {env : Env} (h : ∀ y ∈ scope.names, y.2 = .free → ∃ c, env.cells.lookup y.1 = some c) : closureFor scope env = pure (cloFrom env.cells scope.names []) := by
  simp only [closureFor]
  rw [closure_loop env _ (fun n k c => rfl) scope.names [] h]
  rfl
theorem mem_lookup {α : Type} : ∀ {l : List (Str × α)} {n : Str} {c : α}, (n, c) ∈ l → ∃ c', l.lookup n = some c'
  | (k, v) :: r, n, c, h => by
    rw [List.lookup_cons]
    cases hb : n == k with
    | true => exact ⟨_, rfl⟩
    | false =>
      rcases List.mem_cons.mp h with e | h
      · cases e; simp at hb
      · exact mem_lookup h
theorem cloFrom_mem {cells : List (Str × Addr)} : ∀ {names : List (Str × NameKind)} {acc : List (Str × Addr)} {n : Str} {c : Addr}, (n, c) ∈ cloFrom cells names acc → (n, c) ∈ acc ∨ ((n, .free) ∈ names ∧ c = (cells.lookup n).getD 0)
  | [], _, _, _, h => .inl h
  | (m, k) :: r, acc, n, c, h => by
    unfold cloFrom at h
    split at h
    · rename_i hk
      have hk : k = .free := by simpa using hk
      rcases cloFrom_mem h with h | ⟨h1, h2⟩
      · rcases List.mem_cons.mp h with e | h
        · cases e; exact .inr ⟨hk ▸ List.mem_cons_self, rfl⟩
        · exact .inl h
      · exact .inr ⟨List.mem_cons_of_mem _ h1, h2⟩
    · rcases cloFrom_mem h with h | ⟨h1, h2⟩
      · exact .inl h
      · exact .inr ⟨List.mem_cons_of_mem _ h1, h2⟩
theorem cloFrom_acc {cells : List (Str × Addr)} : ∀ {names : List (Str × NameKind)} {acc : List (Str × Addr)} {p : Str × Addr}, p ∈ acc → p ∈ cloFrom cells names acc
  | [], _, _, h => h
  | (m, k) :: r, acc, p, h => by
    unfold cloFrom
    split
    · exact cloFrom_acc (List.mem_cons_of_mem _ h)
    · exact cloFrom_acc h
theorem cloFrom_has {cells : List (Str × Addr)} : ∀ {names : List (Str × NameKind)} {acc : List (Str × Addr)} {n : Str}, (n, .free) ∈ names → (n, (cells.lookup n).getD 0) ∈ cloFrom cells names acc
  | (m, k) :: r, acc, n, h => by
    unfold cloFrom
    rcases List.mem_cons.mp h with e | h
    · cases e
      exact cloFrom_acc List.mem_cons_self
    · split
      · exact cloFrom_has h
      · exact cloFrom_has h
theorem cells_mem : ∀ {names : List (Str × NameKind)} {h : Heap} {acc : List (Str × Addr)} {x : Str} {c : Addr}, (x, c) ∈ cellsFrom h.objs.size names acc →
    (x, c) ∈ acc ∨ ((x, .cell) ∈ names ∧ h.objs.size ≤ c ∧ CellAt (pushCells h names) c none)
  | [], _, _, _, _, h => .inl h
  | (n, k) :: r, h, acc, x, c, hm => by
    unfold cellsFrom at hm
    unfold pushCells
    split at hm
    · rename_i hk
      rw [if_pos hk]
      have hk : k = .cell := by simpa using hk
      rw [← Heap.size_push h { cls := .type "cell", data := .cell none }] at hm
      rcases cells_mem hm with hm | ⟨h1, h2, h3⟩
      · rcases List.mem_cons.mp hm with e | hm
        · cases e
          exact .inr ⟨hk ▸ List.mem_cons_self, Nat.le_refl _, _, pushCells_keeps r _ _ _ (Heap.get?_push_size _ rfl), rfl⟩
        · exact .inl hm
      · rw [Heap.size_push] at h2
        exact .inr ⟨List.mem_cons_of_mem _ h1, Nat.le_of_succ_le h2, h3⟩
    · rename_i hk
      rw [if_neg hk]
      rcases cells_mem hm with hm | ⟨h1, h2, h3⟩
      · exact .inl hm
      · exact .inr ⟨List.mem_cons_of_mem _ h1, h2, h3⟩
theorem cells_acc : ∀ {names : List (Str × NameKind)} {n : Nat} {acc : List (Str × Addr)} {p : Str × Addr}, p ∈ acc → p ∈ cellsFrom n names acc
  | [], _, _, _, h => h
  | (m, k) :: r, n, acc, p, h => by
    unfold cellsFrom
    split
    · exact cells_acc (List.mem_cons_of_mem _ h)
    · exact cells_acc h
theorem cells_has : ∀ {names : List (Str × NameKind)} {n : Nat} {acc : List (Str × Addr)} {x : Str}, (x, .cell) ∈ names → ∃ c, (x, c) ∈ cellsFrom n names acc
  | (m, k) :: r, n, acc, x, h => by
    unfold cellsFrom
    rcases List.mem_cons.mp h with e | h
    · cases e
      exact ⟨n, cells_acc List.mem_cons_self⟩
    · split
      · exact cells_has h
      · exact cells_has h
theorem cells_inj : ∀ {names : List (Str × NameKind)} {h : Heap} {acc : List (Str × Addr)} {x y : Str} {c : Addr}, (∀ p ∈ acc, p.2 < h.objs.size) → (∀ x y c, (x, c) ∈ acc → (y, c) ∈ acc → x = y) →
    (x, c) ∈ cellsFrom h.objs.size names acc → (y, c) ∈ cellsFrom h.objs.size names acc → x = y
  | [], _, _, _, _, _, _, hi, h1, h2 => hi _ _ _ h1 h2
  | (n, k) :: r, h, acc, x, y, c, hl, hi, h1, h2 => by
    unfold cellsFrom at h1 h2
    split at h1
    · rename_i hk
      rw [if_pos hk] at h2
      rw [← Heap.size_push h { cls := .type "cell", data := .cell none }] at h1 h2
      refine cells_inj (h := h.push _) (fun p hp => ?_) (fun x y c a b => ?_) h1 h2
      · rw [Heap.size_push]
        rcases List.mem_cons.mp hp with rfl | hp
        · exact Nat.lt_succ_self _
        · exact Nat.lt_succ_of_lt (hl p hp)
      · rcases List.mem_cons.mp a with e | a <;> rcases List.mem_cons.mp b with e' | b
        · cases e; cases e'; rfl
        · cases e; exact absurd (hl _ b) (Nat.lt_irrefl _)
        · cases e'; exact absurd (hl _ a) (Nat.lt_irrefl _)
        · exact hi _ _ _ a b
    · rename_i hk
      rw [if_neg hk] at h2
      exact cells_inj hl hi h1 h2
theorem newEnv_comp {M : Model} {A : Around} {E : Value → Shared → Prop} {s : Shared} {scope : Scope} {globals : Addr} {closure : List (Str × Addr)} {qual : Str} {func : Option Addr} {code : Value} {around : Env} {builtins : Addr} {Q : Env → Shared → Prop}
    (h : Q (newEnv scope s.heap.objs.size globals (cellsFrom (s.heap.objs.size + 1) scope.names closure) qual func code (some around) builtins)
      { s with heap := pushCells (s.heap.push { cls := .type "dict", data := .dict #[] }) scope.names }) :
    wpAny M A (newFunctionEnv scope globals closure [] qual func code (some around) builtins) Q E s := by
  simp only [newFunctionEnv, Option.isSome_some, if_true]
  refine wpAny_bind (wpAny_alloc ?_)
  refine wpAny_bind (wpAny_layCells _ (fun n k c => rfl) scope.names closure _ _ ?_)
  rw [show ({ s with heap := s.heap.push { cls := .type "dict", data := .dict #[] } } : Shared).heap.objs.size = s.heap.objs.size + 1 from Heap.size_push ..]
  rw [List.forIn_nil]
  exact wpAny_bind (wpAny_pure (wpAny_pure h))
theorem lookup_relS {sc : Scope} : ∀ {names : List (Str × NameKind)} {x : Str} {k : NameKind},
    (names.map fun (n, k) => if (k == NameKind.free && sc.kind == .function && sc.names.lookup n == some .cell) then (n, NameKind.cell) else (n, k)).lookup x = some k →
    ∃ k', names.lookup x = some k' ∧ (k = k' ∨ (k' = .free ∧ k = .cell))
  | [], _, _, h => by simp at h
  | (n, k₀) :: r, x, k, h => by
    have ih := @lookup_relS sc r x k
    have h' : List.lookup x ((if (k₀ == NameKind.free && sc.kind == .function && sc.names.lookup n == some .cell) = true then (n, NameKind.cell) else (n, k₀)) :: (r.map _)) = some k := h
    cases hx : x == n with
    | true =>
      simp only [List.lookup_cons, hx]
      by_cases hc : (k₀ == NameKind.free && sc.kind == .function && sc.names.lookup n == some .cell) = true
      · rw [if_pos hc] at h'
        simp only [List.lookup_cons, hx] at h'
        cases h'
        simp only [Bool.and_eq_true, beq_iff_eq] at hc
        exact ⟨k₀, rfl, .inr ⟨hc.1.1, rfl⟩⟩
      · rw [if_neg hc] at h'
        simp only [List.lookup_cons, hx] at h'
        cases h'
        exact ⟨_, rfl, .inl rfl⟩
    | false =>
      simp only [List.lookup_cons, hx]
      by_cases hc : (k₀ == NameKind.free && sc.kind == .function && sc.names.lookup n == some .cell) = true
      · rw [if_pos hc] at h'
        simp only [List.lookup_cons, hx] at h'
        exact ih h'
      · rw [if_neg hc] at h'
        simp only [List.lookup_cons, hx] at h'
        exact ih h'
structure BlkOk (N : List Str) (sc scope : Scope) (own : List (Str × Nat)) : Prop where
  kind : scope.kind = .function
  uniq : ∀ y ∈ scope.names, scope.names.lookup y.1 = some y.2
  ix : ∀ p ∈ own, N[p.2]? = some p.1
  free : ∀ y ∈ scope.names, y.2 = .free → sc.names.lookup y.1 = some .cell ∨ sc.names.lookup y.1 = some .free
  own : ∀ y ∈ scope.names, y.2 = .local ∨ y.2 = .cell → y.1 ∈ own.map (·.1) ∨ y.1 ∉ N
noncomputable def wipe (σ : St) : List Nat → St
  | [] => σ
  | v :: vs => (wipe σ vs).set v none
theorem wipe_length (σ : St) : ∀ vs : List Nat, (wipe σ vs).length = σ.length
  | [] => rfl
  | v :: vs => by unfold wipe; rw [List.length_set, wipe_length σ vs]
theorem wipe_some {σ : St} {i : Nat} {x : V} : ∀ {vs : List Nat}, (wipe σ vs)[i]? = some (some x) → σ[i]? = some (some x) ∧ i ∉ vs
  | [], h => ⟨h, by simp⟩
  | v :: vs, h => by
    unfold wipe at h
    by_cases hi : v = i
    · subst hi
      by_cases hv : v < (wipe σ vs).length
      · rw [List.getElem?_set_self hv] at h; cases h
      · rw [List.getElem?_eq_none (by simpa using hv)] at h; cases h
    · rw [List.getElem?_set_ne hi] at h
      obtain ⟨h1, h2⟩ := wipe_some h
      exact ⟨h1, by simp only [List.mem_cons, not_or]; exact ⟨fun e => hi e.symm, h2⟩⟩
noncomputable abbrev Cx.blk (X : Cx) (s : Shared) (H : Hp) (scope : Scope) (cenv : Env) (fp : List Addr) : Cx := { X with s_0 := s, H_0 := H, env := cenv, outer := X.stack, ex := fp, fn := fun x => scope.names.lookup x == some .cell, pn := [], xe := fun _ _ => False }
section
variable {X : Cx} {pins : List (Addr × Obj)} {σ : St} {H : Hp} {s : Shared}
theorem block_start {scope : Scope} {own : List (Str × Nat)} {fp : List Addr} (I : Inv X pins σ H s) (ok : BlkOk X.N X.env.scope scope own) (hN : X.N.Nodup) (hfp : ∀ b ∈ fp, FpOk X pins H b ∧ b < s.heap.objs.size) :
    Inv (X.blk s H scope (compEnvC scope (cellsFrom (s.heap.objs.size + 1) scope.names (cloFrom X.env.cells scope.names [])) s.heap.objs.size X.env) fp) [] (wipe σ (own.map (·.2))) H { s with heap := pushCells (s.heap.push { cls := .type "dict", data := .dict #[] }) scope.names } := by
  have hfree : ∀ y ∈ scope.names, y.2 = .free → ∃ c, X.env.cells.lookup y.1 = some c := fun y hy e => by
    rcases ok.free y hy e with k | k
    · exact I.ok.has _ (.inl k)
    · exact I.ok.has _ (.inr k)
  generalize hcenv : compEnvC scope (cellsFrom (s.heap.objs.size + 1) scope.names (cloFrom X.env.cells scope.names [])) s.heap.objs.size X.env = cenv
  have kp : ∀ b o, s.heap.get? b = some o → (pushCells (s.heap.push { cls := .type "dict", data := .dict #[] }) scope.names).get? b = some o := fun b o e => pushCells_keeps _ _ _ _ (Heap.get?_push_of_some _ e)
  have hL : cenv.locals = s.heap.objs.size := by rw [← hcenv]; rfl
  have hcl : cenv.cells = cellsFrom (s.heap.objs.size + 1) scope.names (cloFrom X.env.cells scope.names []) := by rw [← hcenv]; rfl
  have hsc : cenv.scope = relS scope X.env.scope := by rw [← hcenv]; rfl
  rw [← Heap.size_push s.heap { cls := .type "dict", data := .dict #[] }] at hcl
  have cm : ∀ {y c}, (y, c) ∈ cloFrom X.env.cells scope.names [] → X.env.cells.lookup y = some c ∧ c < s.heap.objs.size := fun {y c} hm => by
    rcases cloFrom_mem hm with hm | ⟨h1, rfl⟩
    · cases hm
    · obtain ⟨c, hc⟩ := hfree _ h1 rfl
      rw [hc]
      obtain ⟨w, z⟩ := I.cell _ _ hc
      exact ⟨rfl, z.lt⟩
  have mem : ∀ {y c}, cenv.cells.lookup y = some c → (X.env.cells.lookup y = some c ∧ c < s.heap.objs.size) ∨ (s.heap.objs.size + 1 ≤ c ∧ CellAt (pushCells (s.heap.push { cls := .type "dict", data := .dict #[] }) scope.names) c none) := fun {y c} e => by
    rw [hcl] at e
    rcases cells_mem (PySem.mem_of_lookup e) with hm | ⟨_, h2, h3⟩
    · exact .inl (cm hm)
    · rw [Heap.size_push] at h2; exact .inr ⟨h2, h3⟩
  have look : ∀ {y}, scope.names.lookup y = some .free → ∃ c, cenv.cells.lookup y = some c ∧ X.env.cells.lookup y = some c := fun {y} hl => by
    have hy : (y, NameKind.free) ∈ scope.names := PySem.mem_of_lookup hl
    obtain ⟨c', e'⟩ := mem_lookup (cells_acc (names := scope.names) (n := (s.heap.push { cls := .type "dict", data := .dict #[] }).objs.size) (cloFrom_has (cells := X.env.cells) (acc := []) hy))
    rw [← hcl] at e'
    refine ⟨c', e', ?_⟩
    rw [hcl] at e'
    rcases cells_mem (PySem.mem_of_lookup e') with hm | ⟨h1, _, _⟩
    · exact (cm hm).1
    · have := ok.uniq _ h1
      rw [hl] at this; cases this
  have okB : (X.blk s H scope cenv fp).Ok := by
    refine ⟨I.ok.mod, by show cenv.scope.kind = _; rw [hsc]; exact ok.kind, by show cenv.globals = _; rw [← hcenv]; exact I.ok.glob, by show cenv.builtins = _; rw [← hcenv]; exact I.ok.blt, by show s.heap.objs.size ≤ cenv.locals; rw [hL]; exact Nat.le_refl _,
      fun y z c e1 e2 => ?_, fun y hy => ?_, fun y c z e => ?_, I.ok.hd, I.ok.frames, .inl rfl, fun b hb => ⟨?_, fun y c e z => ?_⟩, I.bs, Nat.le_trans I.ok.bsz I.sz, fun b o e hb => ?_, fun b hb z => ?_, I.stack, I.stkFree⟩
    · have e1 : cenv.cells.lookup y = some c := e1
      have e2 : cenv.cells.lookup z = some c := e2
      rw [hcl] at e1 e2
      refine cells_inj (fun p hp => ?_) (fun y z c a b => I.ok.inj y z c (cm a).1 (cm b).1) (PySem.mem_of_lookup e1) (PySem.mem_of_lookup e2)
      rw [Heap.size_push]
      exact Nat.lt_succ_of_lt (cm (y := p.1) (c := p.2) hp).2
    · show ∃ c, cenv.cells.lookup y = some c
      have key : ∀ k, cenv.kindOf y = some k → (k = .cell ∨ k = .free) → ∃ c, cenv.cells.lookup y = some c := fun k hk hk' => by
        unfold Env.kindOf at hk
        rw [hsc] at hk
        obtain ⟨k', e, r⟩ := lookup_relS hk
        have : k' = .cell ∨ k' = .free := by
          rcases r with rfl | ⟨rfl, _⟩
          · exact hk'
          · exact .inr rfl
        rcases this with rfl | rfl
        · obtain ⟨c, hm⟩ := cells_has (n := (s.heap.push { cls := .type "dict", data := .dict #[] }).objs.size) (acc := cloFrom X.env.cells scope.names []) (PySem.mem_of_lookup e)
          obtain ⟨c', e'⟩ := mem_lookup hm
          exact ⟨c', by rw [hcl]; exact e'⟩
        · obtain ⟨c, h1, _⟩ := look e
          exact ⟨c, h1⟩
      rcases hy with hy | hy
      · exact key _ hy (.inl rfl)
      · exact key _ hy (.inr rfl)
    · have z : (scope.names.lookup y == some NameKind.cell) = true := z
      have z : scope.names.lookup y = some .cell := by simpa using z
      have e : cenv.cells.lookup y = some c := e
      rw [hcl] at e
      rcases cells_mem (PySem.mem_of_lookup e) with hm | ⟨_, h2, _⟩
      · rcases cloFrom_mem hm with hm | ⟨h1, _⟩
        · cases hm
        · have q := ok.uniq _ h1
          rw [z] at q; cases q
      · rw [Heap.size_push] at h2
        exact Nat.le_of_succ_le h2
    · show b ≠ cenv.locals
      rw [hL]; exact Nat.ne_of_lt (hfp b hb).2
    · have e : cenv.cells.lookup y = some c := e
      rcases mem e with ⟨h1, _⟩ | ⟨h1, _⟩
      · exact (hfp b hb).1.2.2.2.2.1 y c h1 z
      · have h2 : s.heap.objs.size + 1 ≤ b := by rw [← z]; exact h1
        exact absurd (Nat.lt_of_lt_of_le (hfp b hb).2 (Nat.le_of_succ_le h2)) (Nat.lt_irrefl _)
    · rcases (hfp b hb).1.2.2.2.1 with z | z
      · exact I.ok.noex b o e z
      · exact absurd (Nat.lt_of_lt_of_le (Heap.lt_size e) (Nat.le_trans I.ok.bsz z)) (Nat.lt_irrefl _)
    · rcases List.mem_cons.mp (I.stkSub b z) with z | z
      · exact (hfp b hb).1.2.1 z
      · exact (hfp b hb).1.2.2.1 z
  refine ⟨okB, rfl, I.bare, Un.kept kp, ⟨fun _ => none, ?_, fun i y av e1 e2 e3 => ?_⟩, fun y c e => ?_, ?_, fun y c e => ?_, fun p hp => ?_, I.hok.kept kp, by rw [wipe_length]; exact I.len⟩
  · show Heap.Ns _ cenv.locals _
    rw [hL]
    exact Heap.Ns.keeps (Heap.Ns.new ..) fun b o e => pushCells_keeps _ _ _ _ e
  · obtain ⟨e2, hne⟩ := wipe_some e2
    have hfr : scope.names.lookup y = some .free ∧ (cenv.kindOf y = some .cell ∨ cenv.kindOf y = some .free) := by
      have key : ∀ k, cenv.scope.names.lookup y = some k → k = .local ∨ k = .cell ∨ k = .free → scope.names.lookup y = some .free ∧ (cenv.kindOf y = some .cell ∨ cenv.kindOf y = some .free) := fun k hk hk' => by
        have hk0 := hk
        rw [hsc] at hk
        obtain ⟨k', e, r⟩ := lookup_relS hk
        have no : ¬ (k' = .local ∨ k' = .cell) := fun hh => by
          rcases ok.own _ (PySem.mem_of_lookup e) hh with e' | e'
          · obtain ⟨p, hp, hpy⟩ := List.mem_map.mp e'
            have e3 := ok.ix p hp
            have : p.1 = y := hpy
            rw [this] at e3
            exact hne (List.mem_map.mpr ⟨p, hp, nodup_ix hN e3 e1⟩)
          · exact e' (List.mem_of_getElem? e1)
        rcases r with rfl | ⟨rfl, rfl⟩
        · rcases hk' with rfl | rfl | rfl
          · exact absurd (.inl rfl) no
          · exact absurd (.inr rfl) no
          · exact ⟨e, .inr hk0⟩
        · exact ⟨e, .inl hk0⟩
      have e3 : Vis cenv.scope y := e3
      rcases e3 with e3 | e3 | e3
      · exact key _ e3 (.inl rfl)
      · exact key _ e3 (.inr (.inl rfl))
      · exact key _ e3 (.inr (.inr rfl))
    obtain ⟨m, hn, hl⟩ := I.loc
    have hvis : Vis X.env.scope y := (ok.free _ (PySem.mem_of_lookup hfr.1) rfl).elim (fun k => .inr (.inl k)) (fun k => .inr (.inr k))
    obtain ⟨w, r, q⟩ := hl i y av e1 e2 hvis
    refine ⟨w, r, .inr ⟨hfr.2, ?_⟩⟩
    obtain ⟨c, h1, h2⟩ := look hfr.1
    rcases q with ⟨k, _⟩ | ⟨_, c', e', z⟩
    · have k : X.env.scope.names.lookup y = some .local := k
      rcases ok.free _ (PySem.mem_of_lookup hfr.1) rfl with k' | k' <;> rw [show X.env.scope.names.lookup y = _ from k'] at k <;> cases k
    · rw [h2] at e'; cases e'
      exact ⟨c, h1, z.keeps kp⟩
  · have e : cenv.cells.lookup y = some c := e
    rcases mem e with ⟨h1, _⟩ | ⟨_, z⟩
    · obtain ⟨w, z⟩ := I.cell y c h1
      exact ⟨w, z.keeps kp⟩
    · exact ⟨_, z⟩
  · show H cenv.locals = none
    rw [hL]; exact I.hok.fresh (Nat.le_refl _)
  · have e : cenv.cells.lookup y = some c := e
    rcases mem e with ⟨h1, _⟩ | ⟨h1, _⟩
    · exact I.freeC y c h1
    · exact I.hok.fresh (Nat.le_of_succ_le h1)
  · exact absurd (show p ∈ ([] : List (Addr × Obj)) ++ [] from hp) (by simp)
theorem app_ok {E : Value → Shared → Prop} {D : Addr} {xs : List V} {y : V} {v : Value} {Q : Value → Shared → Prop} (I : Inv X pins σ H s) (hD : H D = some (.lst xs)) (hz : xs.length < sizeLine) (r : RelV y v)
    (h : ∀ s', Inv X pins σ (upd H D (.lst (xs ++ [y]))) s' → Q .none s') : wpAny (model X.prog X.w) X.A (call (.builtin "list.append") [.ref D, v]) Q E s := by
  obtain ⟨hz', its, n, ri, e⟩ := I.hok D _ hD
  have hl := ri.length
  refine append_at (hsz := by rw [List.size_toArray]; omega) e fun h' sb ho' => ?_
  refine h { s with heap := h' } (I.write (t' := s.toks) (by rw [hD]; trivial) (.inl rfl) (fun b u hb q => (sb.2 b hb).trans q) ⟨_, ho'⟩ ⟨by rw [List.length_append]; exact hz, its ++ [v], n + 1, ri.append (.cons r .nil), ?_⟩)
  rw [ho']
  simp
noncomputable def PTs (X : Cx) (ifs : List Expr) (t : TT) : Prop :=
  ∀ (pins : List (Addr × Obj)) (s : Shared) (σ : St) (H : Hp) (Q : Bool → Hp → Prop), Inv X pins σ H s → t σ H Q →
    wpAny (model X.prog X.w) X.A (forIn ifs true fun c r => if r = true then do let ok ← isTrue c X.env (eval c X.env); pure (ForInStep.yield ok) else pure (ForInStep.yield r)) (TP X pins σ Q) X.xe s
noncomputable def tYes : TT := fun _ H Q => Q true H
theorem pts_nil : PTs X [] tYes := fun _ _ _ H _ I h => wpAny_tests_nil ⟨H, I, h⟩
theorem pts_one {c : Expr} {t : TT} (h : PT X c t) : PTs X [c] t := fun pins s σ H Q I hw => wpAny_tests_one (h pins s σ H Q I hw)
end
theorem thnF {α : Type} {t : Sem α} {Q Q' : α → Shared → Prop} {M : Model} {A : Around} {E : Value → Shared → Prop} {s : Shared} (h : wpAny M A t Q (fun _ _ => False) s) (hQ : ∀ a s, Q a s → Q' a s) : wpAny M A t Q' E s := wpAny_mono h hQ fun _ _ z => False.elim z
theorem compLoop_any {prog : Program} {w : World} {A : Around} {R : Result → Shared → Prop} {s : Shared} {elt target iter : Expr} {ifs : List Expr} {scope : Scope} {pos : Pos} {it acc : Value} {env : Env} (I : Nat → Shared → Prop)
    (turn : ∀ n s, I n s → wpAny (model prog w) A (pyNext it) (fun r s₁ => match r with
      | none => R (.ok .next) s₁
      | some v => wpAny (model prog w) A (letOwnedTupleGo target it v) (fun _ s₁' => wpAny (model prog w) A (assign target env v) (fun _ s₂ =>
          wpAny (model prog w) A (forIn ifs true fun c r => if r = true then do let ok ← isTrue c env (eval c env); pure (ForInStep.yield ok) else pure (ForInStep.yield r)) (fun ok s₃ =>
            if ok = true then wpAny (model prog w) A (eval elt env) (fun x s₄ =>
              wpAny (model prog w) A (call (.builtin "list.append") [acc, x]) (fun _ s₅ => ∃ m, m < n ∧ I m s₅) (notedBy (model prog w) A env fun e s' => R (.error e) s') s₄) (notedBy (model prog w) A env fun e s' => R (.error e) s') s₃
            else ∃ m, m < n ∧ I m s₃) (notedBy (model prog w) A env fun e s' => R (.error e) s') s₂) (notedBy (model prog w) A env fun e s' => R (.error e) s') s₁') (notedBy (model prog w) A env fun e s' => R (.error e) s') s₁) (notedBy (model prog w) A env fun e s' => R (.error e) s') s)
    (n : Nat) (h : I n s) :
    codeAny (model prog w) A (.compLoop (.ListComp elt [⟨target, iter, ifs, 0⟩] scope pos) 0 it acc env) R s := by
  refine codeAny_loop rfl I (fun n s hI => ?_) n h
  show wpAny _ A ((compTurn (.ListComp elt [⟨target, iter, ifs, 0⟩] scope pos) 0 it acc env).onRaise (fun x => do noteFrame x env; theTreesLotGoes x)) _ _ s
  refine wpAny_noted ?_
  rw [compTurn_list]
  refine wpAny_bind (wpAny_standAt (wpAny_bind (wpAny_mono (turn n s hI) (fun r s₁ h₁ => ?_) fun _ _ h' => h')))
  cases r with
  | none => exact wpAny_pure h₁
  | some v =>
    refine wpAny_bind (wpAny_mono h₁ (fun _ s₁' h₁' => ?_) fun _ _ h' => h')
    refine wpAny_bind (wpAny_mono h₁' (fun _ s₂ h₂ => wpAny_bind (wpAny_mono h₂ (fun ok s₃ h₃ => ?_) fun _ _ h' => h')) fun _ _ h' => h')
    cases ok with
    | false => exact wpAny_pure ⟨rfl, h₃⟩
    | true =>
      exact wpAny_bind (wpAny_bind (wpAny_mono h₃ (fun x s₄ h₄ => wpAny_bind (wpAny_mono h₄ (fun _ s₅ h₅ => wpAny_pure (wpAny_pure ⟨rfl, h₅⟩)) fun _ _ h' => h')) fun _ _ h' => h'))
section
variable {X : Cx}
noncomputable def tLc (wi : TI) (g : TG) (tt : TT) (te : TE) (vs : List Nat) : TE := fun σ H Q => wi σ H fun J H1 => ∀ D, H1 D = none → ∃ W : Nat → Nat → Hp → Prop, (∃ m, W 0 m (upd H1 D (.lst []))) ∧ ∀ i m H, W i m H →
  (J.stop i H ∧ Q (.ref D) H) ∨ (J.go i H ∧ ∃ Nx : Hp → Prop, (∀ H', Nx H' → ∃ m', m' < m ∧ W (i + 1) m' H') ∧ ∀ x H', J.yld i H x H' → g x (wipe σ vs) H' fun σ2 H2 => wipe σ2 vs = wipe σ vs ∧ tt σ2 H2 fun b H3 =>
    if b = true then te σ2 H3 fun y H4 => ∃ acc, H4 D = some (.lst acc) ∧ acc.length < sizeLine ∧ Nx (upd H4 D (.lst (acc ++ [y]))) else Nx H3)
theorem lc_core {pins : List (Addr × Obj)} {s : Shared} {σ : St} {H : Hp} {Q : VK} {elt tg iter : Expr} {ifs : List Expr} {scope : Scope} {own : List (Str × Nat)} {pos pos' : Pos} {wi : TI} {g : TG} {tt : TT} {te : TE} {use : Option (Value → Sem Unit)} {Qf : Value → Shared → Prop}
    (hc : X.calm = true) (hN : X.N.Nodup) (I : Inv X pins σ H s) (hi : PI X tg iter wi) (ok : BlkOk X.N X.env.scope scope own)
    (hg : ∀ (s : Shared) (H : Hp) (C : Addr) (cl : List (Str × Addr)) (fp : List Addr), PG (X.blk s H scope (compEnvC scope cl C X.env) fp) tg g) (ht : ∀ (s : Shared) (H : Hp) (C : Addr) (cl : List (Str × Addr)) (fp : List Addr), PTs (X.blk s H scope (compEnvC scope cl C X.env) fp) ifs tt)
    (he : ∀ (s : Shared) (H : Hp) (C : Addr) (cl : List (Str × Addr)) (fp : List Addr), PE (X.blk s H scope (compEnvC scope cl C X.env) fp) elt te) (hs : ∀ x, foldedSetIterable iter X.env x = pure x)
    (h : tLc wi g tt te (own.map (·.2)) σ H Q)
    (hRR : ∀ D C s' m H', Inv X pins σ H' s' → Q (.ref D) H' → s'.heap.Ns C m → FpOk X pins H' C → compPost (model X.prog X.w) X.A X.xe use Qf (.ref D) C (.ok .next) s') :
    wpAny (model X.prog X.w) X.A (comprehension (.ListComp elt [⟨tg, iter, ifs, 0⟩] scope pos) scope X.env pos' (newList []) false (eval iter X.env) use) Qf X.xe s := by
  have hfree : ∀ y ∈ scope.names, y.2 = .free → ∃ c, X.env.cells.lookup y.1 = some c := fun y hy e => by
    rcases ok.free y hy e with k | k
    · exact I.ok.has _ (.inl k)
    · exact I.ok.has _ (.inr k)
  refine wpAny_comprehension_free (use := use) rfl hs (closure_ok hfree) ok.kind (fun y hy e => by rw [ok.uniq y hy, e])
    (thn (hi pins s σ H _ I h) fun xv s1 hx => thn hx fun itv s2 h2 => ?_)
  obtain ⟨it, fp, tn, J, H2, e, I2, T, st2, f2, q⟩ := h2
  subst e
  refine wpAny_newObj_type (newEnv_comp ?_) (by show 0 ≤ sizeLine; decide)
  generalize hD : s2.heap.objs.size = D
  have hDn : H2 D = none := I2.hok.fresh (Nat.le_of_eq hD)
  obtain ⟨W, ⟨m0, w0⟩, turn⟩ := q D hDn
  -- the new list
  generalize hs3 : ({ s2 with heap := s2.heap.push { cls := .type "list", data := .seq ([] : List Value).toArray } } : Shared) = s3
  have I3 : Inv X pins σ (upd H2 D (.lst [])) s3 := by
    rw [← hs3]
    refine I2.laid (t' := s2.toks) (fun b o e => Heap.get?_push_of_some _ e) (Nat.le_of_eq hD) ⟨Nat.zero_le _, [], 0, .nil, ?_⟩
    rw [← hD]
    exact Heap.get?_push_size _ rfl
  have h3 : s3.heap = s2.heap.push { cls := .type "list", data := .seq ([] : List Value).toArray } := by rw [← hs3]
  have sz : ∀ b ∈ fp, b < s2.heap.objs.size := fun b hb => by
    obtain ⟨o, e, _⟩ := T.obj _ _ st2 b hb
    exact Heap.lt_size e
  have f3 : ∀ b ∈ fp, FpOk X pins (upd H2 D (.lst [])) b ∧ b < s3.heap.objs.size := fun b hb => by
    have hlt := sz b hb
    refine ⟨⟨?_, (f2 b hb).2⟩, by rw [h3, Heap.size_push]; exact Nat.lt_succ_of_lt hlt⟩
    rw [upd_ne (by rw [← hD]; exact Nat.ne_of_lt hlt)]
    exact (f2 b hb).1
  have st3 : tn 0 s3.heap := T.keep _ _ _ st2 fun b _ o e => by rw [h3]; exact Heap.get?_push_of_some _ e
  have I4 := block_start I3 ok hN f3
  have pg := hg s3 (upd H2 D (.lst [])) s3.heap.objs.size (cellsFrom (s3.heap.objs.size + 1) scope.names (cloFrom X.env.cells scope.names [])) fp
  have pt := ht s3 (upd H2 D (.lst [])) s3.heap.objs.size (cellsFrom (s3.heap.objs.size + 1) scope.names (cloFrom X.env.cells scope.names [])) fp
  have pe := he s3 (upd H2 D (.lst [])) s3.heap.objs.size (cellsFrom (s3.heap.objs.size + 1) scope.names (cloFrom X.env.cells scope.names [])) fp
  show codeAny _ _ (.compStart (.ListComp elt [⟨tg, iter, ifs, 0⟩] scope pos) 0 (.ref it) (.ref D) (compEnvC scope (cellsFrom (s3.heap.objs.size + 1) scope.names (cloFrom X.env.cells scope.names [])) s3.heap.objs.size X.env)) (compPost (model X.prog X.w) X.A X.xe use Qf (.ref D) s3.heap.objs.size) { s3 with heap := pushCells (s3.heap.push { cls := .type "dict", data := .dict #[] }) scope.names }
  have nfp : ∀ b ∈ fp, (upd H2 D (.lst [])) b = none := fun b hb => (f3 b hb).1.1
  generalize hce : compEnvC scope (cellsFrom (s3.heap.objs.size + 1) scope.names (cloFrom X.env.cells scope.names [])) s3.heap.objs.size X.env = ce at I4 pg pt pe ⊢
  have cL : ce.locals = s3.heap.objs.size := by subst hce; rfl
  generalize hH3 : upd H2 D (.lst []) = H3 at I3 I4 pg pt pe w0 nfp f3
  generalize hs4 : ({ s3 with heap := pushCells (s3.heap.push { cls := .type "dict", data := .dict #[] }) scope.names } : Shared) = s4 at I4 ⊢
  have st4 : tn 0 s4.heap := T.keep _ _ _ st3 fun b _ o e => by rw [← hs4]; exact pushCells_keeps _ _ _ _ (Heap.get?_push_of_some _ e)
  have stat : ∀ {σ' : St} {H' : Hp} {s' : Shared}, Inv (X.blk s3 H3 scope ce fp) [] σ' H' s' → (∀ b ∈ fp, H' b = none) → ∀ b ∈ fp, FpOk (X.blk s3 H3 scope ce fp) [] H' b := fun {σ' H' s'} I' hn b hb =>
    ⟨hn b hb, (I'.ok.exf b hb).1, I'.ok.exfs b hb, .inl hb, fun x c e => (I'.ok.exf b hb).2 x c e, fun p hp => absurd (show p ∈ ([] : List (Addr × Obj)) ++ [] from hp) (by simp)⟩
  have loop : codeAny (model X.prog X.w) X.A (.compLoop (.ListComp elt [⟨tg, iter, ifs, 0⟩] scope pos) 0 (.ref it) (.ref D) ce) (compPost (model X.prog X.w) X.A X.xe use Qf (.ref D) s3.heap.objs.size) s4 := by
    refine compLoop_any (fun n s' => ∃ i H', Inv (X.blk s3 H3 scope ce fp) [] (wipe σ (own.map (·.2))) H' s' ∧ tn i s'.heap ∧ (∀ b ∈ fp, H' b = none) ∧ W i n H') ?_ m0 ⟨0, H3, I4, st4, nfp, w0⟩
    rintro n s5 ⟨i, H5, I5, st5, n5, w5⟩
    rcases turn i n H5 w5 with ⟨stop, qq⟩ | ⟨go, Nx, hNx, step⟩
    · have td := T.done (X.blk s3 H3 scope ce fp) rfl rfl rfl hc i [] s5 _ H5 (fun _ _ => False) I5 (stat I5 n5) st5 stop
      refine thnF td fun r s6 ⟨hr, I6⟩ => ?_
      subst hr
      -- back in the def's context
      have I7 : Inv X pins σ H5 s6 := I3.call' (ch := fp) I6.os I6.base I6.hok I6.bare fun b hb => ⟨(f3 b hb).1.2.2.2.1, (f3 b hb).1.2.1, (f3 b hb).1.2.2.2.2.1, (f3 b hb).1.2.2.2.2.2⟩
      have nC : H5 s3.heap.objs.size = none := by
        have z : H5 ce.locals = none := I6.free
        rw [cL] at z
        exact z
      obtain ⟨m, hn, _⟩ := I6.loc
      have hn : s6.heap.Ns ce.locals m := hn
      rw [cL] at hn
      exact hRR D s3.heap.objs.size s6 m H5 I7 qq hn (I3.fpOk (Nat.le_refl _) nC)
    · have ti := T.item (X.blk s3 H3 scope ce fp) rfl rfl rfl hc i [] s5 _ H5 (fun _ _ => False) I5 (stat I5 n5) st5 go
      refine thnF ti fun r s6 ⟨u, hr, h6⟩ => ?_
      subst hr
      refine thnF h6 fun _ s7 ⟨x, H7, I7, r7, y7, st7, n7⟩ => ?_
      have I7' := I7.pinned (stat I7 n7) (T.obj _ _ st7)
      refine thnF (pg _ s7 _ H7 x u _ I7' r7 (step x H7 y7)) fun _ s8 ⟨σ8, H8, I8, hw8, q8⟩ => ?_
      refine thnF (pt _ s8 σ8 H8 _ I8 q8) fun b s9 ⟨H9, I9, q9⟩ => ?_
      -- the turn's end
      have fin : ∀ {s' : Shared} {H' : Hp}, Inv (X.blk s3 H3 scope ce fp) ([] ++ pinsAt fp s7.heap) σ8 H' s' → Nx H' → ∃ m, m < n ∧ ∃ i H', Inv (X.blk s3 H3 scope ce fp) [] (wipe σ (own.map (·.2))) H' s' ∧ tn i s'.heap ∧ (∀ b ∈ fp, H' b = none) ∧ W i m H' := fun {s' H'} I' nx => by
        obtain ⟨m', hm, w'⟩ := hNx H' nx
        have pin' : ∀ b ∈ fp, ∀ o, s7.heap.get? b = some o → s'.heap.get? b = some o ∧ H' b = none := fun b hb o e =>
          let z := I'.pin (b, o) (List.mem_append_right _ (List.mem_append_right _ (mem_pinsAt hb e)))
          ⟨z.1, z.2.1⟩
        have hl : (wipe σ (own.map (·.2))).length = σ8.length := by rw [← hw8, wipe_length]
        refine ⟨m', hm, i + 1, H', (I'.unpinned (pins := [])).weak hl (fun j v e => ?_), T.keep _ _ _ st7 fun b hb o e => (pin' b hb o e).1, fun b hb => ?_, w'⟩
        · rw [← hw8] at e
          exact (wipe_some e).1
        · obtain ⟨o, e, _⟩ := T.obj _ _ st7 b hb
          exact (pin' b hb o e).2
      cases b with
      | false =>
        simp only [Bool.false_eq_true, if_false] at q9 ⊢
        exact fin I9 q9
      | true =>
        simp only [if_true] at q9 ⊢
        refine thnF (pe _ s9 σ8 H9 _ I9 q9) fun z s10 ⟨yv, H10, I10, r10, acc, hD10, hz10, nx⟩ => ?_
        exact app_ok (X := X.blk s3 H3 scope ce fp) I10 hD10 hz10 r10 fun s11 I11 => fin I11 nx
  exact codeAny_compStart_list loop (T.self X.A 0 _ _ _ st4 loop)
theorem pe_lc {elt tg iter : Expr} {ifs : List Expr} {scope : Scope} {own : List (Str × Nat)} {pos : Pos} {wi : TI} {g : TG} {tt : TT} {te : TE} (hc : X.calm = true) (hN : X.N.Nodup) (hi : PI X tg iter wi) (ok : BlkOk X.N X.env.scope scope own)
    (hg : ∀ (s : Shared) (H : Hp) (C : Addr) (cl : List (Str × Addr)) (fp : List Addr), PG (X.blk s H scope (compEnvC scope cl C X.env) fp) tg g) (ht : ∀ (s : Shared) (H : Hp) (C : Addr) (cl : List (Str × Addr)) (fp : List Addr), PTs (X.blk s H scope (compEnvC scope cl C X.env) fp) ifs tt)
    (he : ∀ (s : Shared) (H : Hp) (C : Addr) (cl : List (Str × Addr)) (fp : List Addr), PE (X.blk s H scope (compEnvC scope cl C X.env) fp) elt te) (hs : ∀ x, foldedSetIterable iter X.env x = pure x := by intro _; rfl) :
    PE X (.ListComp elt [⟨tg, iter, ifs, 0⟩] scope pos) (tLc wi g tt te (own.map (·.2))) := by
  intro pins s σ H Q I h
  rw [eval_ListComp]
  refine lc_core hc hN I hi ok hg ht he hs h fun D C s' m H' I' q hn f => ⟨m, hn, fun h'' sb => ?_⟩
  obtain ⟨f0, f1, f2, f3, f4, f5⟩ := f
  exact ⟨.ref D, H', I'.turned (t' := s'.toks) (fun b o hb e => (sb.2 b hb).trans e) f0 f1 f3 f4 f5, rfl, q⟩
end
theorem lc_list {K : PySem.W.Frag} {a : Addr} {xs : List V} {g : TG} {tt : TT} {te : TE} {vs : List Nat} {σ : St} {H1 : Hp} {D : Addr} {Qd : Hp → Prop} (Pv : Nat → Hp → Prop) (h0 : Pv 0 (upd H1 D (.lst []))) (hl : ∀ i H, i ≤ xs.length → Pv i H → SqL K H a xs)
    (hs : ∀ i x H, xs[i]? = some x → Pv i H → g x (wipe σ vs) H fun σ2 H2 => wipe σ2 vs = wipe σ vs ∧ tt σ2 H2 fun b H3 =>
      if b = true then te σ2 H3 fun y H4 => ∃ acc, H4 D = some (.lst acc) ∧ acc.length < sizeLine ∧ Pv (i + 1) (upd H4 D (.lst (acc ++ [y]))) else Pv (i + 1) H3) (hd : ∀ H, Pv xs.length H → Qd H) :
    ∃ W : Nat → Nat → Hp → Prop, (∃ m, W 0 m (upd H1 D (.lst []))) ∧ ∀ i m H, W i m H →
      ((Itl K a).stop i H ∧ Qd H) ∨ ((Itl K a).go i H ∧ ∃ Nx : Hp → Prop, (∀ H', Nx H' → ∃ m', m' < m ∧ W (i + 1) m' H') ∧ ∀ x H', (Itl K a).yld i H x H' → g x (wipe σ vs) H' fun σ2 H2 => wipe σ2 vs = wipe σ vs ∧ tt σ2 H2 fun b H3 =>
        if b = true then te σ2 H3 fun y H4 => ∃ acc, H4 D = some (.lst acc) ∧ acc.length < sizeLine ∧ Nx (upd H4 D (.lst (acc ++ [y]))) else Nx H3) := by
  refine ⟨fun i m H => m = xs.length - i ∧ i ≤ xs.length ∧ Pv i H, ⟨xs.length, by simp, Nat.zero_le _, h0⟩, ?_⟩
  rintro i m H ⟨rfl, hi, p⟩
  have q := hl i H hi p
  by_cases hlt : i < xs.length
  · refine .inr ⟨⟨xs, xs[i], q, by simp [hlt]⟩, Pv (i + 1), fun H' p' => ⟨xs.length - (i + 1), by omega, rfl, hlt, p'⟩, fun x H' y => ?_⟩
    obtain ⟨e, y⟩ := y
    subst e
    exact hs i x _ (y xs q) p
  · have e : i = xs.length := by omega
    subst e
    exact .inl ⟨⟨xs, q, Nat.le_refl _⟩, hd H p⟩
noncomputable def blkC (N : List Str) (sc scope : Scope) (own : List (Str × Nat)) : Bool :=
  (match scope.kind with | .function => true | _ => false) && (scope.names.all fun y => decide (scope.names.lookup y.1 = some y.2)) && (own.all fun p => decide (N[p.2]? = some p.1)) &&
    (scope.names.all fun y => match y.2 with
      | .free => (match sc.names.lookup y.1 with | some .cell => true | some .free => true | _ => false)
      | .local => decide (y.1 ∈ own.map (·.1)) || decide (y.1 ∉ N)
      | .cell => decide (y.1 ∈ own.map (·.1)) || decide (y.1 ∉ N)
      | _ => true)
theorem blkOk_by {N : List Str} {sc scope : Scope} {own : List (Str × Nat)} (h : blkC N sc scope own = true) : BlkOk N sc scope own := by
  unfold blkC at h
  simp only [Bool.and_eq_true, List.all_eq_true, decide_eq_true_eq] at h
  obtain ⟨⟨⟨h1, h2⟩, h3⟩, h4⟩ := h
  refine ⟨?_, h2, h3, fun y hy e => ?_, fun y hy e => ?_⟩
  · split at h1
    · assumption
    · cases h1
  · have q := h4 y hy
    simp only [e] at q
    split at q <;> first | exact .inl (by assumption) | exact .inr (by assumption) | cases q
  · have q := h4 y hy
    rcases e with e | e <;> (simp only [e, Bool.or_eq_true, decide_eq_true_eq] at q; exact q)
end L2
namespace L2
open PySem PySem.Spec PyProof.Rows
section
variable {prog : Program} {w : World} {A : Around} {R : Result → Shared → Prop} {s : Shared} {elt t0 i0 t1 i1 : Expr} {ifs0 ifs1 : List Expr} {scope : Scope} {pos : Pos} {it acc : Value} {env : Env}
end
section
variable {X : Cx}
end
end L2
namespace L2
open PySem PySem.Spec PyProof.Rows
section
variable {κ : Type} [DecidableEq κ]
noncomputable def valV (kvs : List (κ × V)) (k : κ) : Option V := (kvs.find? fun kv => decide (kv.1 = k)).map (·.2)
theorem valV_pos {p : κ × V} {r : List (κ × V)} {k : κ} (e : p.1 = k) : valV (p :: r) k = some p.2 := by simp [valV, List.find?_cons, e]
theorem valV_neg {p : κ × V} {r : List (κ × V)} {k : κ} (e : ¬ p.1 = k) : valV (p :: r) k = valV r k := by simp [valV, List.find?_cons, e]
theorem RelO.isSome_eq {o : Option V} {u : Option Value} (r : RelO o u) : o.isSome = u.isSome := by
  cases o with
  | none => cases u with
    | none => rfl
    | some _ => exact (show False from r).elim
  | some _ => cases u with
    | none => exact (show False from r).elim
    | some _ => rfl
theorem KV.val {kvs : List (κ × V)} {vs : List (κ × Value)} (r : KV kvs vs) (k : κ) : RelO (valV kvs k) (valueAt vs k) := by
  unfold KV at r
  induction r with
  | nil => exact True.intro
  | @cons p q ps qs h t ih =>
    obtain ⟨h1, h2⟩ := h
    by_cases e : p.1 = k
    · have e' : q.1 = k := h1.symm.trans e
      have b : valueAt (q :: qs) k = some q.2 := by simp [valueAt, List.find?_cons, e']
      rw [valV_pos e, b]; exact h2
    · have e' : ¬ q.1 = k := fun z => e (h1.trans z)
      have b : valueAt (q :: qs) k = valueAt qs k := by simp [valueAt, List.find?_cons, e']
      rw [valV_neg e, b]; exact ih
end
theorem kV_is {P : Program} {w : World} {k : Key} {u : Value} (r : RelV (kV k) u) : (mixKind P w).is k u = true := by
  cases k with
  | inl i => obtain ⟨t, e⟩ := (show ∃ t, u = Value.int i t from r); subst e; exact mixKind_int P w i t
  | inr x => obtain ⟨t, e⟩ := (show ∃ t, u = Value.str x t from r); subst e; exact mixKind_str P w x t
section
variable {P : Program} {w : World} {H : Hp} {h : Heap} {a : Addr}
end
section
variable {X : Cx} {pins : List (Addr × Obj)} {σ : St} {H : Hp} {s : Shared} {a : Addr} {y v : V} {u r : Value} {o : Option V} {A : Around} {E : Value → Shared → Prop}
end
section
variable {X : Cx} {pins : List (Addr × Obj)} {σ : St} {H : Hp} {s : Shared} {a : Addr} {kvs : List (Key × V)} {k : Key} {u : Value} {A : Around} {E : Value → Shared → Prop}
end
noncomputable def NoSl (i : Expr) : Prop := ∀ ov iv, subscripted i false ov iv = operate [ov, iv] (getItem ov iv)
theorem subD_of {prog : Program} {w : World} {A : Around} {E : Value → Shared → Prop} {s : Shared} {env : Env} {value slice : Expr} {pos : Pos} {T id : String} {Q : Value → Shared → Prop}
    (hl : typeLookup (.type T) "__getitem__" = pure (some (.builtin id))) (hs : NoSl slice)
    (h : wpAny (model prog w) A (eval value env) (fun o s₁ => wpAny (model prog w) A (eval slice env) (fun i s₂ => s₂.TypeIs o T ∧ wpAny (model prog w) A (getItem o i) Q E s₂) E s₁) E s) :
    wpAny (model prog w) A (eval (.Subscript value slice pos) env) Q E s := by
  refine Subscript_ (wpAny_mono h (fun o s₁ h₁ => wpAny_mono h₁ (fun i s₂ h₂ => ?_) fun _ _ x => x) fun _ _ x => x)
  obtain ⟨hT, h₂⟩ := h₂
  unfold subscriptTail
  refine wpAny_bind ?_
  rw [getitemInPython_of_ne hT.not_modules]
  refine wpAny_bind (wpAny_specialOf hT hl ?_)
  have fin : wpAny (model prog w) A (subscripted slice false o i) (fun r s₃ => wpAny (model prog w) A (letTemporaryGo value o r >>= fun _ => pure r) Q E s₃) E s₂ := by
    rw [hs o i]
    exact wpAny_operating (wpAny_mono h₂ (fun r s₃ h₃ => wpAny_bind (wpAny_letTemporaryGo (wpAny_pure h₃))) fun _ _ x => x)
  first
    | exact wpAny_pure (wpAny_bind fin)
    | exact wpAny_bind (wpAny_pure (wpAny_bind fin))
    | exact wpAny_bind fin
section
variable {X : Cx} {o i e value : Expr} {pos pos' tpos : Pos} {td ty tv : TE}
end
section
variable {X : Cx} {pos : Pos}
end
section
variable {X : Cx} {pins : List (Addr × Obj)} {σ : St} {H : Hp} {s : Shared} {a : Addr} {y d : V} {u r : Value} {o : Option V} {A : Around} {E : Value → Shared → Prop}
end
section
variable {X : Cx} {o e f : Expr} {apos cpos : Pos} {td ty tx : TE}
end
section
variable {X : Cx} {pins : List (Addr × Obj)} {σ : St} {H : Hp} {s : Shared} {a : Addr} {kvs : List (Key × V)} {A : Around} {E : Value → Shared → Prop}
end
section
variable {X : Cx} {pins : List (Addr × Obj)} {σ : St} {H : Hp} {s : Shared} {a : Addr} {y : V} {u : Value} {A : Around} {E : Value → Shared → Prop}
end
end L2
namespace L2
open PySem PySem.Spec PyProof.Rows
section
variable {prog : Program} {w : World} {A : Around} {E : Value → Shared → Prop}
end
section
variable {X : Cx}
end
end L2
namespace L2
open PySem PySem.Spec PyProof.Rows
section
variable {X : Cx} {pins : List (Addr × Obj)} {σ : St} {H : Hp} {s : Shared} {h' : Heap}
end
section
variable {X : Cx}
end
section
variable {X : Cx} {tg : Expr}
end
section
variable {X : Cx} {tg : Expr}
end
section
variable {prog : Program} {w : World} {A : Around} {E : Value → Shared → Prop} {s : Shared}
end
section
variable {X : Cx} {pins : List (Addr × Obj)} {σ : St} {H : Hp} {s : Shared} {d : Addr} {o : Obj}
end
section
variable {P : Program} {w : World} {K : PySem.W.Frag} {tg : Expr} {d : Addr} {o : Obj} {es : Array DictEntry} {ep : Nat}
end
section
variable {X : Cx} {tg e : Expr} {td : TE} {apos cpos : Pos}
end
end L2
section
namespace Bits
open PySem PyProof.Rows
end Bits
end
section
namespace TL
open PySem PySem.Builtin PySem.Builtin.Str PySem.StrLaws
end TL
end
namespace L2
open PySem PySem.Spec PyProof.Rows
section
variable {X : Cx} {pins : List (Addr × Obj)} {σ : St} {H : Hp} {s : Shared} {Q : VK}
end
section
variable {X : Cx}
end
section
variable {X : Cx} {o e : Expr} {to te : TE}
end
end L2
namespace L2
open PySem PySem.Spec PyProof.Rows
section
variable {X : Cx}
end
end L2
namespace Att
open PySem PySem.W PySem.Calls PyProof.Rows
section
variable {prog : Program} {w : World} {A : Around} {E : Value → Shared → Prop} {s : Shared} {K : Frag}
end
end Att
namespace L2
open PySem PySem.Spec PyProof.Rows
end L2
namespace L2
open PySem PySem.Spec PyProof.Rows
end L2
/- THE LAST THEOREM (shape; LID, My.* are yours):
   My.Adr: a structure of the addresses that your layer names (classes, functions); My.Txt K t: a structure (Prop) of the equations over K;
   My.txt_mk : {K} {implicit addresses ..} (e1 : nsIn K mainGlobals "law" = some (some (.ref f))) (e2 : K.lookup f = some ⟨oc, od, .func (fnOf "law" "law" params body scope dV kV doc pm an cdv ct), sl⟩) (e3 : codeIn K cdv "law" = true) .. : ∃ t, My.Txt K t
set_option maxRecDepth 100000 in
set_option maxHeartbeats 0 in
theorem PySem.Challenge.cw_LID_holds : PySem.Challenge.rw_LID.Holds := by
  w_on; o_law; k_head; (case hw => w_witness2)
  k_fill
  refine L2.walk_of (l := PySem.Challenge.rw_LID) (n := 63) (k := 40) (x := "script") (CX := fun w => ..) (sp := fun _ => My.sp_law) rfl (by decide) rfl ⟨rfl, by decide, by decide⟩ (fun w h Y => PySem.W.kIn_of Y) ?F ?S ?C
  case F =>
    intro w mg fa h KX G hmg
    have T : ∃ t, My.Txt (L2.KOf KX) t := by
      dsimp only [L2.KOf]                          -- K must stand as «<heap const> w.params» for k_is
      refine' My.txt_mk ?e1 ?e2 ?e3 ..
      (case e1 => PySem.W.k_is)                    -- in the order: a name -> its address -> its object -> its parts
      (case e2 => PySem.W.k_is)
      ..
    obtain ⟨t, T⟩ := T
    have e0 := hmg.symm.trans (PySem.W.mg_of KX G T.law)
    cases e0                                       -- fa is the law's own address
    exact ⟨_, fun s u => .of_eq rfl, fun base kb nb => My.law_fn T kb nb⟩     -- if «.of_eq rfl» comes too early: refine' ⟨_, ?b, fun base kb nb => My.law_fn T kb nb⟩; exact fun s u => .of_eq rfl
  case S => exact fun w H a ns hl hO hS => ..
  case C => exact ..
(the tactic k_is has no namespace: write k_is) -/
namespace L2
open PySem PySem.Spec PyProof.Rows
noncomputable def inClass (s : Stmt) (j : Nat) : Stmt := match s with
  | .ClassDef _ _ _ body _ _ _ _ _ _ _ => body.getD j (.Pass ⟨0, 0, 0, 0⟩)
  | _ => .Pass ⟨0, 0, 0, 0⟩
noncomputable def defArgs (s : Stmt) : Arguments := match s with
  | .FunctionDef _ a _ _ _ _ _ _ _ _ => a
  | _ => { posonlyargs := [], args := [], vararg := none, kwonlyargs := [], kw_defaults := [], kwarg := none, defaults := [] }
noncomputable def defBody (s : Stmt) : List Stmt := match s with
  | .FunctionDef _ _ b _ _ _ _ _ _ _ => b
  | _ => []
noncomputable def defScope (s : Stmt) : Scope := match s with
  | .FunctionDef _ _ _ _ _ _ sc _ _ _ => sc
  | _ => { kind := .function, names := [], isGenerator := false, isCoroutine := false }
noncomputable abbrev CX0 : CXT := fun _ _ _ _ _ _ => False
noncomputable abbrev E0 : XK := fun _ _ _ => False
theorem pass0 {X : Cx} : Passes CX0 X E0 := fun _ _ _ _ _ _ _ h => h.elim
structure Fun (K : PySem.W.Frag) (x qual : Str) (st : Stmt) (f : Addr) (fd : FuncData) : Prop where
  ex : ∃ (oc : Value) (od : Option Addr) (kV doc pm : Value) (an : Option Addr) (cdv ct : Value) (osl : Array (Option Value)),
    fd = PySem.W.fnOf x qual (defArgs st) (defBody st) (defScope st) .none kV doc pm an cdv ct ∧ K.lookup f = some ⟨oc, od, .func fd, osl⟩ ∧ PySem.W.codeIn K cdv qual = true
  kp : PySem.W.keepIn K (.ref f) = true
section
variable {P : Program} {w : World} {K : PySem.W.Frag} {mg : Str → Option Value} {base : Heap}
theorem Fun.ok {x qual : Str} {st : Stmt} {f : Addr} {fd : FuncData} {N ps : List Str} {k : Nat} {sp : Sp} (F : Fun K x qual st f fd) (S : FnScope N ps (defScope st)) (len : ∀ vs H Q E, sp vs H Q E → vs.length = ps.length)
    (hbody : ∀ (cdv : Value) (A : Around) (outer : List Env) (s : Shared) (H : Hp) (vs : List V) (Q : VK) (E : XK), Room k (A.deeper (envOfC qual (defScope st) s.heap.objs.size f cdv)) → sp vs H Q E →
      ∃ t, PSs (cxOf CX0 P w K mg base N qual (defScope st) f cdv A outer s H E).nox (defBody st) t ∧ t { nx := fun _ H' => Q .non H', rt := Q } (start N vs) H) : FnOk P w K mg base CX0 (k + 1) f fd ps sp := by
  obtain ⟨oc, od, kV, doc, pm, an, cdv, ct, osl, rfl, lk, hcd⟩ := F.ex
  refine fn_of lk hcd S len fun A outer s H vs Q E hr hsp => ?_
  obtain ⟨t, h, q⟩ := hbody cdv A outer s H vs Q E hr hsp
  exact ⟨t, h.nox, q⟩
theorem Fun.binds {x qual : Str} {st : Stmt} {f : Addr} {fd : FuncData} {ps : List Str} (F : Fun K x qual st f fd)
    (h : ∀ (kV doc pm : Value) (an : Option Addr) (cdv ct : Value) (us : List Value), us.length = ps.length → bindArgs (PySem.W.fnOf x qual (defArgs st) (defBody st) (defScope st) .none kV doc pm an cdv ct) ⟨us, []⟩ = pure (ps.zip us)) : Binds K fd ps [] := by
  obtain ⟨oc, od, kV, doc, pm, an, cdv, ct, osl, rfl, lk, hcd⟩ := F.ex
  exact .all (h kV doc pm an cdv ct)
theorem fun_mk {x qual : Str} {st : Stmt} {f : Addr} {oc : Value} {od an : Option Addr} {osl : Array (Option Value)} {kV doc pm cdv ct : Value} (l : K.lookup f = some ⟨oc, od, .func (PySem.W.fnOf x qual (defArgs st) (defBody st) (defScope st) .none kV doc pm an cdv ct), osl⟩)
    (c : PySem.W.codeIn K cdv qual = true) (k : PySem.W.keepIn K (.ref f) = true) : Fun K x qual st f (PySem.W.fnOf x qual (defArgs st) (defBody st) (defScope st) .none kV doc pm an cdv ct) := ⟨⟨oc, od, kV, doc, pm, an, cdv, ct, osl, rfl, l, c⟩, k⟩
end
section
variable {X : Cx}
theorem pv (i : Nat) {x : Str} {pos : Pos} (hN : X.N[i]? = some x := by rfl) (hv : Vis X.env.scope x := by first | exact Or.inl rfl | exact Or.inr (Or.inl rfl) | exact Or.inr (Or.inr rfl)) (hd : (x == ("__debug__" : Str)) = false := by decide)
    (hcd : (x == ("__classdict__" : Str)) = false := by decide) : PE X (.Name x pos) (tVar i) := pe_var hN hv hd hcd
end
theorem iteF {A B : Prop} (h : B) : if false = true then A else B := by
  rw [if_neg Bool.false_ne_true]
  exact h
theorem iteT {A B : Prop} (h : A) : if true = true then A else B := by
  rw [if_pos rfl]
  exact h
theorem iteNS {c A B : Prop} [Decidable c] (hc : c) (h : B) : if (!decide c) = true then A else B := by
  rw [decide_eq_true hc]
  exact iteF h
noncomputable def Same (H H' : Hp) : Prop := ∀ b o, H b = some o → H' b = some o
theorem Same.refl (H : Hp) : Same H H := fun _ _ h => h
theorem Same.trans {H H1 H2 : Hp} (a : Same H H1) (b : Same H1 H2) : Same H H2 := fun c o h => b c o (a c o h)
theorem Same.free {H H' : Hp} (e : Same H H') {l : Addr} (h : H' l = Option.none) : H l = Option.none := by
  cases q : H l with
  | none => rfl
  | some o =>
    rw [e l o q] at h
    cases h
theorem Same.seq {K : PySem.W.Frag} {H H' : Hp} {a : Addr} {xs : List V} (e : Same H H') (h : SqL K H a xs) : SqL K H' a xs := by
  rcases h with (h | ⟨o, h⟩) | h
  · exact .inl (.inl (e _ _ h))
  · exact .inl (.inr ⟨o, e _ _ h⟩)
  · exact .inr h
section
variable {κ : Type} [DecidableEq κ]
end
end L2
section
set_option Elab.async false
set_option linter.all false
set_option maxRecDepth 100000
set_option maxHeartbeats 2000000
namespace L2
open PySem PySem.Spec PyProof.Rows
open PySem.W (WData Codec OpenSpec Well WellAll ReadsW ReadsAllW)
mutual
inductive Dw (K : PySem.W.Frag) (H : Hp) : V → WData → Prop
  | non : Dw K H .non .none
  | bl (b : Bool) : Dw K H (.bl b) (.bool b)
  | int (i : Int) : Dw K H (.int i) (.int i)
  | str (x : Str) : Dw K H (.str x) (.str x)
  | byt (b : Array UInt8) : Dw K H (.byt b) (.bytes b.toList)
  | lst {a : Addr} {xs : List V} {ds : List WData} : SqL K H a xs → DwAll K H xs ds → Dw K H (.ref a) (.list ds)
  | tup {a : Addr} {xs : List V} {ds : List WData} : SqT K H a xs → DwAll K H xs ds → Dw K H (.ref a) (.tuple ds)
inductive DwAll (K : PySem.W.Frag) (H : Hp) : List V → List WData → Prop
  | nil : DwAll K H [] []
  | cons {v : V} {vs : List V} {d : WData} {ds : List WData} : Dw K H v d → DwAll K H vs ds → DwAll K H (v :: vs) (d :: ds)
end
theorem dw_ints {K : PySem.W.Frag} {H : Hp} : ∀ ns : List Int, DwAll K H (ns.map V.int) (ns.map WData.int)
  | [] => .nil
  | n :: r => .cons (.int n) (dw_ints r)
theorem ints_dw {K : PySem.W.Frag} {H : Hp} : ∀ (ns : List Int) (xs : List V), DwAll K H xs (ns.map WData.int) → xs = ns.map V.int
  | [], xs, h => by
    cases h
    rfl
  | n :: r, xs, h => by
    cases h with
    | cons h1 h2 =>
      cases h1
      rw [ints_dw r _ h2] <;> rfl
section
variable {P : Program} {w : World} {K : PySem.W.Frag} {H : Hp} {h : Heap} {R : PySem.W.WRecords} {cl : Str → Option Addr}
theorem sqL_at {a : Addr} {xs : List V} (hok : HOk P w H h) (KX : K.In h) (q : SqL K H a xs) : ∃ (its : List Value) (o : Obj) (n : Nat), Vals xs its ∧ h.get? a = some o ∧ o.cls = .type "list" ∧ o.data = .seq its.toArray n := by
  rcases q with q | ⟨o, its, n, e, hc, _, hd, _, hv⟩
  · obtain ⟨_, its, n, hv, e⟩ := (show ObjOk P w H h a (.lst xs) from q.ok hok)
    exact ⟨its, _, n, hv, e, rfl, rfl⟩
  · exact ⟨its.toList, o, n, hv, KX _ _ e, hc, by simp [hd]⟩
theorem sqT_at {a : Addr} {xs : List V} (hok : HOk P w H h) (KX : K.In h) (q : SqT K H a xs) : ∃ (its : List Value) (o : Obj) (n : Nat), Vals xs its ∧ h.get? a = some o ∧ o.cls = .type "tuple" ∧ o.data = .seq its.toArray n := by
  rcases q with q | ⟨o, its, n, e, hc, hd, _, hv⟩
  · obtain ⟨_, its, hv, o, e, hc, n, hd⟩ := (show ObjOk P w H h a (.tup xs) from q.ok hok)
    exact ⟨its, o, n, hv, e, hc, hd⟩
  · exact ⟨its.toList, o, n, hv, KX _ _ e, hc, by simp [hd]⟩
mutual
theorem Dw.reads (hok : HOk P w H h) (KX : K.In h) : ∀ (d : WData) (v : V) (u : Value), Dw K H v d → RelV v u → ∃ as, ReadsW R cl h u d as
  | .none, _, _, x, r => by
    cases x
    cases r
    exact ⟨_, ReadsW.none⟩
  | .bool b, _, _, x, r => by
    cases x
    cases r
    exact ⟨_, ReadsW.bool b⟩
  | .int i, _, _, x, r => by
    cases x
    obtain ⟨t, rfl⟩ := r
    exact ⟨_, ReadsW.int i t⟩
  | .str s, _, _, x, r => by
    cases x
    obtain ⟨t, rfl⟩ := r
    exact ⟨_, ReadsW.str s t⟩
  | .bytes b, _, _, x, r => by
    cases x
    obtain ⟨t, rfl⟩ := r
    exact ⟨_, ReadsW.bytes _ t⟩
  | .list ds, _, _, x, r => by
    cases x with
    | lst hs ha =>
      cases r
      obtain ⟨its, o, n, rv, ho, hc, hd⟩ := sqL_at hok KX hs
      obtain ⟨as, hr⟩ := Dw.readsAll hok KX ds _ its ha rv
      exact ⟨_, ReadsW.list ho hc hd hr⟩
  | .tuple ds, _, _, x, r => by
    cases x with
    | tup hs ha =>
      cases r
      obtain ⟨its, o, n, rv, ho, hc, hd⟩ := sqT_at hok KX hs
      obtain ⟨as, hr⟩ := Dw.readsAll hok KX ds _ its ha rv
      exact ⟨_, ReadsW.tuple ho hc hd hr⟩
  | .float _, _, _, x, _ => by cases x
  | .dict _, _, _, x, _ => by cases x
  | .bytearray _, _, _, x, _ => by cases x
  | .set _, _, _, x, _ => by cases x
  | .frozenset _, _, _, x, _ => by cases x
  | .obj _ _, _, _, x, _ => by cases x
theorem Dw.readsAll (hok : HOk P w H h) (KX : K.In h) : ∀ (ds : List WData) (vs : List V) (us : List Value), DwAll K H vs ds → Vals vs us → ∃ as, ReadsAllW R cl h us ds as
  | [], _, _, x, r => by
    cases x
    cases r
    exact ⟨_, ReadsAllW.nil⟩
  | d :: ds, _, _, x, r => by
    cases x with
    | cons h1 h2 =>
      cases r with
      | cons r1 r2 =>
        obtain ⟨as, q1⟩ := Dw.reads hok KX d _ _ h1 r1
        obtain ⟨bs, q2⟩ := Dw.readsAll hok KX ds _ _ h2 r2
        exact ⟨_, ReadsAllW.cons q1 q2⟩
end
end
mutual
noncomputable def plW : WData → Bool
  | .none => true
  | .bool _ => true
  | .int _ => true
  | .str _ => true
  | .bytes _ => true
  | .list xs => plWs xs
  | .tuple xs => plWs xs
  | _ => false
noncomputable def plWs : List WData → Bool
  | [] => true
  | x :: r => plW x && plWs r
end
theorem plWs_map {α : Type} {f : α → WData} (h : ∀ a, plW (f a) = true) : ∀ l : List α, plWs (l.map f) = true
  | [] => rfl
  | x :: r => by
    show (plW (f x) && plWs (r.map f)) = true
    rw [h x, plWs_map h r] <;> rfl
theorem pl_enc : ∀ (c : Codec) (a : c.denote), plW (c.enc a) = true
  | .unit, _ => rfl
  | .bool, _ => rfl
  | .int _ _, _ => rfl
  | .nat _ _, _ => rfl
  | .u8, _ => rfl
  | .bytes _ _, _ => rfl
  | .text _ _ _ _, _ => rfl
  | .list _ _ c, a => plWs_map (fun x => pl_enc c x) a
  | .pair c d, a => by
    show (plW (c.enc a.1) && (plW (d.enc a.2) && true)) = true
    rw [pl_enc c a.1, pl_enc d a.2] <;> rfl
  | .triple c d e, a => by
    show (plW (c.enc a.1) && (plW (d.enc a.2.1) && (plW (e.enc a.2.2) && true))) = true
    rw [pl_enc c a.1, pl_enc d a.2.1, pl_enc e a.2.2] <;> rfl
  | .option c, none => rfl
  | .option c, some x => pl_enc c x
theorem pl_encAll : ∀ (cs : List Codec) (a : Codec.denoteAll cs), plWs (Codec.encAll cs a) = true
  | [], _ => rfl
  | c :: cs, a => by
    show (plW (c.enc a.1) && plWs (Codec.encAll cs a.2)) = true
    rw [pl_enc c a.1, pl_encAll cs a.2] <;> rfl
theorem weight_mem : ∀ {xs : List WData} {d : WData}, d ∈ xs → d.weight ≤ WData.weightAll xs
  | [], d, h => absurd h (by simp)
  | x :: r, d, h => by
    show d.weight ≤ x.weight + 1 + WData.weightAll r
    rcases List.mem_cons.mp h with e | m
    · rw [e]
      omega
    · have z := weight_mem m
      omega
noncomputable def toV : Value → V
  | .none => .non
  | .bool b => .bl b
  | .int i _ => .int i
  | .str x _ => .str x
  | .bytes b _ => .byt b
  | .ref a => .ref a
  | _ => .non
noncomputable def OkU (A : List Addr) : Value → Prop
  | .none => True
  | .bool _ => True
  | .int _ _ => True
  | .str _ _ => True
  | .bytes _ _ => True
  | .ref a => a ∈ A
  | _ => False
theorem OkU.mono {A B : List Addr} (h : ∀ a ∈ A, a ∈ B) : ∀ {u : Value}, OkU A u → OkU B u := fun {u} x => by
  cases u with
  | ref a => exact h a x
  | none => trivial
  | bool b => trivial
  | int i t => trivial
  | str s t => trivial
  | bytes b t => trivial
  | _ => exact False.elim x
theorem relV_toV {A : List Addr} {u : Value} (x : OkU A u) : RelV (toV u) u := by
  cases u with
  | ref a => rfl
  | none => rfl
  | bool b => rfl
  | int i t => exact ⟨t, rfl⟩
  | str s t => exact ⟨t, rfl⟩
  | bytes b t => exact ⟨t, rfl⟩
  | _ => exact False.elim x
theorem vals_toV {A : List Addr} : ∀ {vs : List Value}, (∀ u ∈ vs, OkU A u) → Vals (vs.map toV) vs
  | [], _ => .nil
  | u :: r, h => .cons (relV_toV (h u (List.mem_cons_self ..))) (vals_toV fun x hx => h x (List.mem_cons_of_mem _ hx))
noncomputable def ArgOb (h : Heap) (A : List Addr) (a : Addr) : Prop := ∃ vs : List Value, vs.length ≤ sizeLine ∧ (∀ u ∈ vs, OkU A u) ∧
  (h.get? a = some { cls := .type "list", data := .seq vs.toArray } ∨ h.get? a = some { cls := .type "tuple", data := .seq vs.toArray })
theorem ArgOb.mono {h : Heap} {A B : List Addr} {a : Addr} (k : ∀ a ∈ A, a ∈ B) (x : ArgOb h A a) : ArgOb h B a := by
  obtain ⟨vs, h1, h2, h3⟩ := x
  exact ⟨vs, h1, fun u hu => (h2 u hu).mono k, h3⟩
theorem wellAll_len {P : Params} {h : Heap} : ∀ {vs : List Value} {ds : List WData}, WellAll P h vs ds → vs.length = ds.length
  | _, _, .nil => rfl
  | _, _, .cons _ b => by
    show _ + 1 = _ + 1
    rw [wellAll_len b]
theorem well_list {P : Params} {h : Heap} {v : Value} {ds : List WData} (x : Well P h v (.list ds)) : ∃ (a : Addr) (vs : List Value), v = .ref a ∧ h.get? a = some { cls := .type "list", data := .seq vs.toArray } ∧ WellAll P h vs ds := by
  cases x with
  | list ho hall => exact ⟨_, _, rfl, ho, hall⟩
theorem well_tuple {P : Params} {h : Heap} {v : Value} {ds : List WData} (x : Well P h v (.tuple ds)) : ∃ (a : Addr) (vs : List Value), v = .ref a ∧ h.get? a = some { cls := .type "tuple", data := .seq vs.toArray } ∧ WellAll P h vs ds := by
  cases x with
  | tuple ho hall => exact ⟨_, _, rfl, ho, hall⟩
theorem well_cons {P : Params} {h : Heap} {us : List Value} {d : WData} {ds : List WData} (x : WellAll P h us (d :: ds)) : ∃ (v : Value) (vs : List Value), us = v :: vs ∧ Well P h v d ∧ WellAll P h vs ds := by
  cases x with
  | cons a b => exact ⟨_, _, rfl, a, b⟩
theorem line_of {n : Nat} (h : n ≤ 1048576) : n ≤ sizeLine := Nat.le_trans h (by decide)
section
variable {P : Params} {h : Heap}
mutual
theorem area_one : ∀ (d : WData) (v : Value), Well P h v d → plW d = true → d.weight ≤ 1048576 → ∃ A : List Addr, OkU A v ∧ ∀ a ∈ A, ArgOb h A a
  | .none, _, x, _, _ => by
    cases x
    exact ⟨[], trivial, fun a m => absurd m (by simp)⟩
  | .bool b, _, x, _, _ => by
    cases x
    exact ⟨[], trivial, fun a m => absurd m (by simp)⟩
  | .int i, _, x, _, _ => by
    cases x
    exact ⟨[], trivial, fun a m => absurd m (by simp)⟩
  | .str s, _, x, _, _ => by
    cases x
    exact ⟨[], trivial, fun a m => absurd m (by simp)⟩
  | .bytes b, _, x, _, _ => by
    cases x
    exact ⟨[], trivial, fun a m => absurd m (by simp)⟩
  | .list ds, _, x, p, z => by
    obtain ⟨a, vs, rfl, ho, hall⟩ := well_list x
    have z2 : WData.weightAll ds ≤ 1048576 := z
    obtain ⟨A, h1, h2⟩ := area_all ds _ hall p fun d hd => Nat.le_trans (weight_mem hd) z2
    have k : ∀ b ∈ A, b ∈ a :: A := fun b hb => List.mem_cons_of_mem _ hb
    refine ⟨a :: A, List.mem_cons_self .., fun b hb => ?_⟩
    rcases List.mem_cons.mp hb with e | m
    · rw [e]
      exact ⟨vs, line_of (by rw [wellAll_len hall]; exact Nat.le_trans (PySem.W.length_le_weightAllW ds) z2), fun u hu => (h1 u hu).mono k, .inl ho⟩
    · exact (h2 b m).mono k
  | .tuple ds, _, x, p, z => by
    obtain ⟨a, vs, rfl, ho, hall⟩ := well_tuple x
    have z2 : WData.weightAll ds ≤ 1048576 := z
    obtain ⟨A, h1, h2⟩ := area_all ds _ hall p fun d hd => Nat.le_trans (weight_mem hd) z2
    have k : ∀ b ∈ A, b ∈ a :: A := fun b hb => List.mem_cons_of_mem _ hb
    refine ⟨a :: A, List.mem_cons_self .., fun b hb => ?_⟩
    rcases List.mem_cons.mp hb with e | m
    · rw [e]
      exact ⟨vs, line_of (by rw [wellAll_len hall]; exact Nat.le_trans (PySem.W.length_le_weightAllW ds) z2), fun u hu => (h1 u hu).mono k, .inr ho⟩
    · exact (h2 b m).mono k
  | .float _, _, _, p, _ => Bool.noConfusion (show false = true from p)
  | .dict _, _, _, p, _ => Bool.noConfusion (show false = true from p)
  | .bytearray _, _, _, p, _ => Bool.noConfusion (show false = true from p)
  | .set _, _, _, p, _ => Bool.noConfusion (show false = true from p)
  | .frozenset _, _, _, p, _ => Bool.noConfusion (show false = true from p)
  | .obj _ _, _, _, p, _ => Bool.noConfusion (show false = true from p)
theorem area_all : ∀ (ds : List WData) (vs : List Value), WellAll P h vs ds → plWs ds = true → (∀ d ∈ ds, d.weight ≤ 1048576) → ∃ A : List Addr, (∀ u ∈ vs, OkU A u) ∧ ∀ a ∈ A, ArgOb h A a
  | [], _, x, _, _ => by
    cases x
    exact ⟨[], fun u m => absurd m (by simp), fun a m => absurd m (by simp)⟩
  | d :: ds, _, x, p, z => by
    obtain ⟨v, vs, rfl, x1, x2⟩ := well_cons x
    have q : plW d = true ∧ plWs ds = true := Bool.and_eq_true_iff.mp p
    obtain ⟨A, a1, a2⟩ := area_one d v x1 q.1 (z d (List.mem_cons_self ..))
    obtain ⟨B, b1, b2⟩ := area_all ds vs x2 q.2 fun e he => z e (List.mem_cons_of_mem _ he)
    have kA : ∀ b ∈ A, b ∈ A ++ B := fun b hb => List.mem_append.mpr (.inl hb)
    have kB : ∀ b ∈ B, b ∈ A ++ B := fun b hb => List.mem_append.mpr (.inr hb)
    refine ⟨A ++ B, fun u hu => ?_, fun b hb => ?_⟩
    · rcases List.mem_cons.mp hu with e | m
      · rw [e]
        exact a1.mono kA
      · exact (b1 u m).mono kB
    · rcases List.mem_append.mp hb with m | m
      · exact (a2 b m).mono kA
      · exact (b2 b m).mono kB
end
end
noncomputable def hoOf (o : Obj) : Option HO := match o.data with
  | .seq vs _ => if (o.cls == Value.type "list") = true then some (.frz o (.lst (vs.toList.map toV))) else some (.frz o (.tup (vs.toList.map toV)))
  | _ => none
noncomputable def argH (K : PySem.W.Frag) (h : Heap) (A : List Addr) : Hp := fun b => if b ∈ A then (if (K.lookup b).isNone = true then (h.get? b).bind hoOf else none) else none
noncomputable def OnlyF (H : Hp) : Prop := ∀ b, H b = none ∨ ∃ o u, H b = some (.frz o u)
theorem hoOf_lst (vs : List Value) : hoOf { cls := .type "list", data := .seq vs.toArray } = some (.frz { cls := .type "list", data := .seq vs.toArray } (.lst (vs.map toV))) := by
  show (if (Value.type "list" == Value.type "list") = true then some (HO.frz { cls := .type "list", data := .seq vs.toArray } (.lst (vs.toArray.toList.map toV))) else some (HO.frz { cls := .type "list", data := .seq vs.toArray } (.tup (vs.toArray.toList.map toV)))) = _
  rw [if_pos (beq_self_eq_true _)]
theorem hoOf_tup (vs : List Value) : hoOf { cls := .type "tuple", data := .seq vs.toArray } = some (.frz { cls := .type "tuple", data := .seq vs.toArray } (.tup (vs.map toV))) := by
  show (if (Value.type "tuple" == Value.type "list") = true then some (HO.frz { cls := .type "tuple", data := .seq vs.toArray } (.lst (vs.toArray.toList.map toV))) else some (HO.frz { cls := .type "tuple", data := .seq vs.toArray } (.tup (vs.toArray.toList.map toV)))) = _
  rw [if_neg (by decide)]
section
variable {P : Program} {w : World} {K : PySem.W.Frag} {h : Heap} {A : List Addr}
theorem argH_at {b : Addr} {o : Obj} (hb : b ∈ A) (hk : K.lookup b = none) (e : h.get? b = some o) : argH K h A b = hoOf o := by
  unfold argH
  rw [if_pos hb, hk, if_pos (show (none : Option Obj).isNone = true from rfl), e] <;> rfl
theorem of_argH {b : Addr} {u : HO} (q : argH K h A b = some u) : b ∈ A ∧ K.lookup b = none := by
  unfold argH at q
  by_cases hb : b ∈ A
  · rw [if_pos hb] at q
    cases hk : K.lookup b with
    | none => exact ⟨hb, rfl⟩
    | some o =>
      rw [hk, if_neg (by simp)] at q
      cases q
  · rw [if_neg hb] at q
    cases q
theorem argH_is (ar : ∀ a ∈ A, ArgOb h A a) {b : Addr} {u : HO} (q : argH K h A b = some u) : K.lookup b = none ∧ ∃ vs : List Value, vs.length ≤ sizeLine ∧ (∀ u ∈ vs, OkU A u) ∧
    ((h.get? b = some { cls := .type "list", data := .seq vs.toArray } ∧ u = .frz { cls := .type "list", data := .seq vs.toArray } (.lst (vs.map toV))) ∨
     (h.get? b = some { cls := .type "tuple", data := .seq vs.toArray } ∧ u = .frz { cls := .type "tuple", data := .seq vs.toArray } (.tup (vs.map toV)))) := by
  obtain ⟨hb, hk⟩ := of_argH q
  obtain ⟨vs, h1, h2, h3⟩ := ar b hb
  refine ⟨hk, vs, h1, h2, ?_⟩
  rcases h3 with e | e
  · rw [argH_at hb hk e, hoOf_lst] at q
    exact .inl ⟨e, (Option.some.inj q).symm⟩
  · rw [argH_at hb hk e, hoOf_tup] at q
    exact .inr ⟨e, (Option.some.inj q).symm⟩
theorem argH_only (ar : ∀ a ∈ A, ArgOb h A a) : OnlyF (argH K h A) := fun b => by
  cases q : argH K h A b with
  | none => exact .inl rfl
  | some u =>
    obtain ⟨_, vs, _, _, ⟨_, e⟩ | ⟨_, e⟩⟩ := argH_is ar q
    · exact .inr ⟨_, _, by rw [e]⟩
    · exact .inr ⟨_, _, by rw [e]⟩
theorem argH_ok (ar : ∀ a ∈ A, ArgOb h A a) : HOk P w (argH K h A) h := fun b u q => by
  obtain ⟨_, vs, h1, h2, ⟨e, rfl⟩ | ⟨e, rfl⟩⟩ := argH_is ar q
  · exact ⟨e, by rw [List.length_map]; exact h1, vs, _, vals_toV h2, e⟩
  · exact ⟨e, by rw [List.length_map]; exact h1, vs, vals_toV h2, _, e, rfl, _, rfl⟩
theorem seq_inj {c c' : Value} {vs us : List Value} (e : (some { cls := c, data := .seq vs.toArray } : Option Obj) = some { cls := c', data := .seq us.toArray }) : c = c' ∧ vs = us := by
  have e1 := Option.some.inj e
  have e2 : c = c' := congrArg Obj.cls e1
  have e3 : Data.seq vs.toArray = Data.seq us.toArray := congrArg Obj.data e1
  injection e3 with e4
  refine ⟨e2, ?_⟩
  have e5 := congrArg Array.toList e4
  simpa using e5
theorem argL (KX : K.In h) (ar : ∀ a ∈ A, ArgOb h A a) {a : Addr} {vs : List Value} (ha : a ∈ A) (e : h.get? a = some { cls := .type "list", data := .seq vs.toArray }) : (∀ u ∈ vs, OkU A u) ∧ SqL K (argH K h A) a (vs.map toV) := by
  obtain ⟨us, h1, h2, h3⟩ := ar a ha
  have hu : us = vs := by
    rcases h3 with q | q
    · rw [e] at q
      exact (seq_inj q).2.symm
    · rw [e] at q
      exact absurd (Value.type.inj (seq_inj q).1) (by decide)
  subst hu
  refine ⟨h2, ?_⟩
  cases hk : K.lookup a with
  | none => exact .inl (.inr ⟨_, by rw [argH_at ha hk e, hoOf_lst]⟩)
  | some o =>
    have e2 := KX a o hk
    rw [e] at e2
    obtain rfl := Option.some.inj e2
    exact .inr ⟨_, us.toArray, _, hk, rfl, rfl, rfl, by rw [List.size_toArray]; exact h1, by simpa using vals_toV h2⟩
theorem argT (KX : K.In h) (ar : ∀ a ∈ A, ArgOb h A a) {a : Addr} {vs : List Value} (ha : a ∈ A) (e : h.get? a = some { cls := .type "tuple", data := .seq vs.toArray }) : (∀ u ∈ vs, OkU A u) ∧ SqT K (argH K h A) a (vs.map toV) := by
  obtain ⟨us, h1, h2, h3⟩ := ar a ha
  have hu : us = vs := by
    rcases h3 with q | q
    · rw [e] at q
      exact absurd (Value.type.inj (seq_inj q).1) (by decide)
    · rw [e] at q
      exact (seq_inj q).2.symm
  subst hu
  refine ⟨h2, ?_⟩
  cases hk : K.lookup a with
  | none => exact .inl (.inr ⟨_, by rw [argH_at ha hk e, hoOf_tup]⟩)
  | some o =>
    have e2 := KX a o hk
    rw [e] at e2
    obtain rfl := Option.some.inj e2
    exact .inr ⟨_, us.toArray, _, hk, rfl, rfl, by rw [List.size_toArray]; exact h1, by simpa using vals_toV h2⟩
mutual
theorem dw_one {Pm : Params} (KX : K.In h) (ar : ∀ a ∈ A, ArgOb h A a) : ∀ (d : WData) (v : Value), Well Pm h v d → plW d = true → OkU A v → Dw K (argH K h A) (toV v) d
  | .none, _, x, _, _ => by
    cases x
    exact .non
  | .bool b, _, x, _, _ => by
    cases x
    exact .bl b
  | .int i, _, x, _, _ => by
    cases x
    exact .int i
  | .str s, _, x, _, _ => by
    cases x
    exact .str s
  | .bytes b, _, x, _, _ => by
    cases x
    have z := Dw.byt (K := K) (H := argH K h A) b.toArray
    exact z
  | .list ds, _, x, p, hu => by
    obtain ⟨a, vs, rfl, ho, hall⟩ := well_list x
    obtain ⟨h2, hs⟩ := argL KX ar hu ho
    exact .lst hs (dw_all KX ar ds _ hall p h2)
  | .tuple ds, _, x, p, hu => by
    obtain ⟨a, vs, rfl, ho, hall⟩ := well_tuple x
    obtain ⟨h2, hs⟩ := argT KX ar hu ho
    exact .tup hs (dw_all KX ar ds _ hall p h2)
  | .float _, _, _, p, _ => Bool.noConfusion (show false = true from p)
  | .dict _, _, _, p, _ => Bool.noConfusion (show false = true from p)
  | .bytearray _, _, _, p, _ => Bool.noConfusion (show false = true from p)
  | .set _, _, _, p, _ => Bool.noConfusion (show false = true from p)
  | .frozenset _, _, _, p, _ => Bool.noConfusion (show false = true from p)
  | .obj _ _, _, _, p, _ => Bool.noConfusion (show false = true from p)
theorem dw_all {Pm : Params} (KX : K.In h) (ar : ∀ a ∈ A, ArgOb h A a) : ∀ (ds : List WData) (vs : List Value), WellAll Pm h vs ds → plWs ds = true → (∀ u ∈ vs, OkU A u) → DwAll K (argH K h A) (vs.map toV) ds
  | [], _, x, _, _ => by
    cases x
    exact .nil
  | d :: ds, _, x, p, hu => by
    obtain ⟨v, vs, rfl, x1, x2⟩ := well_cons x
    have q : plW d = true ∧ plWs ds = true := Bool.and_eq_true_iff.mp p
    exact .cons (dw_one KX ar d v x1 q.1 (hu _ (List.mem_cons_self ..))) (dw_all KX ar ds vs x2 q.2 fun u m => hu u (List.mem_cons_of_mem _ m))
end
end
theorem spec_call {P : Program} {w : World} {K : PySem.W.Frag} {mg mb : Str → Option Value} {CX : CXT} {k : Nat} {fa : Addr} {fd : FuncData} {ps : List Str} {sp : Sp} {s₁ : Shared} {vals : List Value} {ds : List WData} {R : PySem.W.WRecords} {cl : Str → Option Addr} {d0 : WData}
    (KX : K.In s₁.heap) (hns : s₁.heap.Ns mainGlobals mg) (hb : s₁.heap.Ns builtinsNs mb) (hbb : ∀ x : Str, x ≠ "__name__" → mb x = bootBuiltins x) (hlim : s₁.heap.NoLimit) (hg : s₁.gens = #[])
    (hwl : WellAll w.params s₁.heap vals ds) (hpl : plWs ds = true) (hwt : ∀ d ∈ ds, d.weight ≤ 1048576) (hr : Room k callerA)
    (F : ∀ base : Heap, K.In base → base.Ns mainGlobals mg → FnOk P w K mg base CX k fa fd ps sp) (hbind : ∀ (s : Shared) (us : List Value), us.length = ps.length → BindsTo s fd ⟨us, []⟩ (ps.zip us)) (hlen : ds.length = ps.length)
    (hsp : ∀ (H : Hp) (xs : List V), OnlyF H → DwAll K H xs ds → sp xs H (fun v H' => Dw K H' v d0) fun _ _ _ => False)
    (hCX : ∀ H e s', CX [] H s₁ (fun _ _ _ => False) e s' → False) :
    codeAny (model P w) callerA (.call (.ref fa) ⟨vals, []⟩) (fun r s' => ∃ u as, r = .ok (.ret u) ∧ ReadsW R cl s'.heap u d0 as ∧ OldK s₁.heap s'.heap ∧ s'.os = s₁.os ∧ AllBare s'.gens) s₁ := by
  obtain ⟨A, ho, ar⟩ := area_all ds vals hwl hpl hwt
  have hO : OnlyF (argH K s₁.heap A) := argH_only ar
  have hok : HOk P w (argH K s₁.heap A) s₁.heap := argH_ok ar
  have hS := dw_all KX ar ds vals hwl hpl ho
  have hV := vals_toV ho
  have hK : ∀ b u, argH K s₁.heap A b = some u → K.lookup b = none := fun b u q => (argH_is ar q).1
  have noA : ∀ {b : Addr} {o : Obj} {es : Array DictEntry} {ep : Nat}, s₁.heap.get? b = some o → o.data = .dict es ep → argH K s₁.heap A b = none := fun {b o es ep} e d => by
    cases q : argH K s₁.heap A b with
    | none => rfl
    | some u =>
      obtain ⟨_, vs, _, _, ⟨e2, _⟩ | ⟨e2, _⟩⟩ := argH_is ar q
      · rw [e2] at e
        cases e
        have d' : Data.seq vs.toArray _ = Data.dict es ep := d
        cases d'
      · rw [e2] at e
        cases e
        have d' : Data.seq vs.toArray _ = Data.dict es ep := d
        cases d'
  generalize argH K s₁.heap A = H at hO hok hS hK noA
  have base_of : ∀ {b : Addr} {o : Obj}, s₁.heap.get? b = some o → H b = none → (hidT s₁.heap H).get? b = some o := fun e n => hidT_get e n
  have nsK : ∀ {b : Addr} {m : Str → Option Value}, s₁.heap.Ns b m → (hidT s₁.heap H).Ns b m := fun {b m} ⟨o, es, ep, e, d, r⟩ => ⟨o, es, ep, base_of e (noA e d), d, r⟩
  have nK : ∀ b o, K.lookup b = some o → H b = none := fun b o e => by
    cases q : H b with
    | none => rfl
    | some u =>
      rw [hK b u q] at e
      cases e
  have hKb : K.In (hidT s₁.heap H) := fun b o e => base_of (KX b o e) (nK b o e)
  have hM : Mod K mg (hidT s₁.heap H) := ⟨hKb, nsK hns, ⟨mb, nsK hb, hbb⟩, let ⟨mc, h1, h2⟩ := hlim; ⟨mc, nsK h1, h2⟩⟩
  have e0 : Env0 P w K mg (hidT s₁.heap H) callerA [] s₁ H := ⟨rfl, hM, fun b o e => of_hidT e, Nat.le_of_eq (hidT_size _ _), trivial, fun b hb => absurd (show b ∈ ([] : List Addr) from hb) (by simp), hok, .of_eq hg⟩
  have hl : vals.length = ps.length := by rw [wellAll_len hwl]; exact hlen
  refine codeAny_mono ((F _ hKb (nsK hns)).run callerA [] s₁ H ⟨vals, []⟩ vals (vals.map toV) _ _ hr e0 (hbind s₁ vals hl) hV (hsp H _ hO hS)) fun r s' x => ?_
  cases r with
  | error e => exact (hCX H e s' x).elim
  | ok fl =>
    cases fl with
    | next => exact False.elim x
    | brk => exact False.elim x
    | cont => exact False.elim x
    | ret u =>
      obtain ⟨v, H', os, bare, un, hok', r', q⟩ := x
      have kept : ∀ b o, s₁.heap.get? b = some o → s'.heap.get? b = some o := fun b o e => by
        cases q2 : H b with
        | none => exact un.keep b o e q2 (by intro z; exact absurd (show b ∈ ([] : List Addr) from z) (by simp)) (by simp)
        | some u2 =>
          rcases hO b with z | ⟨ob, u3, z⟩
          · rw [q2] at z
            cases z
          · have z2 := un.frzs b ob _ z
            obtain ⟨e1, _⟩ := hok b _ z
            obtain ⟨e2, _⟩ := hok' b _ z2
            rw [e] at e1
            cases e1
            exact e2
      have KX' : K.In s'.heap := fun b o e => kept b o (KX b o e)
      obtain ⟨as, hrd⟩ := Dw.reads (R := R) (cl := cl) hok' KX' d0 v u q r'
      exact ⟨u, as, rfl, hrd, OldK.of_keep kept, os, bare⟩
theorem layable_weight {ds : List WData} (h : WData.layableAll ds = true) : ∀ d ∈ ds, d.weight ≤ 1048576 := fun d hd =>
  (PySem.W.layableW_iff.mp (List.all_eq_true.mp h d hd)).2.2
theorem encAll_len : ∀ (cs : List Codec) (a : Codec.denoteAll cs), (Codec.encAll cs a).length = cs.length
  | [], _ => rfl
  | c :: cs, a => by
    show (Codec.encAll cs a.2).length + 1 = cs.length + 1
    rw [encAll_len cs a.2]
theorem walk_spec {r : OpenSpec} {k : Nat} {q : Program} {loose : List Str} {XP : (Str → Option Value) → Heap → Prop} {YP : World → Heap → Prop} {d : DefRec} {K : Params → PySem.W.Frag} {CX : World → CXT} {ps : List Str} {sp : World → Sp}
    (hwell : r.wellSaid = true) (hdf : d.params.defaults = []) (hlen : r.args.length = ps.length) (hr : Room k callerA)
    (hY : ∀ (w : World) (h : Heap), YP w h → (K w.params).In h)
    (F : ∀ (w : World) (mg : Str → Option Value) (fa : Addr) (h : Heap), YP w h → (K w.params).In h → h.Ns mainGlobals mg → mg d.name = some (.ref fa) →
      ∃ fd : FuncData, (∀ (s : Shared) (us : List Value), us.length = ps.length → BindsTo s fd ⟨us, []⟩ (ps.zip us)) ∧
        ∀ base : Heap, (K w.params).In base → base.Ns mainGlobals mg → FnOk r.prog w (K w.params) mg base (CX w) k fa fd ps (sp w))
    (hsp : ∀ (w : World) (H : Hp) (xs : List V) (a : Codec.denoteAll r.args), OnlyF H → Codec.withinAll r.args a = true → Codec.app r.args r.asked a = true → DwAll (K w.params) H xs (Codec.encAll r.args a) →
      sp w xs H (fun v H' => Dw (K w.params) H' v (r.ret.enc (Codec.app r.args r.f a))) fun _ _ _ => False)
    (hCX : ∀ (w : World) (H : Hp) (s : Shared) (e : Value) (s' : Shared), CX w [] H s (fun _ _ _ => False) e s' → False) :
    PySem.W.WalkOS q loose XP YP r d [] (fun f vs => PySem.call f vs) := by
  intro w s_0 s₁ mg mb G Y fa o pm cd doc dV kV ho hd hcd hD hmg hg args vals as hpre hlay hrd hwl hlo
  obtain ⟨a, e1, e2⟩ := PySem.W.os_pre_some hpre
  obtain ⟨e3, hwi⟩ := Codec.encAll_of_decAll r.args args a e1
  subst e3
  have KX := hY w _ Y
  obtain ⟨fd, hb, hF⟩ := F w mg fa _ Y KX G.T.g hmg
  refine PySem.W.enter_call (codeAny_mono (spec_call (R := []) (cl := classAt s_0.heap) (d0 := r.ret.enc (Codec.app r.args r.f a)) KX G.T.g G.T.b G.T.builtins G.T.nolimit hg hwl (pl_encAll _ _) (layable_weight hlay) hr hF hb (by rw [encAll_len]; exact hlen)
    (fun H xs hO hS => hsp w H xs a hO hwi e2 hS) fun H e s' => hCX w H s₁ e s') fun r' s' hq => ?_)
  obtain ⟨u, as', rfl, h1, h2, h3, h4⟩ := hq
  exact ⟨.inl ⟨u, _, as', rfl, fun _ => rfl, h1, (OpenSpec.post_iff hwell hwi _ _).mpr rfl, fun z => Bool.noConfusion (show false = true from z)⟩, h2, h3, h4⟩
theorem walk_specK {r : OpenSpec} {k : Nat} {q : Program} {loose : List Str} {XP : (Str → Option Value) → Heap → Prop} {YP : World → Heap → Prop} {d : DefRec} {K : Params → PySem.W.Frag} {CX : CXT} {ps : List Str} {sp : PySem.W.Frag → Sp}
    (hwell : r.wellSaid = true) (hdf : d.params.defaults = []) (hlen : r.args.length = ps.length) (hr : Room k callerA)
    (hY : ∀ (w : World) (h : Heap), YP w h → (K w.params).In h)
    (F : ∀ (w : World) (mg : Str → Option Value) (fa : Addr) (h : Heap), YP w h → (K w.params).In h → h.Ns mainGlobals mg → mg d.name = some (.ref fa) →
      ∃ fd : FuncData, (∀ (s : Shared) (us : List Value), us.length = ps.length → BindsTo s fd ⟨us, []⟩ (ps.zip us)) ∧
        ∀ base : Heap, (K w.params).In base → base.Ns mainGlobals mg → FnOk r.prog w (K w.params) mg base CX k fa fd ps (sp (K w.params)))
    (hsp : ∀ (K : PySem.W.Frag) (H : Hp) (xs : List V) (a : Codec.denoteAll r.args), OnlyF H → Codec.withinAll r.args a = true → Codec.app r.args r.asked a = true → DwAll K H xs (Codec.encAll r.args a) →
      sp K xs H (fun v H' => Dw K H' v (r.ret.enc (Codec.app r.args r.f a))) fun _ _ _ => False)
    (hCX : ∀ (H : Hp) (s : Shared) (e : Value) (s' : Shared), CX [] H s (fun _ _ _ => False) e s' → False) :
    PySem.W.WalkOS q loose XP YP r d [] (fun f vs => PySem.call f vs) :=
  walk_spec (K := K) (CX := fun _ => CX) (sp := fun w => sp (K w.params)) hwell hdf hlen hr hY F (fun w H xs a h1 h2 h3 h4 => hsp (K w.params) H xs a h1 h2 h3 h4) fun _ H s e s' => hCX H s e s'
end L2
-- rests on (row put in by the clerk, for the bench that shows a file only what it spells): KE.SpHead KE.OsShapes
end
end
section
namespace Two
open Krl7 (House Abs Open)
open Krb7 (full both not_ within count)
noncomputable def rest (st : Abs) (cs : List (List (List Int))) : List Int := PyFlat.told (PyFlat.played Krl7Neutral.step st cs)
theorem rest_nil (st : Abs) : rest st [] = [] := rfl
theorem rest_cons (st : Abs) (c : List (List Int)) (cs : List (List (List Int))) :
    rest st (c :: cs) = ((Krl7Neutral.step st c).2.length : Int) :: ((Krl7Neutral.step st c).2 ++ rest (Krl7Neutral.step st c).1 cs) := by
  simp [rest, PyFlat.told, PyFlat.played]
noncomputable def behind (p : Int) : Nat := if p = 15 ∨ p = 16 ∨ p = 17 then 2 else if p ≤ 4 ∨ p = 11 ∨ p = 14 ∨ p = 22 then 1 else 0
theorem uptoF : ∀ i : Fin 24, i.val = 0 ∨ i.val = 1 ∨ i.val = 2 ∨ i.val = 3 ∨ i.val = 4 ∨ i.val = 5 ∨ i.val = 6 ∨ i.val = 7 ∨ i.val = 8 ∨ i.val = 9 ∨ i.val = 10 ∨ i.val = 11 ∨ i.val = 12 ∨ i.val = 13 ∨ i.val = 14 ∨ i.val = 15 ∨ i.val = 16 ∨ i.val = 17 ∨ i.val = 18 ∨ i.val = 19 ∨ i.val = 20 ∨ i.val = 21 ∨ i.val = 22 ∨ i.val = 23 := by decide +kernel
theorem uptoN {n : Nat} (h : n ≤ 23) : n = 0 ∨ n = 1 ∨ n = 2 ∨ n = 3 ∨ n = 4 ∨ n = 5 ∨ n = 6 ∨ n = 7 ∨ n = 8 ∨ n = 9 ∨ n = 10 ∨ n = 11 ∨ n = 12 ∨ n = 13 ∨ n = 14 ∨ n = 15 ∨ n = 16 ∨ n = 17 ∨ n = 18 ∨ n = 19 ∨ n = 20 ∨ n = 21 ∨ n = 22 ∨ n = 23 := uptoF ⟨n, by omega⟩
theorem up11F : ∀ i : Fin 12, 1 ≤ i.val → i.val = 1 ∨ i.val = 2 ∨ i.val = 3 ∨ i.val = 4 ∨ i.val = 5 ∨ i.val = 6 ∨ i.val = 7 ∨ i.val = 8 ∨ i.val = 9 ∨ i.val = 10 ∨ i.val = 11 := by decide +kernel
theorem up10F : ∀ i : Fin 11, 5 ≤ i.val → i.val = 5 ∨ i.val = 6 ∨ i.val = 7 ∨ i.val = 8 ∨ i.val = 9 ∨ i.val = 10 := by decide +kernel
theorem up11 {n : Nat} (h : 1 ≤ n ∧ n ≤ 11) : n = 1 ∨ n = 2 ∨ n = 3 ∨ n = 4 ∨ n = 5 ∨ n = 6 ∨ n = 7 ∨ n = 8 ∨ n = 9 ∨ n = 10 ∨ n = 11 := up11F ⟨n, by omega⟩ h.1
theorem up10 {n : Nat} (h : 5 ≤ n ∧ n ≤ 10) : n = 5 ∨ n = 6 ∨ n = 7 ∨ n = 8 ∨ n = 9 ∨ n = 10 := up10F ⟨n, by omega⟩ h.1
theorem upto23 {p : Int} (h0 : 0 ≤ p) (h1 : p ≤ 23) : ∃ n : Nat, p = (n : Int) ∧ n ≤ 23 := ⟨p.toNat, by omega, by omega⟩
theorem behind_bare {n : Nat} (h : 5 ≤ n ∧ n ≤ 10) : behind (n : Int) = 0 := by
  rcases up10 h with rfl | rfl | rfl | rfl | rfl | rfl <;> rfl
theorem behind_given {n : Nat} (h : n = 1 ∨ n = 2 ∨ n = 3 ∨ n = 4 ∨ n = 11) : behind (n : Int) = 1 := by
  rcases h with rfl | rfl | rfl | rfl | rfl <;> rfl
theorem shape_all : ∀ i : Fin 24, PyKrl7.shape ((i.val : Nat) : Int) = some (behind ((i.val : Nat) : Int), 0) := by decide +kernel
theorem shape_is {p : Int} (n k : Nat) (hs : PyKrl7.shape p = some (n, k)) : 0 ≤ p ∧ p ≤ 23 ∧ n = behind p ∧ k = 0 := by
  by_cases h : 0 ≤ p ∧ p ≤ 23
  · refine ⟨h.1, h.2, ?_⟩
    have e := shape_all ⟨p.toNat, by omega⟩
    simp only [Int.toNat_of_nonneg h.1] at e
    rw [e] at hs
    cases hs
    exact ⟨rfl, rfl⟩
  · exfalso
    unfold PyKrl7.shape at hs
    rw [if_neg (by omega), if_neg (by omega), if_neg (by omega), if_neg (by omega), if_neg (by omega), if_neg (by omega), if_neg (by omega), if_neg (by omega), if_neg (by omega), if_neg (by omega), if_neg (by omega), if_neg (by omega), if_neg (by omega), if_neg (by omega), if_neg (by omega), if_neg (by omega), if_neg (by omega), if_neg (by omega), if_neg (by omega), if_neg (by omega), if_neg (by omega), if_neg (by omega), if_neg (by omega), if_neg (by omega)] at hs
    cases hs
theorem calls_step {f : Nat} {p : Int} {r : List Int} {cs : List (List (List Int))} (h : PyFlat.calls PyKrl7.shape f (p :: r) = some cs) :
    0 ≤ p ∧ p ≤ 23 ∧ behind p ≤ r.length ∧ ∃ f' cs', cs = [p :: r.take (behind p)] :: cs' ∧ PyFlat.calls PyKrl7.shape f' (r.drop (behind p)) = some cs' := by
  cases f with
  | zero => simp [PyFlat.calls] at h
  | succ f =>
    unfold PyFlat.calls PyFlat.call at h
    have hp := @shape_is p
    cases hs : PyKrl7.shape p with
    | none => simp [hs] at h
    | some nk =>
      obtain ⟨n, k⟩ := nk
      obtain ⟨h0, h1, rfl, rfl⟩ := hp n k hs
      simp only [hs, PyFlat.rows] at h
      split at h
      · simp at h
      · rename_i c t hc
        split at hc
        · simp at hc
        · rename_i hl
          simp at hc
          obtain ⟨rfl, rfl⟩ := hc
          split at h
          · simp at h
          · rename_i cs' hcs
            simp at h
            exact ⟨h0, h1, by omega, f, cs', h.symm, hcs⟩
theorem calls_nil {f : Nat} {cs : List (List (List Int))} (h : PyFlat.calls PyKrl7.shape f [] = some cs) : cs = [] := by
  cases f <;> (unfold PyFlat.calls at h; simp at h; exact h)
theorem whole_row {p : Int} {xs : List Int} (h0 : 0 ≤ p) (h1 : p ≤ 23) (hl : xs.length = behind p) : PyKrl7.whole [p :: xs] = [p :: xs] := by
  obtain ⟨n, rfl, hn⟩ := upto23 h0 h1
  match xs, hl with
  | [], hl => rcases uptoN hn with rfl | rfl | rfl | rfl | rfl | rfl | rfl | rfl | rfl | rfl | rfl | rfl | rfl | rfl | rfl | rfl | rfl | rfl | rfl | rfl | rfl | rfl | rfl | rfl <;> first | rfl | (exact absurd hl (by decide))
  | [x], hl => rcases uptoN hn with rfl | rfl | rfl | rfl | rfl | rfl | rfl | rfl | rfl | rfl | rfl | rfl | rfl | rfl | rfl | rfl | rfl | rfl | rfl | rfl | rfl | rfl | rfl | rfl <;> first | rfl | (exact absurd hl (by decide))
  | [x, y], hl => rcases uptoN hn with rfl | rfl | rfl | rfl | rfl | rfl | rfl | rfl | rfl | rfl | rfl | rfl | rfl | rfl | rfl | rfl | rfl | rfl | rfl | rfl | rfl | rfl | rfl | rfl <;> first | rfl | (exact absurd hl (by decide))
  | _ :: _ :: _ :: l, hl =>
    have hb : behind (n : Int) ≤ 2 := by
      unfold behind
      split
      · decide
      · split <;> decide
    rw [List.length_cons, List.length_cons, List.length_cons] at hl
    omega
theorem map_whole : ∀ (f : Nat) (l : List Int) (cs : List (List (List Int))), PyFlat.calls PyKrl7.shape f l = some cs → cs.map PyKrl7.whole = cs := by
  intro f l cs h
  induction cs generalizing f l with
  | nil => rfl
  | cons c cs ih =>
    cases l with
    | nil => rw [calls_nil h]; rfl
    | cons p r =>
      obtain ⟨h0, h1, hb, f', cs', e, h'⟩ := calls_step h
      cases e
      rw [List.map_cons, ih _ _ h', whole_row h0 h1 (by rw [List.length_take]; omega)]
theorem answers_rest {l : List Int} {cs : List (List (List Int))} (h : PyFlat.calls PyKrl7.shape l.length l = some cs) : PyKrl7.answers l = rest none cs := by
  unfold PyKrl7.answers PyKrl7.calls
  rw [h]
  show PyFlat.told (PyFlat.played Krl7Neutral.step Krl7Neutral.start (cs.map PyKrl7.whole)) = _
  rw [map_whole _ _ _ h]
  rfl
end Two
end
section
namespace Two
open Krl7 (House Abs Open mostStore mostMoves)
open Krb7 (full both not_ within count)
structure Good (h : House) : Prop where
  m1 : 1 ≤ h.m
  m3 : h.m ≤ 3
  one : ∀ p ∈ h.one, p ≤ full h.m
  two : ∀ p ∈ h.two, p ≤ full h.m
  l1 : h.one.length ≤ 6
  l2 : h.two.length ≤ 6
  turn : h.turn = 0 ∨ h.turn = 1
  what : h.open_.what ≤ full h.m
  why : ∀ p, h.open_ = .why p → p ∈ h.mine
  moves : h.moves ≤ 40
noncomputable def GoodA : Abs → Prop
  | none => True
  | some h => Good h
theorem Good.store {h : House} (g : Good h) (s : Nat) : ∀ p ∈ h.store s, p ≤ full h.m := by
  unfold House.store
  split
  · exact g.one
  · exact g.two
theorem Good.slen {h : House} (g : Good h) (s : Nat) : (h.store s).length ≤ 6 := by
  unfold House.store
  split
  · exact g.l1
  · exact g.l2
theorem Good.mine {h : House} (g : Good h) : ∀ p ∈ h.mine, p ≤ full h.m := g.store _
theorem Good.mlen {h : House} (g : Good h) : h.mine.length ≤ 6 := g.slen _
theorem Good.made {h : House} (g : Good h) {l : List Nat} {o : Open} (hm : h.moves < 40) (hl : ∀ p ∈ l, p ≤ full h.m) (hn : l.length ≤ 6) (ho : o.what ≤ full h.m)
    (hw : ∀ p, o = .why p → p ∈ h.store h.other) : Good (h.made l o) := by
  obtain ⟨m, one, two, turn, open_, moves⟩ := h
  obtain ⟨m1, m3, g1, g2, l1, l2, gt, gw, gy, gm⟩ := g
  simp only at *
  rcases gt with rfl | rfl
  · exact ⟨m1, m3, hl, g2, hn, l2, Or.inr rfl, ho, hw, by show moves + 1 ≤ 40; omega⟩
  · exact ⟨m1, m3, g1, hl, l1, hn, Or.inl rfl, ho, hw, by show moves + 1 ≤ 40; omega⟩
theorem Good.commit {h : House} (g : Good h) {p : Nat} {o : Open} (hm : h.moves < 40) (hp : p ≤ full h.m) (ho : o.what ≤ full h.m) (hw : ∀ q, o ≠ .why q) : GoodA (h.commit p o).1 := by
  unfold House.commit
  split
  · exact g
  · split
    · exact g.made hm g.mine g.mlen ho (fun q e => absurd e (hw q))
    · split
      · exact g
      · rename_i h6
        refine g.made hm ?_ ?_ ho (fun q e => absurd e (hw q))
        · intro q hq
          rcases List.mem_append.mp hq with hq | hq
          · exact g.mine q hq
          · rw [List.mem_singleton.mp hq]; exact hp
        · have h6' : ¬ 6 ≤ h.mine.length := h6
          rw [List.length_append]
          simp
          omega
theorem not_le (m p : Nat) : not_ m p ≤ full m := Nat.sub_le _ _
theorem ok_le {h : House} {p : Nat} (hb : ¬ (!(h.ok p)) = true) : p ≤ full h.m := by
  unfold House.ok at hb
  simpa using hb
theorem erase_le {m : Nat} {l : List Nat} {p : Nat} (h : ∀ q ∈ l, q ≤ full m) : ∀ q ∈ l.erase p, q ≤ full m := fun q hq => h q (List.mem_of_mem_erase hq)
theorem erase_len {l : List Nat} {p n : Nat} (h : l.length ≤ n) : (l.erase p).length ≤ n := Nat.le_trans (List.length_erase_le) h
theorem move_good {h : House} (g : Good h) (hm : h.moves < 40) (c : Krl7.Call) : GoodA (Krl7.move h c).1 := by
  have gw := g.what
  unfold Krl7.move
  simp only
  split
  all_goals rename_i hopen
  all_goals (try rw [hopen] at gw)
  all_goals try simp only [Open.what] at gw
  · split
    · exact g
    · rename_i hb
      split
      · exact g
      · exact g.commit hm (ok_le hb) (ok_le hb) (fun q e => by cases e)
  · split
    · exact g
    · rename_i hb
      exact g.made hm g.mine g.mlen (ok_le hb) (fun q e => by cases e)
  · split
    · exact g
    · rename_i hb
      split
      · exact g
      · rename_i hc
        refine g.made hm g.mine g.mlen (ok_le hb) (fun q e => ?_)
        cases e
        simpa using hc
  · split
    · exact g
    · split
      · exact g
      · exact g.made hm (erase_le g.mine) (erase_len g.mlen) (Nat.zero_le _) (fun q e => by cases e)
  · exact g.commit hm gw (Nat.zero_le _) (fun q e => by cases e)
  · exact g.commit hm (not_le _ _) (not_le _ _) (fun q e => by cases e)
  · exact g.made hm g.mine g.mlen (Nat.zero_le _) (fun q e => by cases e)
  · split
    · exact g
    · split
      · exact g
      · split
        · exact g
        · rename_i hc
          refine g.made hm g.mine g.mlen gw (fun q e => ?_)
          cases e
          simpa using hc
  · exact g.commit hm gw gw (fun q e => by cases e)
  · exact g.commit hm (not_le _ _) (not_le _ _) (fun q e => by cases e)
  · split
    · exact g
    · exact g.made hm g.mine g.mlen (Nat.zero_le _) (fun q e => by cases e)
  · split
    · exact g
    · rename_i hb
      split
      · exact g
      · exact g.commit hm (ok_le hb) (ok_le hb) (fun q e => by cases e)
  · split
    · exact g
    · split
      · exact g
      · exact g.made hm (erase_le g.mine) (erase_len g.mlen) (Nat.zero_le _) (fun q e => by cases e)
  · exact g
theorem start_good {m : Nat} (h : ¬ (m = 0 ∨ Krb7.mostLetters < m)) : Good ⟨m, [], [], 0, .nothing, 0⟩ := by
  have h3 : ¬ (m = 0 ∨ 3 < m) := h
  exact ⟨by show 1 ≤ m; omega, by show m ≤ 3; omega, fun p hp => (by cases hp), fun p hp => (by cases hp), Nat.zero_le _, Nat.zero_le _, Or.inl rfl, Nat.zero_le _, fun p e => (by cases e), Nat.zero_le _⟩
theorem act_good {a : Abs} (g : GoodA a) (c : Krl7.Call) : GoodA (Krl7.act a c).1 := by
  unfold Krl7.act
  split
  · split
    · exact g
    · rename_i h
      exact start_good h
  · split
    · exact g
    · rename_i h
      have g' : Good h := g
      simp only
      split
      all_goals first
        | exact g'
        | (split
           · exact g'
           · rename_i hm
             exact move_good g' (by have : ¬ 40 ≤ h.moves := hm; omega) _)
theorem step_good {a : Abs} (g : GoodA a) (c : List (List Int)) : GoodA (Krl7Neutral.step a c).1 := act_good g _
end Two
end
section
namespace Two
open Krl7 (House Abs Open mostStore mostMoves has part size fewest meet)
open Krb7 (full both not_ within count)
noncomputable def better (n : Nat) (x : Option Nat) (b : Nat) : Option Nat := match x with
  | none => some b
  | some y => if size n b < size n y then some b else some y
theorem fewest_eq (n : Nat) (l : List Nat) : fewest n l = l.foldl (better n) none := rfl
theorem foldl_filter {α : Type} (f : α → Nat → α) (P : Nat → Bool) : ∀ (l : List Nat) (x : α), (l.filter P).foldl f x = l.foldl (fun x b => if P b then f x b else x) x
  | [], _ => rfl
  | b :: l, x => by
    rw [List.filter_cons]
    by_cases h : P b = true
    · rw [if_pos h, List.foldl_cons, List.foldl_cons, if_pos h]
      exact foldl_filter f P l _
    · rw [if_neg h, List.foldl_cons, if_neg h]
      exact foldl_filter f P l _
theorem better_some (n : Nat) : ∀ (l : List Nat) (y : Nat), ∃ z, l.foldl (better n) (some y) = some z ∧ (z = y ∨ z ∈ l) ∧ size n z ≤ size n y ∧ (∀ b ∈ l, size n z ≤ size n b)
  | [], y => ⟨y, rfl, Or.inl rfl, Nat.le_refl _, fun b hb => nomatch hb⟩
  | b :: l, y => by
    rw [List.foldl_cons]
    show ∃ z, l.foldl (better n) (if size n b < size n y then some b else some y) = some z ∧ _
    by_cases h : size n b < size n y
    · rw [if_pos h]
      obtain ⟨z, e, hz, h1, h2⟩ := better_some n l b
      refine ⟨z, e, ?_, by omega, fun c hc => ?_⟩
      · rcases hz with rfl | hz
        · exact Or.inr List.mem_cons_self
        · exact Or.inr (List.mem_cons_of_mem _ hz)
      · rcases List.mem_cons.mp hc with rfl | hc
        · exact h1
        · exact h2 c hc
    · rw [if_neg h]
      obtain ⟨z, e, hz, h1, h2⟩ := better_some n l y
      refine ⟨z, e, ?_, h1, fun c hc => ?_⟩
      · rcases hz with rfl | hz
        · exact Or.inl rfl
        · exact Or.inr (List.mem_cons_of_mem _ hz)
      · rcases List.mem_cons.mp hc with rfl | hc
        · omega
        · exact h2 c hc
theorem fewest_none {n : Nat} {l : List Nat} : fewest n l = none ↔ l = [] := by
  cases l with
  | nil => exact ⟨fun _ => rfl, fun _ => rfl⟩
  | cons b l =>
    obtain ⟨z, e, _⟩ := better_some n l b
    constructor
    · intro h
      have e2 : fewest n (b :: l) = some z := e
      rw [e2] at h
      cases h
    · intro h
      cases h
theorem has_zero (b : Nat) : has b 0 = (b % 2 == 1) := by unfold has; rw [Nat.pow_zero, Nat.div_one]
theorem has_succ (b i : Nat) : has b (i + 1) = has (b / 2) i := by
  unfold has
  rw [Nat.pow_succ, Nat.mul_comm, Nat.div_div_eq_div_mul]
theorem part_cons (x : Nat) (l : List Nat) (b : Nat) : part (x :: l) b = if b % 2 = 1 then x :: part l (b / 2) else part l (b / 2) := by
  unfold part
  rw [List.length_cons, List.range_succ_eq_map, List.filter_cons, has_zero]
  have e : List.map (fun i => (x :: l).getD i 0) (List.filter (fun i => has b i) (List.map Nat.succ (List.range l.length))) = List.map (fun i => l.getD i 0) (List.filter (fun i => has (b / 2) i) (List.range l.length)) := by
    rw [List.filter_map, List.map_map]
    congr 1
    apply List.filter_congr
    intro i _
    exact has_succ b i
  by_cases h : b % 2 = 1
  · rw [if_pos (by simp [h]), if_pos h, List.map_cons, e]
    rfl
  · rw [if_neg (by simp [h]), if_neg h, e]
theorem size_zero (b : Nat) : size 0 b = 0 := rfl
theorem size_succ (n b : Nat) : size (n + 1) b = b % 2 + size n (b / 2) := by
  unfold size
  rw [List.range_succ_eq_map, List.filter_cons, has_zero]
  have e : (List.filter (fun i => has b i) (List.map Nat.succ (List.range n))).length = (List.filter (fun i => has (b / 2) i) (List.range n)).length := by
    rw [List.filter_map, List.length_map]
    congr 1
    apply List.filter_congr
    intro i _
    exact has_succ b i
  by_cases h : b % 2 = 1
  · rw [if_pos (by simp [h]), List.length_cons, e, h, Nat.add_comm]
  · rw [if_neg (by simp [h]), e, (by omega : b % 2 = 0), Nat.zero_add]
theorem part_length : ∀ (l : List Nat) (b : Nat), (part l b).length = size l.length b
  | [], _ => rfl
  | x :: l, b => by
    rw [part_cons, List.length_cons, size_succ, ← part_length l (b / 2)]
    by_cases h : b % 2 = 1
    · rw [if_pos h, List.length_cons, h, Nat.add_comm]
    · rw [if_neg h, (by omega : b % 2 = 0), Nat.zero_add]
theorem part_append : ∀ (l r : List Nat) (b : Nat), part (l ++ r) b = part l (b % 2 ^ l.length) ++ part r (b / 2 ^ l.length)
  | [], r, b => by
    show part r b = part [] _ ++ part r (b / 2 ^ 0)
    rw [Nat.pow_zero, Nat.div_one]
    rfl
  | x :: l, r, b => by
    have e1 : b % 2 ^ (l.length + 1) % 2 = b % 2 := Nat.mod_mod_of_dvd b ⟨2 ^ l.length, by rw [Nat.pow_succ, Nat.mul_comm]⟩
    have e2 : b % 2 ^ (l.length + 1) / 2 = b / 2 % 2 ^ l.length := by rw [Nat.pow_succ, Nat.mul_comm, Nat.mod_mul_right_div_self]
    have e3 : b / 2 ^ (l.length + 1) = b / 2 / 2 ^ l.length := by rw [Nat.pow_succ, Nat.mul_comm, Nat.div_div_eq_div_mul]
    rw [List.cons_append, part_cons, part_cons, List.length_cons, e1, e2, e3, part_append l r (b / 2)]
    split <;> rfl
theorem size_add : ∀ (n k b : Nat), size (n + k) b = size n (b % 2 ^ n) + size k (b / 2 ^ n)
  | 0, k, b => by
    rw [Nat.zero_add, Nat.pow_zero, Nat.div_one, size_zero, Nat.zero_add]
  | n + 1, k, b => by
    have e1 : b % 2 ^ (n + 1) % 2 = b % 2 := Nat.mod_mod_of_dvd b ⟨2 ^ n, by rw [Nat.pow_succ, Nat.mul_comm]⟩
    have e2 : b % 2 ^ (n + 1) / 2 = b / 2 % 2 ^ n := by rw [Nat.pow_succ, Nat.mul_comm, Nat.mod_mul_right_div_self]
    have e3 : b / 2 ^ (n + 1) = b / 2 / 2 ^ n := by rw [Nat.pow_succ, Nat.mul_comm, Nat.div_div_eq_div_mul]
    rw [Nat.succ_add, size_succ, size_succ, e1, e2, e3, size_add n k (b / 2), Nat.add_assoc]
theorem part_all : ∀ (l : List Nat), part l (2 ^ l.length - 1) = l
  | [] => rfl
  | x :: l => by
    have hp : 0 < 2 ^ l.length := Nat.pow_pos (by decide)
    have e : 2 ^ (l.length + 1) - 1 = 2 * (2 ^ l.length - 1) + 1 := by rw [Nat.pow_succ]; omega
    rw [part_cons, List.length_cons, e, if_pos (by omega), (by omega : (2 * (2 ^ l.length - 1) + 1) / 2 = 2 ^ l.length - 1), part_all l]
theorem fold_and (l : List Nat) : ∀ (a b : Nat), l.foldl (fun b p => both b p) (a &&& b) = a &&& l.foldl (fun b p => both b p) b := by
  induction l with
  | nil => intro a b; rfl
  | cons x l ih =>
    intro a b
    rw [List.foldl_cons, List.foldl_cons]
    show l.foldl _ (a &&& b &&& x) = a &&& l.foldl _ (b &&& x)
    rw [Nat.and_assoc, ih]
theorem and_full {m p : Nat} (h : p ≤ full m) : p &&& full m = p := by
  unfold full at *
  rw [Nat.and_two_pow_sub_one_eq_mod, Nat.mod_eq_of_lt]
  have : 0 < 2 ^ Krb7.worlds m := Nat.pow_pos (by decide)
  omega
theorem meet_nil (m : Nat) : meet m [] = full m := rfl
theorem fold_le (l : List Nat) : ∀ b : Nat, l.foldl (fun b p => both b p) b ≤ b := by
  induction l with
  | nil => intro b; exact Nat.le_refl _
  | cons x l ih =>
    intro b
    rw [List.foldl_cons]
    exact Nat.le_trans (ih _) Nat.and_le_left
theorem meet_le (m : Nat) (l : List Nat) : meet m l ≤ full m := fold_le l _
theorem meet_cons (m x : Nat) (l : List Nat) : meet m (x :: l) = x &&& meet m l := by
  unfold meet
  rw [List.foldl_cons]
  show l.foldl _ (full m &&& x) = _
  rw [Nat.and_comm, fold_and]
theorem meet_append (m : Nat) (l r : List Nat) : meet m (l ++ r) = both (meet m l) (meet m r) := by
  unfold both
  induction l with
  | nil => rw [List.nil_append, meet_nil, Nat.and_comm, and_full (meet_le m r)]
  | cons x l ih => rw [List.cons_append, meet_cons, meet_cons, ih, Nat.and_assoc]
theorem meet_snoc (m x : Nat) (l : List Nat) : meet m (l ++ [x]) = both (meet m l) x := by
  unfold meet
  rw [List.foldl_append, List.foldl_cons, List.foldl_nil]
theorem within_iff {p q : Nat} : within p q = true ↔ p &&& q = p := by
  unfold within
  exact beq_iff_eq
theorem meet_sub (m : Nat) : ∀ (l : List Nat) (b : Nat), meet m l &&& meet m (part l b) = meet m l
  | [], b => by
    show full m &&& full m = full m
    exact Nat.and_self _
  | x :: l, b => by
    rw [part_cons, meet_cons]
    have ih := meet_sub m l (b / 2)
    split
    · rw [meet_cons]
      calc x &&& meet m l &&& (x &&& meet m (part l (b / 2))) = (x &&& x) &&& (meet m l &&& meet m (part l (b / 2))) := by
            rw [Nat.and_assoc, Nat.and_assoc, ← Nat.and_assoc (meet m l) x, Nat.and_comm (meet m l) x, Nat.and_assoc]
        _ = x &&& meet m l := by rw [ih, Nat.and_self]
    · rw [Nat.and_assoc, ih]
theorem within_trans {p q r : Nat} (h : p &&& q = p) (h2 : q &&& r = q) : p &&& r = p := by
  rw [← h, Nat.and_assoc, h2]
theorem reason_some {h : House} {s p : Nat} (hb : h.bound s p = true) : h.reason s p ≠ none := by
  intro e
  have e2 : fewest (h.store s).length ((List.range (2 ^ (h.store s).length)).filter fun b => within (meet h.m (part (h.store s) b)) p) = none := e
  rw [fewest_none] at e2
  have hm : 2 ^ (h.store s).length - 1 ∈ (List.range (2 ^ (h.store s).length)).filter fun b => within (meet h.m (part (h.store s) b)) p := by
    rw [List.mem_filter]
    refine ⟨List.mem_range.mpr (by have : 0 < 2 ^ (h.store s).length := Nat.pow_pos (by decide); omega), ?_⟩
    show within (meet h.m (part (h.store s) (2 ^ (h.store s).length - 1))) p = true
    rw [part_all]
    exact hb
  rw [e2] at hm
  cases hm
theorem reason_none {h : House} {s p : Nat} (hb : h.bound s p = false) : h.reason s p = none := by
  show fewest (h.store s).length ((List.range (2 ^ (h.store s).length)).filter fun b => within (meet h.m (part (h.store s) b)) p) = none
  rw [fewest_none, List.filter_eq_nil_iff]
  intro b _ hw
  have h1 := within_iff.mp hw
  have h2 : within (meet h.m (h.store s)) p = true := within_iff.mpr (within_trans (meet_sub h.m (h.store s) b) h1)
  have h3 : within (meet h.m (h.store s)) p = false := hb
  rw [h2] at h3
  cases h3
noncomputable def quarrels (h : House) : List Nat := (List.range (2 ^ (h.one.length + h.two.length))).filter fun b => meet h.m (part (h.one ++ h.two) b) == 0
theorem quarrel_eq (h : House) : h.quarrel = (fewest (h.one.length + h.two.length) (quarrels h)).map fun b => (b % 2 ^ h.one.length, b / 2 ^ h.one.length) := by
  unfold House.quarrel quarrels
  have e : (fun b => both (meet h.m (part h.one (b % 2 ^ h.one.length))) (meet h.m (part h.two (b / 2 ^ h.one.length))) == 0) = fun b => meet h.m (part (h.one ++ h.two) b) == 0 := by
    funext b
    rw [part_append, meet_append]
  rw [← e]
theorem quarrel_none {h : House} (hb : both (h.holds 0) (h.holds 1) ≠ 0) : h.quarrel = none := by
  rw [quarrel_eq, (fewest_none (n := h.one.length + h.two.length)).mpr]
  · rfl
  · unfold quarrels
    rw [List.filter_eq_nil_iff]
    intro b _ hw
    have h1 : meet h.m (part (h.one ++ h.two) b) = 0 := eq_of_beq hw
    have h2 := meet_sub h.m (h.one ++ h.two) b
    rw [h1, Nat.and_zero, meet_append] at h2
    exact hb h2.symm
theorem quarrel_some {h : House} (hb : both (h.holds 0) (h.holds 1) = 0) : ∃ b, fewest (h.one.length + h.two.length) (quarrels h) = some b := by
  cases e : fewest (h.one.length + h.two.length) (quarrels h) with
  | some b => exact ⟨b, rfl⟩
  | none =>
    rw [fewest_none] at e
    have hm : 2 ^ (h.one ++ h.two).length - 1 ∈ quarrels h := by
      unfold quarrels
      rw [List.mem_filter, List.length_append]
      refine ⟨List.mem_range.mpr (by have : 0 < 2 ^ (h.one.length + h.two.length) := Nat.pow_pos (by decide); omega), ?_⟩
      rw [← List.length_append]
      show (meet h.m (part (h.one ++ h.two) (2 ^ (h.one ++ h.two).length - 1)) == 0) = true
      rw [part_all, meet_append]
      exact beq_iff_eq.mpr hb
    rw [e] at hm
    cases hm
end Two
end
section
namespace Two
open Krl7 (House Abs Open has part size fewest meet)
open Krb7 (full both not_ within count)
noncomputable def pl (n b : Nat) : List Nat := (List.range n).filter fun i => has b i
theorem pl_len (n b : Nat) : (pl n b).length = size n b := rfl
theorem part_pl (l : List Nat) (b : Nat) : part l b = (pl l.length b).map fun i => l.getD i 0 := rfl
theorem pl_lt {n b i : Nat} (h : i ∈ pl n b) : i < n := List.mem_range.mp (List.mem_filter.mp h).1
theorem has_bit (b i : Nat) : has b i = b.testBit i := by
  unfold has
  rw [Nat.testBit_eq_decide_div_mod_eq, Bool.eq_iff_iff, beq_iff_eq, decide_eq_true_iff]
theorem pl_succ (n b : Nat) : pl (n + 1) b = pl n b ++ if has b n then [n] else [] := by
  unfold pl
  rw [List.range_succ, List.filter_append, List.filter_cons, List.filter_nil]
theorem pl_low {n b : Nat} (h : b < 2 ^ n) : pl (n + 1) b = pl n b := by
  rw [pl_succ, has_bit, Nat.testBit_lt_two_pow h]
  simp
theorem pl_high {n b : Nat} (h : b < 2 ^ n) : pl (n + 1) (2 ^ n + b) = pl n b ++ [n] := by
  rw [pl_succ, has_bit, Nat.testBit_two_pow_add_eq, Nat.testBit_lt_two_pow h]
  congr 1
  unfold pl
  apply List.filter_congr
  intro i hi
  rw [has_bit, has_bit, Nat.testBit_two_pow_add_gt (List.mem_range.mp hi)]
theorem pl_full (n : Nat) : pl n (2 ^ n - 1) = List.range n := by
  unfold pl
  rw [List.filter_eq_self]
  intro i hi
  rw [has_bit, Nat.testBit_two_pow_sub_one]
  exact decide_eq_true (List.mem_range.mp hi)
noncomputable def sets (n : Nat) : List (List Nat) := (List.range (2 ^ n)).map (pl n)
theorem sets_succ (n : Nat) : sets (n + 1) = sets n ++ (sets n).map fun l => l ++ [n] := by
  unfold sets
  rw [Nat.pow_succ, Nat.mul_two, List.range_add, List.map_append, List.map_map, List.map_map]
  congr 1
  · apply List.map_congr_left
    intro b hb
    exact pl_low (List.mem_range.mp hb)
  · apply List.map_congr_left
    intro b hb
    exact pl_high (List.mem_range.mp hb)
theorem sets_length (n : Nat) : (sets n).length = 2 ^ n := by
  unfold sets
  rw [List.length_map, List.length_range]
theorem sets_at {n b : Nat} {l : List Nat} (h : (sets n)[b]? = some l) : b < 2 ^ n ∧ l = pl n b := by
  unfold sets at h
  rw [List.getElem?_map] at h
  by_cases hb : b < 2 ^ n
  · rw [List.getElem?_range hb] at h
    exact ⟨hb, (Option.some.inj h).symm⟩
  · rw [List.getElem?_eq_none (by rw [List.length_range]; omega)] at h
    cases h
theorem size_le : ∀ (n b : Nat), size n b ≤ n
  | 0, _ => Nat.le_refl _
  | n + 1, b => by
    rw [size_succ]
    have := size_le n (b / 2)
    omega
theorem size_all : ∀ {n b : Nat}, b < 2 ^ n → n ≤ size n b → b = 2 ^ n - 1
  | 0, b, h, _ => by
    rw [Nat.pow_zero] at h ⊢
    omega
  | n + 1, b, h, hs => by
    rw [size_succ] at hs
    rw [Nat.pow_succ] at h ⊢
    have h1 := size_le n (b / 2)
    have e := size_all (n := n) (b := b / 2) (by omega) (by omega)
    have hp : 0 < 2 ^ n := Nat.pow_pos (by decide)
    omega
theorem size_none : ∀ n : Nat, size n 0 = 0
  | 0 => rfl
  | n + 1 => by rw [size_succ, Nat.zero_div, size_none n]
noncomputable def srch (n : Nat) (ok : Nat → Bool) (y b : Nat) : Nat := if size n b < size n y ∧ ok b = true then b else y
theorem srch_inv (n : Nat) (ok : Nat → Bool) : ∀ (l : List Nat) (x : Option Nat) (y : Nat), (∀ b ∈ l, b < 2 ^ n) → (x = none ∧ y = 2 ^ n - 1 ∨ x = some y) →
    (l.foldl (fun x b => if ok b then better n x b else x) x = none ∧ l.foldl (srch n ok) y = 2 ^ n - 1 ∨ l.foldl (fun x b => if ok b then better n x b else x) x = some (l.foldl (srch n ok) y))
  | [], _, _, _, h => h
  | b :: l, x, y, hl, h => by
    rw [List.foldl_cons, List.foldl_cons]
    refine srch_inv n ok l _ _ (fun c hc => hl c (List.mem_cons_of_mem _ hc)) ?_
    have hb := hl b List.mem_cons_self
    unfold srch
    cases ho : ok b with
    | false =>
      rw [if_neg (by decide), if_neg (by simp)]
      exact h
    | true =>
      rw [if_pos rfl]
      rcases h with ⟨rfl, rfl⟩ | rfl
      · refine Or.inr ?_
        show some b = _
        by_cases hs : size n b < size n (2 ^ n - 1)
        · rw [if_pos ⟨hs, rfl⟩]
        · rw [if_neg (fun z => hs z.1)]
          have e : size n (2 ^ n - 1) = n := by rw [← pl_len, pl_full, List.length_range]
          rw [e] at hs
          rw [size_all hb (by omega)]
      · refine Or.inr ?_
        show (if size n b < size n y then some b else some y) = _
        by_cases hs : size n b < size n y
        · rw [if_pos hs, if_pos ⟨hs, rfl⟩]
        · rw [if_neg hs, if_neg (fun z => hs z.1)]
theorem srch_is {n b : Nat} {ok : Nat → Bool} (h : fewest n ((List.range (2 ^ n)).filter ok) = some b) : (List.range (2 ^ n)).foldl (srch n ok) (2 ^ n - 1) = b := by
  rw [fewest_eq, foldl_filter] at h
  rcases srch_inv n ok (List.range (2 ^ n)) none (2 ^ n - 1) (fun c hc => List.mem_range.mp hc) (Or.inl ⟨rfl, rfl⟩) with ⟨h1, _⟩ | h1
  · rw [h1] at h; cases h
  · rw [h1] at h
    exact Option.some.inj h
theorem count_size (m p : Nat) : count m p = size (2 ^ m) p := by
  show ((List.range (2 ^ m)).filter fun w => p.testBit w).length = ((List.range (2 ^ m)).filter fun w => has p w).length
  congr 1
  apply List.filter_congr
  intro i _
  rw [has_bit]
theorem lt_full {m p : Nat} (h : p ≤ full m) : p < 2 ^ 2 ^ m := by
  have hp : 0 < 2 ^ 2 ^ m := Nat.pow_pos (by decide)
  have : p ≤ 2 ^ 2 ^ m - 1 := h
  omega
theorem both_le {m p q : Nat} (h : p ≤ full m) : both p q ≤ full m := Nat.le_trans Nat.and_le_left h
theorem or_le {m p q : Nat} (h : p ≤ full m) (h2 : q ≤ full m) : p ||| q ≤ full m := by
  have := Nat.or_lt_two_pow (lt_full h) (lt_full h2)
  show p ||| q ≤ 2 ^ 2 ^ m - 1
  omega
theorem within_zero (x : Nat) : within x 0 = (x == 0) := by
  unfold within
  rw [Nat.and_zero, Bool.eq_iff_iff, beq_iff_eq, beq_iff_eq]
  exact ⟨fun h => h.symm, fun h => h.symm⟩
theorem pl_first (a c b : Nat) : ((pl (a + c) b).filter fun i => decide (i < a)) = pl a b := by
  unfold pl
  rw [List.range_add, List.filter_append, List.filter_append, List.filter_filter, List.filter_filter]
  have e1 : List.filter (fun i => decide (i < a) && has b i) (List.range a) = List.filter (fun i => has b i) (List.range a) := by
    apply List.filter_congr
    intro i hi
    rw [decide_eq_true (List.mem_range.mp hi), Bool.true_and]
  have e2 : List.filter (fun i => decide (i < a) && has b i) (List.map (fun x => a + x) (List.range c)) = [] := by
    rw [List.filter_eq_nil_iff]
    intro i hi
    obtain ⟨j, _, rfl⟩ := List.mem_map.mp hi
    rw [decide_eq_false (by omega), Bool.false_and]
    decide
  rw [e1, e2, List.append_nil]
theorem size_mod (a b : Nat) : size a (b % 2 ^ a) = size a b := by
  have e := size_add a 0 b
  rw [Nat.add_zero, size_zero, Nat.add_zero] at e
  exact e.symm
end Two
end
section
namespace Two
open Krl7 (House Abs)
open Krb7 (full both not_ within count)
theorem not_bad {h : House} {p : Nat} (hp : p ≤ full h.m) : ¬ (!(h.ok p)) = true := by
  unfold House.ok
  simp [hp]
theorem is_bad {h : House} {p : Nat} (hp : ¬ p ≤ full h.m) : (!(h.ok p)) = true := by
  unfold House.ok
  simp [hp]
section
variable {h : House} {p q : Nat}
theorem move_say (ho : h.open_ = .nothing) (hp : p ≤ full h.m) : Krl7.move h (.say_ p) = if h.bound h.turn p then (some h, Krl7.say (-17)) else h.commit p (.said p) := by
  unfold Krl7.move
  simp only [ho]
  rw [if_neg (not_bad hp)]
theorem move_ask (ho : h.open_ = .nothing) (hp : p ≤ full h.m) : Krl7.move h (.ask p) = (some (h.made h.mine (.asked p)), Krl7.say h.mine.length) := by
  unfold Krl7.move
  simp only [ho]
  rw [if_neg (not_bad hp)]
theorem move_why (ho : h.open_ = .nothing) (hp : p ≤ full h.m) : Krl7.move h (.why p) = if (h.store h.other).contains p = false then (some h, Krl7.say (-6)) else (some (h.made h.mine (.why p)), Krl7.say h.mine.length) := by
  unfold Krl7.move
  simp only [ho]
  rw [if_neg (not_bad hp)]
theorem move_why_said (ho : h.open_ = .said q) (hp : p ≤ full h.m) : Krl7.move h (.why p) = if p ≠ q then (some h, Krl7.say (-16)) else if (h.store h.other).contains p = false then (some h, Krl7.say (-6)) else (some (h.made h.mine (.why p)), Krl7.say h.mine.length) := by
  unfold Krl7.move
  simp only [ho]
  rw [if_neg (not_bad hp)]
  by_cases e : p = q
  · subst e; rfl
  · rw [if_pos e, if_pos e]
theorem move_drop (ho : h.open_ = .nothing) (hp : p ≤ full h.m) : Krl7.move h (.drop p) = if h.mine.contains p = false then (some h, Krl7.say (-6)) else (some (h.made (h.mine.erase p) .nothing), Krl7.say (h.mine.erase p).length) := by
  unfold Krl7.move
  simp only [ho]
  rw [if_neg (not_bad hp)]
theorem move_drop_why (ho : h.open_ = .why q) (hp : p ≤ full h.m) : Krl7.move h (.drop p) = if p ≠ q then (some h, Krl7.say (-16)) else (some (h.made (h.mine.erase p) .nothing), Krl7.say (h.mine.erase p).length) := by
  unfold Krl7.move
  simp only [ho]
  rw [if_neg (not_bad hp)]
  by_cases e : p = q
  · subst e; rfl
  · rw [if_pos e, if_pos e]
theorem move_since (ho : h.open_ = .why q) (hp : p ≤ full h.m) : Krl7.move h (.since p) = if p = q ∨ within p q = false then (some h, Krl7.say (-62)) else h.commit p (.said p) := by
  unfold Krl7.move
  simp only [ho]
  rw [if_neg (not_bad hp)]
theorem move_accept (ho : h.open_ = .said q) : Krl7.move h .accept = h.commit q .nothing := by
  unfold Krl7.move
  simp only [ho]
theorem move_reject (ho : h.open_ = .said q) : Krl7.move h .reject = h.commit (not_ h.m q) (.said (not_ h.m q)) := by
  unfold Krl7.move
  simp only [ho]
theorem move_pass (ho : h.open_ = .said q) : Krl7.move h .pass = (some (h.made h.mine .nothing), Krl7.say h.mine.length) := by
  unfold Krl7.move
  simp only [ho]
theorem move_yes (ho : h.open_ = .asked q) : Krl7.move h .yes = h.commit q (.said q) := by
  unfold Krl7.move
  simp only [ho]
theorem move_no (ho : h.open_ = .asked q) : Krl7.move h .no = h.commit (not_ h.m q) (.said (not_ h.m q)) := by
  unfold Krl7.move
  simp only [ho]
theorem move_unsure (ho : h.open_ = .asked q) : Krl7.move h .unsure = if h.bound h.turn q || h.barred h.turn q then (some h, Krl7.say (-61)) else (some (h.made h.mine .nothing), Krl7.say h.mine.length) := by
  unfold Krl7.move
  simp only [ho]
end
noncomputable def kindsOf (k : Nat) : List Nat := if k = 0 then [1, 2, 3, 4] else if k = 1 then [3, 5, 6, 7] else if k = 2 then [8, 9, 10] else [4, 11]
noncomputable def mvOf (n p : Nat) : Krl7.Call := match n with
  | 1 => .say_ p
  | 2 => .ask p
  | 3 => .why p
  | 4 => .drop p
  | 5 => .accept
  | 6 => .reject
  | 7 => .pass
  | 8 => .yes
  | 9 => .no
  | 10 => .unsure
  | _ => .since p
theorem move_shut {h : House} {n p : Nat} (hn : 1 ≤ n ∧ n ≤ 11) (hk : n ∉ kindsOf h.open_.kind) : Krl7.move h (mvOf n p) = (some h, Krl7.say (-16)) := by
  unfold Krl7.move
  have := up11 hn
  cases e : h.open_ <;> rw [e] at hk <;> simp only [Krl7.Open.kind] at hk <;> rcases this with rfl | rfl | rfl | rfl | rfl | rfl | rfl | rfl | rfl | rfl | rfl <;>
    first | rfl | (exact absurd (by decide) hk)
theorem move_bad {h : House} {n p : Nat} (hn : n = 1 ∨ n = 2 ∨ n = 3 ∨ n = 4 ∨ n = 11) (hk : n ∈ kindsOf h.open_.kind) (hp : ¬ p ≤ full h.m) : Krl7.move h (mvOf n p) = (some h, Krl7.say (-22)) := by
  unfold Krl7.move
  have hb := is_bad hp
  cases e : h.open_ <;> rw [e] at hk <;> simp only [Krl7.Open.kind] at hk <;> rcases hn with rfl | rfl | rfl | rfl | rfl <;>
    first | (exact if_pos hb) | (exact absurd hk (by decide))
end Two
end
section
namespace Two
open Krl7 (House Abs)
open Krb7 (full both not_ within count)
noncomputable def actMove (h : House) (c : Krl7.Call) : Abs × Krl7.Ans := if 40 ≤ h.moves then (some h, Krl7.say (-75)) else Krl7.move h c
noncomputable def Plain (y : Abs × Krl7.Ans) : Prop := y.2.nums = [] ∧ ∃ h', y.1 = some h'
theorem plain_say (h : House) (v : Int) : Plain (some h, Krl7.say v) := ⟨rfl, h, rfl⟩
theorem plain_ite {c : Prop} [Decidable c] {x y : Abs × Krl7.Ans} (hx : Plain x) (hy : Plain y) : Plain (if c then x else y) := by
  split
  · exact hx
  · exact hy
theorem commit_plain (h : House) (p : Nat) (o : Krl7.Open) : Plain (h.commit p o) := by
  unfold House.commit
  exact plain_ite (plain_say _ _) (plain_ite (plain_say _ _) (plain_ite (plain_say _ _) (plain_say _ _)))
theorem move_plain (h : House) (c : Krl7.Call) : Plain (Krl7.move h c) := by
  unfold Krl7.move
  simp only
  split
  all_goals first
    | exact plain_say _ _
    | exact commit_plain _ _ _
    | exact plain_ite (plain_say _ _) (plain_say _ _)
    | exact plain_ite (plain_say _ _) (plain_ite (plain_say _ _) (plain_say _ _))
    | exact plain_ite (plain_say _ _) (plain_ite (plain_say _ _) (plain_ite (plain_say _ _) (plain_say _ _)))
    | exact plain_ite (plain_say _ _) (plain_ite (plain_say _ _) (commit_plain _ _ _))
theorem actMove_plain (h : House) (c : Krl7.Call) : Plain (actMove h c) := plain_ite (plain_say _ _) (move_plain h c)
noncomputable abbrev rowOf (n : Nat) (xs : List Nat) : List (List Int) := [((n : Nat) : Int) :: xs.map fun (x : Nat) => (x : Int)]
theorem step_bare (h : House) {n : Nat} (hn : 5 ≤ n ∧ n ≤ 10) : Krl7Neutral.step (some h) (rowOf n []) = ((actMove h (mvOf n 0)).1, Krl7Neutral.told (actMove h (mvOf n 0)).2) := by
  rcases up10 hn with rfl | rfl | rfl | rfl | rfl | rfl <;> rfl
theorem step_given (h : House) {n p : Nat} (hn : n = 1 ∨ n = 2 ∨ n = 3 ∨ n = 4 ∨ n = 11) : Krl7Neutral.step (some h) (rowOf n [p]) = ((actMove h (mvOf n p)).1, Krl7Neutral.told (actMove h (mvOf n p)).2) := by
  rcases hn with rfl | rfl | rfl | rfl | rfl <;> rfl
theorem step_tell (h : House) {n : Nat} (xs : List Nat) (h1 : 12 ≤ n) (h2 : n ≤ 23) : Krl7Neutral.step (some h) (rowOf n xs) = (some h, Krl7Neutral.told (Krl7.act (some h) (Krl7Neutral.call (rowOf n xs))).2) := by
  rcases uptoN h2 with rfl | rfl | rfl | rfl | rfl | rfl | rfl | rfl | rfl | rfl | rfl | rfl | rfl | rfl | rfl | rfl | rfl | rfl | rfl | rfl | rfl | rfl | rfl | rfl <;> first | rfl | (exact absurd h1 (by decide))
theorem step_none {n : Nat} (xs : List Nat) (h1 : 1 ≤ n) (h2 : n ≤ 23) : Krl7Neutral.step none (rowOf n xs) = (none, [-11]) := by
  rcases uptoN h2 with rfl | rfl | rfl | rfl | rfl | rfl | rfl | rfl | rfl | rfl | rfl | rfl | rfl | rfl | rfl | rfl | rfl | rfl | rfl | rfl | rfl | rfl | rfl | rfl <;> first | rfl | (exact absurd h1 (by decide))
theorem step_begin_no (a : Abs) {m : Nat} (h : m = 0 ∨ 3 < m) : Krl7Neutral.step a (rowOf 0 [m]) = (a, [-22]) := by
  show ((if m = 0 ∨ Krb7.mostLetters < m then (a, Krl7.say (-22)) else (some ⟨m, [], [], 0, .nothing, 0⟩, Krl7.say 0)).1, Krl7Neutral.told (if m = 0 ∨ Krb7.mostLetters < m then (a, Krl7.say (-22)) else (some ⟨m, [], [], 0, .nothing, 0⟩, Krl7.say 0)).2) = _
  rw [if_pos (show m = 0 ∨ Krb7.mostLetters < m from h)]
  rfl
theorem step_begin_yes (a : Abs) {m : Nat} (h : ¬ (m = 0 ∨ 3 < m)) : Krl7Neutral.step a (rowOf 0 [m]) = (some ⟨m, [], [], 0, .nothing, 0⟩, [0]) := by
  show ((if m = 0 ∨ Krb7.mostLetters < m then (a, Krl7.say (-22)) else (some ⟨m, [], [], 0, .nothing, 0⟩, Krl7.say 0)).1, Krl7Neutral.told (if m = 0 ∨ Krb7.mostLetters < m then (a, Krl7.say (-22)) else (some ⟨m, [], [], 0, .nothing, 0⟩, Krl7.say 0)).2) = _
  rw [if_neg (show ¬ (m = 0 ∨ Krb7.mostLetters < m) from h)]
  rfl
theorem rows_nat : ∀ (xs : List Int), (∀ x ∈ xs, 0 ≤ x) → ∃ ys : List Nat, xs = ys.map fun (x : Nat) => (x : Int)
  | [], _ => ⟨[], rfl⟩
  | x :: xs, h => by
    obtain ⟨ys, rfl⟩ := rows_nat xs fun y hy => h y (List.mem_cons_of_mem _ hy)
    have := h x List.mem_cons_self
    exact ⟨x.toNat :: ys, by rw [List.map_cons, Int.toNat_of_nonneg this]⟩
end Two
end
section
namespace Two
open Krl7 (House Abs part size fewest meet has)
open Krb7 (full both not_ within count)
noncomputable abbrev tellOf (h : House) (c : Krl7.Call) : List Int := Krl7Neutral.told (Krl7.act (some h) c).2
theorem kinds_is (h : House) : tellOf h .kinds = ((kindsOf h.open_.kind).length : Int) :: Krl7.ints (kindsOf h.open_.kind) := by
  show Krl7Neutral.told (Krl7.list _) = _
  cases h.open_ <;> rfl
theorem kinds_len (k : Nat) : (kindsOf k).length ≤ 4 := by
  unfold kindsOf
  split
  · decide
  · split
    · decide
    · split <;> decide
theorem store_is (h : House) {s : Nat} (hs : s = 0 ∨ s = 1) : tellOf h (.store s) = ((h.store s).length : Int) :: Krl7.ints (h.store s) := by
  show Krl7Neutral.told (if 1 < s then Krl7.say (-2) else Krl7.list (h.store s)) = _
  rw [if_neg (by omega)]
  rfl
theorem person_ok {s : Nat} (hs : s = 0 ∨ s = 1) : ¬ 1 < s := by omega
theorem bound_is (h : House) {s p : Nat} (hs : s = 0 ∨ s = 1) (hp : p ≤ full h.m) : tellOf h (.bound s p) = [if h.bound s p then 1 else 0] := by
  show Krl7Neutral.told (if 1 < s then Krl7.say (-2) else if (!(h.ok p)) = true then Krl7.say (-22) else Krl7.say (if h.bound s p then 1 else 0)) = _
  rw [if_neg (person_ok hs), if_neg (not_bad hp)]
  rfl
theorem barred_is (h : House) {s p : Nat} (hs : s = 0 ∨ s = 1) (hp : p ≤ full h.m) : tellOf h (.barred s p) = [if h.barred s p then 1 else 0] := by
  show Krl7Neutral.told (if 1 < s then Krl7.say (-2) else if (!(h.ok p)) = true then Krl7.say (-22) else Krl7.say (if h.barred s p then 1 else 0)) = _
  rw [if_neg (person_ok hs), if_neg (not_bad hp)]
  rfl
theorem would_bad (h : House) {p : Nat} (hp : ¬ p ≤ full h.m) : tellOf h (.would p) = [-22] := by
  show Krl7Neutral.told (if (!(h.ok p)) = true then Krl7.say (-22) else Krl7.say (if h.bound h.turn p then 1 else if h.barred h.turn p then 0 else 2)) = _
  rw [if_pos (is_bad hp)]
  rfl
theorem would_is (h : House) {p : Nat} (hp : p ≤ full h.m) : tellOf h (.would p) = [if h.bound h.turn p then 1 else if h.barred h.turn p then 0 else 2] := by
  show Krl7Neutral.told (if (!(h.ok p)) = true then Krl7.say (-22) else Krl7.say (if h.bound h.turn p then 1 else if h.barred h.turn p then 0 else 2)) = _
  rw [if_neg (not_bad hp)]
  rfl
theorem holds_le (h : House) (s : Nat) : h.holds s ≤ full h.m := meet_le _ _
theorem reason_is (h : House) {s p : Nat} (hs : s = 0 ∨ s = 1) (hp : p ≤ full h.m) : tellOf h (.reason s p) = Krl7Neutral.told (match h.reason s p with | none => Krl7.say (-33) | some b => Krl7.list (part (h.store s) b)) := by
  show Krl7Neutral.told (if 1 < s then Krl7.say (-2) else if (!(h.ok p)) = true then Krl7.say (-22) else (match h.reason s p with | none => Krl7.say (-33) | some b => Krl7.list (part (h.store s) b))) = _
  rw [if_neg (person_ok hs), if_neg (not_bad hp)]
theorem reason_no (h : House) {s p : Nat} (hs : s = 0 ∨ s = 1) (hp : p ≤ full h.m) (hb : h.bound s p = false) : tellOf h (.reason s p) = [-33] := by
  rw [reason_is h hs hp, reason_none hb]
  rfl
theorem reason_yes (h : House) {s p : Nat} (hs : s = 0 ∨ s = 1) (hp : p ≤ full h.m) (hb : h.bound s p = true) : ∃ b, fewest (h.store s).length ((List.range (2 ^ (h.store s).length)).filter fun b => within (meet h.m (part (h.store s) b)) p) = some b ∧
    tellOf h (.reason s p) = (size (h.store s).length b : Int) :: Krl7.ints (part (h.store s) b) := by
  cases e : h.reason s p with
  | none => exact absurd e (reason_some hb)
  | some b =>
    refine ⟨b, e, ?_⟩
    rw [reason_is h hs hp, e, ← part_length]
    rfl
theorem quarrel_is (h : House) : tellOf h .quarrel = Krl7Neutral.told (match h.quarrel with | none => Krl7.say (-33) | some x => { num := size h.one.length x.1, nums := Krl7.ints (size h.two.length x.2 :: (part h.one x.1 ++ part h.two x.2)) }) := rfl
theorem quarrel_no (h : House) (hb : (both (h.holds 1) (h.holds 0) == 0) = false) : tellOf h .quarrel = [-33] := by
  rw [quarrel_is, quarrel_none]
  · rfl
  · intro z
    unfold both at *
    rw [Nat.and_comm] at z
    rw [z] at hb
    cases hb
theorem quarrel_yes (h : House) (hb : (both (h.holds 1) (h.holds 0) == 0) = true) : ∃ b, fewest (h.one ++ h.two).length ((List.range (2 ^ (h.one ++ h.two).length)).filter fun b => within (meet h.m (part (h.one ++ h.two) b)) 0) = some b ∧
    tellOf h .quarrel = (size h.one.length b : Int) :: ((size (h.one ++ h.two).length b : Int) - (size h.one.length b : Int)) :: Krl7.ints (part (h.one ++ h.two) b) := by
  obtain ⟨b, e⟩ := quarrel_some (h := h) (by
    unfold both at *
    rw [Nat.and_comm]
    exact eq_of_beq hb)
  refine ⟨b, ?_, ?_⟩
  · simp only [within_zero, List.length_append]
    exact e
  · rw [quarrel_is, quarrel_eq, e]
    show (size h.one.length (b % 2 ^ h.one.length) : Int) :: Krl7.ints (size h.two.length (b / 2 ^ h.one.length) :: (part h.one (b % 2 ^ h.one.length) ++ part h.two (b / 2 ^ h.one.length))) = _
    rw [← part_append, size_mod, List.length_append, size_add, size_mod]
    have e2 : ((size h.one.length b + size h.two.length (b / 2 ^ h.one.length) : Nat) : Int) - (size h.one.length b : Int) = ((size h.two.length (b / 2 ^ h.one.length) : Nat) : Int) := by omega
    rw [e2]
    rfl
noncomputable def bothOf (n : Nat) : Nat → Nat → Krl7.Call := if n = 15 then .bound else if n = 16 then .barred else .reason
theorem both_far (h : House) {n s p : Nat} (hs : 1 < s) : tellOf h (bothOf n s p) = [-2] := by
  unfold bothOf
  split
  · show Krl7Neutral.told (if 1 < s then Krl7.say (-2) else _) = _
    rw [if_pos hs]
    rfl
  · split
    · show Krl7Neutral.told (if 1 < s then Krl7.say (-2) else _) = _
      rw [if_pos hs]
      rfl
    · show Krl7Neutral.told (if 1 < s then Krl7.say (-2) else _) = _
      rw [if_pos hs]
      rfl
theorem both_bad (h : House) {n s p : Nat} (hs : ¬ 1 < s) (hp : ¬ p ≤ full h.m) : tellOf h (bothOf n s p) = [-22] := by
  have hb := is_bad hp
  unfold bothOf
  split
  · show Krl7Neutral.told (if 1 < s then Krl7.say (-2) else if (!(h.ok p)) = true then Krl7.say (-22) else _) = _
    rw [if_neg hs, if_pos hb]
    rfl
  · split
    · show Krl7Neutral.told (if 1 < s then Krl7.say (-2) else if (!(h.ok p)) = true then Krl7.say (-22) else _) = _
      rw [if_neg hs, if_pos hb]
      rfl
    · show Krl7Neutral.told (if 1 < s then Krl7.say (-2) else if (!(h.ok p)) = true then Krl7.say (-22) else _) = _
      rw [if_neg hs, if_pos hb]
      rfl
theorem store_far (h : House) {s : Nat} (hs : 1 < s) : tellOf h (.store s) = [-2] := by
  show Krl7Neutral.told (if 1 < s then Krl7.say (-2) else Krl7.list (h.store s)) = _
  rw [if_pos hs]
  rfl
noncomputable abbrev callOf (n : Nat) (xs : List Nat) : Krl7.Call := Krl7Neutral.call [((n : Nat) : Int) :: xs.map fun (x : Nat) => (x : Int)]
end Two
end
section
set_option Elab.async false
set_option linter.all false
set_option maxRecDepth 100000
set_option maxHeartbeats 2000000
namespace L2
open PySem PySem.Spec PyProof.Rows
noncomputable def GInt (mg : Str → Option Value) (x : Str) (i : Int) : Prop := ∃ t, mg x = some (.int i t)
section
variable {X : Cx}
theorem pe_gint {x : Str} {i : Int} {pos : Pos} (hg : Gl X x) (hm : GInt X.mg x i) (hd : (x == ("__debug__" : Str)) = false := by decide) : PE X (.Name x pos) (tC (.int i)) := by
  obtain ⟨t, hm⟩ := hm
  exact pe_glob hg hm ⟨t, rfl⟩ hd
theorem pe_gref {x : Str} {a : Addr} {pos : Pos} (hg : Gl X x) (hm : X.mg x = some (.ref a)) (hd : (x == ("__debug__" : Str)) = false := by decide) : PE X (.Name x pos) (tC (.ref a)) := pe_glob hg hm rfl hd
end
structure FnAt (P : Program) (w : World) (K : PySem.W.Frag) (mg : Str → Option Value) (base : Heap) (x : Str) (k : Nat) (sp : Sp) : Prop where
  ex : ∃ f fd ps, mg x = some (.ref f) ∧ PySem.W.keepIn K (.ref f) = true ∧ Binds K fd ps [] ∧ FnOk P w K mg base CX0 k f fd ps sp
structure MtAt (P : Program) (w : World) (K : PySem.W.Frag) (mg : Str → Option Value) (base : Heap) (C : Addr) (m : Str) (k : Nat) (sp : Sp) : Prop where
  ex : ∃ f fd ps, Meth K C m f ∧ Binds K fd ps [] ∧ FnOk P w K mg base CX0 k f fd ps sp
noncomputable def tFn (sp : Sp) (t : TA) : TE := fun σ H Q => t σ H fun vs H1 => sp vs H1 Q E0
noncomputable def tMt (C : Addr) (m : Str) (sp : Sp) (ta : TE) (t : TA) : TE := fun σ H Q => ta σ H fun x H1 => ∃ a dx fs, x = .ref a ∧ H1 a = some (.ins C dx fs) ∧ fs.lookup m = none ∧ t σ H1 fun vs H2 => sp (x :: vs) H2 Q E0
section
variable {X : Cx} {k : Nat} {C : Addr} {sp : Sp} {x m : Str} {p pos apos : Pos} {e o : Expr} {es : List Expr} {ta : TE} {t : TA}
theorem pe_fn (F : FnAt X.prog X.w X.K X.mg X.base x k sp) (hr : Room k X.A) (hg : Gl X x) (ha : PA X (e :: es) t) (hdb : (x == ("__debug__" : Str)) = false := by decide)
    (he : starEach (e :: es) X.env = (false, eval e X.env) :: starEach es X.env := by rfl) (hpl : (backTo pos (starEach es X.env)).any (·.1) = false := by rfl) :
    PE X (.Call (.Name x p) (e :: es) [] pos) (tFn sp t) := by
  obtain ⟨f, fd, ps, hm, hk, hb, G⟩ := F.ex
  have h := pe_call (pos := pos) (p := p) G hr hg hm hk hb .nil pass0 ha hdb he hpl
  intro pins s σ H Q I hq
  refine h pins s σ H Q I ?_
  show t σ H fun vs H1 => sp (vs ++ []) H1 Q E0
  simp only [List.append_nil]
  exact hq
theorem pe_mt {pl : Sem Bool} (he : PE X o ta) (c : Cls X.K C) (F : MtAt X.prog X.w X.K X.mg X.base C m k sp) (hr : Room k X.A) (ha : PA X (e :: es) t)
    (hst : starEach (e :: es) X.env = (false, eval e X.env) :: starEach es X.env := by rfl) (hpl : (backTo pos (starEach es X.env)).any (·.1) = false := by rfl)
    (ht : eval (.Call (.Attribute o m apos) (e :: es) [] pos) X.env = (do
      let ov ← eval o X.env
      standAt apos.atName
      let (f, first) ← holding [ov] (getMethod ov m pl)
      callWith pos f first (backTo pos (starEach (e :: es) X.env)) (backToKw pos (keywordEach [] X.env))) := by rfl) :
    PE X (.Call (.Attribute o m apos) (e :: es) [] pos) (tMt C m sp ta t) := by
  obtain ⟨f, fd, ps, hm, hb, G⟩ := F.ex
  have h := pe_meth (pl := pl) (pos := pos) (apos := apos) he c hm G hr hb .nil pass0 ha hst hpl ht
  intro pins s σ H Q I hq
  refine h pins s σ H Q I ?_
  unfold tMeth
  simp only [List.append_nil]
  exact hq
theorem pe_mt0 {pl : Sem Bool} (he : PE X o ta) (c : Cls X.K C) (F : MtAt X.prog X.w X.K X.mg X.base C m k sp) (hr : Room k X.A)
    (ht : eval (.Call (.Attribute o m apos) [] [] pos) X.env = (do
      let ov ← eval o X.env
      standAt apos.atName
      let (f, first) ← holding [ov] (getMethod ov m pl)
      callWith pos f first (backTo pos (starEach [] X.env)) (backToKw pos (keywordEach [] X.env))) := by rfl) :
    PE X (.Call (.Attribute o m apos) [] [] pos) (tMt C m sp ta tNil) := by
  obtain ⟨f, fd, ps, hm, hb, G⟩ := F.ex
  have h := pe_meth0 (pl := pl) (pos := pos) (apos := apos) he c hm G hr hb .nil pass0 ht
  intro pins s σ H Q I hq
  refine h pins s σ H Q I ?_
  unfold tMeth
  simp only [List.append_nil]
  exact hq
structure MkAt (P : Program) (w : World) (K : PySem.W.Frag) (mg : Str → Option Value) (base : Heap) (x : Str) (C : Addr) (k : Nat) (sp : Sp) : Prop where
  ex : ∃ f fd ps, mg x = some (.ref C) ∧ Mk K C f ∧ Binds K fd ps [] ∧ FnOk P w K mg base CX0 k f fd ps sp
noncomputable def tMk (C : Addr) (sp : Sp) : TE := fun _ H Q => ∀ x dx, H x = none → H dx = none → dx ≠ x → sp [.ref x] (upd (upd H dx (.own x)) x (.ins C dx [])) (fun v H2 => v = .non ∧ Q (.ref x) H2) E0
theorem pe_mk (F : MkAt X.prog X.w X.K X.mg X.base x C k sp) (hr : Room (k + 1) X.A) (hg : Gl X x) (hdb : (x == ("__debug__" : Str)) = false := by decide) : PE X (.Call (.Name x p) [] [] pos) (tMk C sp) := by
  obtain ⟨f, fd, ps, hm, M, hb, G⟩ := F.ex
  exact pe_make0 (pos := pos) (p := p) M G hr hg hm hb .nil pass0 hdb
noncomputable def tCallV (P : Program) (w : World) (K : PySem.W.Frag) (mg : Str → Option Value) (base : Heap) (A : Around) (tf : TE) (t : TA) : TE := fun σ H Q => tf σ H fun x H1 =>
  ∃ f k fd ps sp, x = .ref f ∧ PySem.W.keepIn K (.ref f) = true ∧ Binds K fd ps [] ∧ FnOk P w K mg base CX0 k f fd ps sp ∧ Room k A ∧ t σ H1 fun vs H2 => sp vs H2 Q E0
theorem pe_callV {fe : Expr} {tf : TE} (hf : PE X fe tf) (ha : PA X (e :: es) t)
    (hev : eval (.Call fe (e :: es) [] pos) X.env = (do callWith pos (← eval fe X.env) [] (backTo pos (starEach (e :: es) X.env)) (backToKw pos (keywordEach [] X.env))) := by rfl)
    (he : starEach (e :: es) X.env = (false, eval e X.env) :: starEach es X.env := by rfl) (hpl : (backTo pos (starEach es X.env)).any (·.1) = false := by rfl)
    (hx : X.xe = fun _ _ => False := by rfl) :
    PE X (.Call fe (e :: es) [] pos) (tCallV X.prog X.w X.K X.mg X.base X.A tf t) := by
  intro pins s σ H Q I hq
  rw [hev]
  refine wpAny_bind (thn (hf pins s σ H _ I hq) fun u s1 ⟨x, H1, I1, rx, f, k, fd, ps, sp, ex, hk, hb, G, hr, q⟩ => ?_)
  subst ex
  obtain rfl : u = Value.ref f := rx
  refine PySem.W.callWith_K (h₀ := X.base) I1.ok.mod.kin hk (thn (ha pos pins s1 σ H1 _ I1 q) fun us s2 ⟨vs, H2, I2, r, q2⟩ => ⟨I2.kIn, ?_⟩) he hpl
  exact run_fn G hr hb .nil pass0 I2 r (by rw [List.append_nil]; exact q2)
structure DK (P : Program) (w : World) (K : PySem.W.Frag) (d : Addr) (kvs : List (Key × V)) : Prop where
  ns : (d == sysModules) = false
  at_ : ∀ h : Heap, K.In h → ∃ vs, KV kvs vs ∧ h.DictOf (mixKind P w) d vs
noncomputable def rKGet (P : Program) (w : World) (K : PySem.W.Frag) (x y : V) (H : Hp) (Q : VK) : Prop := ∃ a kvs k v, x = .ref a ∧ DK P w K a kvs ∧ y = kV k ∧ valV kvs k = some v ∧ Q v H
noncomputable def tKGet (P : Program) (w : World) (K : PySem.W.Frag) (td ty : TE) : TE := fun σ H Q => td σ H fun x H1 => ty σ H1 fun y H2 => rKGet P w K x y H2 Q
noncomputable def tKIn (P : Program) (w : World) (K : PySem.W.Frag) (neg : Bool) (ty td : TE) : TE := fun σ H Q => ty σ H fun y H1 => td σ H1 fun x H2 => ∃ a kvs k, x = .ref a ∧ DK P w K a kvs ∧ y = kV k ∧ Q (.bl (if neg then !(valV kvs k).isSome else (valV kvs k).isSome)) H2
variable {i : Expr} {td ty : TE}
theorem pe_kget (ho : PE X o td) (hi : PE X i ty) (hs : NoSl i) : PE X (.Subscript o i pos) (tKGet X.prog X.w X.K td ty) := by
  intro pins s σ H Q I h
  refine subD_of PySem.F.slot_dict_getitem.lookup hs (thn (ho pins s σ H _ I h) fun u s1 ⟨x, H1, I1, rx, q1⟩ => thn (hi pins s1 σ H1 _ I1 q1) fun iv s2 ⟨y, H2, I2, ry, a, kvs, k, v, ex, g, ey, l, q2⟩ => ?_)
  subst ex ey
  obtain rfl : u = Value.ref a := rx
  obtain ⟨vs, rel, dd⟩ := g.at_ s2.heap I2.kIn
  obtain ⟨w', hw, rw'⟩ := RelO.some_of (v := v) (o := valueAt vs k) (by rw [← l]; exact rel.val k)
  exact ⟨dd.typeIs, wpAny_getItem_of (kV_is ry) dd.mapOf hw ⟨v, H2, I2.tok _, rw', q2⟩⟩
theorem pc_kin (hi : PE X i ty) (ho : PE X o td) : PC X .In i o (tKIn X.prog X.w X.K false ty td) := by
  intro pins s σ H Q I h
  refine thn (hi pins s σ H _ I h) fun iv s1 ⟨y, H1, I1, ry, q1⟩ => thn (ho pins s1 σ H1 _ I1 q1) fun u s2 ⟨x, H2, I2, rx, a, kvs, k, ex, g, ey, q2⟩ => ?_
  subst ex ey
  obtain rfl : u = Value.ref a := rx
  obtain ⟨vs, rel, dd⟩ := g.at_ s2.heap I2.kIn
  refine wpAny_in_of (kV_is ry) g.ns dd.mapOf ?_
  rw [← (rel.val k).isSome_eq]
  exact ⟨.bl (valV kvs k).isSome, H2, I2.tok _, rfl, q2⟩
end
section
variable {X : Cx}
noncomputable def rRemove : V → List V → Hp → VK → Prop := fun x vs H Q => ∃ (l : Addr) (ns : List Int) (n : Int), x = .ref l ∧ vs = [.int n] ∧ H l = some (.lst (ns.map V.int)) ∧ n ∈ ns ∧ Q .non (upd H l (.lst ((ns.erase n).map V.int)))
theorem idx_lt_ne {ns : List Int} {n : Int} : ∀ {m : Nat} (hm : m < ns.length), m < ns.idxOf n → ns[m] ≠ n := by
  induction ns with
  | nil => intro m hm; simp at hm
  | cons a ns ih =>
    intro m hm hlt
    rw [List.idxOf_cons] at hlt
    by_cases e : a = n
    · rw [show (a == n) = true from by simpa using e] at hlt
      exact absurd hlt (Nat.not_lt_zero _)
    · rw [show (a == n) = false from by simpa using e] at hlt
      have hlt' : m < ns.idxOf n + 1 := hlt
      cases m with
      | zero => exact e
      | succ m => exact ih (m := m) (by simpa using hm) (by omega)
theorem map_erase {α β : Type} (f : α → β) : ∀ (l : List α) (i : Nat), (l.map f).eraseIdx i = (l.eraseIdx i).map f
  | [], _ => rfl
  | _ :: _, 0 => rfl
  | a :: l, i + 1 => by
    show f a :: (l.map f).eraseIdx i = f a :: (l.eraseIdx i).map f
    rw [map_erase f l i]
noncomputable def isN (n : Int) : Value → Bool
  | .int i _ => i == n
  | _ => false
theorem mt_remove : MtM X "list.remove" rRemove := by
  intro pins s σ H x vs v us Q I rx rv h
  obtain ⟨l, ns, n, rfl, rfl, hH, hm, q⟩ := h
  cases rx
  obtain ⟨u, rfl, tk, rfl⟩ := rv.one
  obtain ⟨z, its, c, r, hl, e⟩ := I.lstM hH
  have hi : IntsAre its ns := Vals.ints r
  have hlen : its.length = ns.length := by rw [← hl, List.length_map]
  have hj : ns.idxOf n < ns.length := List.idxOf_lt_length_of_mem hm
  have hat : ∀ (m : Nat) (h1 : m < its.length) (h2 : m < ns.length), ∃ t, its[m] = Value.int ns[m] t := by
    intro m h1 h2
    obtain ⟨u, hu, t, ru⟩ := r.get (i := m) (x := V.int ns[m]) (by rw [List.getElem?_map, List.getElem?_eq_getElem h2]; rfl)
    exact ⟨t, by rw [← ru]; exact (List.getElem?_eq_some_iff.mp hu).2⟩
  refine call_meets F.slot_list_remove ⟨_, e, rfl⟩ F.entry_list_remove (F.args_list_remove_2 _ _)
    (MeetsSeq.list_remove l its.toArray c (.int n tk) (isN n) ?_ (ns.idxOf n) (by rw [List.size_toArray]; omega) ?_ ?_ (by rw [List.size_toArray]; omega)) ⟨e, ?_⟩
  · intro y hy
    obtain ⟨m, hm', rfl⟩ := List.getElem_of_mem (show y ∈ its by simpa using hy)
    obtain ⟨t, et⟩ := hat m hm' (by omega)
    rw [et]
    exact MeetsSeq.EqGives.int _ _ _ _
  · obtain ⟨t, et⟩ := hat (ns.idxOf n) (by omega) hj
    have e1 : its.toArray[ns.idxOf n]'(by rw [List.size_toArray]; omega) = Value.int ns[ns.idxOf n] t := by simpa using et
    rw [e1, List.getElem_idxOf]
    simp [isN]
  · intro m hm1 hm2
    obtain ⟨t, et⟩ := hat m (by simpa using hm1) (by omega)
    have e1 : its.toArray[m] = Value.int ns[m] t := by simpa using et
    rw [e1]
    simp [isN]
    exact idx_lt_ne _ hm2
  · refine ⟨.non, _, I.lset (its' := its.eraseIdx (ns.idxOf n)) hH e ?_ ?_ ?_, rfl, q⟩
    · simp
    · rw [List.erase_eq_eraseIdx_of_idxOf rfl, ← map_erase]
      exact r.eraseIdx _
    · rw [List.length_map]
      exact Nat.le_trans List.length_erase_le (by rw [List.length_map] at z; exact z)
end
end L2
end
section
set_option Elab.async false
set_option linter.all false
set_option maxRecDepth 100000
set_option maxHeartbeats 2000000
namespace L2
open PySem PySem.Spec PyProof.Rows
theorem vals_of : ∀ (xs : List V) (us : List Value), xs.length = us.length → (∀ (j : Nat) (x : V) (u : Value), xs[j]? = some x → us[j]? = some u → RelV x u) → Vals xs us
  | [], [], _, _ => .nil
  | x :: xs, u :: us, hl, h => .cons (h 0 x u rfl rfl) (vals_of xs us (by simpa using hl) fun j y v h1 h2 => h (j + 1) y v (by simpa using h1) (by simpa using h2))
  | [], _ :: _, hl, _ => by simp at hl
  | _ :: _, [], hl, _ => by simp at hl
section
variable {X : Cx}
theorem call_range_obj : CallR X (.type "range") (fun xs H Q => ∃ j : Int, xs = [.int j] ∧ ∀ p, H p = none → Q (.ref p) (upd H p (.rng 0 j))) := by
  intro pins s σ H xs us Q I r h
  obtain ⟨j, rfl, q⟩ := h
  obtain ⟨u, rfl, t, rfl⟩ := vals1 r
  refine call_range_1 ⟨.ref s.heap.objs.size, _, I.laid (fun b o e => Heap.get?_push_of_some _ e) (Nat.le_refl _) (show ObjOk X.prog X.w _ _ _ (.rng 0 j) from ⟨_, _, _, Heap.get?_push_size _ rfl⟩), rfl, q _ I.fresh⟩
theorem call_list_rng (hc : X.calm = true) : CallR X (.type "list") (fun xs H Q => ∃ (p : Addr) (n : Nat), xs = [.ref p] ∧ H p = some (.rng 0 n) ∧ n ≤ sizeLine ∧ ∀ l, H l = none → Q (.ref l) (upd H l (.lst ((List.range n).map fun (i : Nat) => V.int (i : Int))))) := by
  intro pins s σ H xs us Q I r h
  obtain ⟨p, n, rfl, hp, hn, q⟩ := h
  obtain ⟨u, rfl, rx⟩ := vals1 r
  cases rx
  obtain ⟨t, u, v, hr⟩ := I.hok p _ hp
  have hz := sizeLine_eq
  have hs : Builtin.Range.rangeSize 0 (n : Int) 1 = (n : Int) := by rw [rangeSize_one]; split <;> omega
  refine call_list_range (n := n) (I.ok.hd hc) hr (small_one (by omega) (by omega) (by omega) (by omega)) hs (by omega) fun h' tk acc' c' kp e hi => ?_
  refine ⟨.ref s.heap.objs.size, _, I.laid kp (Nat.le_refl _) (show ObjOk X.prog X.w _ h' _ (.lst _) from ⟨?_, acc'.toList, c', ?_, ?_⟩), rfl, q _ I.fresh⟩
  · rw [List.length_map, List.length_range]; exact hn
  · refine vals_of _ _ (by rw [List.length_map, List.length_range, Array.length_toList]; exact hi.1.symm) fun j x u h1 h2 => ?_
    obtain ⟨t, rfl⟩ := hi.2 j u (by simpa using h2)
    rw [List.getElem?_map] at h1
    by_cases hj : j < n
    · rw [List.getElem?_range hj] at h1
      cases h1
      exact ⟨t, by congr 1; omega⟩
    · rw [List.getElem?_eq_none (by rw [List.length_range]; omega)] at h1
      cases h1
  · rw [e]
end
theorem bt_list : bootBuiltins "list" = some (.type "list") := by decide +kernel
theorem bt_range : bootBuiltins "range" = some (.type "range") := by decide +kernel
section
variable {X : Cx} (K : PySem.W.Frag)
theorem ixl (h : X.K = K := by rfl) : IxR X (rIxL K) := h ▸ ix_list
theorem ixt (h : X.K = K := by rfl) : IxR X (rIxT K) := h ▸ ix_tup
theorem call_lenK (h : X.K = K := by rfl) : CallR X (.builtin "len") (fun xs H Q => ∃ p ys, xs = [.ref p] ∧ (SqL K H p ys ∨ SqT K H p ys) ∧ Q (.int ys.length) H) := h ▸ call_len_seq
theorem pe_fldK {e : Expr} {ta : TE} {f : Str} {pos : Pos} (he : PE X e ta) (hb : attributeBase e f X.env (eval e X.env) = eval e X.env) (h : X.K = K := by rfl) : PE X (.Attribute e f pos) (tFld K ta f) := h ▸ pe_fld he hb
end
theorem same_upd {H : Hp} {q : Addr} {o : HO} (h : H q = none) : Same H (upd H q o) := fun b u e => by rw [upd_ne (ne_of_none e h)]; exact e
noncomputable def del (H : Hp) (D : Addr) : Hp := fun b => if b = D then none else H b
theorem del_same (H : Hp) (D : Addr) : Same (del H D) H := fun b o e => by
  unfold del at e
  split at e
  · cases e
  · exact e
theorem del_upd (H : Hp) (D : Addr) (o : HO) : del (upd H D o) D = del H D := by
  funext b
  unfold del
  split
  · rfl
  · rename_i h
    exact upd_ne h
theorem del_at {H : Hp} {D b : Addr} (h : b ≠ D) : del H D b = H b := if_neg h
theorem del_mono {H H' : Hp} {D : Addr} (s : Same H H') : Same (del H D) (del H' D) := fun b o e => by
  unfold del at *
  split at e
  · cases e
  · rename_i h
    rw [if_neg h]
    exact s b o e
end L2
end
section
set_option Elab.async false
set_option linter.all false
set_option maxRecDepth 100000
set_option maxHeartbeats 2000000
namespace Two
open PySem PySem.Spec PyProof.Rows L2
open Krl7 (House Abs)
open Krb7 (full both not_ within count)
noncomputable def fl (a : Int) (t : Addr) (b c d e : Int) : List (Str × V) := [("letters", .int a), ("stores", .ref t), ("mover", .int b), ("matter", .int c), ("topic", .int d), ("moves_made", .int e)]
section
variable {a b c d e x : Int} {t u : Addr}
theorem fl_letters : (fl a t b c d e).lookup ("letters" : Str) = some (.int a) := by kernel_rfl
theorem fl_stores : (fl a t b c d e).lookup ("stores" : Str) = some (.ref t) := by kernel_rfl
theorem fl_mover : (fl a t b c d e).lookup ("mover" : Str) = some (.int b) := by kernel_rfl
theorem fl_matter : (fl a t b c d e).lookup ("matter" : Str) = some (.int c) := by kernel_rfl
theorem fl_topic : (fl a t b c d e).lookup ("topic" : Str) = some (.int d) := by kernel_rfl
theorem fl_moves : (fl a t b c d e).lookup ("moves_made" : Str) = some (.int e) := by kernel_rfl
theorem put_letters : putF "letters" (.int x) (fl a t b c d e) = fl x t b c d e := by kernel_rfl
theorem put_stores : putF "stores" (.ref u) (fl a t b c d e) = fl a u b c d e := by kernel_rfl
theorem put_mover : putF "mover" (.int x) (fl a t b c d e) = fl a t x c d e := by kernel_rfl
theorem put_matter : putF "matter" (.int x) (fl a t b c d e) = fl a t b x d e := by kernel_rfl
theorem put_topic : putF "topic" (.int x) (fl a t b c d e) = fl a t b c x e := by kernel_rfl
theorem put_moves : putF "moves_made" (.int x) (fl a t b c d e) = fl a t b c d x := by kernel_rfl
theorem put_new : putF "moves_made" (.int e) (putF "topic" (.int d) (putF "matter" (.int c) (putF "mover" (.int b) (putF "stores" (.ref t) (putF "letters" (.int a) []))))) = fl a t b c d e := by kernel_rfl
end
noncomputable def nV (l : List Nat) : List V := l.map fun (n : Nat) => V.int (n : Int)
theorem nV_length (l : List Nat) : (nV l).length = l.length := List.length_map _
theorem nV_ints (l : List Nat) : nV l = (l.map fun (n : Nat) => (n : Int)).map V.int := by unfold nV; rw [List.map_map]; rfl
theorem nV_append (l r : List Nat) : nV (l ++ r) = nV l ++ nV r := List.map_append
noncomputable abbrev flds (t : Addr) (h : House) : List (Str × V) := fl h.m t h.turn h.open_.kind h.open_.what h.moves
structure Rec (C : Addr) (H : Hp) (r l0 l1 : Addr) (h : House) : Prop where
  ins : ∃ dx t, H r = some (.ins C dx (flds t h)) ∧ H t = some (.tup [.ref l0, .ref l1])
  s0 : H l0 = some (.lst (nV h.one))
  s1 : H l1 = some (.lst (nV h.two))
  ne : l0 ≠ l1
noncomputable def Keep (fp : List Addr) (H H' : Hp) : Prop := ∀ b o, H b = some o → b ∉ fp → H' b = some o
theorem Keep.refl (fp : List Addr) (H : Hp) : Keep fp H H := fun _ _ h _ => h
theorem Keep.trans {fp : List Addr} {H H1 H2 : Hp} (a : Keep fp H H1) (b : Keep fp H1 H2) : Keep fp H H2 := fun c o h n => b c o (a c o h n) n
theorem Keep.upd {fp : List Addr} {H : Hp} {x : Addr} {o : HO} (h : x ∈ fp) : Keep fp H (upd H x o) := fun b o' e n => by
  rw [upd_ne (fun q => n (by rw [q]; exact h))]
  exact e
noncomputable def sAt (l0 l1 : Addr) (s : Nat) : Addr := if s = 0 then l0 else l1
theorem Rec.store {C : Addr} {H : Hp} {r l0 l1 : Addr} {h : House} (R : Rec C H r l0 l1 h) (s : Nat) : H (sAt l0 l1 s) = some (.lst (nV (h.store s))) := by
  unfold sAt House.store
  by_cases e : s = 0
  · rw [if_pos e, if_pos e]; exact R.s0
  · rw [if_neg e, if_neg e]; exact R.s1
theorem pair_at {l0 l1 : Addr} {s : Nat} (h : s = 0 ∨ s = 1) : atI [V.ref l0, V.ref l1] (s : Int) = some (.ref (sAt l0 l1 s)) := by
  rcases h with rfl | rfl <;> rfl
noncomputable def AS : List V := [.int 1, .int 3, .int 15, .int 255]
theorem as_at {m : Nat} (h : m ≤ 3) : atI AS (m : Int) = some (.int (full m : Nat)) := by
  match m, h with
  | 0, _ => rfl
  | 1, _ => rfl
  | 2, _ => rfl
  | 3, _ => rfl
theorem iteD {c A B : Prop} [Decidable c] (hc : c) (h : A) : if decide c = true then A else B := by
  rw [if_pos (decide_eq_true hc)]
  exact h
theorem iteDN {c A B : Prop} [Decidable c] (hc : ¬ c) (h : B) : if decide c = true then A else B := by
  rw [if_neg (by simpa using hc)]
  exact h
theorem iteB {b : Bool} {A B : Prop} (h1 : b = true → A) (h2 : b = false → B) : if b = true then A else B := by
  cases b with
  | true => rw [if_pos rfl]; exact h1 rfl
  | false => rw [if_neg (by decide)]; exact h2 rfl
theorem band (p q : Nat) : Builtin.bitAnd (p : Int) (q : Int) = ((p &&& q : Nat) : Int) := by
  rw [bitAnd_pp (by omega) (by omega)]
  rfl
end Two
end
section
set_option Elab.async false
set_option linter.all false
set_option maxRecDepth 100000
set_option maxHeartbeats 2000000
namespace Two
open PySem PySem.Spec PyProof.Rows L2
open Krl7 (House Abs)
open Krb7 (full both not_ within count)
noncomputable def top (i : Nat) : Stmt := PySem.Challenge.pw_twocommitted_s01_answers.main.body.getD i (.Pass ⟨0, 0, 0, 0⟩)
noncomputable abbrev s_is_proposition : Stmt := top 3
theorem sc_is_proposition : FnScope ["letters", "number"] ["letters", "number"] (defScope s_is_proposition) := ⟨rfl, rfl, rfl, by decide +kernel, rfl, by decide +kernel, by decide +kernel⟩
noncomputable abbrev s_opposite : Stmt := top 4
theorem sc_opposite : FnScope ["letters", "proposition"] ["letters", "proposition"] (defScope s_opposite) := ⟨rfl, rfl, rfl, by decide +kernel, rfl, by decide +kernel, by decide +kernel⟩
noncomputable abbrev s_follows : Stmt := top 5
theorem sc_follows : FnScope ["proposition", "other"] ["proposition", "other"] (defScope s_follows) := ⟨rfl, rfl, rfl, by decide +kernel, rfl, by decide +kernel, by decide +kernel⟩
noncomputable abbrev s_excludes : Stmt := top 6
theorem sc_excludes : FnScope ["proposition", "other"] ["proposition", "other"] (defScope s_excludes) := ⟨rfl, rfl, rfl, by decide +kernel, rfl, by decide +kernel, by decide +kernel⟩
noncomputable abbrev s_worlds_allowed : Stmt := top 7
theorem sc_worlds_allowed : FnScope ["letters", "store", "worlds", "proposition"] ["letters", "store"] (defScope s_worlds_allowed) := ⟨rfl, rfl, rfl, by decide +kernel, rfl, by decide +kernel, by decide +kernel⟩
noncomputable abbrev s_how_many_worlds : Stmt := top 8
theorem sc_how_many_worlds : FnScope ["proposition", "found", "rest"] ["proposition"] (defScope s_how_many_worlds) := ⟨rfl, rfl, rfl, by decide +kernel, rfl, by decide +kernel, by decide +kernel⟩
noncomputable abbrev s_sets_of_places : Stmt := top 9
theorem sc_sets_of_places : FnScope ["size", "sets", "place", "places"] ["size"] (defScope s_sets_of_places) := ⟨rfl, rfl, rfl, by decide +kernel, rfl, by decide +kernel, by decide +kernel⟩
noncomputable abbrev s_places_bind : Stmt := top 10
theorem sc_places_bind : FnScope ["letters", "store", "places", "proposition", "place"] ["letters", "store", "places", "proposition"] (defScope s_places_bind) := ⟨rfl, rfl, rfl, by decide +kernel, rfl, by decide +kernel, by decide +kernel⟩
noncomputable abbrev s_fewest_places_that_bind : Stmt := top 11
theorem sc_fewest_places_that_bind : FnScope ["letters", "store", "proposition", "fewest", "places"] ["letters", "store", "proposition"] (defScope s_fewest_places_that_bind) := ⟨rfl, rfl, rfl, by decide +kernel, rfl, by decide +kernel, by decide +kernel⟩
noncomputable abbrev s_say : Stmt := top 33
theorem sc_say : FnScope ["record", "given"] ["record", "given"] (defScope s_say) := ⟨rfl, rfl, rfl, by decide +kernel, rfl, by decide +kernel, by decide +kernel⟩
noncomputable abbrev s_ask : Stmt := top 34
theorem sc_ask : FnScope ["record", "given"] ["record", "given"] (defScope s_ask) := ⟨rfl, rfl, rfl, by decide +kernel, rfl, by decide +kernel, by decide +kernel⟩
noncomputable abbrev s_why : Stmt := top 35
theorem sc_why : FnScope ["record", "given"] ["record", "given"] (defScope s_why) := ⟨rfl, rfl, rfl, by decide +kernel, rfl, by decide +kernel, by decide +kernel⟩
noncomputable abbrev s_drop : Stmt := top 36
theorem sc_drop : FnScope ["record", "given"] ["record", "given"] (defScope s_drop) := ⟨rfl, rfl, rfl, by decide +kernel, rfl, by decide +kernel, by decide +kernel⟩
noncomputable abbrev s_since : Stmt := top 37
theorem sc_since : FnScope ["record", "given"] ["record", "given"] (defScope s_since) := ⟨rfl, rfl, rfl, by decide +kernel, rfl, by decide +kernel, by decide +kernel⟩
noncomputable abbrev s_accept : Stmt := top 38
theorem sc_accept : FnScope ["record"] ["record"] (defScope s_accept) := ⟨rfl, rfl, rfl, by decide +kernel, rfl, by decide +kernel, by decide +kernel⟩
noncomputable abbrev s_passed : Stmt := top 39
theorem sc_passed : FnScope ["record"] ["record"] (defScope s_passed) := ⟨rfl, rfl, rfl, by decide +kernel, rfl, by decide +kernel, by decide +kernel⟩
noncomputable abbrev s_affirm : Stmt := top 40
theorem sc_affirm : FnScope ["record"] ["record"] (defScope s_affirm) := ⟨rfl, rfl, rfl, by decide +kernel, rfl, by decide +kernel, by decide +kernel⟩
noncomputable abbrev s_deny : Stmt := top 41
theorem sc_deny : FnScope ["record", "contrary"] ["record"] (defScope s_deny) := ⟨rfl, rfl, rfl, by decide +kernel, rfl, by decide +kernel, by decide +kernel⟩
noncomputable abbrev s_unsure : Stmt := top 42
theorem sc_unsure : FnScope ["record"] ["record"] (defScope s_unsure) := ⟨rfl, rfl, rfl, by decide +kernel, rfl, by decide +kernel, by decide +kernel⟩
noncomputable abbrev s_refusal_of_any : Stmt := top 45
theorem sc_refusal_of_any : FnScope ["record", "move"] ["record", "move"] (defScope s_refusal_of_any) := ⟨rfl, rfl, rfl, by decide +kernel, rfl, by decide +kernel, by decide +kernel⟩
noncomputable abbrev s_make_bare_move : Stmt := top 46
theorem sc_make_bare_move : FnScope ["record", "move", "refusal"] ["record", "move"] (defScope s_make_bare_move) := ⟨rfl, rfl, rfl, by decide +kernel, rfl, by decide +kernel, by decide +kernel⟩
noncomputable abbrev s_make_given_move : Stmt := top 47
theorem sc_make_given_move : FnScope ["record", "move", "given", "refusal"] ["record", "move", "given"] (defScope s_make_given_move) := ⟨rfl, rfl, rfl, by decide +kernel, rfl, by decide +kernel, by decide +kernel⟩
noncomputable abbrev s_turn : Stmt := top 52
theorem sc_turn : FnScope ["record"] ["record"] (defScope s_turn) := ⟨rfl, rfl, rfl, by decide +kernel, rfl, by decide +kernel, by decide +kernel⟩
noncomputable abbrev s_what_is_open : Stmt := top 53
theorem sc_what_is_open : FnScope ["record"] ["record"] (defScope s_what_is_open) := ⟨rfl, rfl, rfl, by decide +kernel, rfl, by decide +kernel, by decide +kernel⟩
noncomputable abbrev s_agreed : Stmt := top 54
theorem sc_agreed : FnScope ["record", "worlds"] ["record"] (defScope s_agreed) := ⟨rfl, rfl, rfl, by decide +kernel, rfl, by decide +kernel, by decide +kernel⟩
noncomputable abbrev s_common : Stmt := top 55
theorem sc_common : FnScope ["record", "worlds"] ["record"] (defScope s_common) := ⟨rfl, rfl, rfl, by decide +kernel, rfl, by decide +kernel, by decide +kernel⟩
noncomputable abbrev s_quarrel : Stmt := top 56
theorem sc_quarrel : FnScope ["record", "sayings", "places", "of_first", "place"] ["record"] (defScope s_quarrel) := ⟨rfl, rfl, rfl, by decide +kernel, rfl, by decide +kernel, by decide +kernel⟩
noncomputable abbrev s_kinds : Stmt := top 57
theorem sc_kinds : FnScope ["record", "moves"] ["record"] (defScope s_kinds) := ⟨rfl, rfl, rfl, by decide +kernel, rfl, by decide +kernel, by decide +kernel⟩
noncomputable abbrev s_state : Stmt := top 58
theorem sc_state : FnScope ["record", "sizes"] ["record"] (defScope s_state) := ⟨rfl, rfl, rfl, by decide +kernel, rfl, by decide +kernel, by decide +kernel⟩
noncomputable abbrev s_store_of : Stmt := top 59
theorem sc_store_of : FnScope ["record", "person"] ["record", "person"] (defScope s_store_of) := ⟨rfl, rfl, rfl, by decide +kernel, rfl, by decide +kernel, by decide +kernel⟩
noncomputable abbrev s_bound : Stmt := top 60
theorem sc_bound : FnScope ["record", "person", "proposition"] ["record", "person", "proposition"] (defScope s_bound) := ⟨rfl, rfl, rfl, by decide +kernel, rfl, by decide +kernel, by decide +kernel⟩
noncomputable abbrev s_barred : Stmt := top 61
theorem sc_barred : FnScope ["record", "person", "proposition"] ["record", "person", "proposition"] (defScope s_barred) := ⟨rfl, rfl, rfl, by decide +kernel, rfl, by decide +kernel, by decide +kernel⟩
noncomputable abbrev s_reason : Stmt := top 62
theorem sc_reason : FnScope ["record", "person", "proposition", "sayings", "places", "place"] ["record", "person", "proposition"] (defScope s_reason) := ⟨rfl, rfl, rfl, by decide +kernel, rfl, by decide +kernel, by decide +kernel⟩
noncomputable abbrev s_would : Stmt := top 63
theorem sc_would : FnScope ["record", "proposition"] ["record", "proposition"] (defScope s_would) := ⟨rfl, rfl, rfl, by decide +kernel, rfl, by decide +kernel, by decide +kernel⟩
noncomputable abbrev s_tell_of_person : Stmt := top 66
theorem sc_tell_of_person : FnScope ["record", "number", "given", "person"] ["record", "number", "given"] (defScope s_tell_of_person) := ⟨rfl, rfl, rfl, by decide +kernel, rfl, by decide +kernel, by decide +kernel⟩
noncomputable abbrev s_tell : Stmt := top 67
theorem sc_tell : FnScope ["record", "number", "given"] ["record", "number", "given"] (defScope s_tell) := ⟨rfl, rfl, rfl, by decide +kernel, rfl, by decide +kernel, by decide +kernel⟩
noncomputable abbrev s_answer : Stmt := top 71
theorem sc_answer : FnScope ["record", "number", "given"] ["record", "number", "given"] (defScope s_answer) := ⟨rfl, rfl, rfl, by decide +kernel, rfl, by decide +kernel, by decide +kernel⟩
noncomputable abbrev s_answers : Stmt := top 72
theorem sc_answers : FnScope ["calls", "record", "given_back", "place", "number", "behind", "numbers"] ["calls"] (defScope s_answers) := ⟨rfl, rfl, rfl, by decide +kernel, rfl, by decide +kernel, by decide +kernel⟩
noncomputable abbrev s_init : Stmt := inClass (top 29) 0
theorem sc_init : FnScope ["self"] ["self"] (defScope s_init) := ⟨rfl, rfl, rfl, by decide +kernel, rfl, by decide +kernel, by decide +kernel⟩
noncomputable abbrev s_restart : Stmt := inClass (top 29) 1
theorem sc_restart : FnScope ["self", "letters"] ["self", "letters"] (defScope s_restart) := ⟨rfl, rfl, rfl, by decide +kernel, rfl, by decide +kernel, by decide +kernel⟩
noncomputable abbrev s_begin : Stmt := inClass (top 29) 2
theorem sc_begin : FnScope ["self", "letters"] ["self", "letters"] (defScope s_begin) := ⟨rfl, rfl, rfl, by decide +kernel, rfl, by decide +kernel, by decide +kernel⟩
noncomputable abbrev s_has_begun : Stmt := inClass (top 29) 3
theorem sc_has_begun : FnScope ["self"] ["self"] (defScope s_has_begun) := ⟨rfl, rfl, rfl, by decide +kernel, rfl, by decide +kernel, by decide +kernel⟩
noncomputable abbrev s_own_store : Stmt := inClass (top 29) 4
theorem sc_own_store : FnScope ["self"] ["self"] (defScope s_own_store) := ⟨rfl, rfl, rfl, by decide +kernel, rfl, by decide +kernel, by decide +kernel⟩
noncomputable abbrev s_other_store : Stmt := inClass (top 29) 5
theorem sc_other_store : FnScope ["self"] ["self"] (defScope s_other_store) := ⟨rfl, rfl, rfl, by decide +kernel, rfl, by decide +kernel, by decide +kernel⟩
noncomputable abbrev s_worlds_of : Stmt := inClass (top 29) 6
theorem sc_worlds_of : FnScope ["self", "person"] ["self", "person"] (defScope s_worlds_of) := ⟨rfl, rfl, rfl, by decide +kernel, rfl, by decide +kernel, by decide +kernel⟩
noncomputable abbrev s_is_bound : Stmt := inClass (top 29) 7
theorem sc_is_bound : FnScope ["self", "person", "proposition"] ["self", "person", "proposition"] (defScope s_is_bound) := ⟨rfl, rfl, rfl, by decide +kernel, rfl, by decide +kernel, by decide +kernel⟩
noncomputable abbrev s_is_barred : Stmt := inClass (top 29) 8
theorem sc_is_barred : FnScope ["self", "person", "proposition"] ["self", "person", "proposition"] (defScope s_is_barred) := ⟨rfl, rfl, rfl, by decide +kernel, rfl, by decide +kernel, by decide +kernel⟩
noncomputable abbrev s_commit : Stmt := inClass (top 29) 9
theorem sc_commit : FnScope ["self", "proposition"] ["self", "proposition"] (defScope s_commit) := ⟨rfl, rfl, rfl, by decide +kernel, rfl, by decide +kernel, by decide +kernel⟩
noncomputable abbrev s_finish : Stmt := inClass (top 29) 10
theorem sc_finish : FnScope ["self", "matter", "topic", "size"] ["self", "matter", "topic"] (defScope s_finish) := ⟨rfl, rfl, rfl, by decide +kernel, rfl, by decide +kernel, by decide +kernel⟩
noncomputable abbrev s_commit_and_finish : Stmt := inClass (top 29) 11
theorem sc_commit_and_finish : FnScope ["self", "proposition", "matter", "topic", "refusal"] ["self", "proposition", "matter", "topic"] (defScope s_commit_and_finish) := ⟨rfl, rfl, rfl, by decide +kernel, rfl, by decide +kernel, by decide +kernel⟩
noncomputable def NG : List V := ([1, 1, 1, 1, 1, 0, 0, 0, 0, 0, 0, 1, 0, 0, 1, 2, 2, 2, 0, 0, 0, 0, 1, 0] : List Int).map V.int
structure Txt (P : Program) (w : World) (K : PySem.W.Frag) (mg : Str → Option Value) (C aS aF aG aB aT aP aN : Addr) : Prop where
  cl : Cls K C
  n_letters : NoAttr K C "letters"
  n_stores : NoAttr K C "stores"
  n_mover : NoAttr K C "mover"
  n_matter : NoAttr K C "matter"
  n_topic : NoAttr K C "topic"
  n_moves_made : NoAttr K C "moves_made"
  g_MOST_LETTERS : GInt mg "MOST_LETTERS" 3
  g_NOT_IN_STORE : GInt mg "NOT_IN_STORE" (-6)
  g_BEFORE_BEGIN : GInt mg "BEFORE_BEGIN" (-11)
  g_NOT_OPEN : GInt mg "NOT_OPEN" (-16)
  g_SO_ALREADY : GInt mg "SO_ALREADY" (-17)
  g_NOT_RIGHT : GInt mg "NOT_RIGHT" (-22)
  g_TOO_MANY : GInt mg "TOO_MANY" (-28)
  g_CANNOT_BE : GInt mg "CANNOT_BE" (-33)
  g_NOT_UNSURE : GInt mg "NOT_UNSURE" (-61)
  g_NO_REASON : GInt mg "NO_REASON" (-62)
  g_TIME_IS_UP : GInt mg "TIME_IS_UP" (-75)
  g_MOST_IN_STORE : GInt mg "MOST_IN_STORE" 6
  g_NOTHING : GInt mg "NOTHING" 0
  g_SAID : GInt mg "SAID" 1
  g_ASKED : GInt mg "ASKED" 2
  g_WHY_SO : GInt mg "WHY_SO" 3
  g_MOST_MOVES : GInt mg "MOST_MOVES" 40
  g_BEGIN : GInt mg "BEGIN" 0
  g_NO_SUCH_PERSON : GInt mg "NO_SUCH_PERSON" (-2)
  g_NEVER_SO : GInt mg "NEVER_SO" 0
  g_STORE : GInt mg "STORE" 14
  g_WOULD : GInt mg "WOULD" 22
  g_ALWAYS_SO : mg "ALWAYS_SO" = some (.ref aS)
  g_MOVES_FOR : mg "MOVES_FOR" = some (.ref aF)
  g_MOVES_GIVEN : mg "MOVES_GIVEN" = some (.ref aG)
  g_MOVES_BARE : mg "MOVES_BARE" = some (.ref aB)
  g_TELLINGS_BARE : mg "TELLINGS_BARE" = some (.ref aT)
  g_TELLINGS_OF_BOTH : mg "TELLINGS_OF_BOTH" = some (.ref aP)
  g_NUMBERS_GIVEN : mg "NUMBERS_GIVEN" = some (.ref aN)
  t_ALWAYS_SO : ∀ H : Hp, SqT K H aS AS
  t_NUMBERS_GIVEN : ∀ H : Hp, SqT K H aN NG
  b_len : mg "len" = none
  b_list : mg "list" = none
  b_range : mg "range" = none
section
variable {P : Program} {w : World} {K : PySem.W.Frag} {mg : Str → Option Value} {base : Heap} {C aS aF aG aB aT aP aN : Addr}
noncomputable def sp_is_proposition : Sp := fun vs H Q _ => ∃ m p : Nat, vs = [.int m, .int p] ∧ m ≤ 3 ∧ Q (.bl (decide (p ≤ full m))) H
theorem ok_is_proposition {f : Addr} {fd : FuncData} (F : Fun K "is_proposition" "is_proposition" s_is_proposition f fd) (T : Txt P w K mg C aS aF aG aB aT aP aN) : FnOk P w K mg base CX0 1 f fd ["letters", "number"] sp_is_proposition := by
  refine F.ok sc_is_proposition (fun vs H Q E h => ?_) (fun cdv A outer s H vs Q E hr h => ?_)
  · obtain ⟨m, p, rfl, _⟩ := h
    rfl
  · obtain ⟨m, p, rfl, hm, k⟩ := h
    refine ⟨_, (pss_one (ps_ret (pe_chain op_le op_le pe_int (pv 1) (pe_ix ix_tup (pe_gref rfl T.g_ALWAYS_SO) (pv 0) (fun _ _ => rfl))))), ?_⟩
    refine ⟨_, rfl, _, _, rfl, rfl, _, rfl, ?_⟩
    refine iteD (by omega) ?_
    refine ⟨_, rfl, _, _, _, _, rfl, rfl, T.t_ALWAYS_SO H, as_at hm, _, _, rfl, rfl, ?_⟩
    have e : decide ((p : Int) ≤ ((full m : Nat) : Int)) = decide (p ≤ full m) := by simp
    show Q (.bl (decide ((p : Int) ≤ ((full m : Nat) : Int)))) H
    rw [e]
    exact k
noncomputable def sp_opposite : Sp := fun vs H Q _ => ∃ m p : Nat, vs = [.int m, .int p] ∧ m ≤ 3 ∧ p ≤ full m ∧ Q (.int (not_ m p : Nat)) H
theorem ok_opposite {f : Addr} {fd : FuncData} (F : Fun K "opposite" "opposite" s_opposite f fd) (T : Txt P w K mg C aS aF aG aB aT aP aN) : FnOk P w K mg base CX0 1 f fd ["letters", "proposition"] sp_opposite := by
  refine F.ok sc_opposite (fun vs H Q E h => ?_) (fun cdv A outer s H vs Q E hr h => ?_)
  · obtain ⟨m, p, rfl, _⟩ := h
    rfl
  · obtain ⟨m, p, rfl, hm, hp, k⟩ := h
    refine ⟨_, (pss_one (ps_ret (pe_op op_sub (pe_ix ix_tup (pe_gref rfl T.g_ALWAYS_SO) (pv 0) (fun _ _ => rfl)) (pv 1)))), ?_⟩
    refine ⟨_, rfl, _, _, _, _, rfl, rfl, T.t_ALWAYS_SO H, as_at hm, _, rfl, _, _, rfl, rfl, ?_⟩
    have e : ((full m : Nat) : Int) - (p : Int) = ((not_ m p : Nat) : Int) := by unfold not_; omega
    show Q (.int (((full m : Nat) : Int) - (p : Int))) H
    rw [e]
    exact k
theorem dec_follows (p q : Nat) : decide (V.int (Builtin.bitAnd (p : Int) (q : Int)) = V.int (q : Int)) = within q p := by
  rw [band, dec_int]
  unfold within
  rw [Nat.and_comm]
  rw [Bool.eq_iff_iff, beq_iff_eq, beq_iff_eq]
  omega
noncomputable def sp_follows : Sp := fun vs H Q _ => ∃ p q : Nat, vs = [.int p, .int q] ∧ Q (.bl (within q p)) H
theorem ok_follows {f : Addr} {fd : FuncData} (F : Fun K "follows" "follows" s_follows f fd) : FnOk P w K mg base CX0 1 f fd ["proposition", "other"] sp_follows := by
  refine F.ok sc_follows (fun vs H Q E h => ?_) (fun cdv A outer s H vs Q E hr h => ?_)
  · obtain ⟨p, q, rfl, _⟩ := h
    rfl
  · obtain ⟨p, q, rfl, k⟩ := h
    refine ⟨_, (pss_one (ps_ret (pe_cmpR op_eq (pe_op op_and (pv 0) (pv 1)) (pv 1) (nomark _)))), ?_⟩
    refine ⟨_, rfl, _, rfl, _, _, rfl, rfl, _, rfl, rfl, ?_⟩
    show Q (.bl (decide (V.int (Builtin.bitAnd (p : Int) (q : Int)) = V.int (q : Int)))) H
    rw [dec_follows]
    exact k
theorem dec_excludes (p q : Nat) : decide (V.int (Builtin.bitAnd (p : Int) (q : Int)) = V.int 0) = (both q p == 0) := by
  rw [band, dec_int]
  unfold both
  rw [Nat.and_comm, Bool.eq_iff_iff, beq_iff_eq, beq_iff_eq]
  omega
noncomputable def sp_excludes : Sp := fun vs H Q _ => ∃ p q : Nat, vs = [.int p, .int q] ∧ Q (.bl (both q p == 0)) H
theorem ok_excludes {f : Addr} {fd : FuncData} (F : Fun K "excludes" "excludes" s_excludes f fd) : FnOk P w K mg base CX0 1 f fd ["proposition", "other"] sp_excludes := by
  refine F.ok sc_excludes (fun vs H Q E h => ?_) (fun cdv A outer s H vs Q E hr h => ?_)
  · obtain ⟨p, q, rfl, _⟩ := h
    rfl
  · obtain ⟨p, q, rfl, k⟩ := h
    refine ⟨_, (pss_one (ps_ret (pe_cmpR op_eq (pe_op op_and (pv 0) (pv 1)) pe_int (nomark _)))), ?_⟩
    refine ⟨_, rfl, _, rfl, _, _, rfl, rfl, rfl, ?_⟩
    show Q (.bl (decide (V.int (Builtin.bitAnd (p : Int) (q : Int)) = V.int 0))) H
    rw [dec_excludes]
    exact k
theorem take_snoc {α : Type} {l : List α} {i : Nat} {x : α} (h : l[i]? = some x) : l.take (i + 1) = l.take i ++ [x] := by
  rw [List.take_add_one, h]
  rfl
theorem nV_at {l : List Nat} {i : Nat} {y : V} (h : (nV l)[i]? = some y) : ∃ n, l[i]? = some n ∧ y = .int (n : Nat) := by
  unfold nV at h
  rw [List.getElem?_map] at h
  cases e : l[i]? with
  | none => rw [e] at h; cases h
  | some n => rw [e] at h; exact ⟨n, rfl, (Option.some.inj h).symm⟩
noncomputable def sp_worlds_allowed (K : PySem.W.Frag) : Sp := fun vs H Q _ => ∃ (m : Nat) (a : Addr) (l : List Nat), vs = [.int m, .ref a] ∧ m ≤ 3 ∧ SqL K H a (nV l) ∧ Q (.int (Krl7.meet m l : Nat)) H
theorem ok_worlds_allowed {f : Addr} {fd : FuncData} (F : Fun K "worlds_allowed" "worlds_allowed" s_worlds_allowed f fd) (T : Txt P w K mg C aS aF aG aB aT aP aN) : FnOk P w K mg base CX0 1 f fd ["letters", "store"] (sp_worlds_allowed K) := by
  refine F.ok sc_worlds_allowed (fun vs H Q E h => ?_) (fun cdv A outer s H vs Q E hr h => ?_)
  · obtain ⟨m, a, l, rfl, _⟩ := h
    rfl
  · obtain ⟨m, a, l, rfl, hm, hS, k⟩ := h
    refine ⟨_, (pss_cons (ps_set (i := 2) sc_worlds_allowed.nd rfl (Or.inl rfl) (pe_ix ix_tup (pe_gref rfl T.g_ALWAYS_SO) (pv 0) (fun _ _ => rfl)))
      (pss_cons (ps_for PassesOwn.never rfl (pi_list (pv 1)) (pg_name (i := 3) sc_worlds_allowed.nd rfl (Or.inl rfl)) (pss_one (ps_set (i := 2) sc_worlds_allowed.nd rfl (Or.inl rfl) (pe_op op_and (pv 2) (pv 3)))))
      (pss_one (ps_ret (pv 2))))), ?_⟩
    refine ⟨_, rfl, _, _, _, _, rfl, rfl, T.t_ALWAYS_SO H, as_at hm, ?_⟩
    refine ⟨_, rfl, a, rfl, ⟨_, hS⟩, for_list (K := K) (a := a) (xs := nV l) (fun i σ H' => H' = H ∧ ∃ v : Option V, σ = [some (.int m), some (.ref a), some (.int (Krl7.meet m (l.take i) : Nat)), v])
      ⟨rfl, none, rfl⟩ (fun i σ H' _ ⟨e, _⟩ => by rw [e]; exact hS) ?_ ?_⟩
    · rintro i y σ H' hi ⟨rfl, v, rfl⟩
      obtain ⟨n, hn, rfl⟩ := nV_at hi
      refine ⟨_, rfl, _, rfl, _, _, rfl, rfl, rfl, some (.int (n : Nat)), ?_⟩
      rw [take_snoc hn, meet_snoc]
      show [some (V.int m), some (.ref a), some (.int (Builtin.bitAnd (Krl7.meet m (l.take i) : Nat) (n : Nat))), some (.int (n : Nat))] = _
      rw [band]
      rfl
    · rintro σ H' ⟨rfl, v, rfl⟩
      refine ⟨_, rfl, ?_⟩
      rw [nV_length, List.take_length]
      exact k
end
end Two
end
section
set_option Elab.async false
set_option linter.all false
set_option maxRecDepth 100000
set_option maxHeartbeats 2000000
namespace Two
open PySem PySem.Spec PyProof.Rows L2
open Krl7 (House Abs)
open Krb7 (full both not_ within count)
section
variable {a b c d e : Int} {t : Addr}
theorem no_own_store : (fl a t b c d e).lookup ("own_store" : Str) = none := by kernel_rfl
theorem no_other_store : (fl a t b c d e).lookup ("other_store" : Str) = none := by kernel_rfl
theorem no_worlds_of : (fl a t b c d e).lookup ("worlds_of" : Str) = none := by kernel_rfl
theorem no_is_bound : (fl a t b c d e).lookup ("is_bound" : Str) = none := by kernel_rfl
theorem no_is_barred : (fl a t b c d e).lookup ("is_barred" : Str) = none := by kernel_rfl
theorem no_commit : (fl a t b c d e).lookup ("commit" : Str) = none := by kernel_rfl
theorem no_finish : (fl a t b c d e).lookup ("finish" : Str) = none := by kernel_rfl
theorem no_commit_and_finish : (fl a t b c d e).lookup ("commit_and_finish" : Str) = none := by kernel_rfl
theorem no_restart : (fl a t b c d e).lookup ("restart" : Str) = none := by kernel_rfl
theorem no_begin : (fl a t b c d e).lookup ("begin" : Str) = none := by kernel_rfl
theorem no_has_begun : (fl a t b c d e).lookup ("has_begun" : Str) = none := by kernel_rfl
theorem fl_len : (fl a t b c d e).length < 1000 := by show 6 < 1000; decide
end
theorem Rec.rl {C : Addr} {H : Hp} {r l0 l1 : Addr} {h : House} (R : Rec C H r l0 l1 h) (s : Nat) : r ≠ sAt l0 l1 s := by
  obtain ⟨dx, t, hI, _⟩ := R.ins
  exact ne_of hI (R.store s) (by intro q; cases q)
theorem Rec.put {C : Addr} {H : Hp} {r l0 l1 : Addr} {h : House} (R : Rec C H r l0 l1 h) (s : Nat) (l : List Nat) : Rec C (upd H (sAt l0 l1 s) (.lst (nV l))) r l0 l1 (h.put s l) := by
  obtain ⟨dx, t, hI, hT⟩ := R.ins
  have n1 := R.rl s
  have n2 : t ≠ sAt l0 l1 s := ne_of hT (R.store s) (by intro q; cases q)
  have e0 : h.put s l = { h with one := if s = 0 then l else h.one, two := if s = 0 then h.two else l } := by
    unfold House.put
    by_cases q : s = 0
    · rw [if_pos q, if_pos q, if_pos q]
    · rw [if_neg q, if_neg q, if_neg q]
  rw [e0]
  refine ⟨⟨dx, t, by rw [upd_ne n1]; exact hI, by rw [upd_ne n2]; exact hT⟩, ?_, ?_, R.ne⟩
  · unfold sAt
    by_cases q : s = 0
    · rw [if_pos q, upd_same]
      show _ = some (HO.lst (nV (if s = 0 then l else h.one)))
      rw [if_pos q]
    · rw [if_neg q, upd_ne R.ne]
      show _ = some (HO.lst (nV (if s = 0 then l else h.one)))
      rw [if_neg q]
      exact R.s0
  · unfold sAt
    by_cases q : s = 0
    · rw [if_pos q, upd_ne R.ne.symm]
      show _ = some (HO.lst (nV (if s = 0 then h.two else l)))
      rw [if_pos q]
      exact R.s1
    · rw [if_neg q, upd_same]
      show _ = some (HO.lst (nV (if s = 0 then h.two else l)))
      rw [if_neg q]
theorem Rec.set {C : Addr} {H : Hp} {r l0 l1 dx t : Addr} {h h' : House} (R : Rec C H r l0 l1 h) (hI : H r = some (.ins C dx (flds t h))) (hT : H t = some (.tup [.ref l0, .ref l1])) (e1 : h'.one = h.one) (e2 : h'.two = h.two) :
    Rec C (upd H r (.ins C dx (flds t h'))) r l0 l1 h' := by
  have n0 : l0 ≠ r := ne_of R.s0 hI (by intro q; cases q)
  have n1 : l1 ≠ r := ne_of R.s1 hI (by intro q; cases q)
  have n2 : t ≠ r := ne_of hT hI (by intro q; cases q)
  exact ⟨⟨dx, t, upd_same, by rw [upd_ne n2]; exact hT⟩, by rw [upd_ne n0, e1]; exact R.s0, by rw [upd_ne n1, e2]; exact R.s1, R.ne⟩
theorem sAt_mem {r l0 l1 : Addr} (s : Nat) : sAt l0 l1 s ∈ [r, l0, l1] := by
  unfold sAt
  by_cases q : s = 0
  · rw [if_pos q]; simp
  · rw [if_neg q]; simp
theorem other_at {l0 l1 : Addr} {s : Nat} (h : s = 0 ∨ s = 1) : atI [V.ref l0, V.ref l1] (1 - (s : Int)) = some (.ref (sAt l0 l1 (1 - s))) := by
  rcases h with rfl | rfl <;> rfl
section
variable {P : Program} {w : World} {K : PySem.W.Frag} {mg : Str → Option Value} {base : Heap} {C aS aF aG aB aT aP aN : Addr}
noncomputable def sp_own_store (C : Addr) : Sp := fun vs H Q _ => ∃ (r l0 l1 : Addr) (h : House), vs = [.ref r] ∧ Rec C H r l0 l1 h ∧ (h.turn = 0 ∨ h.turn = 1) ∧ Q (.ref (sAt l0 l1 h.turn)) H
theorem ok_own_store {f : Addr} {fd : FuncData} (F : Fun K "own_store" "Record.own_store" s_own_store f fd) (T : Txt P w K mg C aS aF aG aB aT aP aN) : FnOk P w K mg base CX0 1 f fd ["self"] (sp_own_store C) := by
  refine F.ok sc_own_store (fun vs H Q E h => ?_) (fun cdv A outer s H vs Q E hr h => ?_)
  · obtain ⟨r, l0, l1, h, rfl, _⟩ := h
    rfl
  · obtain ⟨r, l0, l1, h, rfl, R, ht, k⟩ := h
    obtain ⟨dx, t, hI, hT⟩ := R.ins
    refine ⟨_, (pss_one (ps_ret (pe_ix ix_tup (pe_fld (pv 0) rfl) (pe_fld (pv 0) rfl) (fun _ _ => rfl)))), ?_⟩
    exact ⟨_, rfl, r, C, dx, _, _, rfl, hI, T.cl, T.n_stores, fl_stores, _, rfl, r, C, dx, _, _, rfl, hI, T.cl, T.n_mover, fl_mover, t, _, _, _, rfl, rfl, SqT.of hT, pair_at ht, k⟩
noncomputable def sp_other_store (C : Addr) : Sp := fun vs H Q _ => ∃ (r l0 l1 : Addr) (h : House), vs = [.ref r] ∧ Rec C H r l0 l1 h ∧ (h.turn = 0 ∨ h.turn = 1) ∧ Q (.ref (sAt l0 l1 h.other)) H
theorem ok_other_store {f : Addr} {fd : FuncData} (F : Fun K "other_store" "Record.other_store" s_other_store f fd) (T : Txt P w K mg C aS aF aG aB aT aP aN) : FnOk P w K mg base CX0 1 f fd ["self"] (sp_other_store C) := by
  refine F.ok sc_other_store (fun vs H Q E h => ?_) (fun cdv A outer s H vs Q E hr h => ?_)
  · obtain ⟨r, l0, l1, h, rfl, _⟩ := h
    rfl
  · obtain ⟨r, l0, l1, h, rfl, R, ht, k⟩ := h
    obtain ⟨dx, t, hI, hT⟩ := R.ins
    refine ⟨_, (pss_one (ps_ret (pe_ix ix_tup (pe_fld (pv 0) rfl) (pe_op op_sub pe_int (pe_fld (pv 0) rfl)) (fun _ _ => rfl)))), ?_⟩
    exact ⟨_, rfl, r, C, dx, _, _, rfl, hI, T.cl, T.n_stores, fl_stores, _, rfl, r, C, dx, _, _, rfl, hI, T.cl, T.n_mover, fl_mover, _, _, rfl, rfl, t, _, _, _, rfl, rfl, SqT.of hT, other_at ht, k⟩
noncomputable def sp_worlds_of (C : Addr) : Sp := fun vs H Q _ => ∃ (r l0 l1 : Addr) (h : House) (s : Nat), vs = [.ref r, .int s] ∧ Rec C H r l0 l1 h ∧ (s = 0 ∨ s = 1) ∧ h.m ≤ 3 ∧ Q (.int (h.holds s : Nat)) H
theorem ok_worlds_of {f : Addr} {fd : FuncData} (F : Fun K "worlds_of" "Record.worlds_of" s_worlds_of f fd) (T : Txt P w K mg C aS aF aG aB aT aP aN) (G_worlds_allowed : FnAt P w K mg base "worlds_allowed" 1 (sp_worlds_allowed K)) : FnOk P w K mg base CX0 2 f fd ["self", "person"] (sp_worlds_of C) := by
  refine F.ok sc_worlds_of (fun vs H Q E h => ?_) (fun cdv A outer s H vs Q E hr h => ?_)
  · obtain ⟨r, l0, l1, h, s, rfl, _⟩ := h
    rfl
  · obtain ⟨r, l0, l1, h, s, rfl, R, hs, hm, k⟩ := h
    obtain ⟨dx, t, hI, hT⟩ := R.ins
    refine ⟨_, (pss_one (ps_ret (pe_fn G_worlds_allowed (hr.mono (by decide)) rfl (pa_cons (pe_fld (pv 0) rfl) (pa_cons (pe_ix ix_tup (pe_fld (pv 0) rfl) (pv 1) (fun _ _ => rfl)) pa_nil))))), ?_⟩
    exact ⟨_, rfl, r, C, dx, _, _, rfl, hI, T.cl, T.n_letters, fl_letters, _, rfl, r, C, dx, _, _, rfl, hI, T.cl, T.n_stores, fl_stores, _, rfl, t, _, _, _, rfl, rfl, SqT.of hT, pair_at hs, h.m, _, h.store s, rfl, hm, SqL.of (R.store _), k⟩
noncomputable def sp_is_bound (C : Addr) : Sp := fun vs H Q _ => ∃ (r l0 l1 : Addr) (h : House) (s p : Nat), vs = [.ref r, .int s, .int p] ∧ Rec C H r l0 l1 h ∧ (s = 0 ∨ s = 1) ∧ h.m ≤ 3 ∧ Q (.bl (h.bound s p)) H
theorem ok_is_bound {f : Addr} {fd : FuncData} (F : Fun K "is_bound" "Record.is_bound" s_is_bound f fd) (T : Txt P w K mg C aS aF aG aB aT aP aN) (G_follows : FnAt P w K mg base "follows" 1 sp_follows) (G_worlds_of : MtAt P w K mg base C "worlds_of" 2 (sp_worlds_of C)) : FnOk P w K mg base CX0 3 f fd ["self", "person", "proposition"] (sp_is_bound C) := by
  refine F.ok sc_is_bound (fun vs H Q E h => ?_) (fun cdv A outer s H vs Q E hr h => ?_)
  · obtain ⟨r, l0, l1, h, s, p, rfl, _⟩ := h
    rfl
  · obtain ⟨r, l0, l1, h, s, p, rfl, R, hs, hm, k⟩ := h
    obtain ⟨dx, t, hI, hT⟩ := R.ins
    refine ⟨_, (pss_one (ps_ret (pe_fn G_follows (hr.mono (by decide)) rfl (pa_cons (pv 2) (pa_cons (pe_mt (pv 0) T.cl G_worlds_of (hr.mono (by decide)) (pa_cons (pv 1) pa_nil)) pa_nil))))), ?_⟩
    exact ⟨_, rfl, _, rfl, r, dx, _, rfl, hI, no_worlds_of, _, rfl, r, l0, l1, h, s, rfl, R, hs, hm, p, _, rfl, k⟩
noncomputable def sp_is_barred (C : Addr) : Sp := fun vs H Q _ => ∃ (r l0 l1 : Addr) (h : House) (s p : Nat), vs = [.ref r, .int s, .int p] ∧ Rec C H r l0 l1 h ∧ (s = 0 ∨ s = 1) ∧ h.m ≤ 3 ∧ Q (.bl (h.barred s p)) H
theorem ok_is_barred {f : Addr} {fd : FuncData} (F : Fun K "is_barred" "Record.is_barred" s_is_barred f fd) (T : Txt P w K mg C aS aF aG aB aT aP aN) (G_excludes : FnAt P w K mg base "excludes" 1 sp_excludes) (G_worlds_of : MtAt P w K mg base C "worlds_of" 2 (sp_worlds_of C)) : FnOk P w K mg base CX0 3 f fd ["self", "person", "proposition"] (sp_is_barred C) := by
  refine F.ok sc_is_barred (fun vs H Q E h => ?_) (fun cdv A outer s H vs Q E hr h => ?_)
  · obtain ⟨r, l0, l1, h, s, p, rfl, _⟩ := h
    rfl
  · obtain ⟨r, l0, l1, h, s, p, rfl, R, hs, hm, k⟩ := h
    obtain ⟨dx, t, hI, hT⟩ := R.ins
    refine ⟨_, (pss_one (ps_ret (pe_fn G_excludes (hr.mono (by decide)) rfl (pa_cons (pv 2) (pa_cons (pe_mt (pv 0) T.cl G_worlds_of (hr.mono (by decide)) (pa_cons (pv 1) pa_nil)) pa_nil))))), ?_⟩
    exact ⟨_, rfl, _, rfl, r, dx, _, rfl, hI, no_worlds_of, _, rfl, r, l0, l1, h, s, rfl, R, hs, hm, p, _, rfl, k⟩
noncomputable def sp_commit (C : Addr) : Sp := fun vs H Q _ => ∃ (r l0 l1 : Addr) (h : House) (p : Nat), vs = [.ref r, .int p] ∧ Rec C H r l0 l1 h ∧ Good h ∧ (h.barred h.turn p = true → Q (.int (-33)) H) ∧ (h.barred h.turn p = false → h.bound h.turn p = true → Q (.int 0) H) ∧
  (h.barred h.turn p = false → h.bound h.turn p = false → 6 ≤ h.mine.length → Q (.int (-28)) H) ∧
  (h.barred h.turn p = false → h.bound h.turn p = false → ¬ 6 ≤ h.mine.length → ∀ H', Rec C H' r l0 l1 (h.put h.turn (h.mine ++ [p])) → Keep [r, l0, l1] H H' → Q (.int 0) H')
theorem ok_commit {f : Addr} {fd : FuncData} (F : Fun K "commit" "Record.commit" s_commit f fd) (T : Txt P w K mg C aS aF aG aB aT aP aN) (G_is_barred : MtAt P w K mg base C "is_barred" 3 (sp_is_barred C)) (G_is_bound : MtAt P w K mg base C "is_bound" 3 (sp_is_bound C))
    (G_own_store : MtAt P w K mg base C "own_store" 1 (sp_own_store C)) : FnOk P w K mg base CX0 4 f fd ["self", "proposition"] (sp_commit C) := by
  refine F.ok sc_commit (fun vs H Q E h => ?_) (fun cdv A outer s H vs Q E hr h => ?_)
  · obtain ⟨r, l0, l1, h, p, rfl, _⟩ := h
    rfl
  · obtain ⟨r, l0, l1, h, p, rfl, R, g, k1, k2, k3, k4⟩ := h
    obtain ⟨dx, t, hI, hT⟩ := R.ins
    refine ⟨_, (pss_cons (ps_if (pt_truth (pe_mt (pv 0) T.cl G_is_barred (hr.mono (by decide)) (pa_cons (pe_fld (pv 0) rfl) (pa_cons (pv 1) pa_nil))) (fun _ => rfl)) (pss_one (ps_ret (pe_gint rfl T.g_CANNOT_BE))) pss_nil)
      (pss_cons (ps_if (pt_truth (pe_mt (pv 0) T.cl G_is_bound (hr.mono (by decide)) (pa_cons (pe_fld (pv 0) rfl) (pa_cons (pv 1) pa_nil))) (fun _ => rfl)) (pss_one (ps_ret pe_int)) pss_nil)
      (pss_cons (ps_if (pt_cmpR op_ge (pe_callB call_len_seq (by rfl) T.b_len PySem.boot_len (pa_cons (pe_mt0 (pv 0) T.cl G_own_store (hr.mono (by decide))) pa_nil)) (pe_gint rfl T.g_MOST_IN_STORE) (nomark _)) (pss_one (ps_ret (pe_gint rfl T.g_TOO_MANY))) pss_nil)
      (pss_cons (ps_expr (pe_bm PySem.F.plainAttrs_list PySem.F.slot_list_append PySem.F.type_list_append mt_append (pe_mt0 (pv 0) T.cl G_own_store (hr.mono (by decide))) (pa_cons (pv 1) pa_nil)))
      (pss_one (ps_ret pe_int)))))), ?_⟩
    refine ⟨_, rfl, r, dx, _, rfl, hI, no_is_barred, _, rfl, r, C, dx, _, _, rfl, hI, T.cl, T.n_mover, fl_mover, _, rfl, r, l0, l1, h, h.turn, p, rfl, R, g.turn, g.m3, _, rfl, iteB (fun hb => k1 hb) (fun hb => ?_)⟩
    refine ⟨_, rfl, r, dx, _, rfl, hI, no_is_bound, _, rfl, r, C, dx, _, _, rfl, hI, T.cl, T.n_mover, fl_mover, _, rfl, r, l0, l1, h, h.turn, p, rfl, R, g.turn, g.m3, _, rfl, iteB (fun hd => k2 hb hd) (fun hd => ?_)⟩
    refine ⟨_, rfl, r, dx, _, rfl, hI, no_own_store, r, l0, l1, h, rfl, R, g.turn, _, _, rfl, .inl (SqL.of (R.store _)), _, _, rfl, rfl, _, rfl, ?_⟩
    have hlen : ((nV (h.store h.turn)).length : Int) = (h.mine.length : Int) := by rw [nV_length]; rfl
    by_cases h6 : 6 ≤ h.mine.length
    · refine iteD (by rw [hlen]; omega) ?_
      exact k3 hb hd h6
    · refine iteDN (by rw [hlen]; omega) ?_
      refine ⟨_, rfl, r, dx, _, rfl, hI, no_own_store, r, l0, l1, h, rfl, R, g.turn, .inl ⟨rfl, _, SqL.of (R.store _)⟩, _, rfl, _, _, _, rfl, rfl, R.store _, ?_, ?_⟩
      · rw [nV_length]
        exact Nat.lt_of_le_of_lt (g.slen _) (by rw [sizeLine_eq]; decide)
      · have e : nV (h.store h.turn) ++ [V.int (p : Int)] = nV (h.mine ++ [p]) := by rw [nV_append]; rfl
        refine k4 hb hd h6 _ ?_ ?_
        · rw [e]
          exact R.put h.turn _
        · exact Keep.upd (sAt_mem h.turn)
noncomputable def sp_finish (C : Addr) : Sp := fun vs H Q _ => ∃ (r l0 l1 : Addr) (h : House) (o : Krl7.Open), vs = [.ref r, .int (o.kind : Nat), .int (o.what : Nat)] ∧ Rec C H r l0 l1 h ∧ (h.turn = 0 ∨ h.turn = 1) ∧
  ∀ H', Rec C H' r l0 l1 { h with turn := h.other, open_ := o, moves := h.moves + 1 } → Keep [r, l0, l1] H H' → Q (.int (h.mine.length : Nat)) H'
theorem ok_finish {f : Addr} {fd : FuncData} (F : Fun K "finish" "Record.finish" s_finish f fd) (T : Txt P w K mg C aS aF aG aB aT aP aN) (G_own_store : MtAt P w K mg base C "own_store" 1 (sp_own_store C)) : FnOk P w K mg base CX0 2 f fd ["self", "matter", "topic"] (sp_finish C) := by
  refine F.ok sc_finish (fun vs H Q E h => ?_) (fun cdv A outer s H vs Q E hr h => ?_)
  · obtain ⟨r, l0, l1, h, p, rfl, _⟩ := h
    rfl
  · obtain ⟨r, l0, l1, h, o, rfl, R, ht, k⟩ := h
    obtain ⟨dx, t, hI, hT⟩ := R.ins
    refine ⟨_, (pss_cons (ps_set (i := 3) sc_finish.nd rfl (Or.inl rfl) (pe_callB call_len_seq (by rfl) T.b_len PySem.boot_len (pa_cons (pe_mt0 (pv 0) T.cl G_own_store (hr.mono (by decide))) pa_nil)))
      (pss_cons (ps_fld (pv 0) (pv 1) rfl)
      (pss_cons (ps_fld (pv 0) (pv 2) rfl)
      (pss_cons (ps_fld (pv 0) (pe_op op_sub pe_int (pe_fld (pv 0) rfl)) rfl)
      (pss_cons (ps_fld (pv 0) (pe_op op_add (pe_fld (pv 0) rfl) pe_int) rfl)
      (pss_one (ps_ret (pv 3)))))))), ?_⟩
    refine ⟨_, rfl, r, dx, _, rfl, hI, no_own_store, r, l0, l1, h, rfl, R, ht, _, _, rfl, .inl (SqL.of (R.store _)), ?_⟩
    refine ⟨_, rfl, _, rfl, r, C, dx, _, rfl, hI, T.cl, T.n_matter, fl_len, ?_⟩
    rw [put_matter]
    refine ⟨_, rfl, _, rfl, r, C, dx, _, rfl, upd_same, T.cl, T.n_topic, fl_len, ?_⟩
    rw [put_topic, upd_upd]
    refine ⟨_, rfl, r, C, dx, _, _, rfl, upd_same, T.cl, T.n_mover, fl_mover, _, _, rfl, rfl, _, rfl, r, C, dx, _, rfl, upd_same, T.cl, T.n_mover, fl_len, ?_⟩
    rw [put_mover, upd_upd]
    refine ⟨_, rfl, r, C, dx, _, _, rfl, upd_same, T.cl, T.n_moves_made, fl_moves, _, _, rfl, rfl, _, rfl, r, C, dx, _, rfl, upd_same, T.cl, T.n_moves_made, fl_len, ?_⟩
    rw [put_moves, upd_upd]
    refine ⟨_, rfl, ?_⟩
    have e1 : (1 : Int) - (h.turn : Int) = ((h.other : Nat) : Int) := by unfold House.other; omega
    have R' := R.set (h' := { h with turn := h.other, open_ := o, moves := h.moves + 1 }) hI hT rfl rfl
    have q := k _ R' (Keep.upd (by simp))
    show Q (V.int ((nV (h.store h.turn)).length : Int)) (upd H r (.ins C dx (fl (h.m : Int) t (1 - (h.turn : Int)) (o.kind : Nat) (o.what : Nat) ((h.moves : Int) + 1))))
    rw [e1, nV_length]
    exact q
end
end Two
end
section
set_option Elab.async false
set_option linter.all false
set_option maxRecDepth 100000
set_option maxHeartbeats 2000000
namespace Two
open PySem PySem.Spec PyProof.Rows L2
open Krl7 (House Abs)
open Krb7 (full both not_ within count)
theorem iteNT {c A B : Prop} [Decidable c] (hc : ¬ c) (h : A) : if (!decide c) = true then A else B := by
  rw [decide_eq_false hc]
  exact iteT h
theorem put_turn (h : House) (s : Nat) (l : List Nat) : (h.put s l).turn = h.turn := by unfold House.put; split <;> rfl
theorem put_moves' (h : House) (s : Nat) (l : List Nat) : (h.put s l).moves = h.moves := by unfold House.put; split <;> rfl
theorem put_store (h : House) (s : Nat) (l : List Nat) : (h.put s l).store s = l := by
  unfold House.put House.store
  by_cases e : s = 0
  · rw [if_pos e, if_pos e]
  · rw [if_neg e, if_neg e]
theorem put_mine (h : House) (l : List Nat) : (h.put h.turn l).mine = l := by
  unfold House.mine
  rw [put_turn]
  exact put_store h h.turn l
theorem put_self (h : House) : h.put h.turn h.mine = h := by
  unfold House.put House.mine House.store
  by_cases e : h.turn = 0
  · rw [if_pos e, if_pos e]
  · rw [if_neg e, if_neg e]
theorem made_eq (h : House) (l : List Nat) (o : Krl7.Open) : ({ h.put h.turn l with turn := (h.put h.turn l).other, open_ := o, moves := (h.put h.turn l).moves + 1 } : House) = h.made l o := by
  unfold House.made House.other
  rw [put_turn, put_moves']
theorem made_self (h : House) (o : Krl7.Open) : ({ h with turn := h.other, open_ := o, moves := h.moves + 1 } : House) = h.made h.mine o := by
  have e := made_eq h h.mine o
  rw [put_self] at e
  exact e
section
variable {P : Program} {w : World} {K : PySem.W.Frag} {mg : Str → Option Value} {base : Heap} {C aS aF aG aB aT aP aN : Addr}
noncomputable def After (C : Addr) (H : Hp) (Q : VK) (r l0 l1 : Addr) (h : House) (y : Abs × Krl7.Ans) : Prop := ∀ H', Rec C H' r l0 l1 (y.1.getD h) → Keep [r, l0, l1] H H' → Q (.int y.2.num) H'
noncomputable def sp_caf (C : Addr) : Sp := fun vs H Q _ => ∃ (r l0 l1 : Addr) (h : House) (p : Nat) (o : Krl7.Open), vs = [.ref r, .int p, .int (o.kind : Nat), .int (o.what : Nat)] ∧ Rec C H r l0 l1 h ∧ Good h ∧ After C H Q r l0 l1 h (h.commit p o)
theorem ok_commit_and_finish {f : Addr} {fd : FuncData} (F : Fun K "commit_and_finish" "Record.commit_and_finish" s_commit_and_finish f fd) (T : Txt P w K mg C aS aF aG aB aT aP aN) (G_commit : MtAt P w K mg base C "commit" 4 (sp_commit C)) (G_finish : MtAt P w K mg base C "finish" 2 (sp_finish C)) :
    FnOk P w K mg base CX0 5 f fd ["self", "proposition", "matter", "topic"] (sp_caf C) := by
  refine F.ok sc_commit_and_finish (fun vs H Q E h => ?_) (fun cdv A outer s H vs Q E hr h => ?_)
  · obtain ⟨r, l0, l1, h, p, o, rfl, _⟩ := h
    rfl
  · obtain ⟨r, l0, l1, h, p, o, rfl, R, g, k⟩ := h
    obtain ⟨dx, t, hI, hT⟩ := R.ins
    refine ⟨_, (pss_cons (ps_set (i := 4) sc_commit_and_finish.nd rfl (Or.inl rfl) (pe_mt (pv 0) T.cl G_commit (hr.mono (by decide)) (pa_cons (pv 1) pa_nil)))
      (pss_cons (ps_if (pt_cmpR op_lt (pv 4) pe_int (nomark _)) (pss_one (ps_ret (pv 4))) pss_nil)
      (pss_one (ps_ret (pe_mt (pv 0) T.cl G_finish (hr.mono (by decide)) (pa_cons (pv 2) (pa_cons (pv 3) pa_nil))))))), ?_⟩
    refine ⟨_, rfl, r, dx, _, rfl, hI, no_commit, _, rfl, r, l0, l1, h, p, rfl, R, g, fun hb => ?_, fun hb hd => ?_, fun hb hd h6 => ?_, fun hb hd h6 H1 R1 kp1 => ?_⟩
    · have e : h.commit p o = (some h, Krl7.say (-33)) := by unfold House.commit; rw [if_pos hb]
      rw [e] at k
      exact ⟨_, rfl, _, _, rfl, rfl, _, rfl, iteD (by decide) ⟨_, rfl, k H R (Keep.refl _ _)⟩⟩
    · have e : h.commit p o = (some (h.made h.mine o), Krl7.say h.mine.length) := by unfold House.commit; rw [if_neg (by rw [hb]; decide), if_pos hd]
      rw [e] at k
      refine ⟨_, rfl, _, _, rfl, rfl, _, rfl, iteDN (by decide) ⟨_, rfl, r, dx, _, rfl, hI, no_finish, _, rfl, _, rfl, r, l0, l1, h, o, rfl, R, g.turn, fun H2 R2 kp2 => ?_⟩⟩
      rw [made_self] at R2
      exact k H2 R2 kp2
    · have e : h.commit p o = (some h, Krl7.say (-28)) := by unfold House.commit; rw [if_neg (by rw [hb]; decide), if_neg (by rw [hd]; decide), if_pos (show Krl7.mostStore ≤ _ from h6)]
      rw [e] at k
      exact ⟨_, rfl, _, _, rfl, rfl, _, rfl, iteD (by decide) ⟨_, rfl, k H R (Keep.refl _ _)⟩⟩
    · have e : h.commit p o = (some (h.made (h.mine ++ [p]) o), Krl7.say (h.mine.length + 1 : Nat)) := by unfold House.commit; rw [if_neg (by rw [hb]; decide), if_neg (by rw [hd]; decide), if_neg (show ¬ Krl7.mostStore ≤ _ from h6)]
      rw [e] at k
      obtain ⟨dx1, t1, hI1, hT1⟩ := R1.ins
      refine ⟨_, rfl, _, _, rfl, rfl, _, rfl, iteDN (by decide) ⟨_, rfl, r, dx1, _, rfl, hI1, no_finish, _, rfl, _, rfl, r, l0, l1, _, o, rfl, R1, by rw [put_turn]; exact g.turn, fun H2 R2 kp2 => ?_⟩⟩
      rw [made_eq] at R2
      rw [put_mine, List.length_append]
      exact k H2 R2 (kp1.trans kp2)
noncomputable def h0 (m : Nat) : House := ⟨m, [], [], 0, .nothing, 0⟩
noncomputable def sp_restart (C : Addr) : Sp := fun vs H Q _ => ∃ (r dx : Addr) (m : Nat) (fs : List (Str × V)), vs = [.ref r, .int m] ∧ H r = some (.ins C dx fs) ∧ (fs = [] ∨ ∃ a t b c d e, fs = fl a t b c d e) ∧
  ∀ H' l0 l1, Rec C H' r l0 l1 (h0 m) → H l0 = none → H l1 = none → Keep [r] H H' → Q .non H'
theorem put6 {fs : List (Str × V)} {a b c d e : Int} {t : Addr} (h : fs = [] ∨ ∃ a t b c d e, fs = fl a t b c d e) :
    putF "moves_made" (.int e) (putF "topic" (.int d) (putF "matter" (.int c) (putF "mover" (.int b) (putF "stores" (.ref t) (putF "letters" (.int a) fs))))) = fl a t b c d e := by
  rcases h with rfl | ⟨a', t', b', c', d', e', rfl⟩
  · exact put_new
  · rw [put_letters, put_stores, put_mover, put_matter, put_topic, put_moves]
theorem len_put {f : Str} {v : V} {fs : List (Str × V)} {n : Nat} (h : fs.length ≤ n) : (putF f v fs).length ≤ n + 1 := Nat.le_trans (length_putF f v fs) (Nat.succ_le_succ h)
theorem lt1000 {fs : List (Str × V)} {n : Nat} (h : fs.length ≤ n) (h2 : n < 1000 := by decide) : fs.length < 1000 := Nat.lt_of_le_of_lt h h2
theorem ok_restart {f : Addr} {fd : FuncData} (F : Fun K "restart" "Record.restart" s_restart f fd) (T : Txt P w K mg C aS aF aG aB aT aP aN) : FnOk P w K mg base CX0 1 f fd ["self", "letters"] (sp_restart C) := by
  refine F.ok sc_restart (fun vs H Q E h => ?_) (fun cdv A outer s H vs Q E hr h => ?_)
  · obtain ⟨r, dx, m, fs, rfl, _⟩ := h
    rfl
  · obtain ⟨r, dx, m, fs, rfl, hI, hfs, k⟩ := h
    have hn : fs.length ≤ 6 := by
      rcases hfs with rfl | ⟨a, t, b, c, d, e, rfl⟩
      · exact Nat.zero_le _
      · exact Nat.le_refl _
    refine ⟨_, (pss_cons (ps_fld (pv 0) (pv 1) rfl)
      (pss_cons (ps_fld (pv 0) (pe_tup (pa_cons (pe_lst pa_nil) (pa_cons (pe_lst pa_nil) pa_nil))) rfl)
      (pss_cons (ps_fld (pv 0) pe_int rfl)
      (pss_cons (ps_fld (pv 0) (pe_gint rfl T.g_NOTHING) rfl)
      (pss_cons (ps_fld (pv 0) pe_int rfl)
      (pss_one (ps_fld (pv 0) pe_int rfl))))))), ?_⟩
    refine ⟨_, rfl, _, rfl, r, C, dx, _, rfl, hI, T.cl, T.n_letters, lt1000 hn, ?_⟩
    refine ⟨Nat.zero_le _, fun l0 n0 => ⟨Nat.zero_le _, fun l1 n1 => ⟨by show 2 ≤ sizeLine; rw [sizeLine_eq]; decide, fun t nt => ?_⟩⟩⟩
    have r0 : r ≠ l0 := ne_of_none upd_same n0
    have r1 : r ≠ l1 := ne_of_none (by rw [upd_ne r0]; exact upd_same) n1
    have rt : r ≠ t := ne_of_none (by rw [upd_ne r1, upd_ne r0]; exact upd_same) nt
    have l01 : l0 ≠ l1 := ne_of_none upd_same n1
    have l0t : l0 ≠ t := ne_of_none (by rw [upd_ne l01]; exact upd_same) nt
    have l1t : l1 ≠ t := ne_of_none upd_same nt
    refine ⟨_, rfl, r, C, dx, _, rfl, by rw [upd_ne rt, upd_ne r1, upd_ne r0]; exact upd_same, T.cl, T.n_stores, lt1000 (len_put hn), ?_⟩
    refine ⟨_, rfl, r, C, dx, _, rfl, upd_same, T.cl, T.n_mover, lt1000 (len_put (len_put hn)), ?_⟩
    rw [upd_upd]
    refine ⟨_, rfl, r, C, dx, _, rfl, upd_same, T.cl, T.n_matter, lt1000 (len_put (len_put (len_put hn))), ?_⟩
    rw [upd_upd]
    refine ⟨_, rfl, r, C, dx, _, rfl, upd_same, T.cl, T.n_topic, lt1000 (len_put (len_put (len_put (len_put hn)))), ?_⟩
    rw [upd_upd]
    refine ⟨_, rfl, r, C, dx, _, rfl, upd_same, T.cl, T.n_moves_made, lt1000 (len_put (len_put (len_put (len_put (len_put hn))))), ?_⟩
    rw [upd_upd, put6 hfs]
    have f0 : H l0 = none := by rw [upd_ne r0.symm] at n0; exact n0
    have f1 : H l1 = none := by rw [upd_ne l01.symm, upd_ne r1.symm] at n1; exact n1
    refine k _ l0 l1 ⟨⟨dx, t, upd_same, by rw [upd_ne rt.symm]; exact upd_same⟩, ?_, ?_, l01⟩ f0 f1 ?_
    · rw [upd_ne r0.symm, upd_ne l0t, upd_ne l01, upd_same]
      rfl
    · rw [upd_ne r1.symm, upd_ne l1t, upd_same]
      rfl
    · intro b o hb hn
      have hbr : b ≠ r := fun q => hn (by rw [q]; simp)
      have ht : H t = none := by rw [upd_ne l1t.symm, upd_ne l0t.symm, upd_ne rt.symm] at nt; exact nt
      rw [upd_ne hbr, upd_ne (ne_of_none hb ht), upd_ne (ne_of_none hb f1), upd_ne (ne_of_none hb f0), upd_ne hbr]
      exact hb
noncomputable def sp_init (C : Addr) : Sp := fun vs H Q _ => ∃ (r dx : Addr), vs = [.ref r] ∧ H r = some (.ins C dx []) ∧ ∀ H' l0 l1, Rec C H' r l0 l1 (h0 0) → H l0 = none → H l1 = none → Keep [r] H H' → Q .non H'
theorem no_attr {m : Str} : ([] : List (Str × V)).lookup m = none := rfl
theorem ok_init {f : Addr} {fd : FuncData} (F : Fun K "__init__" "Record.__init__" s_init f fd) (T : Txt P w K mg C aS aF aG aB aT aP aN) (G_restart : MtAt P w K mg base C "restart" 1 (sp_restart C)) : FnOk P w K mg base CX0 2 f fd ["self"] (sp_init C) := by
  refine F.ok sc_init (fun vs H Q E h => ?_) (fun cdv A outer s H vs Q E hr h => ?_)
  · obtain ⟨r, dx, rfl, _⟩ := h
    rfl
  · obtain ⟨r, dx, rfl, hI, k⟩ := h
    refine ⟨_, (pss_one (ps_expr (pe_mt (pv 0) T.cl G_restart (hr.mono (by decide)) (pa_cons pe_int pa_nil)))), ?_⟩
    exact ⟨_, rfl, r, dx, _, rfl, hI, no_attr, r, dx, 0, _, rfl, hI, Or.inl rfl, fun H' l0 l1 R n0 n1 kp => k H' l0 l1 R n0 n1 kp⟩
noncomputable def sp_begin (C : Addr) : Sp := fun vs H Q _ => ∃ (r l0 l1 : Addr) (h : House) (m : Nat), vs = [.ref r, .int m] ∧ Rec C H r l0 l1 h ∧ ((m = 0 ∨ 3 < m) → Q (.int (-22)) H) ∧
  (¬ (m = 0 ∨ 3 < m) → ∀ H' l0' l1', Rec C H' r l0' l1' (h0 m) → H l0' = none → H l1' = none → Keep [r] H H' → Q (.int 0) H')
theorem ok_begin {f : Addr} {fd : FuncData} (F : Fun K "begin" "Record.begin" s_begin f fd) (T : Txt P w K mg C aS aF aG aB aT aP aN) (G_restart : MtAt P w K mg base C "restart" 1 (sp_restart C)) : FnOk P w K mg base CX0 2 f fd ["self", "letters"] (sp_begin C) := by
  refine F.ok sc_begin (fun vs H Q E h => ?_) (fun cdv A outer s H vs Q E hr h => ?_)
  · obtain ⟨r, l0, l1, h, m, rfl, _⟩ := h
    rfl
  · obtain ⟨r, l0, l1, h, m, rfl, R, k1, k2⟩ := h
    obtain ⟨dx, t, hI, hT⟩ := R.ins
    refine ⟨_, (pss_cons (ps_if (pt_not (pt_chain op_le op_le pe_int (pv 1) (pe_gint rfl T.g_MOST_LETTERS))) (pss_one (ps_ret (pe_gint rfl T.g_NOT_RIGHT))) pss_nil)
      (pss_cons (ps_expr (pe_mt (pv 0) T.cl G_restart (hr.mono (by decide)) (pa_cons (pv 1) pa_nil)))
      (pss_one (ps_ret pe_int)))), ?_⟩
    refine ⟨_, rfl, _, _, rfl, rfl, _, rfl, ?_⟩
    by_cases hm : m = 0
    · refine iteDN (by omega) ⟨_, rfl, iteT (k1 (Or.inl hm))⟩
    · refine iteD (by omega) ⟨_, _, rfl, rfl, _, rfl, ?_⟩
      by_cases h3 : 3 < m
      · exact iteNT (c := (m : Int) ≤ 3) (by omega) (k1 (Or.inr h3))
      · refine iteNS (c := (m : Int) ≤ 3) (by omega) ⟨_, rfl, r, dx, _, rfl, hI, no_restart, _, rfl, r, dx, m, _, rfl, hI, Or.inr ⟨_, _, _, _, _, _, rfl⟩, fun H' l0' l1' R' n0 n1 kp => ?_⟩
        exact k2 (by omega) H' l0' l1' R' n0 n1 kp
noncomputable def sp_has_begun (C : Addr) : Sp := fun vs H Q _ => ∃ (r l0 l1 : Addr) (h : House), vs = [.ref r] ∧ Rec C H r l0 l1 h ∧ Q (.bl (decide (0 < h.m))) H
theorem ok_has_begun {f : Addr} {fd : FuncData} (F : Fun K "has_begun" "Record.has_begun" s_has_begun f fd) (T : Txt P w K mg C aS aF aG aB aT aP aN) : FnOk P w K mg base CX0 1 f fd ["self"] (sp_has_begun C) := by
  refine F.ok sc_has_begun (fun vs H Q E h => ?_) (fun cdv A outer s H vs Q E hr h => ?_)
  · obtain ⟨r, l0, l1, h, rfl, _⟩ := h
    rfl
  · obtain ⟨r, l0, l1, h, rfl, R, k⟩ := h
    obtain ⟨dx, t, hI, hT⟩ := R.ins
    refine ⟨_, (pss_one (ps_ret (pe_cmpR op_gt (pe_fld (pv 0) rfl) pe_int (nomark _)))), ?_⟩
    refine ⟨_, rfl, r, C, dx, _, _, rfl, hI, T.cl, T.n_letters, fl_letters, _, _, rfl, rfl, ?_⟩
    have e : decide ((0 : Int) < (h.m : Int)) = decide (0 < h.m) := by simp
    show Q (.bl (decide ((0 : Int) < (h.m : Int)))) H
    rw [e]
    exact k
end
end Two
end
section
set_option Elab.async false
set_option linter.all false
set_option maxRecDepth 100000
set_option maxHeartbeats 2000000
namespace Two
open PySem PySem.Spec PyProof.Rows L2
open Krl7 (House Abs)
open Krb7 (full both not_ within count)
theorem inV_nV (p : Nat) (l : List Nat) : inV (.int (p : Int)) (nV l) = l.contains p := by
  unfold inV nV
  rw [List.any_map, List.contains_eq_any_beq]
  congr 1
  funext n
  show (eqV (V.int (n : Int)) (V.int (p : Int))) = (p == n)
  show ((n : Int) == (p : Int)) = (p == n)
  rw [Bool.eq_iff_iff, beq_iff_eq, beq_iff_eq]
  omega
theorem flat_nV (l : List Nat) : (nV l).all flatV = true := by
  unfold nV
  rw [List.all_map, List.all_eq_true]
  intro n _
  rfl
theorem dec_nat (a b : Nat) : decide (V.int (a : Int) = V.int (b : Int)) = decide (a = b) := by
  rw [dec_int, Bool.eq_iff_iff, beq_iff_eq, decide_eq_true_iff]
  omega
section
variable {P : Program} {w : World} {K : PySem.W.Frag} {mg : Str → Option Value} {base : Heap} {C aS aF aG aB aT aP aN : Addr}
noncomputable def sp_given (C : Addr) (Pre : House → Prop) (c : Nat → Krl7.Call) : Sp := fun vs H Q _ => ∃ (r l0 l1 : Addr) (h : House) (p : Nat), vs = [.ref r, .int p] ∧ Rec C H r l0 l1 h ∧ Good h ∧ Pre h ∧ p ≤ full h.m ∧ After C H Q r l0 l1 h (Krl7.move h (c p))
theorem ok_say {f : Addr} {fd : FuncData} (F : Fun K "say" "say" s_say f fd) (T : Txt P w K mg C aS aF aG aB aT aP aN) (G_is_bound : MtAt P w K mg base C "is_bound" 3 (sp_is_bound C)) (G_commit_and_finish : MtAt P w K mg base C "commit_and_finish" 5 (sp_caf C)) :
    FnOk P w K mg base CX0 6 f fd ["record", "given"] (sp_given C (fun h => h.open_ = .nothing) .say_) := by
  refine F.ok sc_say (fun vs H Q E h => ?_) (fun cdv A outer s H vs Q E hr h => ?_)
  · obtain ⟨r, l0, l1, h, p, rfl, _⟩ := h
    rfl
  · obtain ⟨r, l0, l1, h, p, rfl, R, g, ho, hp, k⟩ := h
    obtain ⟨dx, t, hI, hT⟩ := R.ins
    rw [move_say ho hp] at k
    refine ⟨_, (pss_cons (ps_if (pt_truth (pe_mt (pv 0) T.cl G_is_bound (hr.mono (by decide)) (pa_cons (pe_fld (pv 0) rfl) (pa_cons (pv 1) pa_nil))) (fun _ => rfl)) (pss_one (ps_ret (pe_gint rfl T.g_SO_ALREADY))) pss_nil)
      (pss_one (ps_ret (pe_mt (pv 0) T.cl G_commit_and_finish (hr.mono (by decide)) (pa_cons (pv 1) (pa_cons (pe_gint rfl T.g_SAID) (pa_cons (pv 1) pa_nil))))))), ?_⟩
    refine ⟨_, rfl, r, dx, _, rfl, hI, no_is_bound, _, rfl, r, C, dx, _, _, rfl, hI, T.cl, T.n_mover, fl_mover, _, rfl, r, l0, l1, h, h.turn, p, rfl, R, g.turn, g.m3, _, rfl, iteB (fun hd => ?_) (fun hd => ?_)⟩
    · rw [if_pos hd] at k
      exact k H R (Keep.refl _ _)
    · rw [if_neg (by rw [hd]; decide)] at k
      exact ⟨_, rfl, r, dx, _, rfl, hI, no_commit_and_finish, _, rfl, _, rfl, r, l0, l1, h, p, .said p, rfl, R, g, k⟩
theorem ok_ask {f : Addr} {fd : FuncData} (F : Fun K "ask" "ask" s_ask f fd) (T : Txt P w K mg C aS aF aG aB aT aP aN) (G_finish : MtAt P w K mg base C "finish" 2 (sp_finish C)) :
    FnOk P w K mg base CX0 6 f fd ["record", "given"] (sp_given C (fun h => h.open_ = .nothing) .ask) := by
  refine F.ok sc_ask (fun vs H Q E h => ?_) (fun cdv A outer s H vs Q E hr h => ?_)
  · obtain ⟨r, l0, l1, h, p, rfl, _⟩ := h
    rfl
  · obtain ⟨r, l0, l1, h, p, rfl, R, g, ho, hp, k⟩ := h
    obtain ⟨dx, t, hI, hT⟩ := R.ins
    rw [move_ask ho hp, ← made_self] at k
    refine ⟨_, (pss_one (ps_ret (pe_mt (pv 0) T.cl G_finish (hr.mono (by decide)) (pa_cons (pe_gint rfl T.g_ASKED) (pa_cons (pv 1) pa_nil))))), ?_⟩
    exact ⟨_, rfl, r, dx, _, rfl, hI, no_finish, _, rfl, r, l0, l1, h, .asked p, rfl, R, g.turn, k⟩
theorem ok_why {f : Addr} {fd : FuncData} (F : Fun K "why" "why" s_why f fd) (T : Txt P w K mg C aS aF aG aB aT aP aN) (G_other_store : MtAt P w K mg base C "other_store" 1 (sp_other_store C)) (G_finish : MtAt P w K mg base C "finish" 2 (sp_finish C)) :
    FnOk P w K mg base CX0 6 f fd ["record", "given"] (sp_given C (fun h => h.open_ = .nothing ∨ ∃ q, h.open_ = .said q) .why) := by
  refine F.ok sc_why (fun vs H Q E h => ?_) (fun cdv A outer s H vs Q E hr h => ?_)
  · obtain ⟨r, l0, l1, h, p, rfl, _⟩ := h
    rfl
  · obtain ⟨r, l0, l1, h, p, rfl, R, g, ho, hp, k⟩ := h
    obtain ⟨dx, t, hI, hT⟩ := R.ins
    refine ⟨_, (pss_cons (ps_if (PW.pt (pw_and (pt_cmpR op_eq (pe_fld (pv 0) rfl) (pe_gint rfl T.g_SAID) (nomark _)) (pw_and1 (pt_cmpR op_ne (pv 1) (pe_fld (pv 0) rfl) (nomark _))))) (pss_one (ps_ret (pe_gint rfl T.g_NOT_OPEN))) pss_nil)
      (pss_cons (ps_if (pt_cmpR op_notIn_seq (pv 1) (pe_mt0 (pv 0) T.cl G_other_store (hr.mono (by decide))) (by with_unfolding_all rfl)) (pss_one (ps_ret (pe_gint rfl T.g_NOT_IN_STORE))) pss_nil)
      (pss_one (ps_ret (pe_mt (pv 0) T.cl G_finish (hr.mono (by decide)) (pa_cons (pe_gint rfl T.g_WHY_SO) (pa_cons (pv 1) pa_nil))))))), ?_⟩
    refine ⟨_, rfl, r, C, dx, _, _, rfl, hI, T.cl, T.n_matter, fl_matter, rfl, _, rfl, ?_⟩
    have rest : (After C H Q r l0 l1 h (if (h.store h.other).contains p = false then (some h, Krl7.say (-6)) else (some (h.made h.mine (.why p)), Krl7.say h.mine.length))) →
        tSeq (tIfS (tTest (tOp (rIn K true) (tVar 1) (tMt C "other_store" (sp_other_store C) (tVar 0) tNil))) (tRet (tC (.int (-6)))) tNext) (tRet (tMt C "finish" (sp_finish C) (tVar 0) (tCons (tC (.int 3)) (tCons (tVar 1) tNil)))) { nx := fun _ H' => Q .non H', rt := Q } (L2.start ["record", "given"] [V.ref r, V.int p]) H := by
      intro k
      refine ⟨_, rfl, _, rfl, r, dx, _, rfl, hI, no_other_store, r, l0, l1, h, rfl, R, g.turn, _, _, rfl, .inl (SqL.of (R.store _)), rfl, flat_nV _, _, rfl, ?_⟩
      show if (if true = true then !inV (V.int (p : Int)) (nV (h.store h.other)) else inV (V.int (p : Int)) (nV (h.store h.other))) = true then _ else _
      rw [if_pos rfl, inV_nV]
      cases hc : (h.store h.other).contains p with
      | false =>
        rw [hc, if_pos rfl] at k
        exact iteT (k H R (Keep.refl _ _))
      | true =>
        rw [hc, if_neg (by decide), ← made_self] at k
        exact iteF ⟨_, rfl, r, dx, _, rfl, hI, no_finish, _, rfl, r, l0, l1, h, .why p, rfl, R, g.turn, k⟩
    rcases ho with ho | ⟨q, ho⟩
    · rw [move_why ho hp] at k
      have e : decide (V.int ((h.open_.kind : Nat) : Int) = V.int 1) = false := by rw [ho]; rfl
      rw [e]
      exact iteF (iteF (rest k))
    · rw [move_why_said ho hp] at k
      have e : decide (V.int ((h.open_.kind : Nat) : Int) = V.int 1) = true := by rw [ho]; rfl
      rw [e]
      refine iteT ⟨_, rfl, _, rfl, r, C, dx, _, _, rfl, hI, T.cl, T.n_topic, fl_topic, rfl, _, rfl, ?_⟩
      have e2 : (!decide (V.int (p : Int) = V.int ((h.open_.what : Nat) : Int))) = !decide (p = q) := by rw [dec_nat, ho]; rfl
      rw [e2]
      by_cases hq : p = q
      · rw [if_neg (fun z => z hq)] at k
        exact iteNS hq (rest k)
      · rw [if_pos hq] at k
        exact iteNT hq (k H R (Keep.refl _ _))
end
end Two
end
section
set_option Elab.async false
set_option linter.all false
set_option maxRecDepth 100000
set_option maxHeartbeats 2000000
namespace Two
open PySem PySem.Spec PyProof.Rows L2
open Krl7 (House Abs)
open Krb7 (full both not_ within count)
theorem erase_cast (p : Nat) : ∀ l : List Nat, (l.map fun (n : Nat) => (n : Int)).erase (p : Int) = (l.erase p).map fun (n : Nat) => (n : Int)
  | [] => rfl
  | n :: l => by
    rw [List.map_cons, List.erase_cons, List.erase_cons]
    by_cases e : n = p
    · subst e
      rw [if_pos (by simp), if_pos (by simp)]
    · rw [if_neg (by simp; omega), if_neg (by simpa using e), List.map_cons, erase_cast p l]
theorem mem_cast {p : Nat} {l : List Nat} (h : p ∈ l) : (p : Int) ∈ l.map fun (n : Nat) => (n : Int) := List.mem_map.mpr ⟨p, h, rfl⟩
section
variable {P : Program} {w : World} {K : PySem.W.Frag} {mg : Str → Option Value} {base : Heap} {C aS aF aG aB aT aP aN : Addr}
theorem ok_drop {f : Addr} {fd : FuncData} (F : Fun K "drop" "drop" s_drop f fd) (T : Txt P w K mg C aS aF aG aB aT aP aN) (G_own_store : MtAt P w K mg base C "own_store" 1 (sp_own_store C)) (G_finish : MtAt P w K mg base C "finish" 2 (sp_finish C)) :
    FnOk P w K mg base CX0 6 f fd ["record", "given"] (sp_given C (fun h => h.open_ = .nothing ∨ ∃ q, h.open_ = .why q) .drop) := by
  refine F.ok sc_drop (fun vs H Q E h => ?_) (fun cdv A outer s H vs Q E hr h => ?_)
  · obtain ⟨r, l0, l1, h, p, rfl, _⟩ := h
    rfl
  · obtain ⟨r, l0, l1, h, p, rfl, R, g, ho, hp, k⟩ := h
    obtain ⟨dx, t, hI, hT⟩ := R.ins
    refine ⟨_, (pss_cons (ps_if (PW.pt (pw_and (pt_cmpR op_eq (pe_fld (pv 0) rfl) (pe_gint rfl T.g_WHY_SO) (nomark _)) (pw_and1 (pt_cmpR op_ne (pv 1) (pe_fld (pv 0) rfl) (nomark _))))) (pss_one (ps_ret (pe_gint rfl T.g_NOT_OPEN))) pss_nil)
      (pss_cons (ps_if (pt_cmpR op_notIn_seq (pv 1) (pe_mt0 (pv 0) T.cl G_own_store (hr.mono (by decide))) (by with_unfolding_all rfl)) (pss_one (ps_ret (pe_gint rfl T.g_NOT_IN_STORE))) pss_nil)
      (pss_cons (ps_expr (pe_bm PySem.F.plainAttrs_list PySem.F.slot_list_remove PySem.F.type_list_remove mt_remove (pe_mt0 (pv 0) T.cl G_own_store (hr.mono (by decide))) (pa_cons (pv 1) pa_nil)))
      (pss_one (ps_ret (pe_mt (pv 0) T.cl G_finish (hr.mono (by decide)) (pa_cons (pe_gint rfl T.g_NOTHING) (pa_cons pe_int pa_nil)))))))), ?_⟩
    refine ⟨_, rfl, r, C, dx, _, _, rfl, hI, T.cl, T.n_matter, fl_matter, rfl, _, rfl, ?_⟩
    have rest : (After C H Q r l0 l1 h (if h.mine.contains p = false then (some h, Krl7.say (-6)) else (some (h.made (h.mine.erase p) .nothing), Krl7.say (h.mine.erase p).length))) →
        tSeq (tIfS (tTest (tOp (rIn K true) (tVar 1) (tMt C "own_store" (sp_own_store C) (tVar 0) tNil))) (tRet (tC (.int (-6)))) tNext)
          (tSeq (tDrop (tBM K "list" rRemove (tMt C "own_store" (sp_own_store C) (tVar 0) tNil) (tCons (tVar 1) tNil))) (tRet (tMt C "finish" (sp_finish C) (tVar 0) (tCons (tC (.int 0)) (tCons (tC (.int 0)) tNil))))) { nx := fun _ H' => Q .non H', rt := Q } (L2.start ["record", "given"] [V.ref r, V.int p]) H := by
      intro k
      refine ⟨_, rfl, _, rfl, r, dx, _, rfl, hI, no_own_store, r, l0, l1, h, rfl, R, g.turn, _, _, rfl, .inl (SqL.of (R.store _)), rfl, flat_nV _, _, rfl, ?_⟩
      show if (if true = true then !inV (V.int (p : Int)) (nV (h.store h.turn)) else inV (V.int (p : Int)) (nV (h.store h.turn))) = true then _ else _
      rw [if_pos rfl, inV_nV]
      cases hc : (h.store h.turn).contains p with
      | false =>
        have hc' : h.mine.contains p = false := hc
        rw [hc', if_pos rfl] at k
        exact iteT (k H R (Keep.refl _ _))
      | true =>
        have hc' : h.mine.contains p = true := hc
        rw [hc', if_neg (by decide)] at k
        have hmem : p ∈ h.mine := by simpa using hc'
        refine iteF ⟨_, rfl, r, dx, _, rfl, hI, no_own_store, r, l0, l1, h, rfl, R, g.turn, .inl ⟨rfl, _, SqL.of (R.store _)⟩, _, rfl, _, h.mine.map (fun (n : Nat) => (n : Int)), (p : Int), rfl, rfl, by rw [R.store, nV_ints]; rfl, mem_cast hmem, ?_⟩
        rw [erase_cast, ← nV_ints]
        have R1 := R.put h.turn (h.mine.erase p)
        obtain ⟨dx1, t1, hI1, hT1⟩ := R1.ins
        refine ⟨_, rfl, r, dx1, _, rfl, hI1, no_finish, r, l0, l1, _, .nothing, rfl, R1, by rw [put_turn]; exact g.turn, fun H2 R2 kp2 => ?_⟩
        rw [made_eq] at R2
        rw [put_mine]
        exact k H2 R2 ((Keep.upd (sAt_mem h.turn)).trans kp2)
    rcases ho with ho | ⟨q, ho⟩
    · rw [move_drop ho hp] at k
      have e : decide (V.int ((h.open_.kind : Nat) : Int) = V.int 3) = false := by rw [ho]; rfl
      rw [e]
      exact iteF (iteF (rest k))
    · rw [move_drop_why ho hp] at k
      have e : decide (V.int ((h.open_.kind : Nat) : Int) = V.int 3) = true := by rw [ho]; rfl
      rw [e]
      refine iteT ⟨_, rfl, _, rfl, r, C, dx, _, _, rfl, hI, T.cl, T.n_topic, fl_topic, rfl, _, rfl, ?_⟩
      have e2 : (!decide (V.int (p : Int) = V.int ((h.open_.what : Nat) : Int))) = !decide (p = q) := by rw [dec_nat, ho]; rfl
      rw [e2]
      by_cases hq : p = q
      · rw [if_neg (fun z => z hq)] at k
        refine iteNS hq (rest ?_)
        have hm : h.mine.contains p = true := by
          have := g.why q ho
          rw [hq]
          simpa using this
        rw [hm, if_neg (by decide)]
        exact k
      · rw [if_pos hq] at k
        exact iteNT hq (k H R (Keep.refl _ _))
theorem ok_since {f : Addr} {fd : FuncData} (F : Fun K "since" "since" s_since f fd) (T : Txt P w K mg C aS aF aG aB aT aP aN) (G_follows : FnAt P w K mg base "follows" 1 sp_follows) (G_commit_and_finish : MtAt P w K mg base C "commit_and_finish" 5 (sp_caf C)) :
    FnOk P w K mg base CX0 6 f fd ["record", "given"] (sp_given C (fun h => ∃ q, h.open_ = .why q) .since) := by
  refine F.ok sc_since (fun vs H Q E h => ?_) (fun cdv A outer s H vs Q E hr h => ?_)
  · obtain ⟨r, l0, l1, h, p, rfl, _⟩ := h
    rfl
  · obtain ⟨r, l0, l1, h, p, rfl, R, g, ⟨q, ho⟩, hp, k⟩ := h
    obtain ⟨dx, t, hI, hT⟩ := R.ins
    rw [move_since ho hp] at k
    refine ⟨_, (pss_cons (ps_if (PW.pt (pw_or (pt_cmpR op_eq (pv 1) (pe_fld (pv 0) rfl) (nomark _)) (pw_or1 (pt_not (pt_truth (pe_fn G_follows (hr.mono (by decide)) rfl (pa_cons (pe_fld (pv 0) rfl) (pa_cons (pv 1) pa_nil))) (fun _ => rfl)))))) (pss_one (ps_ret (pe_gint rfl T.g_NO_REASON))) pss_nil)
      (pss_one (ps_ret (pe_mt (pv 0) T.cl G_commit_and_finish (hr.mono (by decide)) (pa_cons (pv 1) (pa_cons (pe_gint rfl T.g_SAID) (pa_cons (pv 1) pa_nil))))))), ?_⟩
    refine ⟨_, rfl, _, rfl, r, C, dx, _, _, rfl, hI, T.cl, T.n_topic, fl_topic, rfl, _, rfl, ?_⟩
    have e2 : decide (V.int (p : Int) = V.int ((h.open_.what : Nat) : Int)) = decide (p = q) := by rw [dec_nat, ho]; rfl
    rw [e2]
    by_cases hq : p = q
    · rw [if_pos (Or.inl hq)] at k
      exact iteD hq (iteT (k H R (Keep.refl _ _)))
    · refine iteDN hq ⟨_, rfl, r, C, dx, _, _, rfl, hI, T.cl, T.n_topic, fl_topic, _, rfl, h.open_.what, p, rfl, _, rfl, ?_⟩
      have e3 : within p h.open_.what = within p q := by rw [ho]; rfl
      rw [e3]
      cases hw : within p q with
      | true =>
        rw [if_neg (by rw [hw]; simp [hq])] at k
        exact iteF ⟨_, rfl, r, dx, _, rfl, hI, no_commit_and_finish, _, rfl, _, rfl, r, l0, l1, h, p, .said p, rfl, R, g, k⟩
      | false =>
        rw [if_pos (Or.inr hw)] at k
        exact iteT (k H R (Keep.refl _ _))
noncomputable def sp_bare (C : Addr) (Pre : House → Prop) (y : House → Abs × Krl7.Ans) : Sp := fun vs H Q _ => ∃ (r l0 l1 : Addr) (h : House), vs = [.ref r] ∧ Rec C H r l0 l1 h ∧ Good h ∧ Pre h ∧ After C H Q r l0 l1 h (y h)
theorem ok_accept {f : Addr} {fd : FuncData} (F : Fun K "accept" "accept" s_accept f fd) (T : Txt P w K mg C aS aF aG aB aT aP aN) (G_commit_and_finish : MtAt P w K mg base C "commit_and_finish" 5 (sp_caf C)) :
    FnOk P w K mg base CX0 6 f fd ["record"] (sp_bare C (fun _ => True) (fun h => h.commit h.open_.what .nothing)) := by
  refine F.ok sc_accept (fun vs H Q E h => ?_) (fun cdv A outer s H vs Q E hr h => ?_)
  · obtain ⟨r, l0, l1, h, rfl, _⟩ := h
    rfl
  · obtain ⟨r, l0, l1, h, rfl, R, g, _, k⟩ := h
    obtain ⟨dx, t, hI, hT⟩ := R.ins
    refine ⟨_, (pss_one (ps_ret (pe_mt (pv 0) T.cl G_commit_and_finish (hr.mono (by decide)) (pa_cons (pe_fld (pv 0) rfl) (pa_cons (pe_gint rfl T.g_NOTHING) (pa_cons pe_int pa_nil)))))), ?_⟩
    exact ⟨_, rfl, r, dx, _, rfl, hI, no_commit_and_finish, _, rfl, r, C, dx, _, _, rfl, hI, T.cl, T.n_topic, fl_topic, r, l0, l1, h, h.open_.what, .nothing, rfl, R, g, k⟩
theorem ok_passed {f : Addr} {fd : FuncData} (F : Fun K "passed" "passed" s_passed f fd) (T : Txt P w K mg C aS aF aG aB aT aP aN) (G_finish : MtAt P w K mg base C "finish" 2 (sp_finish C)) :
    FnOk P w K mg base CX0 6 f fd ["record"] (sp_bare C (fun _ => True) (fun h => (some (h.made h.mine .nothing), Krl7.say h.mine.length))) := by
  refine F.ok sc_passed (fun vs H Q E h => ?_) (fun cdv A outer s H vs Q E hr h => ?_)
  · obtain ⟨r, l0, l1, h, rfl, _⟩ := h
    rfl
  · obtain ⟨r, l0, l1, h, rfl, R, g, _, k⟩ := h
    obtain ⟨dx, t, hI, hT⟩ := R.ins
    simp only [← made_self] at k
    refine ⟨_, (pss_one (ps_ret (pe_mt (pv 0) T.cl G_finish (hr.mono (by decide)) (pa_cons (pe_gint rfl T.g_NOTHING) (pa_cons pe_int pa_nil))))), ?_⟩
    exact ⟨_, rfl, r, dx, _, rfl, hI, no_finish, r, l0, l1, h, .nothing, rfl, R, g.turn, k⟩
theorem ok_affirm {f : Addr} {fd : FuncData} (F : Fun K "affirm" "affirm" s_affirm f fd) (T : Txt P w K mg C aS aF aG aB aT aP aN) (G_commit_and_finish : MtAt P w K mg base C "commit_and_finish" 5 (sp_caf C)) :
    FnOk P w K mg base CX0 6 f fd ["record"] (sp_bare C (fun _ => True) (fun h => h.commit h.open_.what (.said h.open_.what))) := by
  refine F.ok sc_affirm (fun vs H Q E h => ?_) (fun cdv A outer s H vs Q E hr h => ?_)
  · obtain ⟨r, l0, l1, h, rfl, _⟩ := h
    rfl
  · obtain ⟨r, l0, l1, h, rfl, R, g, _, k⟩ := h
    obtain ⟨dx, t, hI, hT⟩ := R.ins
    refine ⟨_, (pss_one (ps_ret (pe_mt (pv 0) T.cl G_commit_and_finish (hr.mono (by decide)) (pa_cons (pe_fld (pv 0) rfl) (pa_cons (pe_gint rfl T.g_SAID) (pa_cons (pe_fld (pv 0) rfl) pa_nil)))))), ?_⟩
    exact ⟨_, rfl, r, dx, _, rfl, hI, no_commit_and_finish, _, rfl, r, C, dx, _, _, rfl, hI, T.cl, T.n_topic, fl_topic, _, rfl, r, C, dx, _, _, rfl, hI, T.cl, T.n_topic, fl_topic, r, l0, l1, h, h.open_.what, .said h.open_.what, rfl, R, g, k⟩
theorem ok_deny {f : Addr} {fd : FuncData} (F : Fun K "deny" "deny" s_deny f fd) (T : Txt P w K mg C aS aF aG aB aT aP aN) (G_opposite : FnAt P w K mg base "opposite" 1 sp_opposite) (G_commit_and_finish : MtAt P w K mg base C "commit_and_finish" 5 (sp_caf C)) :
    FnOk P w K mg base CX0 6 f fd ["record"] (sp_bare C (fun _ => True) (fun h => h.commit (not_ h.m h.open_.what) (.said (not_ h.m h.open_.what)))) := by
  refine F.ok sc_deny (fun vs H Q E h => ?_) (fun cdv A outer s H vs Q E hr h => ?_)
  · obtain ⟨r, l0, l1, h, rfl, _⟩ := h
    rfl
  · obtain ⟨r, l0, l1, h, rfl, R, g, _, k⟩ := h
    obtain ⟨dx, t, hI, hT⟩ := R.ins
    refine ⟨_, (pss_cons (ps_set (i := 1) sc_deny.nd rfl (Or.inl rfl) (pe_fn G_opposite (hr.mono (by decide)) rfl (pa_cons (pe_fld (pv 0) rfl) (pa_cons (pe_fld (pv 0) rfl) pa_nil))))
      (pss_one (ps_ret (pe_mt (pv 0) T.cl G_commit_and_finish (hr.mono (by decide)) (pa_cons (pv 1) (pa_cons (pe_gint rfl T.g_SAID) (pa_cons (pv 1) pa_nil))))))), ?_⟩
    refine ⟨_, rfl, r, C, dx, _, _, rfl, hI, T.cl, T.n_letters, fl_letters, _, rfl, r, C, dx, _, _, rfl, hI, T.cl, T.n_topic, fl_topic, h.m, h.open_.what, rfl, g.m3, g.what, ?_⟩
    exact ⟨_, rfl, r, dx, _, rfl, hI, no_commit_and_finish, _, rfl, _, rfl, r, l0, l1, h, not_ h.m h.open_.what, .said (not_ h.m h.open_.what), rfl, R, g, k⟩
theorem ok_unsure {f : Addr} {fd : FuncData} (F : Fun K "unsure" "unsure" s_unsure f fd) (T : Txt P w K mg C aS aF aG aB aT aP aN) (G_is_bound : MtAt P w K mg base C "is_bound" 3 (sp_is_bound C)) (G_is_barred : MtAt P w K mg base C "is_barred" 3 (sp_is_barred C)) (G_finish : MtAt P w K mg base C "finish" 2 (sp_finish C)) :
    FnOk P w K mg base CX0 6 f fd ["record"] (sp_bare C (fun _ => True) (fun h => if h.bound h.turn h.open_.what || h.barred h.turn h.open_.what then (some h, Krl7.say (-61)) else (some (h.made h.mine .nothing), Krl7.say h.mine.length))) := by
  refine F.ok sc_unsure (fun vs H Q E h => ?_) (fun cdv A outer s H vs Q E hr h => ?_)
  · obtain ⟨r, l0, l1, h, rfl, _⟩ := h
    rfl
  · obtain ⟨r, l0, l1, h, rfl, R, g, _, k⟩ := h
    obtain ⟨dx, t, hI, hT⟩ := R.ins
    refine ⟨_, (pss_cons (ps_if (PW.pt (pw_or (pt_truth (pe_mt (pv 0) T.cl G_is_bound (hr.mono (by decide)) (pa_cons (pe_fld (pv 0) rfl) (pa_cons (pe_fld (pv 0) rfl) pa_nil))) (fun _ => rfl)) (pw_or1 (pt_truth (pe_mt (pv 0) T.cl G_is_barred (hr.mono (by decide)) (pa_cons (pe_fld (pv 0) rfl) (pa_cons (pe_fld (pv 0) rfl) pa_nil))) (fun _ => rfl))))) (pss_one (ps_ret (pe_gint rfl T.g_NOT_UNSURE))) pss_nil)
      (pss_one (ps_ret (pe_mt (pv 0) T.cl G_finish (hr.mono (by decide)) (pa_cons (pe_gint rfl T.g_NOTHING) (pa_cons pe_int pa_nil)))))), ?_⟩
    refine ⟨_, rfl, r, dx, _, rfl, hI, no_is_bound, _, rfl, r, C, dx, _, _, rfl, hI, T.cl, T.n_mover, fl_mover, _, rfl, r, C, dx, _, _, rfl, hI, T.cl, T.n_topic, fl_topic, r, l0, l1, h, h.turn, h.open_.what, rfl, R, g.turn, g.m3, _, rfl, iteB (fun hd => ?_) (fun hd => ?_)⟩
    · simp only [hd, Bool.true_or, if_true] at k
      exact iteT (k H R (Keep.refl _ _))
    · refine ⟨_, rfl, r, dx, _, rfl, hI, no_is_barred, _, rfl, r, C, dx, _, _, rfl, hI, T.cl, T.n_mover, fl_mover, _, rfl, r, C, dx, _, _, rfl, hI, T.cl, T.n_topic, fl_topic, r, l0, l1, h, h.turn, h.open_.what, rfl, R, g.turn, g.m3, _, rfl, iteB (fun hb => ?_) (fun hb => ?_)⟩
      · simp only [hd, hb, Bool.or_true, if_true] at k
        exact k H R (Keep.refl _ _)
      · simp only [← made_self, hd, hb, Bool.or_self, Bool.false_eq_true, if_false] at k
        exact ⟨_, rfl, r, dx, _, rfl, hI, no_finish, r, l0, l1, h, .nothing, rfl, R, g.turn, k⟩
end
end Two
end
section
set_option Elab.async false
set_option linter.all false
set_option maxRecDepth 100000
set_option maxHeartbeats 2000000
namespace Two
open PySem PySem.Spec PyProof.Rows L2
open Krl7 (House Abs)
open Krb7 (full both not_ within count)
structure Tab (P : Program) (w : World) (K : PySem.W.Frag) (mg : Str → Option Value) (aF aG aB : Addr) : Prop where
  t_MOVES_FOR : ∃ fs : List Addr, fs.length = 4 ∧ (∀ H : Hp, SqT K H aF (fs.map V.ref)) ∧ ∀ (k : Nat) (a : Addr), fs[k]? = some a → ∀ H : Hp, SqT K H a (nV (kindsOf k))
  t_MOVES_GIVEN : ∃ a1 a2 a3 a4 a11, mg "say" = some (.ref a1) ∧ mg "ask" = some (.ref a2) ∧ mg "why" = some (.ref a3) ∧ mg "drop" = some (.ref a4) ∧ mg "since" = some (.ref a11) ∧
    DK P w K aG [(.inl 1, .ref a1), (.inl 2, .ref a2), (.inl 3, .ref a3), (.inl 4, .ref a4), (.inl 11, .ref a11)]
  t_MOVES_BARE : ∃ a5 a6 a7 a8 a10, mg "accept" = some (.ref a5) ∧ mg "deny" = some (.ref a6) ∧ mg "passed" = some (.ref a7) ∧ mg "affirm" = some (.ref a8) ∧ mg "unsure" = some (.ref a10) ∧
    DK P w K aB [(.inl 5, .ref a5), (.inl 6, .ref a6), (.inl 7, .ref a7), (.inl 8, .ref a8), (.inl 9, .ref a6), (.inl 10, .ref a10)]
theorem fnAt_at {P : Program} {w : World} {K : PySem.W.Frag} {mg : Str → Option Value} {base : Heap} {x : Str} {k : Nat} {sp : Sp} {a : Addr} (F : FnAt P w K mg base x k sp) (h : mg x = some (.ref a)) : ∃ fd ps, PySem.W.keepIn K (.ref a) = true ∧ Binds K fd ps [] ∧ FnOk P w K mg base CX0 k a fd ps sp := by
  obtain ⟨f, fd, ps, hm, hk, hb, G⟩ := F.ex
  rw [h] at hm
  cases hm
  exact ⟨fd, ps, hk, hb, G⟩
theorem said_of {o : Krl7.Open} {n : Nat} (hn : n = 5 ∨ n = 6 ∨ n = 7) (h : n ∈ kindsOf o.kind) : ∃ q, o = .said q := by
  cases o with
  | said q => exact ⟨q, rfl⟩
  | _ => simp only [Krl7.Open.kind] at h; rcases hn with rfl | rfl | rfl <;> exact absurd h (by decide)
theorem asked_of {o : Krl7.Open} {n : Nat} (hn : n = 8 ∨ n = 9 ∨ n = 10) (h : n ∈ kindsOf o.kind) : ∃ q, o = .asked q := by
  cases o with
  | asked q => exact ⟨q, rfl⟩
  | _ => simp only [Krl7.Open.kind] at h; rcases hn with rfl | rfl | rfl <;> exact absurd h (by decide)
theorem nothing_of {o : Krl7.Open} {n : Nat} (hn : n = 1 ∨ n = 2) (h : n ∈ kindsOf o.kind) : o = .nothing := by
  cases o with
  | nothing => rfl
  | _ => simp only [Krl7.Open.kind] at h; rcases hn with rfl | rfl <;> exact absurd h (by decide)
theorem why_open {o : Krl7.Open} (h : 3 ∈ kindsOf o.kind) : o = .nothing ∨ ∃ q, o = .said q := by
  cases o with
  | nothing => exact Or.inl rfl
  | said q => exact Or.inr ⟨q, rfl⟩
  | _ => simp only [Krl7.Open.kind] at h; exact absurd h (by decide)
theorem drop_open {o : Krl7.Open} (h : 4 ∈ kindsOf o.kind) : o = .nothing ∨ ∃ q, o = .why q := by
  cases o with
  | nothing => exact Or.inl rfl
  | why q => exact Or.inr ⟨q, rfl⟩
  | _ => simp only [Krl7.Open.kind] at h; exact absurd h (by decide)
theorem since_open {o : Krl7.Open} (h : 11 ∈ kindsOf o.kind) : ∃ q, o = .why q := by
  cases o with
  | why q => exact ⟨q, rfl⟩
  | _ => simp only [Krl7.Open.kind] at h; exact absurd h (by decide)
section
variable {P : Program} {w : World} {K : PySem.W.Frag} {mg : Str → Option Value} {base : Heap} {C aS aF aG aB aT aP aN : Addr}
noncomputable def sp_refusal (C : Addr) : Sp := fun vs H Q _ => ∃ (r l0 l1 : Addr) (h : House) (n : Nat), vs = [.ref r, .int n] ∧ Rec C H r l0 l1 h ∧ Good h ∧ (40 ≤ h.moves → Q (.int (-75)) H) ∧ (¬ 40 ≤ h.moves → n ∉ kindsOf h.open_.kind → Q (.int (-16)) H) ∧
  (¬ 40 ≤ h.moves → n ∈ kindsOf h.open_.kind → Q (.int 0) H)
theorem kind_lt (o : Krl7.Open) : o.kind < 4 := by cases o <;> (simp only [Krl7.Open.kind]; decide)
theorem ok_refusal_of_any {f : Addr} {fd : FuncData} (F : Fun K "refusal_of_any" "refusal_of_any" s_refusal_of_any f fd) (T : Txt P w K mg C aS aF aG aB aT aP aN) (B : Tab P w K mg aF aG aB) :
    FnOk P w K mg base CX0 1 f fd ["record", "move"] (sp_refusal C) := by
  refine F.ok sc_refusal_of_any (fun vs H Q E h => ?_) (fun cdv A outer s H vs Q E hr h => ?_)
  · obtain ⟨r, l0, l1, h, n, rfl, _⟩ := h
    rfl
  · obtain ⟨r, l0, l1, h, n, rfl, R, g, k1, k2, k3⟩ := h
    obtain ⟨dx, t, hI, hT⟩ := R.ins
    obtain ⟨fs, hfl, hF, hfs⟩ := B.t_MOVES_FOR
    refine ⟨_, (pss_cons (ps_if (pt_cmpR op_ge (pe_fld (pv 0) rfl) (pe_gint rfl T.g_MOST_MOVES) (nomark _)) (pss_one (ps_ret (pe_gint rfl T.g_TIME_IS_UP))) pss_nil)
      (pss_cons (ps_if (pt_cmpR op_notIn_seq (pv 1) (pe_ix ix_tup (pe_gref rfl T.g_MOVES_FOR) (pe_fld (pv 0) rfl) (fun _ _ => rfl)) (by with_unfolding_all rfl)) (pss_one (ps_ret (pe_gint rfl T.g_NOT_OPEN))) pss_nil)
      (pss_one (ps_ret pe_int)))), ?_⟩
    refine ⟨_, rfl, r, C, dx, _, _, rfl, hI, T.cl, T.n_moves_made, fl_moves, _, _, rfl, rfl, _, rfl, ?_⟩
    by_cases h40 : 40 ≤ h.moves
    · exact iteD (by omega) (k1 h40)
    · obtain ⟨a, ha⟩ : ∃ a, fs[h.open_.kind]? = some a := ⟨_, List.getElem?_eq_getElem (by rw [hfl]; exact kind_lt _)⟩
      refine iteDN (by omega) ⟨_, rfl, _, rfl, r, C, dx, _, _, rfl, hI, T.cl, T.n_matter, fl_matter, aF, _, _, _, rfl, rfl, hF H, atI_nat (v := V.ref a) (by rw [List.getElem?_map, ha]; rfl), a, _, rfl, .inr (hfs _ a ha H), rfl, flat_nV _, _, rfl, ?_⟩
      show if (if true = true then !inV (V.int (n : Int)) (nV (kindsOf h.open_.kind)) else inV (V.int (n : Int)) (nV (kindsOf h.open_.kind))) = true then _ else _
      rw [if_pos rfl, inV_nV]
      cases hc : (kindsOf h.open_.kind).contains n with
      | false => exact iteT (k2 h40 (by simpa using hc))
      | true => exact iteF (k3 h40 (by simpa using hc))
noncomputable def sp_make_bare (C : Addr) : Sp := fun vs H Q _ => ∃ (r l0 l1 : Addr) (h : House) (n : Nat), vs = [.ref r, .int n] ∧ Rec C H r l0 l1 h ∧ Good h ∧ (5 ≤ n ∧ n ≤ 10) ∧ After C H Q r l0 l1 h (actMove h (mvOf n 0))
theorem ok_make_bare_move {f : Addr} {fd : FuncData} (F : Fun K "make_bare_move" "make_bare_move" s_make_bare_move f fd) (T : Txt P w K mg C aS aF aG aB aT aP aN) (B : Tab P w K mg aF aG aB) (G_refusal_of_any : FnAt P w K mg base "refusal_of_any" 1 (sp_refusal C))
    (G_accept : FnAt P w K mg base "accept" 6 (sp_bare C (fun _ => True) (fun h => h.commit h.open_.what .nothing)))
    (G_deny : FnAt P w K mg base "deny" 6 (sp_bare C (fun _ => True) (fun h => h.commit (not_ h.m h.open_.what) (.said (not_ h.m h.open_.what)))))
    (G_passed : FnAt P w K mg base "passed" 6 (sp_bare C (fun _ => True) (fun h => (some (h.made h.mine .nothing), Krl7.say h.mine.length))))
    (G_affirm : FnAt P w K mg base "affirm" 6 (sp_bare C (fun _ => True) (fun h => h.commit h.open_.what (.said h.open_.what))))
    (G_unsure : FnAt P w K mg base "unsure" 6 (sp_bare C (fun _ => True) (fun h => if h.bound h.turn h.open_.what || h.barred h.turn h.open_.what then (some h, Krl7.say (-61)) else (some (h.made h.mine .nothing), Krl7.say h.mine.length)))) :
    FnOk P w K mg base CX0 7 f fd ["record", "move"] (sp_make_bare C) := by
  refine F.ok sc_make_bare_move (fun vs H Q E h => ?_) (fun cdv A outer s H vs Q E hr h => ?_)
  · obtain ⟨r, l0, l1, h, n, rfl, _⟩ := h
    rfl
  · obtain ⟨r, l0, l1, h, n, rfl, R, g, hn, k⟩ := h
    obtain ⟨dx, t, hI, hT⟩ := R.ins
    obtain ⟨a5, a6, a7, a8, a10, m5, m6, m7, m8, m10, hD⟩ := B.t_MOVES_BARE
    refine ⟨_, (pss_cons (ps_set (i := 2) sc_make_bare_move.nd rfl (Or.inl rfl) (pe_fn G_refusal_of_any (hr.mono (by decide)) rfl (pa_cons (pv 0) (pa_cons (pv 1) pa_nil))))
      (pss_cons (ps_if (pt_cmpR op_lt (pv 2) pe_int (nomark _)) (pss_one (ps_ret (pv 2))) pss_nil)
      (pss_one (ps_ret (pe_callV (pe_kget (pe_gref rfl T.g_MOVES_BARE) (pv 1) (fun _ _ => rfl)) (pa_cons (pv 0) pa_nil)))))), ?_⟩
    refine ⟨_, rfl, _, rfl, r, l0, l1, h, n, rfl, R, g, fun h40 => ?_, fun h40 hk => ?_, fun h40 hk => ?_⟩
    · unfold actMove at k
      rw [if_pos h40] at k
      exact ⟨_, rfl, _, _, rfl, rfl, _, rfl, iteD (by decide) ⟨_, rfl, k H R (Keep.refl _ _)⟩⟩
    · unfold actMove at k
      rw [if_neg h40, move_shut (by omega) hk] at k
      exact ⟨_, rfl, _, _, rfl, rfl, _, rfl, iteD (by decide) ⟨_, rfl, k H R (Keep.refl _ _)⟩⟩
    · unfold actMove at k
      rw [if_neg h40] at k
      refine ⟨_, rfl, _, _, rfl, rfl, _, rfl, iteDN (by decide) ⟨_, rfl, ?_⟩⟩
      obtain ⟨a, fd', ps', y, hv, hkp, hb, G, e⟩ : ∃ (a : Addr) (fd' : FuncData) (ps' : List Str) (y : House → Abs × Krl7.Ans), valV [((.inl 5 : Key), V.ref a5), (.inl 6, .ref a6), (.inl 7, .ref a7), (.inl 8, .ref a8), (.inl 9, .ref a6), (.inl 10, .ref a10)] (.inl (n : Int)) = some (.ref a) ∧ PySem.W.keepIn K (.ref a) = true ∧ Binds K fd' ps' [] ∧ FnOk P w K mg base CX0 6 a fd' ps' (sp_bare C (fun _ => True) y) ∧ y h = Krl7.move h (mvOf n 0) := by
        rcases up10 hn with rfl | rfl | rfl | rfl | rfl | rfl
        · obtain ⟨q, ho⟩ := said_of (o := h.open_) (n := 5) (by decide) hk
          obtain ⟨fd', ps', hkp, hb, G⟩ := fnAt_at G_accept m5
          exact ⟨a5, fd', ps', _, rfl, hkp, hb, G, by rw [show mvOf 5 0 = Krl7.Call.accept from rfl, move_accept ho]; simp only [ho]; rfl⟩
        · obtain ⟨q, ho⟩ := said_of (o := h.open_) (n := 6) (by decide) hk
          obtain ⟨fd', ps', hkp, hb, G⟩ := fnAt_at G_deny m6
          exact ⟨a6, fd', ps', _, rfl, hkp, hb, G, by rw [show mvOf 6 0 = Krl7.Call.reject from rfl, move_reject ho]; simp only [ho]; rfl⟩
        · obtain ⟨q, ho⟩ := said_of (o := h.open_) (n := 7) (by decide) hk
          obtain ⟨fd', ps', hkp, hb, G⟩ := fnAt_at G_passed m7
          exact ⟨a7, fd', ps', _, rfl, hkp, hb, G, by rw [show mvOf 7 0 = Krl7.Call.pass from rfl, move_pass ho]⟩
        · obtain ⟨q, ho⟩ := asked_of (o := h.open_) (n := 8) (by decide) hk
          obtain ⟨fd', ps', hkp, hb, G⟩ := fnAt_at G_affirm m8
          exact ⟨a8, fd', ps', _, rfl, hkp, hb, G, by rw [show mvOf 8 0 = Krl7.Call.yes from rfl, move_yes ho]; simp only [ho]; rfl⟩
        · obtain ⟨q, ho⟩ := asked_of (o := h.open_) (n := 9) (by decide) hk
          obtain ⟨fd', ps', hkp, hb, G⟩ := fnAt_at G_deny m6
          exact ⟨a6, fd', ps', _, rfl, hkp, hb, G, by rw [show mvOf 9 0 = Krl7.Call.no from rfl, move_no ho]; simp only [ho]; rfl⟩
        · obtain ⟨q, ho⟩ := asked_of (o := h.open_) (n := 10) (by decide) hk
          obtain ⟨fd', ps', hkp, hb, G⟩ := fnAt_at G_unsure m10
          exact ⟨a10, fd', ps', _, rfl, hkp, hb, G, by rw [show mvOf 10 0 = Krl7.Call.unsure from rfl, move_unsure ho]; simp only [ho]; rfl⟩
      rw [← e] at k
      exact ⟨aB, _, Sum.inl (n : Int), V.ref a, rfl, hD, rfl, hv, a, 6, fd', ps', _, rfl, hkp, hb, G, hr.mono (by decide), _, rfl, r, l0, l1, h, rfl, R, g, trivial, k⟩
noncomputable def sp_make_given (C : Addr) : Sp := fun vs H Q _ => ∃ (r l0 l1 : Addr) (h : House) (n p : Nat), vs = [.ref r, .int n, .int p] ∧ Rec C H r l0 l1 h ∧ Good h ∧ (n = 1 ∨ n = 2 ∨ n = 3 ∨ n = 4 ∨ n = 11) ∧ After C H Q r l0 l1 h (actMove h (mvOf n p))
theorem ok_make_given_move {f : Addr} {fd : FuncData} (F : Fun K "make_given_move" "make_given_move" s_make_given_move f fd) (T : Txt P w K mg C aS aF aG aB aT aP aN) (B : Tab P w K mg aF aG aB) (G_refusal_of_any : FnAt P w K mg base "refusal_of_any" 1 (sp_refusal C))
    (G_is_proposition : FnAt P w K mg base "is_proposition" 1 sp_is_proposition)
    (G_say : FnAt P w K mg base "say" 6 (sp_given C (fun h => h.open_ = .nothing) .say_))
    (G_ask : FnAt P w K mg base "ask" 6 (sp_given C (fun h => h.open_ = .nothing) .ask))
    (G_why : FnAt P w K mg base "why" 6 (sp_given C (fun h => h.open_ = .nothing ∨ ∃ q, h.open_ = .said q) .why))
    (G_drop : FnAt P w K mg base "drop" 6 (sp_given C (fun h => h.open_ = .nothing ∨ ∃ q, h.open_ = .why q) .drop))
    (G_since : FnAt P w K mg base "since" 6 (sp_given C (fun h => ∃ q, h.open_ = .why q) .since)) :
    FnOk P w K mg base CX0 7 f fd ["record", "move", "given"] (sp_make_given C) := by
  refine F.ok sc_make_given_move (fun vs H Q E h => ?_) (fun cdv A outer s H vs Q E hr h => ?_)
  · obtain ⟨r, l0, l1, h, n, p, rfl, _⟩ := h
    rfl
  · obtain ⟨r, l0, l1, h, n, p, rfl, R, g, hn, k⟩ := h
    obtain ⟨dx, t, hI, hT⟩ := R.ins
    obtain ⟨a1, a2, a3, a4, a11, m1, m2, m3, m4, m11, hD⟩ := B.t_MOVES_GIVEN
    refine ⟨_, (pss_cons (ps_set (i := 3) sc_make_given_move.nd rfl (Or.inl rfl) (pe_fn G_refusal_of_any (hr.mono (by decide)) rfl (pa_cons (pv 0) (pa_cons (pv 1) pa_nil))))
      (pss_cons (ps_if (pt_cmpR op_lt (pv 3) pe_int (nomark _)) (pss_one (ps_ret (pv 3))) pss_nil)
      (pss_cons (ps_if (pt_not (pt_truth (pe_fn G_is_proposition (hr.mono (by decide)) rfl (pa_cons (pe_fld (pv 0) rfl) (pa_cons (pv 2) pa_nil))) (fun _ => rfl))) (pss_one (ps_ret (pe_gint rfl T.g_NOT_RIGHT))) pss_nil)
      (pss_one (ps_ret (pe_callV (pe_kget (pe_gref rfl T.g_MOVES_GIVEN) (pv 1) (fun _ _ => rfl)) (pa_cons (pv 0) (pa_cons (pv 2) pa_nil)))))))), ?_⟩
    refine ⟨_, rfl, _, rfl, r, l0, l1, h, n, rfl, R, g, fun h40 => ?_, fun h40 hk => ?_, fun h40 hk => ?_⟩
    · unfold actMove at k
      rw [if_pos h40] at k
      exact ⟨_, rfl, _, _, rfl, rfl, _, rfl, iteD (by decide) ⟨_, rfl, k H R (Keep.refl _ _)⟩⟩
    · unfold actMove at k
      rw [if_neg h40, move_shut (by omega) hk] at k
      exact ⟨_, rfl, _, _, rfl, rfl, _, rfl, iteD (by decide) ⟨_, rfl, k H R (Keep.refl _ _)⟩⟩
    · unfold actMove at k
      rw [if_neg h40] at k
      refine ⟨_, rfl, _, _, rfl, rfl, _, rfl, iteDN (by decide) ⟨_, rfl, r, C, dx, _, _, rfl, hI, T.cl, T.n_letters, fl_letters, _, rfl, h.m, p, rfl, g.m3, _, rfl, ?_⟩⟩
      by_cases hp : p ≤ full h.m
      · refine iteNS hp ⟨_, rfl, ?_⟩
        obtain ⟨a, fd', ps', Pre, c, hv, hkp, hb, G, hpre, e⟩ : ∃ (a : Addr) (fd' : FuncData) (ps' : List Str) (Pre : House → Prop) (c : Nat → Krl7.Call), valV [((.inl 1 : Key), V.ref a1), (.inl 2, .ref a2), (.inl 3, .ref a3), (.inl 4, .ref a4), (.inl 11, .ref a11)] (.inl (n : Int)) = some (.ref a) ∧ PySem.W.keepIn K (.ref a) = true ∧ Binds K fd' ps' [] ∧ FnOk P w K mg base CX0 6 a fd' ps' (sp_given C Pre c) ∧ Pre h ∧ c p = mvOf n p := by
          rcases hn with rfl | rfl | rfl | rfl | rfl
          · obtain ⟨fd', ps', hkp, hb, G⟩ := fnAt_at G_say m1
            exact ⟨a1, fd', ps', _, _, rfl, hkp, hb, G, nothing_of (n := 1) (by decide) hk, rfl⟩
          · obtain ⟨fd', ps', hkp, hb, G⟩ := fnAt_at G_ask m2
            exact ⟨a2, fd', ps', _, _, rfl, hkp, hb, G, nothing_of (n := 2) (by decide) hk, rfl⟩
          · obtain ⟨fd', ps', hkp, hb, G⟩ := fnAt_at G_why m3
            exact ⟨a3, fd', ps', _, _, rfl, hkp, hb, G, why_open hk, rfl⟩
          · obtain ⟨fd', ps', hkp, hb, G⟩ := fnAt_at G_drop m4
            exact ⟨a4, fd', ps', _, _, rfl, hkp, hb, G, drop_open hk, rfl⟩
          · obtain ⟨fd', ps', hkp, hb, G⟩ := fnAt_at G_since m11
            exact ⟨a11, fd', ps', _, _, rfl, hkp, hb, G, since_open hk, rfl⟩
        rw [← e] at k
        exact ⟨aG, _, Sum.inl (n : Int), V.ref a, rfl, hD, rfl, hv, a, 6, fd', ps', _, rfl, hkp, hb, G, hr.mono (by decide), _, rfl, _, rfl, r, l0, l1, h, p, rfl, R, g, hpre, hp, k⟩
      · rw [move_bad hn hk hp] at k
        exact iteNT hp (k H R (Keep.refl _ _))
end
end Two
end
section
set_option Elab.async false
set_option linter.all false
set_option maxRecDepth 100000
set_option maxHeartbeats 2000000
namespace L2
open PySem PySem.Spec PyProof.Rows
theorem binds1 {K : PySem.W.Frag} {x qual : Str} {st : Stmt} {f : Addr} {fd : FuncData} {p0 : Str} (F : Fun K x qual st f fd) (h : ∀ (kV doc pm : Value) (an : Option Addr) (cdv ct v0 : Value), bindArgs (PySem.W.fnOf x qual (defArgs st) (defBody st) (defScope st) .none kV doc pm an cdv ct) ⟨[v0], []⟩ = pure [(p0, v0)]) : Binds K fd [p0] [] :=
  F.binds fun kV doc pm an cdv ct us hl => match us, hl with | [v0], _ => h kV doc pm an cdv ct v0
theorem binds2 {K : PySem.W.Frag} {x qual : Str} {st : Stmt} {f : Addr} {fd : FuncData} {p0 p1 : Str} (F : Fun K x qual st f fd) (h : ∀ (kV doc pm : Value) (an : Option Addr) (cdv ct v0 v1 : Value), bindArgs (PySem.W.fnOf x qual (defArgs st) (defBody st) (defScope st) .none kV doc pm an cdv ct) ⟨[v0, v1], []⟩ = pure [(p0, v0), (p1, v1)]) : Binds K fd [p0, p1] [] :=
  F.binds fun kV doc pm an cdv ct us hl => match us, hl with | [v0, v1], _ => h kV doc pm an cdv ct v0 v1
theorem binds3 {K : PySem.W.Frag} {x qual : Str} {st : Stmt} {f : Addr} {fd : FuncData} {p0 p1 p2 : Str} (F : Fun K x qual st f fd) (h : ∀ (kV doc pm : Value) (an : Option Addr) (cdv ct v0 v1 v2 : Value), bindArgs (PySem.W.fnOf x qual (defArgs st) (defBody st) (defScope st) .none kV doc pm an cdv ct) ⟨[v0, v1, v2], []⟩ = pure [(p0, v0), (p1, v1), (p2, v2)]) : Binds K fd [p0, p1, p2] [] :=
  F.binds fun kV doc pm an cdv ct us hl => match us, hl with | [v0, v1, v2], _ => h kV doc pm an cdv ct v0 v1 v2
theorem binds4 {K : PySem.W.Frag} {x qual : Str} {st : Stmt} {f : Addr} {fd : FuncData} {p0 p1 p2 p3 : Str} (F : Fun K x qual st f fd) (h : ∀ (kV doc pm : Value) (an : Option Addr) (cdv ct v0 v1 v2 v3 : Value), bindArgs (PySem.W.fnOf x qual (defArgs st) (defBody st) (defScope st) .none kV doc pm an cdv ct) ⟨[v0, v1, v2, v3], []⟩ = pure [(p0, v0), (p1, v1), (p2, v2), (p3, v3)]) : Binds K fd [p0, p1, p2, p3] [] :=
  F.binds fun kV doc pm an cdv ct us hl => match us, hl with | [v0, v1, v2, v3], _ => h kV doc pm an cdv ct v0 v1 v2 v3
theorem abs_rel {u : Value} {v : V} (h : absV u = some v) : RelV v u := by
  cases u <;> simp only [absV, Option.some.injEq, reduceCtorEq] at h <;> subst h <;> first | rfl | exact ⟨_, rfl⟩
noncomputable def absL : List Value → Option (List V)
  | [] => some []
  | u :: us => match absV u, absL us with
    | some v, some vs => some (v :: vs)
    | _, _ => none
theorem absL_vals : ∀ {us : List Value} {vs : List V}, absL us = some vs → Vals vs us
  | [], vs, h => by cases h; exact .nil
  | u :: us, vs, h => by
    unfold absL at h
    cases e1 : absV u with
    | none => rw [e1] at h; cases h
    | some v =>
      cases e2 : absL us with
      | none => rw [e1, e2] at h; cases h
      | some ws =>
        rw [e1, e2] at h
        cases h
        exact .cons (abs_rel e1) (absL_vals e2)
theorem sqt_mk {K : PySem.W.Frag} {a : Addr} {dd : Option Addr} {its : Array Value} {n : Nat} {sl : Array (Option Value)} {xs : List V} (hl : K.lookup a = some ⟨.type "tuple", dd, .seq its n, sl⟩) (hv : absL its.toList = some xs) (hz : its.size ≤ sizeLine) (H : Hp) : SqT K H a xs :=
  .inr ⟨_, its, n, hl, rfl, rfl, hz, absL_vals hv⟩
noncomputable def entsV : List DictEntry → Option (List (Key × V))
  | [] => some []
  | e :: es => match e.key, absV e.val, entsV es with
    | .int k _, some v, some r => if e.hash = hashInt k then some ((.inl k, v) :: r) else none
    | _, _, _ => none
theorem entsV_ok {P : Program} {w : World} : ∀ {es : List DictEntry} {kvs : List (Key × V)}, entsV es = some kvs → ∃ vs, KV kvs vs ∧ Pairs (mixKind P w) es vs ∧ (∀ e ∈ es, ∃ k, (mixKind P w).is k e.key = true ∧ e.hash = (mixKind P w).hash k) ∧ vs.map (·.1) = kvs.map (·.1)
  | [], kvs, h => by
    cases h
    exact ⟨[], .nil, .nil, fun e he => (nomatch he), rfl⟩
  | ⟨hs, key, val⟩ :: es, kvs, h => by
    unfold entsV at h
    simp only at h
    split at h
    · rename_i k t v r h2 h3
      split at h
      · rename_i hh
        cases h
        obtain ⟨vs, a, b, c, d⟩ := entsV_ok (P := P) (w := w) h3
        refine ⟨(.inl k, val) :: vs, .cons ⟨rfl, abs_rel h2⟩ a, .cons (mixKind_int P w k t) rfl b, fun e he => ?_, by rw [List.map_cons, List.map_cons, d]⟩
        rcases List.mem_cons.mp he with rfl | he
        · exact ⟨.inl k, mixKind_int P w k t, hh⟩
        · exact c e he
      · cases h
    · cases h
theorem dk_mk {P : Program} {w : World} {K : PySem.W.Frag} {d : Addr} {es : Array DictEntry} {ep : Nat} {kvs : List (Key × V)} (hl : K.lookup d = some ⟨.type "dict", none, .dict es ep, #[]⟩) (he : entsV es.toList = some kvs) (nd : (kvs.map (·.1)).Nodup) (ns : (d == sysModules) = false) : DK P w K d kvs := by
  obtain ⟨vs, a, b, c, e⟩ := entsV_ok (P := P) (w := w) he
  exact ⟨ns, fun h X => ⟨vs, a, _, es, ep, X d _ hl, ⟨rfl, rfl, rfl⟩, rfl, fun x hx => c x (by simpa using hx), b, by rw [e]; exact nd⟩⟩
end L2
end
section
set_option Elab.async false
set_option linter.all false
set_option maxRecDepth 100000
set_option maxHeartbeats 2000000
namespace Two
open PySem PySem.Spec PyProof.Rows L2
open Krl7 (House Abs part size fewest meet has)
open Krb7 (full both not_ within count)
theorem line12 {n : Nat} (h : n ≤ 100000) : n ≤ sizeLine := by rw [sizeLine_eq]; omega
theorem line12' {n : Nat} (h : n ≤ 100000) : n < sizeLine := by rw [sizeLine_eq]; omega
theorem Rec.same {C : Addr} {H H' : Hp} {r l0 l1 : Addr} {h : House} (R : Rec C H r l0 l1 h) (s : Same H H') : Rec C H' r l0 l1 h := by
  obtain ⟨dx, t, hI, hT⟩ := R.ins
  exact ⟨⟨dx, t, s _ _ hI, s _ _ hT⟩, s _ _ R.s0, s _ _ R.s1, R.ne⟩
inductive Refs (H : Hp) : List V → List (List Nat) → Prop where
  | nil : Refs H [] []
  | cons {a : Addr} {l : List Nat} {rs : List V} {ls : List (List Nat)} : H a = some (.lst (nV l)) → Refs H rs ls → Refs H (.ref a :: rs) (l :: ls)
theorem srch_def (n : Nat) (ok : Nat → Bool) (y b : Nat) : srch n ok y b = if size n b < size n y ∧ ok b = true then b else y := rfl
theorem Refs.same {H H' : Hp} (s : Same H H') : ∀ {rs : List V} {ls : List (List Nat)}, Refs H rs ls → Refs H' rs ls
  | _, _, .nil => .nil
  | _, _, .cons h t => .cons (s _ _ h) (t.same s)
theorem Refs.append {H : Hp} : ∀ {rs rs' : List V} {ls ls' : List (List Nat)}, Refs H rs ls → Refs H rs' ls' → Refs H (rs ++ rs') (ls ++ ls')
  | _, _, _, _, .nil, s => s
  | _, _, _, _, .cons h t, s => .cons h (t.append s)
theorem Refs.length {H : Hp} : ∀ {rs : List V} {ls : List (List Nat)}, Refs H rs ls → rs.length = ls.length
  | _, _, .nil => rfl
  | _, _, .cons _ t => by rw [List.length_cons, List.length_cons, t.length]
theorem Refs.get {H : Hp} : ∀ {rs : List V} {ls : List (List Nat)} {i : Nat} {x : V}, Refs H rs ls → rs[i]? = some x → ∃ a l, x = .ref a ∧ ls[i]? = some l ∧ H a = some (.lst (nV l))
  | _, _, _, _, .nil, e => by simp at e
  | _, _, 0, _, .cons h _, e => by
    simp at e
    subst e
    exact ⟨_, _, rfl, rfl, h⟩
  | _, _, i + 1, x, .cons _ t, e => by
    obtain ⟨a, l, h1, h2, h3⟩ := t.get (i := i) (x := x) (by simpa using e)
    exact ⟨a, l, h1, by simpa using h2, h3⟩
theorem Refs.one {H : Hp} {a : Addr} {l : List Nat} (h : H a = some (.lst (nV l))) : Refs H [.ref a] [l] := .cons h .nil
theorem nV_get {l : List Nat} {i : Nat} (h : i < l.length) : (nV l)[i]? = some (.int (l.getD i 0 : Nat)) := by
  unfold nV
  rw [List.getElem?_map, List.getElem?_eq_getElem h, List.getD_eq_getElem?_getD, List.getElem?_eq_getElem h]
  rfl
theorem tyes {σ : L2.St} {H : Hp} {A B : Hp → Prop} (h : A H) : tYes σ H (fun b H3 => if b = true then A H3 else B H3) := h
theorem tCons_i {ta : TE} {tr : TA} {σ : L2.St} {H : Hp} {Q : List V → Hp → Prop} (h : ta σ H fun x H1 => tr σ H1 fun xs H2 => Q (x :: xs) H2) : tCons ta tr σ H Q := h
theorem pick {K : PySem.W.Frag} {a sa : Addr} {ps l : List Nat} {σ : L2.St} {H : Hp} {j : Nat} {vs : List Nat} {te : TE} {Q : VK} {i0 : Nat} (hi0 : σ[i0]? = some (some (.ref a))) (ha : H a = some (.lst (nV ps))) (hs : H sa = some (.lst (nV l))) (hps : ∀ i ∈ ps, i < l.length) (hz : ps.length ≤ 100)
    (hw : ∀ v, wipe ((wipe σ vs).set j v) vs = wipe σ vs) (hte : ∀ (n : Nat) (H' : Hp) (Q' : VK), n < l.length → H' sa = some (.lst (nV l)) → Q' (V.int (l.getD n 0 : Nat)) H' → te ((wipe σ vs).set j (some (.int (n : Nat)))) H' Q')
    (k : ∀ (H' : Hp) (D : Addr), H D = none → Same H H' → H' D = some (.lst (nV (ps.map fun i => l.getD i 0))) → Q (.ref D) H') : tLc (iList K (tVar i0)) (gName j) tYes te vs σ H Q := by
  refine ⟨_, hi0, a, rfl, ⟨_, SqL.of ha⟩, fun D hD => ?_⟩
  refine lc_list (xs := nV ps) (fun i H' => Same H H' ∧ H' D = some (.lst (nV ((ps.take i).map fun i => l.getD i 0)))) ⟨same_upd hD, upd_same⟩ (fun i H' _ p => SqL.of (p.1 a _ ha)) ?_ ?_
  · rintro i x H' hi ⟨sm, hd⟩
    obtain ⟨n, hn, rfl⟩ := nV_at hi
    have hm : n ∈ ps := List.mem_of_getElem? hn
    refine ⟨hw _, ?_⟩
    refine tyes (hte n H' _ (hps n hm) (sm _ _ hs) ⟨_, hd, ?_, fun b o e => ?_, ?_⟩)
    · rw [nV_length, List.length_map, List.length_take]
      exact line12' (by omega)
    · rw [upd_ne (ne_of_none e hD)]
      exact sm b o e
    · rw [upd_same, take_snoc hn, List.map_append, nV_append]
      rfl
  · rintro H' ⟨sm, hd⟩
    rw [nV_length, List.take_length] at hd
    exact k H' D hD sm hd
section
variable {P : Program} {w : World} {K : PySem.W.Frag} {mg : Str → Option Value} {base : Heap} {C aS aF aG aB aT aP aN : Addr}
noncomputable def sp_how_many : Sp := fun vs H Q _ => ∃ m p : Nat, vs = [.int p] ∧ p ≤ full m ∧ Q (.int (count m p : Nat)) H
theorem ok_how_many_worlds {f : Addr} {fd : FuncData} (F : Fun K "how_many_worlds" "how_many_worlds" s_how_many_worlds f fd) : FnOk P w K mg base CX0 1 f fd ["proposition"] sp_how_many := by
  refine F.ok sc_how_many_worlds (fun vs H Q E h => ?_) (fun cdv A outer s H vs Q E hr h => ?_)
  · obtain ⟨m, p, rfl, _⟩ := h
    rfl
  · obtain ⟨m, p, rfl, hp, k⟩ := h
    refine ⟨_, (pss_cons (ps_set (i := 1) sc_how_many_worlds.nd rfl (Or.inl rfl) pe_int)
      (pss_cons (ps_set (i := 2) sc_how_many_worlds.nd rfl (Or.inl rfl) (pv 0))
      (pss_cons (ps_while PassesOwn.never (pt_cmpR op_gt (pv 2) pe_int (nomark _)) (pss_cons (ps_set (i := 1) sc_how_many_worlds.nd rfl (Or.inl rfl) (pe_op op_add (pv 1) (pe_op op_mod (pv 2) pe_int)))
      (pss_one (ps_set (i := 2) sc_how_many_worlds.nd rfl (Or.inl rfl) (pe_op op_fdiv (pv 2) pe_int)))))
      (pss_one (ps_ret (pv 1)))))), ?_⟩
    refine ⟨_, rfl, ?_⟩
    refine ⟨fun n σ H' => H' = H ∧ ∃ (f r j : Nat), n = r ∧ σ = [some (.int p), some (.int f), some (.int r)] ∧ r < 2 ^ j ∧ f + size j r = count m p, ⟨_, rfl, 0, p, 2 ^ m, rfl, rfl, lt_full hp, by rw [Nat.zero_add, count_size]⟩, ?_⟩
    rintro n σ H' ⟨rfl, f, r, j, rfl, rfl, hj, hf⟩
    refine ⟨_, rfl, _, _, rfl, rfl, _, rfl, ?_⟩
    by_cases h0 : 0 < n
    · refine iteD (by omega) ?_
      refine ⟨fun σ' H'' => H'' = H' ∧ ∃ (f' j' : Nat), σ' = [some (.int p), some (.int f'), some (.int (n / 2 : Nat))] ∧ n / 2 < 2 ^ j' ∧ f' + size j' (n / 2) = count m p, fun σ' H'' ⟨e, f', j', e2, h1, h2⟩ => ⟨n / 2, by omega, e, f', n / 2, j', rfl, e2, h1, h2⟩, ?_⟩
      refine ⟨_, rfl, _, rfl, _, _, rfl, rfl, (by show (0 : Int) < 2; decide), _, _, rfl, rfl, ?_⟩
      refine ⟨_, rfl, _, _, rfl, rfl, ⟨by decide, by decide⟩, ?_⟩
      cases j with
      | zero => rw [Nat.pow_zero] at hj; omega
      | succ j =>
        rw [size_succ] at hf
        rw [Nat.pow_succ] at hj
        refine ⟨rfl, f + n % 2, j, ?_, by omega, by omega⟩
        have e1 : ((f + n % 2 : Nat) : Int) = (f : Int) + (n : Int) % 2 := by omega
        have e2 : ((n / 2 : Nat) : Int) = (n : Int) / 2 := by omega
        rw [e1, e2]
        rfl
    · refine iteDN (by omega) ⟨_, rfl, ?_⟩
      have e0 : n = 0 := by omega
      rw [e0, size_none, Nat.add_zero] at hf
      rw [hf]
      exact k
noncomputable def sp_sets : Sp := fun vs H Q _ => ∃ n : Nat, vs = [.int n] ∧ n ≤ 12 ∧ ∀ (H' : Hp) (S : Addr) (rs : List V), Same H H' → H' S = some (.lst rs) → Refs H' rs (sets n) → Q (.ref S) H'
theorem pow12 {n : Nat} (h : n ≤ 12) : 2 ^ n ≤ 4096 := Nat.le_trans (Nat.pow_le_pow_right (by decide) h) (by decide)
theorem ok_sets_of_places {f : Addr} {fd : FuncData} (F : Fun K "sets_of_places" "sets_of_places" s_sets_of_places f fd) (T : Txt P w K mg C aS aF aG aB aT aP aN) : FnOk P w K mg base CX0 1 f fd ["size"] sp_sets := by
  refine F.ok sc_sets_of_places (fun vs H Q E h => ?_) (fun cdv A outer s H vs Q E hr h => ?_)
  · obtain ⟨n, rfl, _⟩ := h
    rfl
  · obtain ⟨n, rfl, hn, k⟩ := h
    refine ⟨_, (pss_cons (ps_set (i := 1) sc_sets_of_places.nd rfl (Or.inl rfl) (pe_lst (pa_cons (pe_lst pa_nil) pa_nil)))
      (pss_cons (ps_for PassesOwn.never rfl (pi_range1 rfl T.b_range (pa_cons (pv 0) pa_nil)) (pg_name (i := 2) sc_sets_of_places.nd rfl (Or.inr rfl)) (pss_one (ps_set (i := 1) sc_sets_of_places.nd rfl (Or.inl rfl) (pe_op op_cat (pv 1) (pe_lc rfl sc_sets_of_places.nd (pi_list (pv 1)) (blkOk_by (own := [("places", 3)]) (by kernel_rfl)) (fun _ _ _ _ _ => pg_name (i := 3) sc_sets_of_places.nd rfl (Or.inl rfl)) (fun _ _ _ _ _ => pts_nil) (fun _ _ _ _ _ => (pe_op op_cat (pv 3) (pe_lst (pa_cons (pv 2) pa_nil)))))))))
      (pss_one (ps_ret (pv 1))))), ?_⟩
    refine ⟨Nat.zero_le _, fun a na => ⟨line12 (by simp), fun S nS => ?_⟩⟩
    refine ⟨_, rfl, (n : Int), rfl, by omega, by omega, for_range (lo := 0) (n := n) (fun i σ H' => Same H H' ∧ ∃ (S : Addr) (rs : List V) (v2 v3 : Option V), σ = [some (.int n), some (.ref S), v2, v3] ∧ H' S = some (.lst rs) ∧ Refs H' rs (sets i)) ?_ ?_ ?_⟩
    · refine ⟨(same_upd na).trans (same_upd nS), S, [.ref a], none, none, rfl, upd_same, Refs.one (l := []) ?_⟩
      rw [upd_ne (ne_of_none upd_same nS)]
      exact upd_same
    · rintro i σ H1 hi ⟨sm, S1, rs, v2, v3, rfl, hS1, hR⟩
      have hlen := hR.length
      rw [sets_length] at hlen
      have hp := pow12 (n := i) (by omega)
      refine ⟨_, rfl, _, rfl, S1, rfl, ⟨_, SqL.of hS1⟩, fun D hD => lc_list (xs := rs) (fun j H' => Same H1 H' ∧ ∃ acc, H' D = some (.lst acc) ∧ acc.length = min j rs.length ∧ Refs (del H' D) acc (((sets i).take j).map fun l => l ++ [i])) ?_ (fun j H' _ p => SqL.of (p.1 _ _ hS1)) ?_ ?_⟩
      · exact ⟨same_upd hD, [], upd_same, by simp, .nil⟩
      · rintro j x H2 hj ⟨sm2, acc, hacc, hal, hRa⟩
        obtain ⟨pa, l, rfl, hl, hpa⟩ := hR.get hj
        have hjl : j < rs.length := (List.getElem?_eq_some_iff.mp hj).1
        obtain ⟨hjb, rfl⟩ := sets_at hl
        refine ⟨rfl, ?_⟩
        refine tyes ⟨_, rfl, _, rfl, line12 (by simp), fun e ne => ⟨pa, e, nV (pl i j), _, rfl, rfl, ?_, upd_same, ?_, fun p np => ⟨acc, ?_, ?_, ?_⟩⟩⟩
        · rw [upd_ne (ne_of_none (sm2 _ _ hpa) ne)]
          exact sm2 _ _ hpa
        · rw [nV_length, pl_len]
          have := size_le i j
          exact line12 (by simp; omega)
        · rw [upd_ne (ne_of_none (by rw [upd_ne (ne_of_none hacc ne)]; exact hacc) np), upd_ne (ne_of_none hacc ne)]
          exact hacc
        · rw [hal]
          exact line12' (by omega)
        · have sm3 : Same H2 (upd (upd H2 e (.lst [V.int (0 + (i : Nat) : Int)])) p (.lst (nV (pl i j) ++ [V.int (0 + (i : Nat) : Int)]))) := (same_upd ne).trans (same_upd np)
          have hDp : p ≠ D := fun q => by
            rw [q, upd_ne (ne_of_none hacc ne), hacc] at np
            cases np
          refine ⟨fun b o hb => ?_, acc ++ [.ref p], upd_same, ?_, ?_⟩
          · rw [upd_ne (ne_of_none hb hD)]
            exact sm3 b o (sm2 b o hb)
          · rw [List.length_append, hal]
            simp
            omega
          · rw [del_upd, take_snoc hl, List.map_append]
            refine Refs.append (Refs.same (del_mono sm3) hRa) (Refs.one ?_)
            rw [del_at hDp, upd_same, nV_append, Int.zero_add]
            rfl
      · rintro H2 ⟨sm2, acc, hacc, hal, hRa⟩
        rw [hlen, ← sets_length i, List.take_length] at hRa
        rw [Nat.min_self] at hal
        refine ⟨S1, D, rs, acc, rfl, rfl, sm2 _ _ hS1, hacc, line12 (by omega), fun S2 nS2 => ⟨sm.trans (sm2.trans (same_upd nS2)), S2, _, _, _, rfl, upd_same, ?_⟩⟩
        rw [sets_succ]
        exact Refs.append (Refs.same (sm2.trans (same_upd nS2)) hR) (Refs.same ((del_same H2 D).trans (same_upd nS2)) hRa)
    · rintro σ H1 ⟨sm, S1, rs, v2, v3, rfl, hS1, hR⟩
      exact ⟨_, rfl, k H1 S1 rs sm hS1 hR⟩
noncomputable def sp_places_bind : Sp := fun vs H Q _ => ∃ (m : Nat) (sa pa : Addr) (l ps : List Nat) (q : Nat), vs = [.int m, .ref sa, .ref pa, .int q] ∧ m ≤ 3 ∧ H sa = some (.lst (nV l)) ∧ H pa = some (.lst (nV ps)) ∧ (∀ i ∈ ps, i < l.length) ∧ ps.length ≤ 100 ∧
  ∀ H', Same H H' → Q (.bl (within (meet m (ps.map fun i => l.getD i 0)) q)) H'
theorem ok_places_bind {f : Addr} {fd : FuncData} (F : Fun K "places_bind" "places_bind" s_places_bind f fd) (T : Txt P w K mg C aS aF aG aB aT aP aN) (G_follows : FnAt P w K mg base "follows" 1 sp_follows) (G_worlds_allowed : FnAt P w K mg base "worlds_allowed" 1 (sp_worlds_allowed K)) :
    FnOk P w K mg base CX0 2 f fd ["letters", "store", "places", "proposition"] sp_places_bind := by
  refine F.ok sc_places_bind (fun vs H Q E h => ?_) (fun cdv A outer s H vs Q E hr h => ?_)
  · obtain ⟨m, sa, pa, l, ps, q, rfl, _⟩ := h
    rfl
  · obtain ⟨m, sa, pa, l, ps, q, rfl, hm, hs, hp, hps, hz, k⟩ := h
    refine ⟨_, (pss_one (ps_ret (pe_fn G_follows (hr.mono (by decide)) rfl (pa_cons (pv 3) (pa_cons (pe_fn G_worlds_allowed (hr.mono (by decide)) rfl (pa_cons (pv 0) (pa_cons (pe_lc rfl sc_places_bind.nd (pi_list (pv 2)) (blkOk_by (own := [("place", 4)]) (by kernel_rfl)) (fun _ _ _ _ _ => pg_name (i := 4) sc_places_bind.nd rfl (Or.inl rfl)) (fun _ _ _ _ _ => pts_nil) (fun _ _ _ _ _ => (pe_ix (ixl K) (pv 1) (pv 4) (fun _ _ => rfl)))) pa_nil))) pa_nil))))), ?_⟩
    refine ⟨_, rfl, _, rfl, tCons_i ?_⟩
    refine pick (K := K) (a := pa) ?_ hp hs hps hz ?_ ?_ ?_
    · rfl
    · exact fun _ => rfl
    · exact fun n H' Q' hn hs' q' => ⟨_, rfl, _, rfl, sa, _, _, _, rfl, rfl, SqL.of hs', atI_nat (nV_get hn), q'⟩
    intro H' D nD sm hD
    exact ⟨m, D, _, rfl, hm, SqL.of hD, q, _, rfl, k H' sm⟩
noncomputable def sp_fewest : Sp := fun vs H Q _ => ∃ (m : Nat) (sa : Addr) (l : List Nat) (q b : Nat), vs = [.int m, .ref sa, .int q] ∧ m ≤ 3 ∧ H sa = some (.lst (nV l)) ∧ l.length ≤ 12 ∧ fewest l.length ((List.range (2 ^ l.length)).filter fun b => within (meet m (part l b)) q) = some b ∧
  ∀ (H' : Hp) (a : Addr), Same H H' → H' a = some (.lst (nV (pl l.length b))) → Q (.ref a) H'
theorem ok_fewest_places_that_bind {f : Addr} {fd : FuncData} (F : Fun K "fewest_places_that_bind" "fewest_places_that_bind" s_fewest_places_that_bind f fd) (T : Txt P w K mg C aS aF aG aB aT aP aN) (G_sets_of_places : FnAt P w K mg base "sets_of_places" 1 sp_sets) (G_places_bind : FnAt P w K mg base "places_bind" 2 sp_places_bind) :
    FnOk P w K mg base CX0 3 f fd ["letters", "store", "proposition"] sp_fewest := by
  refine F.ok sc_fewest_places_that_bind (fun vs H Q E h => ?_) (fun cdv A outer s H vs Q E hr h => ?_)
  · obtain ⟨m, sa, l, q, b, rfl, _⟩ := h
    rfl
  · obtain ⟨m, sa, l, q, b, rfl, hm, hs, hl, hf, k⟩ := h
    refine ⟨_, (pss_cons (ps_set (i := 3) sc_fewest_places_that_bind.nd rfl (Or.inl rfl) (pe_callTy (call_list_rng rfl) (by rfl) T.b_list bt_list (pa_cons (pe_callTy call_range_obj (by rfl) T.b_range bt_range (pa_cons (pe_callB call_len_seq (by rfl) T.b_len PySem.boot_len (pa_cons (pv 1) pa_nil)) pa_nil)) pa_nil)))
      (pss_cons (ps_for PassesOwn.never rfl (pi_list (pe_fn G_sets_of_places (hr.mono (by decide)) rfl (pa_cons (pe_callB call_len_seq (by rfl) T.b_len PySem.boot_len (pa_cons (pv 1) pa_nil)) pa_nil))) (pg_name (i := 4) sc_fewest_places_that_bind.nd rfl (Or.inl rfl)) (pss_one (ps_if (PW.pt (pw_and (pt_cmpR op_lt (pe_callB call_len_seq (by rfl) T.b_len PySem.boot_len (pa_cons (pv 4) pa_nil)) (pe_callB call_len_seq (by rfl) T.b_len PySem.boot_len (pa_cons (pv 3) pa_nil)) (nomark _)) (pw_and1 (pt_truth (pe_fn G_places_bind (hr.mono (by decide)) rfl (pa_cons (pv 0) (pa_cons (pv 1) (pa_cons (pv 4) (pa_cons (pv 2) pa_nil))))) (fun _ => rfl))))) (pss_one (ps_set (i := 3) sc_fewest_places_that_bind.nd rfl (Or.inl rfl) (pv 4))) pss_nil)))
      (pss_one (ps_ret (pv 3))))), ?_⟩
    have hln : (nV l).length = l.length := nV_length l
    refine ⟨_, rfl, sa, _, rfl, .inl (SqL.of hs), _, rfl, fun R nR => ⟨R, (nV l).length, rfl, upd_same, line12 (by omega), fun Fa nF => ?_⟩⟩
    have sm1 : Same H (upd (upd H R (.rng 0 ((nV l).length : Int))) Fa (.lst ((List.range (nV l).length).map fun (i : Nat) => V.int (i : Int)))) := (same_upd nR).trans (same_upd nF)
    refine ⟨_, rfl, sa, _, rfl, .inl (SqL.of (sm1 _ _ hs)), (nV l).length, rfl, by omega, fun H2 S rs sm2 hS hR => ⟨S, rfl, ⟨_, SqL.of hS⟩, ?_⟩⟩
    rw [hln] at hR
    have hrl := hR.length
    rw [sets_length] at hrl
    refine for_list (K := K) (a := S) (xs := rs) (fun i σ H' => Same H2 H' ∧ ∃ (fa : Addr) (v4 : Option V), σ = [some (.int m), some (.ref sa), some (.int q), some (.ref fa), v4] ∧
      H' fa = some (.lst (nV (pl l.length ((List.range i).foldl (srch l.length fun b => within (meet m (part l b)) q) (2 ^ l.length - 1)))))) ?_ (fun i σ H' _ p => SqL.of (p.1 _ _ hS)) ?_ ?_
    · refine ⟨Same.refl _, Fa, none, rfl, ?_⟩
      rw [sm2 _ _ upd_same, hln]
      show _ = some (HO.lst (nV (pl l.length (2 ^ l.length - 1))))
      rw [pl_full]
      rfl
    · rintro i x σ H3 hi ⟨sm3, fa, v4, rfl, hfa⟩
      obtain ⟨pa, ls, rfl, hls, hpa⟩ := hR.get hi
      obtain ⟨hib, rfl⟩ := sets_at hls
      have hpa3 := sm3 _ _ hpa
      refine ⟨_, rfl, pa, _, rfl, .inl (SqL.of hpa3), _, rfl, fa, _, rfl, .inl (SqL.of hfa), _, _, rfl, rfl, _, rfl, ?_⟩
      have hsucc : (List.range (i + 1)).foldl (srch l.length fun b => within (meet m (part l b)) q) (2 ^ l.length - 1) = srch l.length (fun b => within (meet m (part l b)) q) ((List.range i).foldl (srch l.length fun b => within (meet m (part l b)) q) (2 ^ l.length - 1)) i := by
        rw [List.range_succ, List.foldl_append, List.foldl_cons, List.foldl_nil]
      rw [hsucc]
      rw [srch_def]
      rw [nV_length, nV_length, pl_len, pl_len]
      by_cases hlt : size l.length i < size l.length ((List.range i).foldl (srch l.length fun b => within (meet m (part l b)) q) (2 ^ l.length - 1))
      · refine iteD (by exact_mod_cast hlt) ?_
        refine ⟨_, rfl, _, rfl, _, rfl, _, rfl, m, sa, pa, l, pl l.length i, q, rfl, hm, sm3 _ _ (sm2 _ _ (sm1 _ _ hs)), hpa3, fun j hj => pl_lt hj, by rw [pl_len]; have := size_le l.length i; omega, fun H4 sm4 => ⟨_, rfl, ?_⟩⟩
        rw [← part_pl]
        refine iteB (fun hb => ⟨_, rfl, sm3.trans sm4, pa, _, rfl, ?_⟩) (fun hb => ⟨sm3.trans sm4, fa, _, rfl, ?_⟩)
        · rw [if_pos ⟨hlt, hb⟩]
          exact sm4 _ _ hpa3
        · rw [if_neg (fun z => by have z2 : within (meet m (part l i)) q = true := z.2; rw [hb] at z2; cases z2)]
          exact sm4 _ _ hfa
      · refine iteDN (by intro z; exact hlt (by exact_mod_cast z)) (iteF ⟨sm3, fa, _, rfl, ?_⟩)
        rw [if_neg (fun z => hlt z.1)]
        exact hfa
    · rintro σ H3 ⟨sm3, fa, v4, rfl, hfa⟩
      rw [hrl, srch_is hf] at hfa
      exact ⟨_, rfl, k H3 fa (sm1.trans (sm2.trans sm3)) hfa⟩
end
end Two
end
section
set_option Elab.async false
set_option linter.all false
set_option maxRecDepth 100000
set_option maxHeartbeats 2000000
namespace Two
open PySem PySem.Spec PyProof.Rows L2
open Krl7 (House Abs part size fewest meet has)
open Krb7 (full both not_ within count)
theorem bor (p q : Nat) : Builtin.bitOr (p : Int) (q : Int) = ((p ||| q : Nat) : Int) := by
  unfold Builtin.bitOr Builtin.bitAnd Builtin.bitNot
  rw [decide_eq_false (by omega), decide_eq_false (by omega)]
  simp only
  rw [show (-(-(p : Int) - 1) - 1).toNat = p by omega, show (-(-(q : Int) - 1) - 1).toNat = q by omega]
  omega
noncomputable def Tells (H : Hp) (Q : VK) (ys : List Int) : Prop := ∀ (H' : Hp) (q : Addr), Same H H' → H q = none → H' q = some (.lst (ys.map V.int)) → Q (.ref q) H'
theorem Tells.new {H H1 : Hp} {Q : VK} {ys : List Int} {q : Addr} {xs : List V} (k : Tells H Q ys) (sm : Same H H1) (nq : H1 q = none) (e : xs = ys.map V.int) : Q (.ref q) (upd H1 q (.lst xs)) := by
  refine k _ q (sm.trans (same_upd nq)) (sm.free nq) ?_
  rw [upd_same, e]
noncomputable def sp_tb (C : Addr) (c : Krl7.Call) : Sp := fun vs H Q _ => ∃ (r l0 l1 : Addr) (h : House), vs = [.ref r] ∧ Rec C H r l0 l1 h ∧ Good h ∧ Tells H Q (tellOf h c)
noncomputable def sp_tp (C : Addr) (c : Nat → Nat → Krl7.Call) : Sp := fun vs H Q _ => ∃ (r l0 l1 : Addr) (h : House) (s p : Nat), vs = [.ref r, .int s, .int p] ∧ Rec C H r l0 l1 h ∧ Good h ∧ (s = 0 ∨ s = 1) ∧ p ≤ full h.m ∧ Tells H Q (tellOf h (c s p))
theorem ints_nV (l : List Nat) : (Krl7.ints l).map V.int = nV l := by
  unfold Krl7.ints nV
  rw [List.map_map]
  rfl
section
variable {P : Program} {w : World} {K : PySem.W.Frag} {mg : Str → Option Value} {base : Heap} {C aS aF aG aB aT aP aN : Addr}
theorem ok_turn {f : Addr} {fd : FuncData} (F : Fun K "turn" "turn" s_turn f fd) (T : Txt P w K mg C aS aF aG aB aT aP aN) : FnOk P w K mg base CX0 4 f fd ["record"] (sp_tb C .turn) := by
  refine F.ok sc_turn (fun vs H Q E h => ?_) (fun cdv A outer s H vs Q E hr h => ?_)
  · obtain ⟨r, l0, l1, h, rfl, _⟩ := h
    rfl
  · obtain ⟨r, l0, l1, h, rfl, R, g, k⟩ := h
    obtain ⟨dx, t, hI, hT⟩ := R.ins
    refine ⟨_, (pss_one (ps_ret (pe_lst (pa_cons (pe_fld (pv 0) rfl) (pa_cons (pe_fld (pv 0) rfl) pa_nil))))), ?_⟩
    exact ⟨_, rfl, r, C, dx, _, _, rfl, hI, T.cl, T.n_mover, fl_mover, _, rfl, r, C, dx, _, _, rfl, hI, T.cl, T.n_moves_made, fl_moves, line12 (by simp), fun q nq => k.new (Same.refl H) nq rfl⟩
theorem ok_what_is_open {f : Addr} {fd : FuncData} (F : Fun K "what_is_open" "what_is_open" s_what_is_open f fd) (T : Txt P w K mg C aS aF aG aB aT aP aN) : FnOk P w K mg base CX0 4 f fd ["record"] (sp_tb C .open_) := by
  refine F.ok sc_what_is_open (fun vs H Q E h => ?_) (fun cdv A outer s H vs Q E hr h => ?_)
  · obtain ⟨r, l0, l1, h, rfl, _⟩ := h
    rfl
  · obtain ⟨r, l0, l1, h, rfl, R, g, k⟩ := h
    obtain ⟨dx, t, hI, hT⟩ := R.ins
    refine ⟨_, (pss_one (ps_ret (pe_lst (pa_cons (pe_fld (pv 0) rfl) (pa_cons (pe_fld (pv 0) rfl) pa_nil))))), ?_⟩
    exact ⟨_, rfl, r, C, dx, _, _, rfl, hI, T.cl, T.n_matter, fl_matter, _, rfl, r, C, dx, _, _, rfl, hI, T.cl, T.n_topic, fl_topic, line12 (by simp), fun q nq => k.new (Same.refl H) nq rfl⟩
theorem ok_agreed {f : Addr} {fd : FuncData} (F : Fun K "agreed" "agreed" s_agreed f fd) (T : Txt P w K mg C aS aF aG aB aT aP aN) (G_worlds_of : MtAt P w K mg base C "worlds_of" 2 (sp_worlds_of C)) (G_how_many_worlds : FnAt P w K mg base "how_many_worlds" 1 sp_how_many) :
    FnOk P w K mg base CX0 4 f fd ["record"] (sp_tb C .agreed) := by
  refine F.ok sc_agreed (fun vs H Q E h => ?_) (fun cdv A outer s H vs Q E hr h => ?_)
  · obtain ⟨r, l0, l1, h, rfl, _⟩ := h
    rfl
  · obtain ⟨r, l0, l1, h, rfl, R, g, k⟩ := h
    obtain ⟨dx, t, hI, hT⟩ := R.ins
    refine ⟨_, (pss_cons (ps_set (i := 1) sc_agreed.nd rfl (Or.inl rfl) (pe_op op_and (pe_mt (pv 0) T.cl G_worlds_of (hr.mono (by decide)) (pa_cons pe_int pa_nil)) (pe_mt (pv 0) T.cl G_worlds_of (hr.mono (by decide)) (pa_cons pe_int pa_nil))))
      (pss_one (ps_ret (pe_lst (pa_cons (pe_fn G_how_many_worlds (hr.mono (by decide)) rfl (pa_cons (pv 1) pa_nil)) (pa_cons (pv 1) pa_nil)))))), ?_⟩
    refine ⟨_, rfl, r, dx, _, rfl, hI, no_worlds_of, r, l0, l1, h, 0, rfl, R, Or.inl rfl, g.m3, _, rfl, r, dx, _, rfl, hI, no_worlds_of, r, l0, l1, h, 1, rfl, R, Or.inr rfl, g.m3, _, _, rfl, rfl, ?_⟩
    simp only [band]
    exact ⟨_, rfl, h.m, both (h.holds 0) (h.holds 1), rfl, both_le (holds_le h 0), _, rfl, line12 (by simp), fun q nq => k.new (Same.refl H) nq rfl⟩
theorem ok_common {f : Addr} {fd : FuncData} (F : Fun K "common" "common" s_common f fd) (T : Txt P w K mg C aS aF aG aB aT aP aN) (G_worlds_of : MtAt P w K mg base C "worlds_of" 2 (sp_worlds_of C)) (G_how_many_worlds : FnAt P w K mg base "how_many_worlds" 1 sp_how_many) :
    FnOk P w K mg base CX0 4 f fd ["record"] (sp_tb C .common) := by
  refine F.ok sc_common (fun vs H Q E h => ?_) (fun cdv A outer s H vs Q E hr h => ?_)
  · obtain ⟨r, l0, l1, h, rfl, _⟩ := h
    rfl
  · obtain ⟨r, l0, l1, h, rfl, R, g, k⟩ := h
    obtain ⟨dx, t, hI, hT⟩ := R.ins
    refine ⟨_, (pss_cons (ps_set (i := 1) sc_common.nd rfl (Or.inl rfl) (pe_op op_or (pe_mt (pv 0) T.cl G_worlds_of (hr.mono (by decide)) (pa_cons pe_int pa_nil)) (pe_mt (pv 0) T.cl G_worlds_of (hr.mono (by decide)) (pa_cons pe_int pa_nil))))
      (pss_one (ps_ret (pe_lst (pa_cons (pe_fn G_how_many_worlds (hr.mono (by decide)) rfl (pa_cons (pv 1) pa_nil)) (pa_cons (pv 1) pa_nil)))))), ?_⟩
    refine ⟨_, rfl, r, dx, _, rfl, hI, no_worlds_of, r, l0, l1, h, 0, rfl, R, Or.inl rfl, g.m3, _, rfl, r, dx, _, rfl, hI, no_worlds_of, r, l0, l1, h, 1, rfl, R, Or.inr rfl, g.m3, _, _, rfl, rfl, ?_⟩
    simp only [bor]
    exact ⟨_, rfl, h.m, h.holds 0 ||| h.holds 1, rfl, or_le (holds_le h 0) (holds_le h 1), _, rfl, line12 (by simp), fun q nq => k.new (Same.refl H) nq rfl⟩
theorem ok_kinds {f : Addr} {fd : FuncData} (F : Fun K "kinds" "kinds" s_kinds f fd) (T : Txt P w K mg C aS aF aG aB aT aP aN) (B : Tab P w K mg aF aG aB) : FnOk P w K mg base CX0 4 f fd ["record"] (sp_tb C .kinds) := by
  refine F.ok sc_kinds (fun vs H Q E h => ?_) (fun cdv A outer s H vs Q E hr h => ?_)
  · obtain ⟨r, l0, l1, h, rfl, _⟩ := h
    rfl
  · obtain ⟨r, l0, l1, h, rfl, R, g, k⟩ := h
    obtain ⟨dx, t, hI, hT⟩ := R.ins
    obtain ⟨fs, hfl, hF, hfs⟩ := B.t_MOVES_FOR
    obtain ⟨a, ha⟩ : ∃ a, fs[h.open_.kind]? = some a := ⟨_, List.getElem?_eq_getElem (by rw [hfl]; exact kind_lt _)⟩
    refine ⟨_, (pss_cons (ps_set (i := 1) sc_kinds.nd rfl (Or.inl rfl) (pe_callTy call_list_of (by rfl) T.b_list bt_list (pa_cons (pe_ix ix_tup (pe_gref rfl T.g_MOVES_FOR) (pe_fld (pv 0) rfl) (fun _ _ => rfl)) pa_nil)))
      (pss_one (ps_ret (pe_op op_cat (pe_lst (pa_cons (pe_callB call_len_seq (by rfl) T.b_len PySem.boot_len (pa_cons (pv 1) pa_nil)) pa_nil)) (pv 1))))), ?_⟩
    refine ⟨_, rfl, r, C, dx, _, _, rfl, hI, T.cl, T.n_matter, fl_matter, aF, _, _, _, rfl, rfl, hF H, atI_nat (v := V.ref a) (by rw [List.getElem?_map, ha]; rfl), a, _, rfl, .inr (hfs _ a ha H), fun l nl => ?_⟩
    have hk := kinds_len h.open_.kind
    refine ⟨_, rfl, l, _, rfl, .inl (SqL.of upd_same), line12 (by simp), fun e ne => ⟨_, rfl, e, l, _, _, rfl, rfl, upd_same, (by rw [upd_ne (ne_of_none upd_same ne)]; exact upd_same), line12 (by rw [nV_length]; simp; omega), fun q nq => ?_⟩⟩
    refine k.new ((same_upd nl).trans (same_upd ne)) nq ?_
    rw [kinds_is, List.map_cons, ints_nV, nV_length]
    rfl
theorem ok_state {f : Addr} {fd : FuncData} (F : Fun K "state" "state" s_state f fd) (T : Txt P w K mg C aS aF aG aB aT aP aN) : FnOk P w K mg base CX0 4 f fd ["record"] (sp_tb C .state) := by
  refine F.ok sc_state (fun vs H Q E h => ?_) (fun cdv A outer s H vs Q E hr h => ?_)
  · obtain ⟨r, l0, l1, h, rfl, _⟩ := h
    rfl
  · obtain ⟨r, l0, l1, h, rfl, R, g, k⟩ := h
    obtain ⟨dx, t, hI, hT⟩ := R.ins
    refine ⟨_, (pss_cons (ps_set (i := 1) sc_state.nd rfl (Or.inl rfl) (pe_lst (pa_cons (pe_callB call_len_seq (by rfl) T.b_len PySem.boot_len (pa_cons (pe_ix ix_tup (pe_fld (pv 0) rfl) pe_int (fun _ _ => rfl)) pa_nil)) (pa_cons (pe_callB call_len_seq (by rfl) T.b_len PySem.boot_len (pa_cons (pe_ix ix_tup (pe_fld (pv 0) rfl) pe_int (fun _ _ => rfl)) pa_nil)) pa_nil))))
      (pss_one (ps_ret (pe_op op_cat (pe_op op_cat (pe_lst (pa_cons (pe_fld (pv 0) rfl) pa_nil)) (pv 1)) (pe_lst (pa_cons (pe_fld (pv 0) rfl) (pa_cons (pe_fld (pv 0) rfl) (pa_cons (pe_fld (pv 0) rfl) pa_nil)))))))), ?_⟩
    refine ⟨_, rfl, r, C, dx, _, _, rfl, hI, T.cl, T.n_stores, fl_stores, t, _, _, _, rfl, rfl, SqT.of hT, pair_at (s := 0) (Or.inl rfl), _, _, rfl, .inl (SqL.of (R.store 0)), _, rfl, r, C, dx, _, _, rfl, hI, T.cl, T.n_stores, fl_stores, t, _, _, _, rfl, rfl, SqT.of hT, pair_at (s := 1) (Or.inr rfl), _, _, rfl, .inl (SqL.of (R.store 1)), line12 (by simp), fun z nz => ?_⟩
    have s1 : Same H _ := same_upd (o := .lst [V.int ((nV (h.store 0)).length : Int), V.int ((nV (h.store 1)).length : Int)]) nz
    refine ⟨_, rfl, r, C, dx, _, _, rfl, s1 _ _ hI, T.cl, T.n_letters, fl_letters, line12 (by simp), fun y ny => ⟨_, rfl, y, z, _, _, rfl, rfl, upd_same, by rw [upd_ne (ne_of_none upd_same ny)]; exact upd_same, line12 (by simp), fun x nx => ?_⟩⟩
    have s3 := s1.trans ((same_upd ny).trans (same_upd (o := .lst ([V.int (h.m : Int)] ++ [V.int ((nV (h.store 0)).length : Int), V.int ((nV (h.store 1)).length : Int)])) nx))
    have hI3 := s3 _ _ hI
    refine ⟨_, rfl, r, C, dx, _, _, rfl, hI3, T.cl, T.n_mover, fl_mover, _, rfl, r, C, dx, _, _, rfl, hI3, T.cl, T.n_matter, fl_matter, _, rfl, r, C, dx, _, _, rfl, hI3, T.cl, T.n_moves_made, fl_moves, line12 (by simp), fun v nv => ⟨x, v, _, _, rfl, rfl, by rw [upd_ne (ne_of_none upd_same nv)]; exact upd_same, upd_same, line12 (by simp), fun q nq => ?_⟩⟩
    refine k.new (s3.trans (same_upd nv)) nq ?_
    rw [nV_length, nV_length]
    rfl
noncomputable def sp_store_of (C : Addr) : Sp := fun vs H Q _ => ∃ (r l0 l1 : Addr) (h : House) (s : Nat), vs = [.ref r, .int s] ∧ Rec C H r l0 l1 h ∧ Good h ∧ (s = 0 ∨ s = 1) ∧ Tells H Q (tellOf h (.store s))
theorem ok_store_of {f : Addr} {fd : FuncData} (F : Fun K "store_of" "store_of" s_store_of f fd) (T : Txt P w K mg C aS aF aG aB aT aP aN) : FnOk P w K mg base CX0 4 f fd ["record", "person"] (sp_store_of C) := by
  refine F.ok sc_store_of (fun vs H Q E h => ?_) (fun cdv A outer s H vs Q E hr h => ?_)
  · obtain ⟨r, l0, l1, h, s, rfl, _⟩ := h
    rfl
  · obtain ⟨r, l0, l1, h, s, rfl, R, g, hs, k⟩ := h
    obtain ⟨dx, t, hI, hT⟩ := R.ins
    refine ⟨_, (pss_one (ps_ret (pe_op op_cat (pe_lst (pa_cons (pe_callB call_len_seq (by rfl) T.b_len PySem.boot_len (pa_cons (pe_ix ix_tup (pe_fld (pv 0) rfl) (pv 1) (fun _ _ => rfl)) pa_nil)) pa_nil)) (pe_ix ix_tup (pe_fld (pv 0) rfl) (pv 1) (fun _ _ => rfl))))), ?_⟩
    refine ⟨_, rfl, r, C, dx, _, _, rfl, hI, T.cl, T.n_stores, fl_stores, _, rfl, t, _, _, _, rfl, rfl, SqT.of hT, pair_at hs, _, _, rfl, .inl (SqL.of (R.store s)), line12 (by simp), fun z nz => ?_⟩
    have s1 : Same H _ := same_upd (o := .lst [V.int ((nV (h.store s)).length : Int)]) nz
    have hl := g.slen s
    refine ⟨_, rfl, r, C, dx, _, _, rfl, s1 _ _ hI, T.cl, T.n_stores, fl_stores, _, rfl, t, _, _, _, rfl, rfl, SqT.of (s1 _ _ hT), pair_at hs, z, _, _, _, rfl, rfl, upd_same, s1 _ _ (R.store s), line12 (by rw [nV_length]; simp; omega), fun q nq => ?_⟩
    refine k.new (s1.trans (Same.refl _)) nq ?_
    rw [store_is h hs, List.map_cons, ints_nV, nV_length]
    rfl
theorem ok_bound {f : Addr} {fd : FuncData} (F : Fun K "bound" "bound" s_bound f fd) (T : Txt P w K mg C aS aF aG aB aT aP aN) (G_is_bound : MtAt P w K mg base C "is_bound" 3 (sp_is_bound C)) : FnOk P w K mg base CX0 4 f fd ["record", "person", "proposition"] (sp_tp C .bound) := by
  refine F.ok sc_bound (fun vs H Q E h => ?_) (fun cdv A outer s H vs Q E hr h => ?_)
  · obtain ⟨r, l0, l1, h, s, p, rfl, _⟩ := h
    rfl
  · obtain ⟨r, l0, l1, h, s, p, rfl, R, g, hs, hp, k⟩ := h
    obtain ⟨dx, t, hI, hT⟩ := R.ins
    rw [bound_is h hs hp] at k
    refine ⟨_, (pss_one (ps_ret (pe_lst (pa_cons (pe_ifExp (pt_truth (pe_mt (pv 0) T.cl G_is_bound (hr.mono (by decide)) (pa_cons (pv 1) (pa_cons (pv 2) pa_nil))) (fun _ => rfl)) pe_int pe_int) pa_nil)))), ?_⟩
    refine ⟨_, rfl, r, dx, _, rfl, hI, no_is_bound, _, rfl, _, rfl, r, l0, l1, h, s, p, rfl, R, hs, g.m3, _, rfl, iteB (fun hb => ?_) (fun hb => ?_)⟩
    · exact ⟨line12 (by simp), fun q nq => k.new (Same.refl H) nq (by rw [hb]; rfl)⟩
    · exact ⟨line12 (by simp), fun q nq => k.new (Same.refl H) nq (by rw [hb]; rfl)⟩
theorem ok_barred {f : Addr} {fd : FuncData} (F : Fun K "barred" "barred" s_barred f fd) (T : Txt P w K mg C aS aF aG aB aT aP aN) (G_is_barred : MtAt P w K mg base C "is_barred" 3 (sp_is_barred C)) : FnOk P w K mg base CX0 4 f fd ["record", "person", "proposition"] (sp_tp C .barred) := by
  refine F.ok sc_barred (fun vs H Q E h => ?_) (fun cdv A outer s H vs Q E hr h => ?_)
  · obtain ⟨r, l0, l1, h, s, p, rfl, _⟩ := h
    rfl
  · obtain ⟨r, l0, l1, h, s, p, rfl, R, g, hs, hp, k⟩ := h
    obtain ⟨dx, t, hI, hT⟩ := R.ins
    rw [barred_is h hs hp] at k
    refine ⟨_, (pss_one (ps_ret (pe_lst (pa_cons (pe_ifExp (pt_truth (pe_mt (pv 0) T.cl G_is_barred (hr.mono (by decide)) (pa_cons (pv 1) (pa_cons (pv 2) pa_nil))) (fun _ => rfl)) pe_int pe_int) pa_nil)))), ?_⟩
    refine ⟨_, rfl, r, dx, _, rfl, hI, no_is_barred, _, rfl, _, rfl, r, l0, l1, h, s, p, rfl, R, hs, g.m3, _, rfl, iteB (fun hb => ?_) (fun hb => ?_)⟩
    · exact ⟨line12 (by simp), fun q nq => k.new (Same.refl H) nq (by rw [hb]; rfl)⟩
    · exact ⟨line12 (by simp), fun q nq => k.new (Same.refl H) nq (by rw [hb]; rfl)⟩
noncomputable def sp_would (C : Addr) : Sp := fun vs H Q _ => ∃ (r l0 l1 : Addr) (h : House) (p : Nat), vs = [.ref r, .int p] ∧ Rec C H r l0 l1 h ∧ Good h ∧ Tells H Q (tellOf h (.would p))
theorem ok_would {f : Addr} {fd : FuncData} (F : Fun K "would" "would" s_would f fd) (T : Txt P w K mg C aS aF aG aB aT aP aN) (G_is_proposition : FnAt P w K mg base "is_proposition" 1 sp_is_proposition) (G_is_bound : MtAt P w K mg base C "is_bound" 3 (sp_is_bound C)) (G_is_barred : MtAt P w K mg base C "is_barred" 3 (sp_is_barred C)) :
    FnOk P w K mg base CX0 4 f fd ["record", "proposition"] (sp_would C) := by
  refine F.ok sc_would (fun vs H Q E h => ?_) (fun cdv A outer s H vs Q E hr h => ?_)
  · obtain ⟨r, l0, l1, h, p, rfl, _⟩ := h
    rfl
  · obtain ⟨r, l0, l1, h, p, rfl, R, g, k⟩ := h
    obtain ⟨dx, t, hI, hT⟩ := R.ins
    refine ⟨_, (pss_cons (ps_if (pt_not (pt_truth (pe_fn G_is_proposition (hr.mono (by decide)) rfl (pa_cons (pe_fld (pv 0) rfl) (pa_cons (pv 1) pa_nil))) (fun _ => rfl))) (pss_one (ps_ret (pe_lst (pa_cons (pe_gint rfl T.g_NOT_RIGHT) pa_nil)))) pss_nil)
      (pss_cons (ps_if (pt_truth (pe_mt (pv 0) T.cl G_is_bound (hr.mono (by decide)) (pa_cons (pe_fld (pv 0) rfl) (pa_cons (pv 1) pa_nil))) (fun _ => rfl)) (pss_one (ps_ret (pe_lst (pa_cons pe_int pa_nil)))) pss_nil)
      (pss_cons (ps_if (pt_truth (pe_mt (pv 0) T.cl G_is_barred (hr.mono (by decide)) (pa_cons (pe_fld (pv 0) rfl) (pa_cons (pv 1) pa_nil))) (fun _ => rfl)) (pss_one (ps_ret (pe_lst (pa_cons pe_int pa_nil)))) pss_nil)
      (pss_one (ps_ret (pe_lst (pa_cons pe_int pa_nil))))))), ?_⟩
    refine ⟨_, rfl, r, C, dx, _, _, rfl, hI, T.cl, T.n_letters, fl_letters, _, rfl, h.m, p, rfl, g.m3, _, rfl, ?_⟩
    by_cases hp : p ≤ full h.m
    · rw [would_is h hp] at k
      refine iteNS hp ⟨_, rfl, r, dx, _, rfl, hI, no_is_bound, _, rfl, r, C, dx, _, _, rfl, hI, T.cl, T.n_mover, fl_mover, _, rfl, r, l0, l1, h, h.turn, p, rfl, R, g.turn, g.m3, _, rfl, iteB (fun hd => ?_) (fun hd => ?_)⟩
      · exact ⟨line12 (by simp), fun q nq => k.new (Same.refl H) nq (by rw [hd]; rfl)⟩
      · refine ⟨_, rfl, r, dx, _, rfl, hI, no_is_barred, _, rfl, r, C, dx, _, _, rfl, hI, T.cl, T.n_mover, fl_mover, _, rfl, r, l0, l1, h, h.turn, p, rfl, R, g.turn, g.m3, _, rfl, iteB (fun hb => ?_) (fun hb => ?_)⟩
        · exact ⟨line12 (by simp), fun q nq => k.new (Same.refl H) nq (by rw [hd, hb]; rfl)⟩
        · exact ⟨line12 (by simp), fun q nq => k.new (Same.refl H) nq (by rw [hd, hb]; rfl)⟩
    · rw [would_bad h hp] at k
      exact iteNT hp ⟨line12 (by simp), fun q nq => k.new (Same.refl H) nq rfl⟩
end
end Two
end
section
set_option Elab.async false
set_option linter.all false
set_option maxRecDepth 100000
set_option maxHeartbeats 2000000
namespace Two
open PySem PySem.Spec PyProof.Rows L2
open Krl7 (House Abs part size fewest meet has)
open Krb7 (full both not_ within count)
section
variable {P : Program} {w : World} {K : PySem.W.Frag} {mg : Str → Option Value} {base : Heap} {C aS aF aG aB aT aP aN : Addr}
theorem ok_reason {f : Addr} {fd : FuncData} (F : Fun K "reason" "reason" s_reason f fd) (T : Txt P w K mg C aS aF aG aB aT aP aN) (G_is_bound : MtAt P w K mg base C "is_bound" 3 (sp_is_bound C)) (G_fewest_places_that_bind : FnAt P w K mg base "fewest_places_that_bind" 3 sp_fewest) :
    FnOk P w K mg base CX0 4 f fd ["record", "person", "proposition"] (sp_tp C .reason) := by
  refine F.ok sc_reason (fun vs H Q E h => ?_) (fun cdv A outer s H vs Q E hr h => ?_)
  · obtain ⟨r, l0, l1, h, s, p, rfl, _⟩ := h
    rfl
  · obtain ⟨r, l0, l1, h, s, p, rfl, R, g, hs, hp, k⟩ := h
    obtain ⟨dx, t, hI, hT⟩ := R.ins
    refine ⟨_, (pss_cons (ps_if (pt_not (pt_truth (pe_mt (pv 0) T.cl G_is_bound (hr.mono (by decide)) (pa_cons (pv 1) (pa_cons (pv 2) pa_nil))) (fun _ => rfl))) (pss_one (ps_ret (pe_lst (pa_cons (pe_gint rfl T.g_CANNOT_BE) pa_nil)))) pss_nil)
      (pss_cons (ps_set (i := 3) sc_reason.nd rfl (Or.inr rfl) (pe_ix ix_tup (pe_fld (pv 0) rfl) (pv 1) (fun _ _ => rfl)))
      (pss_cons (ps_set (i := 4) sc_reason.nd rfl (Or.inl rfl) (pe_fn G_fewest_places_that_bind (hr.mono (by decide)) rfl (pa_cons (pe_fld (pv 0) rfl) (pa_cons (pv 3) (pa_cons (pv 2) pa_nil)))))
      (pss_one (ps_ret (pe_op op_cat (pe_lst (pa_cons (pe_callB call_len_seq (by rfl) T.b_len PySem.boot_len (pa_cons (pv 4) pa_nil)) pa_nil)) (pe_lc rfl sc_reason.nd (pi_list (pv 4)) (blkOk_by (own := [("place", 5)]) (by kernel_rfl)) (fun _ _ _ _ _ => pg_name (i := 5) sc_reason.nd rfl (Or.inl rfl)) (fun _ _ _ _ _ => pts_nil) (fun _ _ _ _ _ => (pe_ix (ixl K) (pv 3) (pv 5) (fun _ _ => rfl)))))))))), ?_⟩
    refine ⟨_, rfl, r, dx, _, rfl, hI, no_is_bound, _, rfl, _, rfl, r, l0, l1, h, s, p, rfl, R, hs, g.m3, _, rfl, ?_⟩
    cases hb : h.bound s p with
    | false =>
      rw [reason_no h hs hp hb] at k
      exact iteT ⟨line12 (by simp), fun q nq => k.new (Same.refl H) nq rfl⟩
    | true =>
      obtain ⟨b, hf, e⟩ := reason_yes h hs hp hb
      rw [e] at k
      have hl := g.slen s
      refine iteF ⟨_, rfl, r, C, dx, _, _, rfl, hI, T.cl, T.n_stores, fl_stores, _, rfl, t, _, _, _, rfl, rfl, SqT.of hT, pair_at hs, ?_⟩
      refine ⟨_, rfl, r, C, dx, _, _, rfl, hI, T.cl, T.n_letters, fl_letters, _, rfl, _, rfl, h.m, _, h.store s, p, b, rfl, g.m3, R.store s, by omega, hf, fun H2 a sm ha => ?_⟩
      refine ⟨_, rfl, a, _, rfl, .inl (SqL.of ha), line12 (by simp), fun z nz => ?_⟩
      have s2 := same_upd (o := .lst [V.int ((nV (pl (h.store s).length b)).length : Int)]) nz
      have hsz : (pl (h.store s).length b).length ≤ 6 := by
        rw [pl_len]
        have := size_le (h.store s).length b
        omega
      refine pick (K := K) (a := a) ?_ (s2 _ _ ha) (s2 _ _ (sm _ _ (R.store s))) (fun i hi => pl_lt hi) (by omega) ?_ ?_ ?_
      · rfl
      · exact fun _ => rfl
      · exact fun n H' Q' hn hs' q' => ⟨_, rfl, _, rfl, _, _, _, _, rfl, rfl, SqL.of hs', atI_nat (nV_get hn), q'⟩
      intro H' D nD sm3 hD
      refine ⟨z, D, _, _, rfl, rfl, sm3 _ _ upd_same, hD, line12 (by simp only [nV_length, List.length_map, List.length_cons, List.length_nil]; omega), fun q nq => ?_⟩
      refine k.new (sm.trans (s2.trans sm3)) nq ?_
      rw [← part_pl, List.map_cons, ints_nV, nV_length, pl_len]
      rfl
theorem filter_snoc {ps : List Nat} {i n : Nat} {f : Nat → Bool} (h : ps[i]? = some n) : (ps.take (i + 1)).filter f = (ps.take i).filter f ++ if f n then [n] else [] := by
  rw [take_snoc h, List.filter_append, List.filter_cons, List.filter_nil]
theorem ok_quarrel {f : Addr} {fd : FuncData} (F : Fun K "quarrel" "quarrel" s_quarrel f fd) (T : Txt P w K mg C aS aF aG aB aT aP aN) (G_excludes : FnAt P w K mg base "excludes" 1 sp_excludes) (G_worlds_of : MtAt P w K mg base C "worlds_of" 2 (sp_worlds_of C)) (G_fewest_places_that_bind : FnAt P w K mg base "fewest_places_that_bind" 3 sp_fewest) :
    FnOk P w K mg base CX0 4 f fd ["record"] (sp_tb C .quarrel) := by
  refine F.ok sc_quarrel (fun vs H Q E h => ?_) (fun cdv A outer s H vs Q E hr h => ?_)
  · obtain ⟨r, l0, l1, h, rfl, _⟩ := h
    rfl
  · obtain ⟨r, l0, l1, h, rfl, R, g, k⟩ := h
    obtain ⟨dx, t, hI, hT⟩ := R.ins
    refine ⟨_, (pss_cons (ps_if (pt_not (pt_truth (pe_fn G_excludes (hr.mono (by decide)) rfl (pa_cons (pe_mt (pv 0) T.cl G_worlds_of (hr.mono (by decide)) (pa_cons pe_int pa_nil)) (pa_cons (pe_mt (pv 0) T.cl G_worlds_of (hr.mono (by decide)) (pa_cons pe_int pa_nil)) pa_nil))) (fun _ => rfl))) (pss_one (ps_ret (pe_lst (pa_cons (pe_gint rfl T.g_CANNOT_BE) pa_nil)))) pss_nil)
      (pss_cons (ps_set (i := 1) sc_quarrel.nd rfl (Or.inr rfl) (pe_op op_cat (pe_ix ix_tup (pe_fld (pv 0) rfl) pe_int (fun _ _ => rfl)) (pe_ix ix_tup (pe_fld (pv 0) rfl) pe_int (fun _ _ => rfl))))
      (pss_cons (ps_set (i := 2) sc_quarrel.nd rfl (Or.inl rfl) (pe_fn G_fewest_places_that_bind (hr.mono (by decide)) rfl (pa_cons (pe_fld (pv 0) rfl) (pa_cons (pv 1) (pa_cons (pe_gint rfl T.g_NEVER_SO) pa_nil)))))
      (pss_cons (ps_set (i := 3) sc_quarrel.nd rfl (Or.inl rfl) (pe_callB call_len_seq (by rfl) T.b_len PySem.boot_len (pa_cons (pe_lc rfl sc_quarrel.nd (pi_list (pv 2)) (blkOk_by (own := [("place", 4)]) (by kernel_rfl)) (fun _ _ _ _ _ => pg_name (i := 4) sc_quarrel.nd rfl (Or.inl rfl)) (fun _ _ _ _ _ => (pts_one (pt_cmpR op_lt (pv 4) (pe_callB (call_lenK K) (by rfl) T.b_len PySem.boot_len (pa_cons (pe_ix (ixt K) (pe_fldK K (pv 0) rfl) pe_int (fun _ _ => rfl)) pa_nil)) (nomark _)))) (fun _ _ _ _ _ => (pv 4))) pa_nil)))
      (pss_one (ps_ret (pe_op op_cat (pe_lst (pa_cons (pv 3) (pa_cons (pe_op op_sub (pe_callB call_len_seq (by rfl) T.b_len PySem.boot_len (pa_cons (pv 2) pa_nil)) (pv 3)) pa_nil))) (pe_lc rfl sc_quarrel.nd (pi_list (pv 2)) (blkOk_by (own := [("place", 4)]) (by kernel_rfl)) (fun _ _ _ _ _ => pg_name (i := 4) sc_quarrel.nd rfl (Or.inl rfl)) (fun _ _ _ _ _ => pts_nil) (fun _ _ _ _ _ => (pe_ix (ixl K) (pv 1) (pv 4) (fun _ _ => rfl))))))))))), ?_⟩
    refine ⟨_, rfl, r, dx, _, rfl, hI, no_worlds_of, r, l0, l1, h, 0, rfl, R, Or.inl rfl, g.m3, _, rfl, r, dx, _, rfl, hI, no_worlds_of, r, l0, l1, h, 1, rfl, R, Or.inr rfl, g.m3, h.holds 0, h.holds 1, rfl, _, rfl, ?_⟩
    cases hb : (both (h.holds 1) (h.holds 0) == 0) with
    | false =>
      rw [quarrel_no h hb] at k
      exact iteT ⟨line12 (by simp), fun q nq => k.new (Same.refl H) nq rfl⟩
    | true =>
      obtain ⟨b, hf, e⟩ := quarrel_yes h hb
      rw [e] at k
      have h1 := g.l1
      have h2 := g.l2
      have hl : (h.one ++ h.two).length ≤ 12 := by rw [List.length_append]; omega
      refine iteF ⟨_, rfl, r, C, dx, _, _, rfl, hI, T.cl, T.n_stores, fl_stores, t, _, _, _, rfl, rfl, SqT.of hT, pair_at (s := 0) (Or.inl rfl), _, rfl, r, C, dx, _, _, rfl, hI, T.cl, T.n_stores, fl_stores, t, _, _, _, rfl, rfl, SqT.of hT, pair_at (s := 1) (Or.inr rfl), _, _, _, _, rfl, rfl, R.store 0, R.store 1, ?_, fun sa nsa => ?_⟩
      · rw [nV_length, nV_length]
        exact line12 (by have := g.slen 0; have := g.slen 1; omega)
      have s1 := same_upd (o := .lst (nV (h.store 0) ++ nV (h.store 1))) nsa
      have hsa : upd H sa (.lst (nV (h.store 0) ++ nV (h.store 1))) sa = some (.lst (nV (h.one ++ h.two))) := by
        rw [upd_same, nV_append]
        rfl
      refine ⟨_, rfl, r, C, dx, _, _, rfl, s1 _ _ hI, T.cl, T.n_letters, fl_letters, _, rfl, h.m, sa, h.one ++ h.two, 0, b, rfl, g.m3, hsa, hl, hf, fun H2 a sm2 ha => ?_⟩
      have hsz : (pl (h.one ++ h.two).length b).length ≤ 12 := by
        rw [pl_len]
        have := size_le (h.one ++ h.two).length b
        omega
      refine ⟨_, rfl, a, rfl, ⟨_, SqL.of ha⟩, fun D hD => lc_list (xs := nV (pl (h.one ++ h.two).length b)) (fun i H' => Same H2 H' ∧ H' D = some (.lst (nV (((pl (h.one ++ h.two).length b).take i).filter fun i => decide (i < h.one.length))))) ⟨same_upd hD, upd_same⟩ (fun i H' _ p => SqL.of (p.1 a _ ha)) ?_ ?_⟩
      · rintro i x H3 hi ⟨sm3, hd⟩
        obtain ⟨n, hn, rfl⟩ := nV_at hi
        have sm := s1.trans (sm2.trans sm3)
        have R3 := R.same sm
        refine ⟨rfl, _, rfl, _, rfl, r, C, dx, _, _, rfl, sm _ _ hI, T.cl, T.n_stores, fl_stores, t, _, _, _, rfl, rfl, SqT.of (sm _ _ hT), pair_at (s := 0) (Or.inl rfl), _, _, rfl, .inl (SqL.of (R3.store 0)), _, _, rfl, rfl, _, rfl, ?_⟩
        have hz0 : (nV (h.store 0)).length = h.one.length := nV_length _
        rw [hz0, filter_snoc hn]
        by_cases hlt : n < h.one.length
        · refine iteD (by omega) ⟨_, rfl, _, hd, ?_, fun b o e => ?_, ?_⟩
          · rw [nV_length]
            have h3 := List.length_filter_le (fun i => decide (i < h.one.length)) ((pl (h.one ++ h.two).length b).take i)
            rw [List.length_take] at h3
            exact line12' (by omega)
          · rw [upd_ne (ne_of_none e hD)]
            exact sm3 b o e
          · rw [upd_same, if_pos (by simpa using hlt), nV_append]
            rfl
        · refine iteDN (by omega) ⟨sm3, ?_⟩
          rw [if_neg (by simpa using hlt), List.append_nil]
          exact hd
      · rintro H3 ⟨sm3, hd⟩
        rw [nV_length, List.take_length, List.length_append, pl_first] at hd
        refine ⟨D, _, rfl, .inl (SqL.of hd), ?_⟩
        have ha3 := sm3 _ _ ha
        refine ⟨_, rfl, _, rfl, a, _, rfl, .inl (SqL.of ha3), _, rfl, _, _, rfl, rfl, line12 (by simp), fun z nz => ?_⟩
        have s4 := same_upd (o := .lst [V.int ((nV (pl h.one.length b)).length : Int), V.int (((nV (pl (h.one ++ h.two).length b)).length : Int) - ((nV (pl h.one.length b)).length : Int))]) nz
        refine pick (K := K) (a := a) ?_ (s4 _ _ ha3) (s4 _ _ (sm3 _ _ (sm2 _ _ hsa))) (fun i hi => pl_lt hi) (by omega) ?_ ?_ ?_
        · rfl
        · exact fun _ => rfl
        · exact fun n H' Q' hn hs' q' => ⟨_, rfl, _, rfl, _, _, _, _, rfl, rfl, SqL.of hs', atI_nat (nV_get hn), q'⟩
        intro H' D' nD' sm5 hD'
        refine ⟨z, D', _, _, rfl, rfl, sm5 _ _ upd_same, hD', line12 (by simp only [nV_length, List.length_map, List.length_cons, List.length_nil]; omega), fun q nq => ?_⟩
        refine k.new (s1.trans (sm2.trans (sm3.trans (s4.trans sm5)))) nq ?_
        rw [← part_pl, List.map_cons, List.map_cons, ints_nV, nV_length, nV_length, pl_len, pl_len]
        rfl
structure Tab2 (P : Program) (w : World) (K : PySem.W.Frag) (mg : Str → Option Value) (aT aP : Addr) : Prop where
  t_TELLINGS_BARE : ∃ a12 a13 a18 a19 a20 a21 a23, mg "turn" = some (.ref a12) ∧ mg "what_is_open" = some (.ref a13) ∧ mg "agreed" = some (.ref a18) ∧ mg "quarrel" = some (.ref a19) ∧ mg "common" = some (.ref a20) ∧ mg "kinds" = some (.ref a21) ∧ mg "state" = some (.ref a23) ∧
    DK P w K aT [(.inl 12, .ref a12), (.inl 13, .ref a13), (.inl 18, .ref a18), (.inl 19, .ref a19), (.inl 20, .ref a20), (.inl 21, .ref a21), (.inl 23, .ref a23)]
  t_TELLINGS_OF_BOTH : ∃ a15 a16 a17, mg "bound" = some (.ref a15) ∧ mg "barred" = some (.ref a16) ∧ mg "reason" = some (.ref a17) ∧ DK P w K aP [(.inl 15, .ref a15), (.inl 16, .ref a16), (.inl 17, .ref a17)]
noncomputable def sp_top (C : Addr) : Sp := fun vs H Q _ => ∃ (r l0 l1 c : Addr) (h : House), Rec C H r l0 l1 h ∧ Good h ∧ ((∃ s : Nat, vs = [.ref r, .int 14, .ref c] ∧ H c = some (.lst (nV [s])) ∧ Tells H Q (tellOf h (.store s))) ∨
  ∃ n s p : Nat, (n = 15 ∨ n = 16 ∨ n = 17) ∧ vs = [.ref r, .int n, .ref c] ∧ H c = some (.lst (nV [s, p])) ∧ Tells H Q (tellOf h (bothOf n s p)))
theorem ok_tell_of_person {f : Addr} {fd : FuncData} (F : Fun K "tell_of_person" "tell_of_person" s_tell_of_person f fd) (T : Txt P w K mg C aS aF aG aB aT aP aN) (B2 : Tab2 P w K mg aT aP) (G_store_of : FnAt P w K mg base "store_of" 4 (sp_store_of C)) (G_is_proposition : FnAt P w K mg base "is_proposition" 1 sp_is_proposition)
    (G_bound : FnAt P w K mg base "bound" 4 (sp_tp C .bound)) (G_barred : FnAt P w K mg base "barred" 4 (sp_tp C .barred)) (G_reason : FnAt P w K mg base "reason" 4 (sp_tp C .reason)) :
    FnOk P w K mg base CX0 5 f fd ["record", "number", "given"] (sp_top C) := by
  refine F.ok sc_tell_of_person (fun vs H Q E h => ?_) (fun cdv A outer s H vs Q E hr h => ?_)
  · obtain ⟨r, l0, l1, c, h, _, _, ⟨s, rfl, _⟩ | ⟨n, s, p, _, rfl, _⟩⟩ := h
    · rfl
    · rfl
  · obtain ⟨r, l0, l1, c, h, R, g, hh⟩ := h
    obtain ⟨dx, t, hI, hT⟩ := R.ins
    obtain ⟨a15, a16, a17, m15, m16, m17, hD⟩ := B2.t_TELLINGS_OF_BOTH
    refine ⟨_, (pss_cons (ps_set (i := 3) sc_tell_of_person.nd rfl (Or.inl rfl) (pe_ix ix_list (pv 2) pe_int (fun _ _ => rfl)))
      (pss_cons (ps_if (pt_cmpR op_gt (pv 3) pe_int (nomark _)) (pss_one (ps_ret (pe_lst (pa_cons (pe_gint rfl T.g_NO_SUCH_PERSON) pa_nil)))) pss_nil)
      (pss_cons (ps_if (pt_cmpR op_eq (pv 1) (pe_gint rfl T.g_STORE) (nomark _)) (pss_one (ps_ret (pe_fn G_store_of (hr.mono (by decide)) rfl (pa_cons (pv 0) (pa_cons (pv 3) pa_nil))))) pss_nil)
      (pss_cons (ps_if (pt_not (pt_truth (pe_fn G_is_proposition (hr.mono (by decide)) rfl (pa_cons (pe_fld (pv 0) rfl) (pa_cons (pe_ix ix_list (pv 2) pe_int (fun _ _ => rfl)) pa_nil))) (fun _ => rfl))) (pss_one (ps_ret (pe_lst (pa_cons (pe_gint rfl T.g_NOT_RIGHT) pa_nil)))) pss_nil)
      (pss_one (ps_ret (pe_callV (pe_kget (pe_gref rfl T.g_TELLINGS_OF_BOTH) (pv 1) (fun _ _ => rfl)) (pa_cons (pv 0) (pa_cons (pv 3) (pa_cons (pe_ix ix_list (pv 2) pe_int (fun _ _ => rfl)) pa_nil)))))))))), ?_⟩
    rcases hh with ⟨s, rfl, hc, k⟩ | ⟨n, s, p, hn, rfl, hc, k⟩
    · refine ⟨_, rfl, c, _, _, _, rfl, rfl, SqL.of hc, (show atI (nV [s]) 0 = some (.int (s : Nat)) from rfl), _, rfl, _, _, rfl, rfl, _, rfl, ?_⟩
      by_cases hs : 1 < s
      · rw [store_far h hs] at k
        exact iteD (by omega) ⟨line12 (by simp), fun q nq => k.new (Same.refl H) nq rfl⟩
      · exact iteDN (by omega) ⟨_, rfl, rfl, _, rfl, iteD rfl ⟨_, rfl, _, rfl, r, l0, l1, h, s, rfl, R, g, by omega, k⟩⟩
    · refine ⟨_, rfl, c, _, _, _, rfl, rfl, SqL.of hc, (show atI (nV [s, p]) 0 = some (.int (s : Nat)) from rfl), _, rfl, _, _, rfl, rfl, _, rfl, ?_⟩
      by_cases hs : 1 < s
      · rw [both_far h hs] at k
        exact iteD (by omega) ⟨line12 (by simp), fun q nq => k.new (Same.refl H) nq rfl⟩
      · refine iteDN (by omega) ⟨_, rfl, rfl, _, rfl, iteDN (by intro z; injection z with z; omega) ⟨_, rfl, r, C, dx, _, _, rfl, hI, T.cl, T.n_letters, fl_letters, _, rfl, c, _, _, _, rfl, rfl, SqL.of hc, (show atI (nV [s, p]) 1 = some (.int (p : Nat)) from rfl), h.m, p, rfl, g.m3, _, rfl, ?_⟩⟩
        by_cases hp : p ≤ full h.m
        · refine iteNS hp ⟨_, rfl, ?_⟩
          have hs' : s = 0 ∨ s = 1 := by omega
          obtain ⟨a, hv, fd', ps', hkp, hb, G⟩ : ∃ a, valV [((.inl 15 : Key), V.ref a15), (.inl 16, .ref a16), (.inl 17, .ref a17)] (.inl (n : Int)) = some (.ref a) ∧ ∃ fd' ps', PySem.W.keepIn K (.ref a) = true ∧ Binds K fd' ps' [] ∧ FnOk P w K mg base CX0 4 a fd' ps' (sp_tp C (bothOf n)) := by
            rcases hn with rfl | rfl | rfl
            · exact ⟨a15, rfl, fnAt_at G_bound m15⟩
            · exact ⟨a16, rfl, fnAt_at G_barred m16⟩
            · exact ⟨a17, rfl, fnAt_at G_reason m17⟩
          exact ⟨aP, _, Sum.inl (n : Int), V.ref a, rfl, hD, rfl, hv, a, 4, fd', ps', _, rfl, hkp, hb, G, hr.mono (by decide), _, rfl, _, rfl, _, rfl, c, _, _, _, rfl, rfl, SqL.of hc, (show atI (nV [s, p]) 1 = some (.int (p : Nat)) from rfl), r, l0, l1, h, s, p, rfl, R, g, hs', hp, k⟩
        · rw [both_bad h hs hp] at k
          exact iteNT hp ⟨line12 (by simp), fun q nq => k.new (Same.refl H) nq rfl⟩
noncomputable def sp_tell (C : Addr) : Sp := fun vs H Q _ => ∃ (r l0 l1 c : Addr) (h : House) (n : Nat) (xs : List Nat), vs = [.ref r, .int n, .ref c] ∧ Rec C H r l0 l1 h ∧ Good h ∧ H c = some (.lst (nV xs)) ∧ 12 ≤ n ∧ n ≤ 23 ∧ xs.length = behind n ∧ Tells H Q (tellOf h (callOf n xs))
theorem len0 {α : Type} {xs : List α} (h : xs.length = 0) : xs = [] := List.eq_nil_of_length_eq_zero h
theorem len1 {α : Type} {xs : List α} (h : xs.length = 1) : ∃ x, xs = [x] := List.length_eq_one_iff.mp h
theorem len2 {α : Type} {xs : List α} (h : xs.length = 2) : ∃ x y, xs = [x, y] := match xs, h with | [x, y], _ => ⟨x, y, rfl⟩
theorem ok_tell {f : Addr} {fd : FuncData} (F : Fun K "tell" "tell" s_tell f fd) (T : Txt P w K mg C aS aF aG aB aT aP aN) (B2 : Tab2 P w K mg aT aP) (G_tell_of_person : FnAt P w K mg base "tell_of_person" 5 (sp_top C)) (G_would : FnAt P w K mg base "would" 4 (sp_would C))
    (G_turn : FnAt P w K mg base "turn" 4 (sp_tb C .turn)) (G_what_is_open : FnAt P w K mg base "what_is_open" 4 (sp_tb C .open_)) (G_agreed : FnAt P w K mg base "agreed" 4 (sp_tb C .agreed)) (G_quarrel : FnAt P w K mg base "quarrel" 4 (sp_tb C .quarrel))
    (G_common : FnAt P w K mg base "common" 4 (sp_tb C .common)) (G_kinds : FnAt P w K mg base "kinds" 4 (sp_tb C .kinds)) (G_state : FnAt P w K mg base "state" 4 (sp_tb C .state)) :
    FnOk P w K mg base CX0 6 f fd ["record", "number", "given"] (sp_tell C) := by
  refine F.ok sc_tell (fun vs H Q E h => ?_) (fun cdv A outer s H vs Q E hr h => ?_)
  · obtain ⟨r, l0, l1, c, h, n, xs, rfl, _⟩ := h
    rfl
  · obtain ⟨r, l0, l1, c, h, n, xs, rfl, R, g, hc, h12, h23, hlen, k⟩ := h
    obtain ⟨a12, a13, a18, a19, a20, a21, a23, m12, m13, m18, m19, m20, m21, m23, hD⟩ := B2.t_TELLINGS_BARE
    refine ⟨_, (pss_cons (ps_if (pt_cmp (pc_kin (pv 1) (pe_gref rfl T.g_TELLINGS_BARE)) (by rfl)) (pss_one (ps_ret (pe_callV (pe_kget (pe_gref rfl T.g_TELLINGS_BARE) (pv 1) (fun _ _ => rfl)) (pa_cons (pv 0) pa_nil)))) pss_nil)
      (pss_cons (ps_if (pt_cmpR op_eq (pv 1) (pe_gint rfl T.g_WOULD) (nomark _)) (pss_one (ps_ret (pe_fn G_would (hr.mono (by decide)) rfl (pa_cons (pv 0) (pa_cons (pe_ix ix_list (pv 2) pe_int (fun _ _ => rfl)) pa_nil))))) pss_nil)
      (pss_one (ps_ret (pe_fn G_tell_of_person (hr.mono (by decide)) rfl (pa_cons (pv 0) (pa_cons (pv 1) (pa_cons (pv 2) pa_nil)))))))), ?_⟩
    refine ⟨_, rfl, aT, _, Sum.inl (n : Int), rfl, hD, rfl, _, rfl, ?_⟩
    show if (if false = true then !(valV [((.inl 12 : Key), V.ref a12), (.inl 13, .ref a13), (.inl 18, .ref a18), (.inl 19, .ref a19), (.inl 20, .ref a20), (.inl 21, .ref a21), (.inl 23, .ref a23)] (.inl (n : Int))).isSome else (valV [((.inl 12 : Key), V.ref a12), (.inl 13, .ref a13), (.inl 18, .ref a18), (.inl 19, .ref a19), (.inl 20, .ref a20), (.inl 21, .ref a21), (.inl 23, .ref a23)] (.inl (n : Int))).isSome) = true then _ else _
    rw [if_neg (show ¬ (false = true) by decide)]
    by_cases hb : n = 12 ∨ n = 13 ∨ n = 18 ∨ n = 19 ∨ n = 20 ∨ n = 21 ∨ n = 23
    · have hl0 : behind (n : Int) = 0 := by rcases hb with rfl | rfl | rfl | rfl | rfl | rfl | rfl <;> rfl
      obtain rfl := len0 (hlen.trans hl0)
      obtain ⟨a, hv, fd', ps', hkp, hbd, G⟩ : ∃ a, valV [((.inl 12 : Key), V.ref a12), (.inl 13, .ref a13), (.inl 18, .ref a18), (.inl 19, .ref a19), (.inl 20, .ref a20), (.inl 21, .ref a21), (.inl 23, .ref a23)] (.inl (n : Int)) = some (.ref a) ∧ ∃ fd' ps', PySem.W.keepIn K (.ref a) = true ∧ Binds K fd' ps' [] ∧ FnOk P w K mg base CX0 4 a fd' ps' (sp_tb C (callOf n [])) := by
        rcases hb with rfl | rfl | rfl | rfl | rfl | rfl | rfl
        · exact ⟨a12, rfl, fnAt_at G_turn m12⟩
        · exact ⟨a13, rfl, fnAt_at G_what_is_open m13⟩
        · exact ⟨a18, rfl, fnAt_at G_agreed m18⟩
        · exact ⟨a19, rfl, fnAt_at G_quarrel m19⟩
        · exact ⟨a20, rfl, fnAt_at G_common m20⟩
        · exact ⟨a21, rfl, fnAt_at G_kinds m21⟩
        · exact ⟨a23, rfl, fnAt_at G_state m23⟩
      rw [hv]
      exact iteT ⟨_, rfl, aT, _, Sum.inl (n : Int), V.ref a, rfl, hD, rfl, hv, a, 4, fd', ps', _, rfl, hkp, hbd, G, hr.mono (by decide), _, rfl, r, l0, l1, h, rfl, R, g, k⟩
    · have hv : (valV [((.inl 12 : Key), V.ref a12), (.inl 13, .ref a13), (.inl 18, .ref a18), (.inl 19, .ref a19), (.inl 20, .ref a20), (.inl 21, .ref a21), (.inl 23, .ref a23)] (.inl (n : Int))).isSome = false := by
        rcases uptoN h23 with rfl | rfl | rfl | rfl | rfl | rfl | rfl | rfl | rfl | rfl | rfl | rfl | rfl | rfl | rfl | rfl | rfl | rfl | rfl | rfl | rfl | rfl | rfl | rfl <;> first | rfl | (exact absurd (by decide) hb)
      rw [hv]
      refine iteF ⟨_, rfl, rfl, _, rfl, ?_⟩
      by_cases hw : n = 22
      · subst hw
        obtain ⟨x, rfl⟩ := len1 hlen
        exact iteD rfl ⟨_, rfl, _, rfl, c, _, _, _, rfl, rfl, SqL.of hc, (show atI (nV [x]) 0 = some (.int (x : Nat)) from rfl), r, l0, l1, h, x, rfl, R, g, k⟩
      · refine iteDN (by intro z; injection z with z; omega) ⟨_, rfl, _, rfl, _, rfl, r, l0, l1, c, h, R, g, ?_⟩
        by_cases h14 : n = 14
        · subst h14
          obtain ⟨x, rfl⟩ := len1 hlen
          exact Or.inl ⟨x, rfl, hc, k⟩
        · have hn : n = 15 ∨ n = 16 ∨ n = 17 := by omega
          obtain ⟨x, y, rfl⟩ := len2 (hlen.trans (by rcases hn with rfl | rfl | rfl <;> rfl))
          have e : callOf n [x, y] = bothOf n x y := by rcases hn with rfl | rfl | rfl <;> rfl
          rw [e] at k
          exact Or.inr ⟨n, x, y, hn, rfl, hc, k⟩
end
end Two
end
section
set_option Elab.async false
set_option linter.all false
set_option maxRecDepth 100000
set_option maxHeartbeats 2000000
namespace Two
open PySem PySem.Spec PyProof.Rows L2
open Krl7 (House Abs)
open Krb7 (full both not_ within count)
noncomputable def hse (a : Abs) : House := a.getD (h0 0)
theorem Keep.free {C : Addr} {H H1 : Hp} {r l0 l1 q : Addr} {h : House} (kp : Keep [r, l0, l1] H H1) (R : Rec C H1 r l0 l1 h) (nq : H1 q = none) : H q = none := by
  cases e : H q with
  | none => rfl
  | some o =>
    obtain ⟨dx, t, hI, hT⟩ := R.ins
    have h1 : q ≠ r := fun z => by rw [z, hI] at nq; cases nq
    have h2 : q ≠ l0 := fun z => by rw [z, R.s0] at nq; cases nq
    have h3 : q ≠ l1 := fun z => by rw [z, R.s1] at nq; cases nq
    rw [kp q o e (by simp [h1, h2, h3])] at nq
    cases nq
theorem keep_same {H H1 : Hp} (s : Same H H1) (fp : List Addr) : Keep fp H H1 := fun b o e _ => s b o e
noncomputable def sp_answer (C : Addr) : Sp := fun vs H Q _ => ∃ (r l0 l1 c : Addr) (a : Abs) (n : Int) (xs : List Int), vs = [.ref r, .int n, .ref c] ∧ Rec C H r l0 l1 (hse a) ∧ GoodA a ∧ H c = some (.lst (xs.map V.int)) ∧ 0 ≤ n ∧ n ≤ 23 ∧ xs.length = behind n ∧ (∀ x ∈ xs, 0 ≤ x) ∧
  ∀ (H' : Hp) (l0' l1' q : Addr), Rec C H' r l0' l1' (hse (Krl7Neutral.step a [n :: xs]).1) → (l0' = l0 ∧ l1' = l1 ∨ H l0' = none ∧ H l1' = none) → H q = none → H' q = some (.lst ((Krl7Neutral.step a [n :: xs]).2.map V.int)) → Keep [r, l0, l1] H H' → Q (.ref q) H'
section
variable {P : Program} {w : World} {K : PySem.W.Frag} {mg : Str → Option Value} {base : Heap} {C aS aF aG aB aT aP aN : Addr}
theorem bare_in {a5 a6 a7 a8 a10 : Addr} {n : Nat} (h : 5 ≤ n ∧ n ≤ 10) : (valV [((.inl 5 : Key), V.ref a5), (.inl 6, .ref a6), (.inl 7, .ref a7), (.inl 8, .ref a8), (.inl 9, .ref a6), (.inl 10, .ref a10)] (.inl (n : Int))).isSome = true := by
  rcases up10 h with rfl | rfl | rfl | rfl | rfl | rfl <;> rfl
theorem bare_out {a5 a6 a7 a8 a10 : Addr} {n : Nat} (h2 : n ≤ 23) (h : ¬ (5 ≤ n ∧ n ≤ 10)) : (valV [((.inl 5 : Key), V.ref a5), (.inl 6, .ref a6), (.inl 7, .ref a7), (.inl 8, .ref a8), (.inl 9, .ref a6), (.inl 10, .ref a10)] (.inl (n : Int))).isSome = false := by
  rcases uptoN h2 with rfl | rfl | rfl | rfl | rfl | rfl | rfl | rfl | rfl | rfl | rfl | rfl | rfl | rfl | rfl | rfl | rfl | rfl | rfl | rfl | rfl | rfl | rfl | rfl <;> first | rfl | (exact absurd (by decide) h)
theorem given_in {a1 a2 a3 a4 a11 : Addr} {n : Nat} (h : n = 1 ∨ n = 2 ∨ n = 3 ∨ n = 4 ∨ n = 11) : (valV [((.inl 1 : Key), V.ref a1), (.inl 2, .ref a2), (.inl 3, .ref a3), (.inl 4, .ref a4), (.inl 11, .ref a11)] (.inl (n : Int))).isSome = true := by
  rcases h with rfl | rfl | rfl | rfl | rfl <;> rfl
theorem given_out {a1 a2 a3 a4 a11 : Addr} {n : Nat} (h2 : n ≤ 23) (h : ¬ (n = 1 ∨ n = 2 ∨ n = 3 ∨ n = 4 ∨ n = 11)) : (valV [((.inl 1 : Key), V.ref a1), (.inl 2, .ref a2), (.inl 3, .ref a3), (.inl 4, .ref a4), (.inl 11, .ref a11)] (.inl (n : Int))).isSome = false := by
  rcases uptoN h2 with rfl | rfl | rfl | rfl | rfl | rfl | rfl | rfl | rfl | rfl | rfl | rfl | rfl | rfl | rfl | rfl | rfl | rfl | rfl | rfl | rfl | rfl | rfl | rfl <;> first | rfl | (exact absurd (by decide) h)
theorem ok_answer {f : Addr} {fd : FuncData} (F : Fun K "answer" "answer" s_answer f fd) (T : Txt P w K mg C aS aF aG aB aT aP aN) (B : Tab P w K mg aF aG aB) (G_begin : MtAt P w K mg base C "begin" 2 (sp_begin C)) (G_has_begun : MtAt P w K mg base C "has_begun" 1 (sp_has_begun C))
    (G_make_bare_move : FnAt P w K mg base "make_bare_move" 7 (sp_make_bare C)) (G_make_given_move : FnAt P w K mg base "make_given_move" 7 (sp_make_given C)) (G_tell : FnAt P w K mg base "tell" 6 (sp_tell C)) : FnOk P w K mg base CX0 8 f fd ["record", "number", "given"] (sp_answer C) := by
  refine F.ok sc_answer (fun vs H Q E h => ?_) (fun cdv A outer s H vs Q E hr h => ?_)
  · obtain ⟨r, l0, l1, c, a, n, xs, rfl, _⟩ := h
    rfl
  · obtain ⟨r, l0, l1, c, a, n, xs, rfl, R, g, hc, h0n, h23, hlen, hnn, k⟩ := h
    obtain ⟨dx, t, hI, hT⟩ := R.ins
    obtain ⟨a1, a2, a3, a4, a11, m1, m2, m3, m4, m11, hDG⟩ := B.t_MOVES_GIVEN
    obtain ⟨a5, a6, a7, a8, a10, m5, m6, m7, m8, m10, hDB⟩ := B.t_MOVES_BARE
    obtain ⟨N, rfl⟩ : ∃ N : Nat, n = (N : Int) := ⟨n.toNat, by omega⟩
    obtain ⟨ys, rfl⟩ := rows_nat xs hnn
    rw [← nV_ints] at hc
    rw [List.length_map] at hlen
    refine ⟨_, (pss_cons (ps_if (pt_cmpR op_eq (pv 1) (pe_gint rfl T.g_BEGIN) (nomark _)) (pss_one (ps_ret (pe_lst (pa_cons (pe_mt (pv 0) T.cl G_begin (hr.mono (by decide)) (pa_cons (pe_ix ix_list (pv 2) pe_int (fun _ _ => rfl)) pa_nil)) pa_nil)))) pss_nil)
      (pss_cons (ps_if (pt_not (pt_truth (pe_mt0 (pv 0) T.cl G_has_begun (hr.mono (by decide))) (fun _ => rfl))) (pss_one (ps_ret (pe_lst (pa_cons (pe_gint rfl T.g_BEFORE_BEGIN) pa_nil)))) pss_nil)
      (pss_cons (ps_if (pt_cmp (pc_kin (pv 1) (pe_gref rfl T.g_MOVES_BARE)) (by rfl)) (pss_one (ps_ret (pe_lst (pa_cons (pe_fn G_make_bare_move (hr.mono (by decide)) rfl (pa_cons (pv 0) (pa_cons (pv 1) pa_nil))) pa_nil)))) pss_nil)
      (pss_cons (ps_if (pt_cmp (pc_kin (pv 1) (pe_gref rfl T.g_MOVES_GIVEN)) (by rfl)) (pss_one (ps_ret (pe_lst (pa_cons (pe_fn G_make_given_move (hr.mono (by decide)) rfl (pa_cons (pv 0) (pa_cons (pv 1) (pa_cons (pe_ix ix_list (pv 2) pe_int (fun _ _ => rfl)) pa_nil)))) pa_nil)))) pss_nil)
      (pss_one (ps_ret (pe_fn G_tell (hr.mono (by decide)) rfl (pa_cons (pv 0) (pa_cons (pv 1) (pa_cons (pv 2) pa_nil)))))))))), ?_⟩
    refine ⟨_, rfl, rfl, _, rfl, ?_⟩
    by_cases hz : N = 0
    · subst hz
      obtain ⟨m, rfl⟩ := len1 (show ys.length = 1 from hlen)
      refine iteD rfl ⟨_, rfl, r, dx, _, rfl, hI, no_begin, _, rfl, c, _, _, _, rfl, rfl, SqL.of hc, (show atI (nV [m]) 0 = some (.int (m : Nat)) from rfl), r, l0, l1, hse a, m, rfl, R, fun hm => ?_, fun hm H1 l0' l1' R1 n0 n1 kp => ?_⟩
      · have e := step_begin_no a hm
        refine ⟨line12 (by simp), fun q nq => k _ l0 l1 q ?_ (Or.inl ⟨rfl, rfl⟩) nq ?_ (keep_same (same_upd nq) _)⟩
        · have e1 : (Krl7Neutral.step a [((0 : Nat) : Int) :: List.map (fun (x : Nat) => (x : Int)) [m]]).1 = a := congrArg Prod.fst e
          rw [e1]
          exact R.same (same_upd nq)
        · have e2 : (Krl7Neutral.step a [((0 : Nat) : Int) :: List.map (fun (x : Nat) => (x : Int)) [m]]).2 = [-22] := congrArg Prod.snd e
          rw [e2]
          exact upd_same
      · have e := step_begin_yes a hm
        refine ⟨line12 (by simp), fun q nq => ?_⟩
        have qr : q ≠ r := fun z => by
          obtain ⟨dx1, t1, hI1, _⟩ := R1.ins
          rw [z, hI1] at nq
          cases nq
        have hq : H q = none := by
          cases e : H q with
          | none => rfl
          | some o =>
            rw [kp q o e (by simpa using qr)] at nq
            cases nq
        refine k _ l0' l1' q ?_ (Or.inr ⟨n0, n1⟩) hq ?_ ?_
        · have e1 : (Krl7Neutral.step a [((0 : Nat) : Int) :: List.map (fun (x : Nat) => (x : Int)) [m]]).1 = some (h0 m) := congrArg Prod.fst e
          rw [e1]
          exact R1.same (same_upd nq)
        · have e2 : (Krl7Neutral.step a [((0 : Nat) : Int) :: List.map (fun (x : Nat) => (x : Int)) [m]]).2 = [0] := congrArg Prod.snd e
          rw [e2]
          exact upd_same
        · intro b o e hb
          have hb' : b ≠ r := fun z => hb (by rw [z]; simp)
          exact same_upd nq b o (kp b o e (by simpa using hb'))
    · refine iteDN (by intro z; injection z with z; omega) ⟨_, rfl, r, dx, _, rfl, hI, no_has_begun, r, l0, l1, hse a, rfl, R, _, rfl, ?_⟩
      cases a with
      | none =>
        have e := step_none (n := N) ys (by omega) (by omega)
        refine iteNT (c := 0 < (hse none).m) (by decide) ⟨line12 (by simp), fun q nq => k _ l0 l1 q ?_ (Or.inl ⟨rfl, rfl⟩) nq ?_ (keep_same (same_upd nq) _)⟩
        · have e1 : (Krl7Neutral.step none [((N : Nat) : Int) :: List.map (fun (x : Nat) => (x : Int)) ys]).1 = none := congrArg Prod.fst e
          rw [e1]
          exact R.same (same_upd nq)
        · have e2 : (Krl7Neutral.step none [((N : Nat) : Int) :: List.map (fun (x : Nat) => (x : Int)) ys]).2 = [-11] := congrArg Prod.snd e
          rw [e2]
          exact upd_same
      | some h =>
        have g' : Good h := g
        have R' : Rec C H r l0 l1 h := R
        have g1 := g'.m1
        refine iteNS (c := 0 < (hse (some h)).m) (show 0 < h.m by omega) ⟨_, rfl, aB, _, Sum.inl (N : Int), rfl, hDB, rfl, _, rfl, ?_⟩
        have last : ∀ (y : Abs × Krl7.Ans), Plain y → Krl7Neutral.step (some h) (rowOf N ys) = (y.1, Krl7Neutral.told y.2) → ∀ H1, Rec C H1 r l0 l1 (y.1.getD h) → Keep [r, l0, l1] H H1 → ∀ q, H1 q = none → Q (.ref q) (upd H1 q (.lst [.int y.2.num])) := by
          rintro ⟨y1, num, nums⟩ ⟨h1, h', h2⟩ e H1 R1 kp q nq
          cases h1
          cases h2
          have e1 : (Krl7Neutral.step (some h) [((N : Nat) : Int) :: List.map (fun (x : Nat) => (x : Int)) ys]).1 = some h' := congrArg Prod.fst e
          have e2 : (Krl7Neutral.step (some h) [((N : Nat) : Int) :: List.map (fun (x : Nat) => (x : Int)) ys]).2 = [num] := congrArg Prod.snd e
          refine k _ l0 l1 q ?_ (Or.inl ⟨rfl, rfl⟩) (kp.free R1 nq) ?_ (fun b o eb hb => same_upd nq b o (kp b o eb hb))
          · rw [e1]
            exact R1.same (same_upd nq)
          · rw [e2]
            exact upd_same
        show if (if false = true then !(valV [((.inl 5 : Key), V.ref a5), (.inl 6, .ref a6), (.inl 7, .ref a7), (.inl 8, .ref a8), (.inl 9, .ref a6), (.inl 10, .ref a10)] (.inl (N : Int))).isSome else (valV [((.inl 5 : Key), V.ref a5), (.inl 6, .ref a6), (.inl 7, .ref a7), (.inl 8, .ref a8), (.inl 9, .ref a6), (.inl 10, .ref a10)] (.inl (N : Int))).isSome) = true then _ else _
        rw [if_neg (show ¬ (false = true) by decide)]
        by_cases hb : 5 ≤ N ∧ N ≤ 10
        · rw [bare_in hb]
          obtain rfl := len0 (hlen.trans (behind_bare hb))
          refine iteT ⟨_, rfl, _, rfl, r, l0, l1, h, N, rfl, R', g', hb, fun H1 R1 kp => ⟨line12 (by simp), fun q nq => ?_⟩⟩
          exact last _ (actMove_plain h _) (step_bare h hb) H1 R1 kp q nq
        · rw [bare_out (by omega) hb]
          refine iteF ⟨_, rfl, aG, _, Sum.inl (N : Int), rfl, hDG, rfl, _, rfl, ?_⟩
          show if (if false = true then !(valV [((.inl 1 : Key), V.ref a1), (.inl 2, .ref a2), (.inl 3, .ref a3), (.inl 4, .ref a4), (.inl 11, .ref a11)] (.inl (N : Int))).isSome else (valV [((.inl 1 : Key), V.ref a1), (.inl 2, .ref a2), (.inl 3, .ref a3), (.inl 4, .ref a4), (.inl 11, .ref a11)] (.inl (N : Int))).isSome) = true then _ else _
          rw [if_neg (show ¬ (false = true) by decide)]
          by_cases hg : N = 1 ∨ N = 2 ∨ N = 3 ∨ N = 4 ∨ N = 11
          · rw [given_in hg]
            obtain ⟨p, rfl⟩ := len1 (hlen.trans (behind_given hg))
            refine iteT ⟨_, rfl, _, rfl, _, rfl, c, _, _, _, rfl, rfl, SqL.of hc, (show atI (nV [p]) 0 = some (.int (p : Nat)) from rfl), r, l0, l1, h, N, p, rfl, R', g', hg, fun H1 R1 kp => ⟨line12 (by simp), fun q nq => ?_⟩⟩
            exact last _ (actMove_plain h _) (step_given h hg) H1 R1 kp q nq
          · rw [given_out (by omega) hg]
            refine iteF ⟨_, rfl, _, rfl, _, rfl, r, l0, l1, c, h, N, ys, rfl, R', g', hc, by omega, by omega, hlen, fun H1 q sm nq hq => ?_⟩
            have e := step_tell h (n := N) ys (by omega) (by omega)
            refine k H1 l0 l1 q ?_ (Or.inl ⟨rfl, rfl⟩) nq ?_ (keep_same sm _)
            · have e1 : (Krl7Neutral.step (some h) [((N : Nat) : Int) :: List.map (fun (x : Nat) => (x : Int)) ys]).1 = some h := congrArg Prod.fst e
              rw [e1]
              exact R'.same sm
            · exact hq
end
end Two
end
section
set_option Elab.async false
set_option linter.all false
set_option maxRecDepth 100000
set_option maxHeartbeats 2000000
namespace Two
open PySem PySem.Spec PyProof.Rows L2
open Krl7 (House Abs)
open Krb7 (full both not_ within count)
noncomputable def sp_answers (K : PySem.W.Frag) : Sp := fun vs H Q _ => ∃ (a : Addr) (ns : List Int), vs = [.ref a] ∧ SqL K H a (ns.map V.int) ∧ (∀ x ∈ ns, 0 ≤ x) ∧ PyKrl7.answers_asked ns = true ∧ ∀ (H' : Hp) (p : Addr), H' p = some (.lst ((PyKrl7.answers ns).map V.int)) → Q (.ref p) H'
theorem asked_calls {l : List Int} (h : PyKrl7.answers_asked l = true) : ∃ cs, PyFlat.calls PyKrl7.shape l.length l = some cs ∧ (PyKrl7.answers l).length ≤ 10000000 := by
  unfold PyKrl7.answers_asked at h
  split at h
  · cases h
  · rename_i raw e
    refine ⟨raw, e, ?_⟩
    simp only [Bool.and_eq_true, PyFlat.short, decide_eq_true_eq] at h
    exact h.2
theorem cut_at {ns : List Int} {i k : Nat} (h : i + k ≤ ns.length) : cutV (ns.map V.int) (some (i : Int)) (some ((i + k : Nat) : Int)) = ((ns.drop i).take k).map V.int := by
  unfold cutV
  rw [HT.sIx_nat, HT.sIx_nat, List.length_map, Nat.min_eq_left h, Nat.min_eq_left (show i ≤ ns.length by omega), (by omega : i + k - i = k), ← List.map_drop, ← List.map_take]
theorem ng_all : ∀ i : Fin 24, atI NG ((i.val : Nat) : Int) = some (.int (behind ((i.val : Nat) : Int) : Nat)) := by decide +kernel
theorem ng_at {n : Int} (h0 : 0 ≤ n) (h1 : n ≤ 23) : atI NG n = some (.int (behind n : Nat)) := by
  obtain ⟨k, rfl, hk⟩ := upto23 h0 h1
  exact ng_all ⟨k, by omega⟩
section
variable {P : Program} {w : World} {K : PySem.W.Frag} {mg : Str → Option Value} {base : Heap} {C aS aF aG aB aT aP aN : Addr}
structure Mid (C : Addr) (K : PySem.W.Frag) (H0 : Hp) (ns : List Int) (r g : Addr) (i : Nat) (H : Hp) : Prop where
  le : i ≤ ns.length
  same : Same H0 H
  fr : H0 r = none
  fg : H0 g = none
  st : ∃ (l0 l1 : Addr) (a : Abs) (out : List Int), Rec C H r l0 l1 (hse a) ∧ GoodA a ∧ H g = some (.lst (out.map V.int)) ∧ g ≠ l0 ∧ g ≠ l1 ∧ H0 l0 = none ∧ H0 l1 = none ∧
    ∃ f cs, PyFlat.calls PyKrl7.shape f (ns.drop i) = some cs ∧ out ++ rest a cs = PyKrl7.answers ns
theorem ok_answers {f : Addr} {fd : FuncData} (F : Fun K "answers" "answers" s_answers f fd) (T : Txt P w K mg C aS aF aG aB aT aP aN) (G_Record : MkAt P w K mg base "Record" C 2 (sp_init C)) (G_answer : FnAt P w K mg base "answer" 8 (sp_answer C)) :
    FnOk P w K mg base CX0 9 f fd ["calls"] (sp_answers K) := by
  refine F.ok sc_answers (fun vs H Q E h => ?_) (fun cdv A outer s H vs Q E hr h => ?_)
  · obtain ⟨a, ns, rfl, _⟩ := h
    rfl
  · obtain ⟨ca, ns, rfl, hS, hnn, hask, k⟩ := h
    obtain ⟨cs0, hcs0, hlen⟩ := asked_calls hask
    refine ⟨_, (pss_cons (ps_set (i := 1) sc_answers.nd rfl (Or.inl rfl) (pe_mk G_Record (hr.mono (by decide)) rfl))
      (pss_cons (ps_set (i := 2) sc_answers.nd rfl (Or.inl rfl) (pe_lst pa_nil))
      (pss_cons (ps_set (i := 3) sc_answers.nd rfl (Or.inl rfl) pe_int)
      (pss_cons (ps_while PassesOwn.never (pt_cmpR op_lt (pv 3) (pe_callB call_len_seq (by rfl) T.b_len PySem.boot_len (pa_cons (pv 0) pa_nil)) (nomark _)) (pss_cons (ps_set (i := 4) sc_answers.nd rfl (Or.inl rfl) (pe_ix ix_list (pv 0) (pv 3) (fun _ _ => rfl)))
      (pss_cons (ps_set (i := 5) sc_answers.nd rfl (Or.inl rfl) (pe_op op_add (pe_op op_add (pv 3) pe_int) (pe_ix ix_tup (pe_gref rfl T.g_NUMBERS_GIVEN) (pv 4) (fun _ _ => rfl))))
      (pss_cons (ps_set (i := 6) sc_answers.nd rfl (Or.inl rfl) (pe_fn G_answer (hr.mono (by decide)) rfl (pa_cons (pv 1) (pa_cons (pv 4) (pa_cons (pe_slice sl_list (pv 0) (po_some (pe_op op_add (pv 3) pe_int)) (po_some (pv 5))) pa_nil)))))
      (pss_cons (ps_expr (pe_bm PySem.F.plainAttrs_list PySem.F.slot_list_append PySem.F.type_list_append mt_append (pv 2) (pa_cons (pe_callB call_len_seq (by rfl) T.b_len PySem.boot_len (pa_cons (pv 6) pa_nil)) pa_nil)))
      (pss_cons (ps_expr (pe_bm PySem.F.plainAttrs_list PySem.F.slot_list_extend PySem.F.type_list_extend mt_extend (pv 2) (pa_cons (pv 6) pa_nil)))
      (pss_one (ps_set (i := 3) sc_answers.nd rfl (Or.inl rfl) (pv 5)))))))))
      (pss_one (ps_ret (pv 2))))))), ?_⟩
    intro r dx nr nd ne
    refine ⟨r, dx, rfl, upd_same, fun H1 l0 l1 R1 n0 n1 kp1 => ⟨rfl, ?_⟩⟩
    refine ⟨Nat.zero_le _, fun g ng => ?_⟩
    have s1 : Same H H1 := fun b o e => kp1 b o (by rw [upd_ne (ne_of_none e nr), upd_ne (ne_of_none e nd)]; exact e) (by simpa using ne_of_none e nr)
    have s2 : Same H (upd H1 g (.lst [])) := fun b o e => by rw [upd_ne (ne_of_none (s1 b o e) ng)]; exact s1 b o e
    have g0 : g ≠ l0 := (ne_of_none R1.s0 ng).symm
    have g1 : g ≠ l1 := (ne_of_none R1.s1 ng).symm
    have fl0 : H l0 = none := by
      have hx : l0 ≠ r := fun q => by rw [q, upd_same] at n0; cases n0
      have hd : l0 ≠ dx := fun q => by rw [upd_ne hx, q, upd_same] at n0; cases n0
      rw [upd_ne hx, upd_ne hd] at n0
      exact n0
    have fl1 : H l1 = none := by
      have hx : l1 ≠ r := fun q => by rw [q, upd_same] at n1; cases n1
      have hd : l1 ≠ dx := fun q => by rw [upd_ne hx, q, upd_same] at n1; cases n1
      rw [upd_ne hx, upd_ne hd] at n1
      exact n1
    have R2 : Rec C (upd H1 g (.lst [])) r l0 l1 (h0 0) := by
      obtain ⟨dx', t, hI, hT⟩ := R1.ins
      exact ⟨⟨dx', t, by rw [upd_ne (ne_of_none hI ng)]; exact hI, by rw [upd_ne (ne_of_none hT ng)]; exact hT⟩, by rw [upd_ne g0.symm]; exact R1.s0, by rw [upd_ne g1.symm]; exact R1.s1, R1.ne⟩
    have M0 : Mid C K H ns r g 0 (upd H1 g (.lst [])) := ⟨Nat.zero_le _, s2, nr, s1.free ng, l0, l1, none, [], R2, trivial, upd_same, g0, g1, fl0, fl1, ns.length, cs0, hcs0, by rw [answers_rest hcs0]; rfl⟩
    refine ⟨fun m σ H' => ∃ i v4 v5 v6, m = ns.length - i ∧ σ = [some (.ref ca), some (.ref r), some (.ref g), some (.int (i : Nat)), v4, v5, v6] ∧ Mid C K H ns r g i H', ⟨_, 0, none, none, none, rfl, rfl, M0⟩, ?_⟩
    rintro m σ H' ⟨i, v4, v5, v6, rfl, rfl, M⟩
    have hS' : SqL K H' ca (ns.map V.int) := M.same.seq hS
    refine ⟨_, rfl, _, rfl, _, _, rfl, .inl hS', _, _, rfl, rfl, _, rfl, ?_⟩
    rw [List.length_map]
    obtain ⟨l0, l1, a, out, R, ga, hg, gl0, gl1, f0, f1, fu, cs, hcs, hout⟩ := M.st
    by_cases hi : i < ns.length
    · refine iteD (by omega) ?_
      obtain ⟨n, hn⟩ : ∃ n, ns[i]? = some n := ⟨_, List.getElem?_eq_getElem hi⟩
      have hdrop : ns.drop i = n :: ns.drop (i + 1) := by
        rw [List.drop_eq_getElem_cons hi]
        rw [List.getElem?_eq_getElem hi] at hn
        rw [Option.some.inj hn]
      rw [hdrop] at hcs
      obtain ⟨hn0, hn23, hbl, fu', cs', rfl, hcs'⟩ := calls_step hcs
      rw [List.length_drop] at hbl
      have hlen2 : i + (1 + behind n) ≤ ns.length := by omega
      refine ⟨fun σ' H'' => ∃ v4 v5 v6, σ' = [some (.ref ca), some (.ref r), some (.ref g), some (.int ((i + (1 + behind n) : Nat))), v4, v5, v6] ∧ Mid C K H ns r g (i + (1 + behind n)) H'', fun σ' H'' ⟨v4, v5, v6, e, M'⟩ => ⟨_, by omega, _, v4, v5, v6, rfl, e, M'⟩, ?_⟩
      refine ⟨_, rfl, _, rfl, ca, _, _, _, rfl, rfl, hS', atI_nat (v := V.int n) (by rw [List.getElem?_map, hn]; rfl), ?_⟩
      refine ⟨_, rfl, _, _, rfl, rfl, _, rfl, aN, _, _, _, rfl, rfl, T.t_NUMBERS_GIVEN _, ng_at hn0 hn23, _, _, rfl, rfl, ?_⟩
      refine ⟨_, rfl, _, rfl, _, rfl, _, rfl, _, _, rfl, rfl, _, rfl, _, rfl, _, rfl, ca, _, rfl, hS', fun c nc => ?_⟩
      have ecut : cutV (ns.map V.int) (some ((i : Int) + 1)) (some ((i : Int) + 1 + (behind n : Nat))) = ((ns.drop (i + 1)).take (behind n)).map V.int := by
        have e := cut_at (ns := ns) (i := i + 1) (k := behind n) (by omega)
        have e1 : ((i + 1 : Nat) : Int) = (i : Int) + 1 := by omega
        have e2 : (((i + 1 + behind n : Nat)) : Int) = (i : Int) + 1 + (behind n : Nat) := by omega
        rw [e2, e1] at e
        exact e
      have Rc : Rec C (upd H' c (.lst (cutV (ns.map V.int) (some ((i : Int) + 1)) (some ((i : Int) + 1 + (behind n : Nat)))))) r l0 l1 (hse a) := by
        obtain ⟨dx', t, hI, hT⟩ := R.ins
        exact ⟨⟨dx', t, by rw [upd_ne (ne_of_none hI nc)]; exact hI, by rw [upd_ne (ne_of_none hT nc)]; exact hT⟩, by rw [upd_ne (ne_of_none R.s0 nc)]; exact R.s0, by rw [upd_ne (ne_of_none R.s1 nc)]; exact R.s1, R.ne⟩
      refine ⟨r, l0, l1, c, a, n, (ns.drop (i + 1)).take (behind n), rfl, Rc, ga, by rw [upd_same, ecut], hn0, hn23, by rw [List.length_take, List.length_drop]; omega, fun x hx => hnn x (List.mem_of_mem_drop (List.mem_of_mem_take hx)), fun H2 l0' l1' q R2 hl nq hq kp => ?_⟩
      have hgc : (upd H' c (.lst (cutV (ns.map V.int) (some ((i : Int) + 1)) (some ((i : Int) + 1 + (behind n : Nat)))))) g = some (.lst (out.map V.int)) := by rw [upd_ne (ne_of_none hg nc)]; exact hg
      have gr : g ≠ r := by
        obtain ⟨dx', t, hI, hT⟩ := R.ins
        exact ne_of hg hI (by intro z; cases z)
      have hg2 : H2 g = some (.lst (out.map V.int)) := kp g _ hgc (by simp [gr, gl0, gl1])
      have gq : g ≠ q := ne_of_none hgc nq
      rw [rest_cons] at hout
      have hlo : out.length + (1 + (Krl7Neutral.step a [n :: (ns.drop (i + 1)).take (behind n)]).2.length) ≤ 10000000 := by
        have e := congrArg List.length hout
        rw [List.length_append, List.length_cons, List.length_append] at e
        omega
      have hsl := sizeLine_eq
      refine ⟨_, rfl, .inl ⟨rfl, _, SqL.of hg2⟩, _, rfl, _, _, rfl, .inl (SqL.of hq), _, _, _, rfl, rfl, hg2, by rw [List.length_map]; omega, ?_⟩
      refine ⟨_, rfl, .inl ⟨rfl, _, SqL.of upd_same⟩, _, rfl, _, _, _, _, rfl, rfl, upd_same, by rw [upd_ne gq.symm]; exact hq, by rw [List.length_append, List.length_map, List.length_map]; simp; omega, ?_⟩
      rw [upd_upd]
      have gl : g ≠ l0' ∧ g ≠ l1' := by
        rcases hl with ⟨rfl, rfl⟩ | ⟨m0, m1⟩
        · exact ⟨gl0, gl1⟩
        · exact ⟨ne_of_none hgc m0, ne_of_none hgc m1⟩
      have fresh' : H l0' = none ∧ H l1' = none := by
        rcases hl with ⟨rfl, rfl⟩ | ⟨m0, m1⟩
        · exact ⟨f0, f1⟩
        · have sc : Same H (upd H' c (.lst (cutV (ns.map V.int) (some ((i : Int) + 1)) (some ((i : Int) + 1 + (behind n : Nat)))))) := fun b o e => by rw [upd_ne (ne_of_none (M.same b o e) nc)]; exact M.same b o e
          exact ⟨sc.free m0, sc.free m1⟩
      refine ⟨_, rfl, some (.int n), some (.int ((i : Int) + 1 + (behind n : Nat))), some (.ref q), ?_, ?_⟩
      · have e2 : (((i + (1 + behind n) : Nat)) : Int) = (i : Int) + 1 + (behind n : Nat) := by omega
        rw [e2]
        rfl
      · refine ⟨hlen2, ?_, M.fr, M.fg, l0', l1', (Krl7Neutral.step a [n :: (ns.drop (i + 1)).take (behind n)]).1, out ++ (((Krl7Neutral.step a [n :: (ns.drop (i + 1)).take (behind n)]).2.length : Int) :: (Krl7Neutral.step a [n :: (ns.drop (i + 1)).take (behind n)]).2), ?_, step_good ga _, ?_, gl.1, gl.2, fresh'.1, fresh'.2, fu', cs', ?_, ?_⟩
        · intro b o e
          have e1 := M.same b o e
          have e2 := kp b o (by rw [upd_ne (ne_of_none e1 nc)]; exact e1) (by simp; exact ⟨ne_of_none e M.fr, ne_of_none e f0, ne_of_none e f1⟩)
          rw [upd_ne (ne_of_none e M.fg)]
          exact e2
        · obtain ⟨dx', t, hI, hT⟩ := R2.ins
          have gt : t ≠ g := ne_of hT hg2 (by intro z; cases z)
          exact ⟨⟨dx', t, by rw [upd_ne gr.symm]; exact hI, by rw [upd_ne gt]; exact hT⟩, by rw [upd_ne gl.1.symm]; exact R2.s0, by rw [upd_ne gl.2.symm]; exact R2.s1, R2.ne⟩
        · rw [upd_same, List.map_append, List.map_cons, List.append_assoc, List.length_map]
          rfl
        · rw [(by omega : i + (1 + behind n) = (i + 1) + behind n), ← List.drop_drop]
          exact hcs'
        · rw [List.append_assoc]
          exact hout
    · refine iteDN (by omega) ?_
      have hi' : i = ns.length := by have := M.le; omega
      rw [hi', List.drop_length] at hcs
      have ec := calls_nil hcs
      rw [ec, rest_nil, List.append_nil] at hout
      refine ⟨_, rfl, k _ g ?_⟩
      rw [hg, hout]
end
end Two
end
section
set_option Elab.async false
set_option linter.all false
set_option maxRecDepth 100000
set_option maxHeartbeats 2000000
namespace Two
open PySem PySem.Spec PyProof.Rows L2
open Krl7 (House Abs)
open Krb7 (full both not_ within count)
theorem all_mk {P : Program} {w : World} {K : PySem.W.Frag} {h : Heap} {mg : Str → Option Value} {fa C f_is_proposition f_opposite f_follows f_excludes f_worlds_allowed f_how_many_worlds f_sets_of_places f_places_bind f_fewest_places_that_bind f_say f_ask f_why f_drop f_since f_accept f_passed f_affirm f_deny f_unsure f_refusal_of_any f_make_bare_move f_make_given_move f_turn f_what_is_open f_agreed f_common f_quarrel f_kinds f_state f_store_of f_bound f_barred f_reason f_would f_tell_of_person f_tell f_answer f_answers f_init f_restart f_begin f_has_begun f_own_store f_other_store f_worlds_of f_is_bound f_is_barred f_commit f_finish f_commit_and_finish : Addr} (X : K.In h) (G : h.Ns mainGlobals mg) (hfa : mg "answers" = some (.ref fa))
    {od_is_proposition an_is_proposition od_opposite an_opposite od_follows an_follows od_excludes an_excludes od_worlds_allowed an_worlds_allowed od_how_many_worlds an_how_many_worlds od_sets_of_places an_sets_of_places od_places_bind an_places_bind od_fewest_places_that_bind an_fewest_places_that_bind od_say an_say od_ask an_ask od_why an_why od_drop an_drop od_since an_since od_accept an_accept od_passed an_passed od_affirm an_affirm od_deny an_deny od_unsure an_unsure od_refusal_of_any an_refusal_of_any od_make_bare_move an_make_bare_move od_make_given_move an_make_given_move od_turn an_turn od_what_is_open an_what_is_open od_agreed an_agreed od_common an_common od_quarrel an_quarrel od_kinds an_kinds od_state an_state od_store_of an_store_of od_bound an_bound od_barred an_barred od_reason an_reason od_would an_would od_tell_of_person an_tell_of_person od_tell an_tell od_answer an_answer od_answers an_answers od_init an_init od_restart an_restart od_begin an_begin od_has_begun an_has_begun od_own_store an_own_store od_other_store an_other_store od_worlds_of an_worlds_of od_is_bound an_is_bound od_is_barred an_is_barred od_commit an_commit od_finish an_finish od_commit_and_finish an_commit_and_finish : Option Addr} {sl_is_proposition sl_opposite sl_follows sl_excludes sl_worlds_allowed sl_how_many_worlds sl_sets_of_places sl_places_bind sl_fewest_places_that_bind sl_say sl_ask sl_why sl_drop sl_since sl_accept sl_passed sl_affirm sl_deny sl_unsure sl_refusal_of_any sl_make_bare_move sl_make_given_move sl_turn sl_what_is_open sl_agreed sl_common sl_quarrel sl_kinds sl_state sl_store_of sl_bound sl_barred sl_reason sl_would sl_tell_of_person sl_tell sl_answer sl_answers sl_init sl_restart sl_begin sl_has_begun sl_own_store sl_other_store sl_worlds_of sl_is_bound sl_is_barred sl_commit sl_finish sl_commit_and_finish : Array (Option Value)} {oc_is_proposition kV_is_proposition dc_is_proposition pm_is_proposition cd_is_proposition ct_is_proposition oc_opposite kV_opposite dc_opposite pm_opposite cd_opposite ct_opposite oc_follows kV_follows dc_follows pm_follows cd_follows ct_follows oc_excludes kV_excludes dc_excludes pm_excludes cd_excludes ct_excludes oc_worlds_allowed kV_worlds_allowed dc_worlds_allowed pm_worlds_allowed cd_worlds_allowed ct_worlds_allowed oc_how_many_worlds kV_how_many_worlds dc_how_many_worlds pm_how_many_worlds cd_how_many_worlds ct_how_many_worlds oc_sets_of_places kV_sets_of_places dc_sets_of_places pm_sets_of_places cd_sets_of_places ct_sets_of_places oc_places_bind kV_places_bind dc_places_bind pm_places_bind cd_places_bind ct_places_bind oc_fewest_places_that_bind kV_fewest_places_that_bind dc_fewest_places_that_bind pm_fewest_places_that_bind cd_fewest_places_that_bind ct_fewest_places_that_bind oc_say kV_say dc_say pm_say cd_say ct_say oc_ask kV_ask dc_ask pm_ask cd_ask ct_ask oc_why kV_why dc_why pm_why cd_why ct_why oc_drop kV_drop dc_drop pm_drop cd_drop ct_drop oc_since kV_since dc_since pm_since cd_since ct_since oc_accept kV_accept dc_accept pm_accept cd_accept ct_accept oc_passed kV_passed dc_passed pm_passed cd_passed ct_passed oc_affirm kV_affirm dc_affirm pm_affirm cd_affirm ct_affirm oc_deny kV_deny dc_deny pm_deny cd_deny ct_deny oc_unsure kV_unsure dc_unsure pm_unsure cd_unsure ct_unsure oc_refusal_of_any kV_refusal_of_any dc_refusal_of_any pm_refusal_of_any cd_refusal_of_any ct_refusal_of_any oc_make_bare_move kV_make_bare_move dc_make_bare_move pm_make_bare_move cd_make_bare_move ct_make_bare_move oc_make_given_move kV_make_given_move dc_make_given_move pm_make_given_move cd_make_given_move ct_make_given_move oc_turn kV_turn dc_turn pm_turn cd_turn ct_turn oc_what_is_open kV_what_is_open dc_what_is_open pm_what_is_open cd_what_is_open ct_what_is_open oc_agreed kV_agreed dc_agreed pm_agreed cd_agreed ct_agreed oc_common kV_common dc_common pm_common cd_common ct_common oc_quarrel kV_quarrel dc_quarrel pm_quarrel cd_quarrel ct_quarrel oc_kinds kV_kinds dc_kinds pm_kinds cd_kinds ct_kinds oc_state kV_state dc_state pm_state cd_state ct_state oc_store_of kV_store_of dc_store_of pm_store_of cd_store_of ct_store_of oc_bound kV_bound dc_bound pm_bound cd_bound ct_bound oc_barred kV_barred dc_barred pm_barred cd_barred ct_barred oc_reason kV_reason dc_reason pm_reason cd_reason ct_reason oc_would kV_would dc_would pm_would cd_would ct_would oc_tell_of_person kV_tell_of_person dc_tell_of_person pm_tell_of_person cd_tell_of_person ct_tell_of_person oc_tell kV_tell dc_tell pm_tell cd_tell ct_tell oc_answer kV_answer dc_answer pm_answer cd_answer ct_answer oc_answers kV_answers dc_answers pm_answers cd_answers ct_answers oc_init kV_init dc_init pm_init cd_init ct_init oc_restart kV_restart dc_restart pm_restart cd_restart ct_restart oc_begin kV_begin dc_begin pm_begin cd_begin ct_begin oc_has_begun kV_has_begun dc_has_begun pm_has_begun cd_has_begun ct_has_begun oc_own_store kV_own_store dc_own_store pm_own_store cd_own_store ct_own_store oc_other_store kV_other_store dc_other_store pm_other_store cd_other_store ct_other_store oc_worlds_of kV_worlds_of dc_worlds_of pm_worlds_of cd_worlds_of ct_worlds_of oc_is_bound kV_is_bound dc_is_bound pm_is_bound cd_is_bound ct_is_bound oc_is_barred kV_is_barred dc_is_barred pm_is_barred cd_is_barred ct_is_barred oc_commit kV_commit dc_commit pm_commit cd_commit ct_commit oc_finish kV_finish dc_finish pm_finish cd_finish ct_finish oc_commit_and_finish kV_commit_and_finish dc_commit_and_finish pm_commit_and_finish cd_commit_and_finish ct_commit_and_finish : Value}
    {t_MOST_LETTERS t_NO_SUCH_PERSON t_NOT_IN_STORE t_BEFORE_BEGIN t_NOT_OPEN t_SO_ALREADY t_NOT_RIGHT t_TOO_MANY t_CANNOT_BE t_NOT_UNSURE t_NO_REASON t_TIME_IS_UP t_MOST_IN_STORE t_NOTHING t_SAID t_ASKED t_WHY_SO t_MOST_MOVES t_NEVER_SO t_STORE t_WOULD t_BEGIN : Tok} {p_ALWAYS_SO p_MOVES_FOR p_NUMBERS_GIVEN p_MOVES_GIVEN p_MOVES_BARE p_TELLINGS_BARE p_TELLINGS_OF_BOTH : Addr}
    {dd_ALWAYS_SO dd_MOVES_FOR dd_NUMBERS_GIVEN dd0_MOVES_FOR dd1_MOVES_FOR dd2_MOVES_FOR dd3_MOVES_FOR : Option Addr} {its_ALWAYS_SO its_MOVES_FOR its_NUMBERS_GIVEN its0_MOVES_FOR its1_MOVES_FOR its2_MOVES_FOR its3_MOVES_FOR : Array Value} {n_ALWAYS_SO n_MOVES_FOR n_NUMBERS_GIVEN n0_MOVES_FOR n1_MOVES_FOR n2_MOVES_FOR n3_MOVES_FOR : Nat} {sl_ALWAYS_SO sl_MOVES_FOR sl_NUMBERS_GIVEN sl0_MOVES_FOR sl1_MOVES_FOR sl2_MOVES_FOR sl3_MOVES_FOR : Array (Option Value)} {es_MOVES_GIVEN es_MOVES_BARE es_TELLINGS_BARE es_TELLINGS_OF_BOTH : Array DictEntry} {ep_MOVES_GIVEN ep_MOVES_BARE ep_TELLINGS_BARE ep_TELLINGS_OF_BOTH : Nat}
    {q0_MOVES_FOR q1_MOVES_FOR q2_MOVES_FOR q3_MOVES_FOR : Addr}
    (aC : PySem.W.nsIn K mainGlobals "Record" = some (some (.ref C)))
    (a_is_proposition : PySem.W.nsIn K mainGlobals "is_proposition" = some (some (.ref f_is_proposition)))
    (l_is_proposition : K.lookup f_is_proposition = some ⟨oc_is_proposition, od_is_proposition, .func (PySem.W.fnOf "is_proposition" "is_proposition" (defArgs s_is_proposition) (defBody s_is_proposition) (defScope s_is_proposition) .none kV_is_proposition dc_is_proposition pm_is_proposition an_is_proposition cd_is_proposition ct_is_proposition), sl_is_proposition⟩)
    (c_is_proposition : PySem.W.codeIn K cd_is_proposition "is_proposition" = true)
    (k_is_proposition : PySem.W.keepIn K (.ref f_is_proposition) = true)
    (a_opposite : PySem.W.nsIn K mainGlobals "opposite" = some (some (.ref f_opposite)))
    (l_opposite : K.lookup f_opposite = some ⟨oc_opposite, od_opposite, .func (PySem.W.fnOf "opposite" "opposite" (defArgs s_opposite) (defBody s_opposite) (defScope s_opposite) .none kV_opposite dc_opposite pm_opposite an_opposite cd_opposite ct_opposite), sl_opposite⟩)
    (c_opposite : PySem.W.codeIn K cd_opposite "opposite" = true)
    (k_opposite : PySem.W.keepIn K (.ref f_opposite) = true)
    (a_follows : PySem.W.nsIn K mainGlobals "follows" = some (some (.ref f_follows)))
    (l_follows : K.lookup f_follows = some ⟨oc_follows, od_follows, .func (PySem.W.fnOf "follows" "follows" (defArgs s_follows) (defBody s_follows) (defScope s_follows) .none kV_follows dc_follows pm_follows an_follows cd_follows ct_follows), sl_follows⟩)
    (c_follows : PySem.W.codeIn K cd_follows "follows" = true)
    (k_follows : PySem.W.keepIn K (.ref f_follows) = true)
    (a_excludes : PySem.W.nsIn K mainGlobals "excludes" = some (some (.ref f_excludes)))
    (l_excludes : K.lookup f_excludes = some ⟨oc_excludes, od_excludes, .func (PySem.W.fnOf "excludes" "excludes" (defArgs s_excludes) (defBody s_excludes) (defScope s_excludes) .none kV_excludes dc_excludes pm_excludes an_excludes cd_excludes ct_excludes), sl_excludes⟩)
    (c_excludes : PySem.W.codeIn K cd_excludes "excludes" = true)
    (k_excludes : PySem.W.keepIn K (.ref f_excludes) = true)
    (a_worlds_allowed : PySem.W.nsIn K mainGlobals "worlds_allowed" = some (some (.ref f_worlds_allowed)))
    (l_worlds_allowed : K.lookup f_worlds_allowed = some ⟨oc_worlds_allowed, od_worlds_allowed, .func (PySem.W.fnOf "worlds_allowed" "worlds_allowed" (defArgs s_worlds_allowed) (defBody s_worlds_allowed) (defScope s_worlds_allowed) .none kV_worlds_allowed dc_worlds_allowed pm_worlds_allowed an_worlds_allowed cd_worlds_allowed ct_worlds_allowed), sl_worlds_allowed⟩)
    (c_worlds_allowed : PySem.W.codeIn K cd_worlds_allowed "worlds_allowed" = true)
    (k_worlds_allowed : PySem.W.keepIn K (.ref f_worlds_allowed) = true)
    (a_how_many_worlds : PySem.W.nsIn K mainGlobals "how_many_worlds" = some (some (.ref f_how_many_worlds)))
    (l_how_many_worlds : K.lookup f_how_many_worlds = some ⟨oc_how_many_worlds, od_how_many_worlds, .func (PySem.W.fnOf "how_many_worlds" "how_many_worlds" (defArgs s_how_many_worlds) (defBody s_how_many_worlds) (defScope s_how_many_worlds) .none kV_how_many_worlds dc_how_many_worlds pm_how_many_worlds an_how_many_worlds cd_how_many_worlds ct_how_many_worlds), sl_how_many_worlds⟩)
    (c_how_many_worlds : PySem.W.codeIn K cd_how_many_worlds "how_many_worlds" = true)
    (k_how_many_worlds : PySem.W.keepIn K (.ref f_how_many_worlds) = true)
    (a_sets_of_places : PySem.W.nsIn K mainGlobals "sets_of_places" = some (some (.ref f_sets_of_places)))
    (l_sets_of_places : K.lookup f_sets_of_places = some ⟨oc_sets_of_places, od_sets_of_places, .func (PySem.W.fnOf "sets_of_places" "sets_of_places" (defArgs s_sets_of_places) (defBody s_sets_of_places) (defScope s_sets_of_places) .none kV_sets_of_places dc_sets_of_places pm_sets_of_places an_sets_of_places cd_sets_of_places ct_sets_of_places), sl_sets_of_places⟩)
    (c_sets_of_places : PySem.W.codeIn K cd_sets_of_places "sets_of_places" = true)
    (k_sets_of_places : PySem.W.keepIn K (.ref f_sets_of_places) = true)
    (a_places_bind : PySem.W.nsIn K mainGlobals "places_bind" = some (some (.ref f_places_bind)))
    (l_places_bind : K.lookup f_places_bind = some ⟨oc_places_bind, od_places_bind, .func (PySem.W.fnOf "places_bind" "places_bind" (defArgs s_places_bind) (defBody s_places_bind) (defScope s_places_bind) .none kV_places_bind dc_places_bind pm_places_bind an_places_bind cd_places_bind ct_places_bind), sl_places_bind⟩)
    (c_places_bind : PySem.W.codeIn K cd_places_bind "places_bind" = true)
    (k_places_bind : PySem.W.keepIn K (.ref f_places_bind) = true)
    (a_fewest_places_that_bind : PySem.W.nsIn K mainGlobals "fewest_places_that_bind" = some (some (.ref f_fewest_places_that_bind)))
    (l_fewest_places_that_bind : K.lookup f_fewest_places_that_bind = some ⟨oc_fewest_places_that_bind, od_fewest_places_that_bind, .func (PySem.W.fnOf "fewest_places_that_bind" "fewest_places_that_bind" (defArgs s_fewest_places_that_bind) (defBody s_fewest_places_that_bind) (defScope s_fewest_places_that_bind) .none kV_fewest_places_that_bind dc_fewest_places_that_bind pm_fewest_places_that_bind an_fewest_places_that_bind cd_fewest_places_that_bind ct_fewest_places_that_bind), sl_fewest_places_that_bind⟩)
    (c_fewest_places_that_bind : PySem.W.codeIn K cd_fewest_places_that_bind "fewest_places_that_bind" = true)
    (k_fewest_places_that_bind : PySem.W.keepIn K (.ref f_fewest_places_that_bind) = true)
    (a_say : PySem.W.nsIn K mainGlobals "say" = some (some (.ref f_say)))
    (l_say : K.lookup f_say = some ⟨oc_say, od_say, .func (PySem.W.fnOf "say" "say" (defArgs s_say) (defBody s_say) (defScope s_say) .none kV_say dc_say pm_say an_say cd_say ct_say), sl_say⟩)
    (c_say : PySem.W.codeIn K cd_say "say" = true)
    (k_say : PySem.W.keepIn K (.ref f_say) = true)
    (a_ask : PySem.W.nsIn K mainGlobals "ask" = some (some (.ref f_ask)))
    (l_ask : K.lookup f_ask = some ⟨oc_ask, od_ask, .func (PySem.W.fnOf "ask" "ask" (defArgs s_ask) (defBody s_ask) (defScope s_ask) .none kV_ask dc_ask pm_ask an_ask cd_ask ct_ask), sl_ask⟩)
    (c_ask : PySem.W.codeIn K cd_ask "ask" = true)
    (k_ask : PySem.W.keepIn K (.ref f_ask) = true)
    (a_why : PySem.W.nsIn K mainGlobals "why" = some (some (.ref f_why)))
    (l_why : K.lookup f_why = some ⟨oc_why, od_why, .func (PySem.W.fnOf "why" "why" (defArgs s_why) (defBody s_why) (defScope s_why) .none kV_why dc_why pm_why an_why cd_why ct_why), sl_why⟩)
    (c_why : PySem.W.codeIn K cd_why "why" = true)
    (k_why : PySem.W.keepIn K (.ref f_why) = true)
    (a_drop : PySem.W.nsIn K mainGlobals "drop" = some (some (.ref f_drop)))
    (l_drop : K.lookup f_drop = some ⟨oc_drop, od_drop, .func (PySem.W.fnOf "drop" "drop" (defArgs s_drop) (defBody s_drop) (defScope s_drop) .none kV_drop dc_drop pm_drop an_drop cd_drop ct_drop), sl_drop⟩)
    (c_drop : PySem.W.codeIn K cd_drop "drop" = true)
    (k_drop : PySem.W.keepIn K (.ref f_drop) = true)
    (a_since : PySem.W.nsIn K mainGlobals "since" = some (some (.ref f_since)))
    (l_since : K.lookup f_since = some ⟨oc_since, od_since, .func (PySem.W.fnOf "since" "since" (defArgs s_since) (defBody s_since) (defScope s_since) .none kV_since dc_since pm_since an_since cd_since ct_since), sl_since⟩)
    (c_since : PySem.W.codeIn K cd_since "since" = true)
    (k_since : PySem.W.keepIn K (.ref f_since) = true)
    (a_accept : PySem.W.nsIn K mainGlobals "accept" = some (some (.ref f_accept)))
    (l_accept : K.lookup f_accept = some ⟨oc_accept, od_accept, .func (PySem.W.fnOf "accept" "accept" (defArgs s_accept) (defBody s_accept) (defScope s_accept) .none kV_accept dc_accept pm_accept an_accept cd_accept ct_accept), sl_accept⟩)
    (c_accept : PySem.W.codeIn K cd_accept "accept" = true)
    (k_accept : PySem.W.keepIn K (.ref f_accept) = true)
    (a_passed : PySem.W.nsIn K mainGlobals "passed" = some (some (.ref f_passed)))
    (l_passed : K.lookup f_passed = some ⟨oc_passed, od_passed, .func (PySem.W.fnOf "passed" "passed" (defArgs s_passed) (defBody s_passed) (defScope s_passed) .none kV_passed dc_passed pm_passed an_passed cd_passed ct_passed), sl_passed⟩)
    (c_passed : PySem.W.codeIn K cd_passed "passed" = true)
    (k_passed : PySem.W.keepIn K (.ref f_passed) = true)
    (a_affirm : PySem.W.nsIn K mainGlobals "affirm" = some (some (.ref f_affirm)))
    (l_affirm : K.lookup f_affirm = some ⟨oc_affirm, od_affirm, .func (PySem.W.fnOf "affirm" "affirm" (defArgs s_affirm) (defBody s_affirm) (defScope s_affirm) .none kV_affirm dc_affirm pm_affirm an_affirm cd_affirm ct_affirm), sl_affirm⟩)
    (c_affirm : PySem.W.codeIn K cd_affirm "affirm" = true)
    (k_affirm : PySem.W.keepIn K (.ref f_affirm) = true)
    (a_deny : PySem.W.nsIn K mainGlobals "deny" = some (some (.ref f_deny)))
    (l_deny : K.lookup f_deny = some ⟨oc_deny, od_deny, .func (PySem.W.fnOf "deny" "deny" (defArgs s_deny) (defBody s_deny) (defScope s_deny) .none kV_deny dc_deny pm_deny an_deny cd_deny ct_deny), sl_deny⟩)
    (c_deny : PySem.W.codeIn K cd_deny "deny" = true)
    (k_deny : PySem.W.keepIn K (.ref f_deny) = true)
    (a_unsure : PySem.W.nsIn K mainGlobals "unsure" = some (some (.ref f_unsure)))
    (l_unsure : K.lookup f_unsure = some ⟨oc_unsure, od_unsure, .func (PySem.W.fnOf "unsure" "unsure" (defArgs s_unsure) (defBody s_unsure) (defScope s_unsure) .none kV_unsure dc_unsure pm_unsure an_unsure cd_unsure ct_unsure), sl_unsure⟩)
    (c_unsure : PySem.W.codeIn K cd_unsure "unsure" = true)
    (k_unsure : PySem.W.keepIn K (.ref f_unsure) = true)
    (a_refusal_of_any : PySem.W.nsIn K mainGlobals "refusal_of_any" = some (some (.ref f_refusal_of_any)))
    (l_refusal_of_any : K.lookup f_refusal_of_any = some ⟨oc_refusal_of_any, od_refusal_of_any, .func (PySem.W.fnOf "refusal_of_any" "refusal_of_any" (defArgs s_refusal_of_any) (defBody s_refusal_of_any) (defScope s_refusal_of_any) .none kV_refusal_of_any dc_refusal_of_any pm_refusal_of_any an_refusal_of_any cd_refusal_of_any ct_refusal_of_any), sl_refusal_of_any⟩)
    (c_refusal_of_any : PySem.W.codeIn K cd_refusal_of_any "refusal_of_any" = true)
    (k_refusal_of_any : PySem.W.keepIn K (.ref f_refusal_of_any) = true)
    (a_make_bare_move : PySem.W.nsIn K mainGlobals "make_bare_move" = some (some (.ref f_make_bare_move)))
    (l_make_bare_move : K.lookup f_make_bare_move = some ⟨oc_make_bare_move, od_make_bare_move, .func (PySem.W.fnOf "make_bare_move" "make_bare_move" (defArgs s_make_bare_move) (defBody s_make_bare_move) (defScope s_make_bare_move) .none kV_make_bare_move dc_make_bare_move pm_make_bare_move an_make_bare_move cd_make_bare_move ct_make_bare_move), sl_make_bare_move⟩)
    (c_make_bare_move : PySem.W.codeIn K cd_make_bare_move "make_bare_move" = true)
    (k_make_bare_move : PySem.W.keepIn K (.ref f_make_bare_move) = true)
    (a_make_given_move : PySem.W.nsIn K mainGlobals "make_given_move" = some (some (.ref f_make_given_move)))
    (l_make_given_move : K.lookup f_make_given_move = some ⟨oc_make_given_move, od_make_given_move, .func (PySem.W.fnOf "make_given_move" "make_given_move" (defArgs s_make_given_move) (defBody s_make_given_move) (defScope s_make_given_move) .none kV_make_given_move dc_make_given_move pm_make_given_move an_make_given_move cd_make_given_move ct_make_given_move), sl_make_given_move⟩)
    (c_make_given_move : PySem.W.codeIn K cd_make_given_move "make_given_move" = true)
    (k_make_given_move : PySem.W.keepIn K (.ref f_make_given_move) = true)
    (a_turn : PySem.W.nsIn K mainGlobals "turn" = some (some (.ref f_turn)))
    (l_turn : K.lookup f_turn = some ⟨oc_turn, od_turn, .func (PySem.W.fnOf "turn" "turn" (defArgs s_turn) (defBody s_turn) (defScope s_turn) .none kV_turn dc_turn pm_turn an_turn cd_turn ct_turn), sl_turn⟩)
    (c_turn : PySem.W.codeIn K cd_turn "turn" = true)
    (k_turn : PySem.W.keepIn K (.ref f_turn) = true)
    (a_what_is_open : PySem.W.nsIn K mainGlobals "what_is_open" = some (some (.ref f_what_is_open)))
    (l_what_is_open : K.lookup f_what_is_open = some ⟨oc_what_is_open, od_what_is_open, .func (PySem.W.fnOf "what_is_open" "what_is_open" (defArgs s_what_is_open) (defBody s_what_is_open) (defScope s_what_is_open) .none kV_what_is_open dc_what_is_open pm_what_is_open an_what_is_open cd_what_is_open ct_what_is_open), sl_what_is_open⟩)
    (c_what_is_open : PySem.W.codeIn K cd_what_is_open "what_is_open" = true)
    (k_what_is_open : PySem.W.keepIn K (.ref f_what_is_open) = true)
    (a_agreed : PySem.W.nsIn K mainGlobals "agreed" = some (some (.ref f_agreed)))
    (l_agreed : K.lookup f_agreed = some ⟨oc_agreed, od_agreed, .func (PySem.W.fnOf "agreed" "agreed" (defArgs s_agreed) (defBody s_agreed) (defScope s_agreed) .none kV_agreed dc_agreed pm_agreed an_agreed cd_agreed ct_agreed), sl_agreed⟩)
    (c_agreed : PySem.W.codeIn K cd_agreed "agreed" = true)
    (k_agreed : PySem.W.keepIn K (.ref f_agreed) = true)
    (a_common : PySem.W.nsIn K mainGlobals "common" = some (some (.ref f_common)))
    (l_common : K.lookup f_common = some ⟨oc_common, od_common, .func (PySem.W.fnOf "common" "common" (defArgs s_common) (defBody s_common) (defScope s_common) .none kV_common dc_common pm_common an_common cd_common ct_common), sl_common⟩)
    (c_common : PySem.W.codeIn K cd_common "common" = true)
    (k_common : PySem.W.keepIn K (.ref f_common) = true)
    (a_quarrel : PySem.W.nsIn K mainGlobals "quarrel" = some (some (.ref f_quarrel)))
    (l_quarrel : K.lookup f_quarrel = some ⟨oc_quarrel, od_quarrel, .func (PySem.W.fnOf "quarrel" "quarrel" (defArgs s_quarrel) (defBody s_quarrel) (defScope s_quarrel) .none kV_quarrel dc_quarrel pm_quarrel an_quarrel cd_quarrel ct_quarrel), sl_quarrel⟩)
    (c_quarrel : PySem.W.codeIn K cd_quarrel "quarrel" = true)
    (k_quarrel : PySem.W.keepIn K (.ref f_quarrel) = true)
    (a_kinds : PySem.W.nsIn K mainGlobals "kinds" = some (some (.ref f_kinds)))
    (l_kinds : K.lookup f_kinds = some ⟨oc_kinds, od_kinds, .func (PySem.W.fnOf "kinds" "kinds" (defArgs s_kinds) (defBody s_kinds) (defScope s_kinds) .none kV_kinds dc_kinds pm_kinds an_kinds cd_kinds ct_kinds), sl_kinds⟩)
    (c_kinds : PySem.W.codeIn K cd_kinds "kinds" = true)
    (k_kinds : PySem.W.keepIn K (.ref f_kinds) = true)
    (a_state : PySem.W.nsIn K mainGlobals "state" = some (some (.ref f_state)))
    (l_state : K.lookup f_state = some ⟨oc_state, od_state, .func (PySem.W.fnOf "state" "state" (defArgs s_state) (defBody s_state) (defScope s_state) .none kV_state dc_state pm_state an_state cd_state ct_state), sl_state⟩)
    (c_state : PySem.W.codeIn K cd_state "state" = true)
    (k_state : PySem.W.keepIn K (.ref f_state) = true)
    (a_store_of : PySem.W.nsIn K mainGlobals "store_of" = some (some (.ref f_store_of)))
    (l_store_of : K.lookup f_store_of = some ⟨oc_store_of, od_store_of, .func (PySem.W.fnOf "store_of" "store_of" (defArgs s_store_of) (defBody s_store_of) (defScope s_store_of) .none kV_store_of dc_store_of pm_store_of an_store_of cd_store_of ct_store_of), sl_store_of⟩)
    (c_store_of : PySem.W.codeIn K cd_store_of "store_of" = true)
    (k_store_of : PySem.W.keepIn K (.ref f_store_of) = true)
    (a_bound : PySem.W.nsIn K mainGlobals "bound" = some (some (.ref f_bound)))
    (l_bound : K.lookup f_bound = some ⟨oc_bound, od_bound, .func (PySem.W.fnOf "bound" "bound" (defArgs s_bound) (defBody s_bound) (defScope s_bound) .none kV_bound dc_bound pm_bound an_bound cd_bound ct_bound), sl_bound⟩)
    (c_bound : PySem.W.codeIn K cd_bound "bound" = true)
    (k_bound : PySem.W.keepIn K (.ref f_bound) = true)
    (a_barred : PySem.W.nsIn K mainGlobals "barred" = some (some (.ref f_barred)))
    (l_barred : K.lookup f_barred = some ⟨oc_barred, od_barred, .func (PySem.W.fnOf "barred" "barred" (defArgs s_barred) (defBody s_barred) (defScope s_barred) .none kV_barred dc_barred pm_barred an_barred cd_barred ct_barred), sl_barred⟩)
    (c_barred : PySem.W.codeIn K cd_barred "barred" = true)
    (k_barred : PySem.W.keepIn K (.ref f_barred) = true)
    (a_reason : PySem.W.nsIn K mainGlobals "reason" = some (some (.ref f_reason)))
    (l_reason : K.lookup f_reason = some ⟨oc_reason, od_reason, .func (PySem.W.fnOf "reason" "reason" (defArgs s_reason) (defBody s_reason) (defScope s_reason) .none kV_reason dc_reason pm_reason an_reason cd_reason ct_reason), sl_reason⟩)
    (c_reason : PySem.W.codeIn K cd_reason "reason" = true)
    (k_reason : PySem.W.keepIn K (.ref f_reason) = true)
    (a_would : PySem.W.nsIn K mainGlobals "would" = some (some (.ref f_would)))
    (l_would : K.lookup f_would = some ⟨oc_would, od_would, .func (PySem.W.fnOf "would" "would" (defArgs s_would) (defBody s_would) (defScope s_would) .none kV_would dc_would pm_would an_would cd_would ct_would), sl_would⟩)
    (c_would : PySem.W.codeIn K cd_would "would" = true)
    (k_would : PySem.W.keepIn K (.ref f_would) = true)
    (a_tell_of_person : PySem.W.nsIn K mainGlobals "tell_of_person" = some (some (.ref f_tell_of_person)))
    (l_tell_of_person : K.lookup f_tell_of_person = some ⟨oc_tell_of_person, od_tell_of_person, .func (PySem.W.fnOf "tell_of_person" "tell_of_person" (defArgs s_tell_of_person) (defBody s_tell_of_person) (defScope s_tell_of_person) .none kV_tell_of_person dc_tell_of_person pm_tell_of_person an_tell_of_person cd_tell_of_person ct_tell_of_person), sl_tell_of_person⟩)
    (c_tell_of_person : PySem.W.codeIn K cd_tell_of_person "tell_of_person" = true)
    (k_tell_of_person : PySem.W.keepIn K (.ref f_tell_of_person) = true)
    (a_tell : PySem.W.nsIn K mainGlobals "tell" = some (some (.ref f_tell)))
    (l_tell : K.lookup f_tell = some ⟨oc_tell, od_tell, .func (PySem.W.fnOf "tell" "tell" (defArgs s_tell) (defBody s_tell) (defScope s_tell) .none kV_tell dc_tell pm_tell an_tell cd_tell ct_tell), sl_tell⟩)
    (c_tell : PySem.W.codeIn K cd_tell "tell" = true)
    (k_tell : PySem.W.keepIn K (.ref f_tell) = true)
    (a_answer : PySem.W.nsIn K mainGlobals "answer" = some (some (.ref f_answer)))
    (l_answer : K.lookup f_answer = some ⟨oc_answer, od_answer, .func (PySem.W.fnOf "answer" "answer" (defArgs s_answer) (defBody s_answer) (defScope s_answer) .none kV_answer dc_answer pm_answer an_answer cd_answer ct_answer), sl_answer⟩)
    (c_answer : PySem.W.codeIn K cd_answer "answer" = true)
    (k_answer : PySem.W.keepIn K (.ref f_answer) = true)
    (a_answers : PySem.W.nsIn K mainGlobals "answers" = some (some (.ref f_answers)))
    (l_answers : K.lookup f_answers = some ⟨oc_answers, od_answers, .func (PySem.W.fnOf "answers" "answers" (defArgs s_answers) (defBody s_answers) (defScope s_answers) .none kV_answers dc_answers pm_answers an_answers cd_answers ct_answers), sl_answers⟩)
    (c_answers : PySem.W.codeIn K cd_answers "answers" = true)
    (k_answers : PySem.W.keepIn K (.ref f_answers) = true)
    (a_init : PySem.W.findIn K (.ref C) "__init__" = some (some (.ref f_init)))
    (i_init : PySem.W.isFn K (.ref f_init) = true)
    (l_init : K.lookup f_init = some ⟨oc_init, od_init, .func (PySem.W.fnOf "__init__" "Record.__init__" (defArgs s_init) (defBody s_init) (defScope s_init) .none kV_init dc_init pm_init an_init cd_init ct_init), sl_init⟩)
    (c_init : PySem.W.codeIn K cd_init "Record.__init__" = true)
    (k_init : PySem.W.keepIn K (.ref f_init) = true)
    (a_restart : PySem.W.findIn K (.ref C) "restart" = some (some (.ref f_restart)))
    (i_restart : PySem.W.isFn K (.ref f_restart) = true)
    (l_restart : K.lookup f_restart = some ⟨oc_restart, od_restart, .func (PySem.W.fnOf "restart" "Record.restart" (defArgs s_restart) (defBody s_restart) (defScope s_restart) .none kV_restart dc_restart pm_restart an_restart cd_restart ct_restart), sl_restart⟩)
    (c_restart : PySem.W.codeIn K cd_restart "Record.restart" = true)
    (k_restart : PySem.W.keepIn K (.ref f_restart) = true)
    (a_begin : PySem.W.findIn K (.ref C) "begin" = some (some (.ref f_begin)))
    (i_begin : PySem.W.isFn K (.ref f_begin) = true)
    (l_begin : K.lookup f_begin = some ⟨oc_begin, od_begin, .func (PySem.W.fnOf "begin" "Record.begin" (defArgs s_begin) (defBody s_begin) (defScope s_begin) .none kV_begin dc_begin pm_begin an_begin cd_begin ct_begin), sl_begin⟩)
    (c_begin : PySem.W.codeIn K cd_begin "Record.begin" = true)
    (k_begin : PySem.W.keepIn K (.ref f_begin) = true)
    (a_has_begun : PySem.W.findIn K (.ref C) "has_begun" = some (some (.ref f_has_begun)))
    (i_has_begun : PySem.W.isFn K (.ref f_has_begun) = true)
    (l_has_begun : K.lookup f_has_begun = some ⟨oc_has_begun, od_has_begun, .func (PySem.W.fnOf "has_begun" "Record.has_begun" (defArgs s_has_begun) (defBody s_has_begun) (defScope s_has_begun) .none kV_has_begun dc_has_begun pm_has_begun an_has_begun cd_has_begun ct_has_begun), sl_has_begun⟩)
    (c_has_begun : PySem.W.codeIn K cd_has_begun "Record.has_begun" = true)
    (k_has_begun : PySem.W.keepIn K (.ref f_has_begun) = true)
    (a_own_store : PySem.W.findIn K (.ref C) "own_store" = some (some (.ref f_own_store)))
    (i_own_store : PySem.W.isFn K (.ref f_own_store) = true)
    (l_own_store : K.lookup f_own_store = some ⟨oc_own_store, od_own_store, .func (PySem.W.fnOf "own_store" "Record.own_store" (defArgs s_own_store) (defBody s_own_store) (defScope s_own_store) .none kV_own_store dc_own_store pm_own_store an_own_store cd_own_store ct_own_store), sl_own_store⟩)
    (c_own_store : PySem.W.codeIn K cd_own_store "Record.own_store" = true)
    (k_own_store : PySem.W.keepIn K (.ref f_own_store) = true)
    (a_other_store : PySem.W.findIn K (.ref C) "other_store" = some (some (.ref f_other_store)))
    (i_other_store : PySem.W.isFn K (.ref f_other_store) = true)
    (l_other_store : K.lookup f_other_store = some ⟨oc_other_store, od_other_store, .func (PySem.W.fnOf "other_store" "Record.other_store" (defArgs s_other_store) (defBody s_other_store) (defScope s_other_store) .none kV_other_store dc_other_store pm_other_store an_other_store cd_other_store ct_other_store), sl_other_store⟩)
    (c_other_store : PySem.W.codeIn K cd_other_store "Record.other_store" = true)
    (k_other_store : PySem.W.keepIn K (.ref f_other_store) = true)
    (a_worlds_of : PySem.W.findIn K (.ref C) "worlds_of" = some (some (.ref f_worlds_of)))
    (i_worlds_of : PySem.W.isFn K (.ref f_worlds_of) = true)
    (l_worlds_of : K.lookup f_worlds_of = some ⟨oc_worlds_of, od_worlds_of, .func (PySem.W.fnOf "worlds_of" "Record.worlds_of" (defArgs s_worlds_of) (defBody s_worlds_of) (defScope s_worlds_of) .none kV_worlds_of dc_worlds_of pm_worlds_of an_worlds_of cd_worlds_of ct_worlds_of), sl_worlds_of⟩)
    (c_worlds_of : PySem.W.codeIn K cd_worlds_of "Record.worlds_of" = true)
    (k_worlds_of : PySem.W.keepIn K (.ref f_worlds_of) = true)
    (a_is_bound : PySem.W.findIn K (.ref C) "is_bound" = some (some (.ref f_is_bound)))
    (i_is_bound : PySem.W.isFn K (.ref f_is_bound) = true)
    (l_is_bound : K.lookup f_is_bound = some ⟨oc_is_bound, od_is_bound, .func (PySem.W.fnOf "is_bound" "Record.is_bound" (defArgs s_is_bound) (defBody s_is_bound) (defScope s_is_bound) .none kV_is_bound dc_is_bound pm_is_bound an_is_bound cd_is_bound ct_is_bound), sl_is_bound⟩)
    (c_is_bound : PySem.W.codeIn K cd_is_bound "Record.is_bound" = true)
    (k_is_bound : PySem.W.keepIn K (.ref f_is_bound) = true)
    (a_is_barred : PySem.W.findIn K (.ref C) "is_barred" = some (some (.ref f_is_barred)))
    (i_is_barred : PySem.W.isFn K (.ref f_is_barred) = true)
    (l_is_barred : K.lookup f_is_barred = some ⟨oc_is_barred, od_is_barred, .func (PySem.W.fnOf "is_barred" "Record.is_barred" (defArgs s_is_barred) (defBody s_is_barred) (defScope s_is_barred) .none kV_is_barred dc_is_barred pm_is_barred an_is_barred cd_is_barred ct_is_barred), sl_is_barred⟩)
    (c_is_barred : PySem.W.codeIn K cd_is_barred "Record.is_barred" = true)
    (k_is_barred : PySem.W.keepIn K (.ref f_is_barred) = true)
    (a_commit : PySem.W.findIn K (.ref C) "commit" = some (some (.ref f_commit)))
    (i_commit : PySem.W.isFn K (.ref f_commit) = true)
    (l_commit : K.lookup f_commit = some ⟨oc_commit, od_commit, .func (PySem.W.fnOf "commit" "Record.commit" (defArgs s_commit) (defBody s_commit) (defScope s_commit) .none kV_commit dc_commit pm_commit an_commit cd_commit ct_commit), sl_commit⟩)
    (c_commit : PySem.W.codeIn K cd_commit "Record.commit" = true)
    (k_commit : PySem.W.keepIn K (.ref f_commit) = true)
    (a_finish : PySem.W.findIn K (.ref C) "finish" = some (some (.ref f_finish)))
    (i_finish : PySem.W.isFn K (.ref f_finish) = true)
    (l_finish : K.lookup f_finish = some ⟨oc_finish, od_finish, .func (PySem.W.fnOf "finish" "Record.finish" (defArgs s_finish) (defBody s_finish) (defScope s_finish) .none kV_finish dc_finish pm_finish an_finish cd_finish ct_finish), sl_finish⟩)
    (c_finish : PySem.W.codeIn K cd_finish "Record.finish" = true)
    (k_finish : PySem.W.keepIn K (.ref f_finish) = true)
    (a_commit_and_finish : PySem.W.findIn K (.ref C) "commit_and_finish" = some (some (.ref f_commit_and_finish)))
    (i_commit_and_finish : PySem.W.isFn K (.ref f_commit_and_finish) = true)
    (l_commit_and_finish : K.lookup f_commit_and_finish = some ⟨oc_commit_and_finish, od_commit_and_finish, .func (PySem.W.fnOf "commit_and_finish" "Record.commit_and_finish" (defArgs s_commit_and_finish) (defBody s_commit_and_finish) (defScope s_commit_and_finish) .none kV_commit_and_finish dc_commit_and_finish pm_commit_and_finish an_commit_and_finish cd_commit_and_finish ct_commit_and_finish), sl_commit_and_finish⟩)
    (c_commit_and_finish : PySem.W.codeIn K cd_commit_and_finish "Record.commit_and_finish" = true)
    (k_commit_and_finish : PySem.W.keepIn K (.ref f_commit_and_finish) = true)
    (g_MOST_LETTERS : PySem.W.nsIn K mainGlobals "MOST_LETTERS" = some (some (.int (3) t_MOST_LETTERS)))
    (g_NO_SUCH_PERSON : PySem.W.nsIn K mainGlobals "NO_SUCH_PERSON" = some (some (.int (-2) t_NO_SUCH_PERSON)))
    (g_NOT_IN_STORE : PySem.W.nsIn K mainGlobals "NOT_IN_STORE" = some (some (.int (-6) t_NOT_IN_STORE)))
    (g_BEFORE_BEGIN : PySem.W.nsIn K mainGlobals "BEFORE_BEGIN" = some (some (.int (-11) t_BEFORE_BEGIN)))
    (g_NOT_OPEN : PySem.W.nsIn K mainGlobals "NOT_OPEN" = some (some (.int (-16) t_NOT_OPEN)))
    (g_SO_ALREADY : PySem.W.nsIn K mainGlobals "SO_ALREADY" = some (some (.int (-17) t_SO_ALREADY)))
    (g_NOT_RIGHT : PySem.W.nsIn K mainGlobals "NOT_RIGHT" = some (some (.int (-22) t_NOT_RIGHT)))
    (g_TOO_MANY : PySem.W.nsIn K mainGlobals "TOO_MANY" = some (some (.int (-28) t_TOO_MANY)))
    (g_CANNOT_BE : PySem.W.nsIn K mainGlobals "CANNOT_BE" = some (some (.int (-33) t_CANNOT_BE)))
    (g_NOT_UNSURE : PySem.W.nsIn K mainGlobals "NOT_UNSURE" = some (some (.int (-61) t_NOT_UNSURE)))
    (g_NO_REASON : PySem.W.nsIn K mainGlobals "NO_REASON" = some (some (.int (-62) t_NO_REASON)))
    (g_TIME_IS_UP : PySem.W.nsIn K mainGlobals "TIME_IS_UP" = some (some (.int (-75) t_TIME_IS_UP)))
    (g_MOST_IN_STORE : PySem.W.nsIn K mainGlobals "MOST_IN_STORE" = some (some (.int (6) t_MOST_IN_STORE)))
    (g_NOTHING : PySem.W.nsIn K mainGlobals "NOTHING" = some (some (.int (0) t_NOTHING)))
    (g_SAID : PySem.W.nsIn K mainGlobals "SAID" = some (some (.int (1) t_SAID)))
    (g_ASKED : PySem.W.nsIn K mainGlobals "ASKED" = some (some (.int (2) t_ASKED)))
    (g_WHY_SO : PySem.W.nsIn K mainGlobals "WHY_SO" = some (some (.int (3) t_WHY_SO)))
    (g_MOST_MOVES : PySem.W.nsIn K mainGlobals "MOST_MOVES" = some (some (.int (40) t_MOST_MOVES)))
    (g_NEVER_SO : PySem.W.nsIn K mainGlobals "NEVER_SO" = some (some (.int (0) t_NEVER_SO)))
    (g_STORE : PySem.W.nsIn K mainGlobals "STORE" = some (some (.int (14) t_STORE)))
    (g_WOULD : PySem.W.nsIn K mainGlobals "WOULD" = some (some (.int (22) t_WOULD)))
    (g_BEGIN : PySem.W.nsIn K mainGlobals "BEGIN" = some (some (.int (0) t_BEGIN)))
    (g_ALWAYS_SO : PySem.W.nsIn K mainGlobals "ALWAYS_SO" = some (some (.ref p_ALWAYS_SO)))
    (g_MOVES_FOR : PySem.W.nsIn K mainGlobals "MOVES_FOR" = some (some (.ref p_MOVES_FOR)))
    (g_NUMBERS_GIVEN : PySem.W.nsIn K mainGlobals "NUMBERS_GIVEN" = some (some (.ref p_NUMBERS_GIVEN)))
    (g_MOVES_GIVEN : PySem.W.nsIn K mainGlobals "MOVES_GIVEN" = some (some (.ref p_MOVES_GIVEN)))
    (g_MOVES_BARE : PySem.W.nsIn K mainGlobals "MOVES_BARE" = some (some (.ref p_MOVES_BARE)))
    (g_TELLINGS_BARE : PySem.W.nsIn K mainGlobals "TELLINGS_BARE" = some (some (.ref p_TELLINGS_BARE)))
    (g_TELLINGS_OF_BOTH : PySem.W.nsIn K mainGlobals "TELLINGS_OF_BOTH" = some (some (.ref p_TELLINGS_OF_BOTH)))
    (t_ALWAYS_SO : K.lookup p_ALWAYS_SO = some ⟨.type "tuple", dd_ALWAYS_SO, .seq its_ALWAYS_SO n_ALWAYS_SO, sl_ALWAYS_SO⟩)
    (t_MOVES_FOR : K.lookup p_MOVES_FOR = some ⟨.type "tuple", dd_MOVES_FOR, .seq its_MOVES_FOR n_MOVES_FOR, sl_MOVES_FOR⟩)
    (e_MOVES_FOR : its_MOVES_FOR = #[.ref q0_MOVES_FOR, .ref q1_MOVES_FOR, .ref q2_MOVES_FOR, .ref q3_MOVES_FOR])
    (t0_MOVES_FOR : K.lookup q0_MOVES_FOR = some ⟨.type "tuple", dd0_MOVES_FOR, .seq its0_MOVES_FOR n0_MOVES_FOR, sl0_MOVES_FOR⟩)
    (t1_MOVES_FOR : K.lookup q1_MOVES_FOR = some ⟨.type "tuple", dd1_MOVES_FOR, .seq its1_MOVES_FOR n1_MOVES_FOR, sl1_MOVES_FOR⟩)
    (t2_MOVES_FOR : K.lookup q2_MOVES_FOR = some ⟨.type "tuple", dd2_MOVES_FOR, .seq its2_MOVES_FOR n2_MOVES_FOR, sl2_MOVES_FOR⟩)
    (t3_MOVES_FOR : K.lookup q3_MOVES_FOR = some ⟨.type "tuple", dd3_MOVES_FOR, .seq its3_MOVES_FOR n3_MOVES_FOR, sl3_MOVES_FOR⟩)
    (t_NUMBERS_GIVEN : K.lookup p_NUMBERS_GIVEN = some ⟨.type "tuple", dd_NUMBERS_GIVEN, .seq its_NUMBERS_GIVEN n_NUMBERS_GIVEN, sl_NUMBERS_GIVEN⟩)
    (t_MOVES_GIVEN : K.lookup p_MOVES_GIVEN = some ⟨.type "dict", none, .dict es_MOVES_GIVEN ep_MOVES_GIVEN, #[]⟩)
    (t_MOVES_BARE : K.lookup p_MOVES_BARE = some ⟨.type "dict", none, .dict es_MOVES_BARE ep_MOVES_BARE, #[]⟩)
    (t_TELLINGS_BARE : K.lookup p_TELLINGS_BARE = some ⟨.type "dict", none, .dict es_TELLINGS_BARE ep_TELLINGS_BARE, #[]⟩)
    (t_TELLINGS_OF_BOTH : K.lookup p_TELLINGS_OF_BOTH = some ⟨.type "dict", none, .dict es_TELLINGS_OF_BOTH ep_TELLINGS_OF_BOTH, #[]⟩)
    (b_len : PySem.W.nsIn K mainGlobals "len" = some none)
    (b_list : PySem.W.nsIn K mainGlobals "list" = some none)
    (b_range : PySem.W.nsIn K mainGlobals "range" = some none)
    (pg : PySem.W.plainGet K C Str.empty = true)
    (hd : PySem.W.hasDictIn K C = true)
    (po : PySem.W.plainOver K C = true)
    (sa : PySem.W.findIn K (.ref C) "__setattr__" = some (some (.builtin "object.__setattr__")))
    (mk : PySem.W.makesIn K C = true)
    (kc : PySem.W.keepIn K (.ref C) = true)
    (n_letters : PySem.W.findIn K (.ref C) "letters" = some none)
    (n_stores : PySem.W.findIn K (.ref C) "stores" = some none)
    (n_mover : PySem.W.findIn K (.ref C) "mover" = some none)
    (n_matter : PySem.W.findIn K (.ref C) "matter" = some none)
    (n_topic : PySem.W.findIn K (.ref C) "topic" = some none)
    (n_moves_made : PySem.W.findIn K (.ref C) "moves_made" = some none)
    (v_AS : absL its_ALWAYS_SO.toList = some AS)
    (z_AS : its_ALWAYS_SO.size ≤ sizeLine)
    (d_MOVES_GIVEN : entsV es_MOVES_GIVEN.toList = some [(.inl 1, .ref f_say), (.inl 2, .ref f_ask), (.inl 3, .ref f_why), (.inl 4, .ref f_drop), (.inl 11, .ref f_since)])
    (d_MOVES_BARE : entsV es_MOVES_BARE.toList = some [(.inl 5, .ref f_accept), (.inl 6, .ref f_deny), (.inl 7, .ref f_passed), (.inl 8, .ref f_affirm), (.inl 9, .ref f_deny), (.inl 10, .ref f_unsure)])
    (s_MOVES_GIVEN : (p_MOVES_GIVEN == sysModules) = false)
    (s_MOVES_BARE : (p_MOVES_BARE == sysModules) = false)
    (v_NG : absL its_NUMBERS_GIVEN.toList = some NG)
    (z_NG : its_NUMBERS_GIVEN.size ≤ sizeLine)
    (d_TELLINGS_BARE : entsV es_TELLINGS_BARE.toList = some [(.inl 12, .ref f_turn), (.inl 13, .ref f_what_is_open), (.inl 18, .ref f_agreed), (.inl 19, .ref f_quarrel), (.inl 20, .ref f_common), (.inl 21, .ref f_kinds), (.inl 23, .ref f_state)])
    (d_TELLINGS_OF_BOTH : entsV es_TELLINGS_OF_BOTH.toList = some [(.inl 15, .ref f_bound), (.inl 16, .ref f_barred), (.inl 17, .ref f_reason)])
    (s_TELLINGS_BARE : (p_TELLINGS_BARE == sysModules) = false)
    (s_TELLINGS_OF_BOTH : (p_TELLINGS_OF_BOTH == sysModules) = false)
    (v0_MF : absL its0_MOVES_FOR.toList = some (nV (kindsOf 0)))
    (v1_MF : absL its1_MOVES_FOR.toList = some (nV (kindsOf 1)))
    (v2_MF : absL its2_MOVES_FOR.toList = some (nV (kindsOf 2)))
    (v3_MF : absL its3_MOVES_FOR.toList = some (nV (kindsOf 3)))
    : ∃ fd : FuncData, (∀ (s : Shared) (us : List Value), us.length = (["calls"] : List Str).length → BindsTo s fd ⟨us, []⟩ ((["calls"] : List Str).zip us)) ∧ ∀ base : Heap, K.In base → base.Ns mainGlobals mg → FnOk P w K mg base CX0 9 fa fd ["calls"] (sp_answers K) := by
  have e := hfa.symm.trans (PySem.W.mg_of X G a_answers)
  cases e
  have T : Txt P w K mg C p_ALWAYS_SO p_MOVES_FOR p_MOVES_GIVEN p_MOVES_BARE p_TELLINGS_BARE p_TELLINGS_OF_BOTH p_NUMBERS_GIVEN := ⟨⟨pg, hd, po, sa⟩, n_letters, n_stores, n_mover, n_matter, n_topic, n_moves_made, ⟨_, PySem.W.mg_of X G g_MOST_LETTERS⟩, ⟨_, PySem.W.mg_of X G g_NOT_IN_STORE⟩, ⟨_, PySem.W.mg_of X G g_BEFORE_BEGIN⟩, ⟨_, PySem.W.mg_of X G g_NOT_OPEN⟩, ⟨_, PySem.W.mg_of X G g_SO_ALREADY⟩, ⟨_, PySem.W.mg_of X G g_NOT_RIGHT⟩, ⟨_, PySem.W.mg_of X G g_TOO_MANY⟩, ⟨_, PySem.W.mg_of X G g_CANNOT_BE⟩, ⟨_, PySem.W.mg_of X G g_NOT_UNSURE⟩, ⟨_, PySem.W.mg_of X G g_NO_REASON⟩, ⟨_, PySem.W.mg_of X G g_TIME_IS_UP⟩, ⟨_, PySem.W.mg_of X G g_MOST_IN_STORE⟩, ⟨_, PySem.W.mg_of X G g_NOTHING⟩, ⟨_, PySem.W.mg_of X G g_SAID⟩, ⟨_, PySem.W.mg_of X G g_ASKED⟩, ⟨_, PySem.W.mg_of X G g_WHY_SO⟩, ⟨_, PySem.W.mg_of X G g_MOST_MOVES⟩, ⟨_, PySem.W.mg_of X G g_BEGIN⟩, ⟨_, PySem.W.mg_of X G g_NO_SUCH_PERSON⟩, ⟨_, PySem.W.mg_of X G g_NEVER_SO⟩, ⟨_, PySem.W.mg_of X G g_STORE⟩, ⟨_, PySem.W.mg_of X G g_WOULD⟩, PySem.W.mg_of X G g_ALWAYS_SO, PySem.W.mg_of X G g_MOVES_FOR, PySem.W.mg_of X G g_MOVES_GIVEN, PySem.W.mg_of X G g_MOVES_BARE, PySem.W.mg_of X G g_TELLINGS_BARE, PySem.W.mg_of X G g_TELLINGS_OF_BOTH, PySem.W.mg_of X G g_NUMBERS_GIVEN, sqt_mk t_ALWAYS_SO v_AS z_AS, sqt_mk t_NUMBERS_GIVEN v_NG z_NG, PySem.W.mg_none_of X G b_len, PySem.W.mg_none_of X G b_list, PySem.W.mg_none_of X G b_range⟩
  have B : Tab P w K mg p_MOVES_FOR p_MOVES_GIVEN p_MOVES_BARE := by
    refine ⟨⟨[q0_MOVES_FOR, q1_MOVES_FOR, q2_MOVES_FOR, q3_MOVES_FOR], rfl, sqt_mk t_MOVES_FOR (by rw [e_MOVES_FOR]; rfl) (by rw [e_MOVES_FOR]; show 4 ≤ sizeLine; decide), fun k a hk => ?_⟩, ⟨f_say, f_ask, f_why, f_drop, f_since, PySem.W.mg_of X G a_say, PySem.W.mg_of X G a_ask, PySem.W.mg_of X G a_why, PySem.W.mg_of X G a_drop, PySem.W.mg_of X G a_since, dk_mk t_MOVES_GIVEN d_MOVES_GIVEN (by show ([.inl 1, .inl 2, .inl 3, .inl 4, .inl 11] : List Key).Nodup; decide) s_MOVES_GIVEN⟩,
      ⟨f_accept, f_deny, f_passed, f_affirm, f_unsure, PySem.W.mg_of X G a_accept, PySem.W.mg_of X G a_deny, PySem.W.mg_of X G a_passed, PySem.W.mg_of X G a_affirm, PySem.W.mg_of X G a_unsure, dk_mk t_MOVES_BARE d_MOVES_BARE (by show ([.inl 5, .inl 6, .inl 7, .inl 8, .inl 9, .inl 10] : List Key).Nodup; decide) s_MOVES_BARE⟩⟩
    have hz : ∀ {its : Array Value} {l : List Nat}, absL its.toList = some (nV l) → l.length ≤ 4 → its.size ≤ sizeLine := fun {its l} e hl => by
      have := (absL_vals e).length
      rw [nV_length] at this
      rw [← Array.length_toList, ← this, sizeLine_eq]
      omega
    match k, hk with
    | 0, hk => cases hk; exact sqt_mk t0_MOVES_FOR v0_MF (hz v0_MF (by decide))
    | 1, hk => cases hk; exact sqt_mk t1_MOVES_FOR v1_MF (hz v1_MF (by decide))
    | 2, hk => cases hk; exact sqt_mk t2_MOVES_FOR v2_MF (hz v2_MF (by decide))
    | 3, hk => cases hk; exact sqt_mk t3_MOVES_FOR v3_MF (hz v3_MF (by decide))
    | k + 4, hk => simp at hk
  have B2 : Tab2 P w K mg p_TELLINGS_BARE p_TELLINGS_OF_BOTH := ⟨⟨f_turn, f_what_is_open, f_agreed, f_quarrel, f_common, f_kinds, f_state, PySem.W.mg_of X G a_turn, PySem.W.mg_of X G a_what_is_open, PySem.W.mg_of X G a_agreed, PySem.W.mg_of X G a_quarrel, PySem.W.mg_of X G a_common, PySem.W.mg_of X G a_kinds, PySem.W.mg_of X G a_state, dk_mk t_TELLINGS_BARE d_TELLINGS_BARE (by show ([.inl 12, .inl 13, .inl 18, .inl 19, .inl 20, .inl 21, .inl 23] : List Key).Nodup; decide) s_TELLINGS_BARE⟩,
    ⟨f_bound, f_barred, f_reason, PySem.W.mg_of X G a_bound, PySem.W.mg_of X G a_barred, PySem.W.mg_of X G a_reason, dk_mk t_TELLINGS_OF_BOTH d_TELLINGS_OF_BOTH (by show ([.inl 15, .inl 16, .inl 17] : List Key).Nodup; decide) s_TELLINGS_OF_BOTH⟩⟩
  have F_is_proposition := fun_mk (st := s_is_proposition) l_is_proposition c_is_proposition k_is_proposition
  have b_is_proposition := binds2 (p0 := "letters") (p1 := "number") F_is_proposition (fun _ _ _ _ _ _ _ _ => rfl)
  have F_opposite := fun_mk (st := s_opposite) l_opposite c_opposite k_opposite
  have b_opposite := binds2 (p0 := "letters") (p1 := "proposition") F_opposite (fun _ _ _ _ _ _ _ _ => rfl)
  have F_follows := fun_mk (st := s_follows) l_follows c_follows k_follows
  have b_follows := binds2 (p0 := "proposition") (p1 := "other") F_follows (fun _ _ _ _ _ _ _ _ => rfl)
  have F_excludes := fun_mk (st := s_excludes) l_excludes c_excludes k_excludes
  have b_excludes := binds2 (p0 := "proposition") (p1 := "other") F_excludes (fun _ _ _ _ _ _ _ _ => rfl)
  have F_worlds_allowed := fun_mk (st := s_worlds_allowed) l_worlds_allowed c_worlds_allowed k_worlds_allowed
  have b_worlds_allowed := binds2 (p0 := "letters") (p1 := "store") F_worlds_allowed (fun _ _ _ _ _ _ _ _ => rfl)
  have F_how_many_worlds := fun_mk (st := s_how_many_worlds) l_how_many_worlds c_how_many_worlds k_how_many_worlds
  have b_how_many_worlds := binds1 (p0 := "proposition") F_how_many_worlds (fun _ _ _ _ _ _ _ => rfl)
  have F_sets_of_places := fun_mk (st := s_sets_of_places) l_sets_of_places c_sets_of_places k_sets_of_places
  have b_sets_of_places := binds1 (p0 := "size") F_sets_of_places (fun _ _ _ _ _ _ _ => rfl)
  have F_places_bind := fun_mk (st := s_places_bind) l_places_bind c_places_bind k_places_bind
  have b_places_bind := binds4 (p0 := "letters") (p1 := "store") (p2 := "places") (p3 := "proposition") F_places_bind (fun _ _ _ _ _ _ _ _ _ _ => rfl)
  have F_fewest_places_that_bind := fun_mk (st := s_fewest_places_that_bind) l_fewest_places_that_bind c_fewest_places_that_bind k_fewest_places_that_bind
  have b_fewest_places_that_bind := binds3 (p0 := "letters") (p1 := "store") (p2 := "proposition") F_fewest_places_that_bind (fun _ _ _ _ _ _ _ _ _ => rfl)
  have F_say := fun_mk (st := s_say) l_say c_say k_say
  have b_say := binds2 (p0 := "record") (p1 := "given") F_say (fun _ _ _ _ _ _ _ _ => rfl)
  have F_ask := fun_mk (st := s_ask) l_ask c_ask k_ask
  have b_ask := binds2 (p0 := "record") (p1 := "given") F_ask (fun _ _ _ _ _ _ _ _ => rfl)
  have F_why := fun_mk (st := s_why) l_why c_why k_why
  have b_why := binds2 (p0 := "record") (p1 := "given") F_why (fun _ _ _ _ _ _ _ _ => rfl)
  have F_drop := fun_mk (st := s_drop) l_drop c_drop k_drop
  have b_drop := binds2 (p0 := "record") (p1 := "given") F_drop (fun _ _ _ _ _ _ _ _ => rfl)
  have F_since := fun_mk (st := s_since) l_since c_since k_since
  have b_since := binds2 (p0 := "record") (p1 := "given") F_since (fun _ _ _ _ _ _ _ _ => rfl)
  have F_accept := fun_mk (st := s_accept) l_accept c_accept k_accept
  have b_accept := binds1 (p0 := "record") F_accept (fun _ _ _ _ _ _ _ => rfl)
  have F_passed := fun_mk (st := s_passed) l_passed c_passed k_passed
  have b_passed := binds1 (p0 := "record") F_passed (fun _ _ _ _ _ _ _ => rfl)
  have F_affirm := fun_mk (st := s_affirm) l_affirm c_affirm k_affirm
  have b_affirm := binds1 (p0 := "record") F_affirm (fun _ _ _ _ _ _ _ => rfl)
  have F_deny := fun_mk (st := s_deny) l_deny c_deny k_deny
  have b_deny := binds1 (p0 := "record") F_deny (fun _ _ _ _ _ _ _ => rfl)
  have F_unsure := fun_mk (st := s_unsure) l_unsure c_unsure k_unsure
  have b_unsure := binds1 (p0 := "record") F_unsure (fun _ _ _ _ _ _ _ => rfl)
  have F_refusal_of_any := fun_mk (st := s_refusal_of_any) l_refusal_of_any c_refusal_of_any k_refusal_of_any
  have b_refusal_of_any := binds2 (p0 := "record") (p1 := "move") F_refusal_of_any (fun _ _ _ _ _ _ _ _ => rfl)
  have F_make_bare_move := fun_mk (st := s_make_bare_move) l_make_bare_move c_make_bare_move k_make_bare_move
  have b_make_bare_move := binds2 (p0 := "record") (p1 := "move") F_make_bare_move (fun _ _ _ _ _ _ _ _ => rfl)
  have F_make_given_move := fun_mk (st := s_make_given_move) l_make_given_move c_make_given_move k_make_given_move
  have b_make_given_move := binds3 (p0 := "record") (p1 := "move") (p2 := "given") F_make_given_move (fun _ _ _ _ _ _ _ _ _ => rfl)
  have F_turn := fun_mk (st := s_turn) l_turn c_turn k_turn
  have b_turn := binds1 (p0 := "record") F_turn (fun _ _ _ _ _ _ _ => rfl)
  have F_what_is_open := fun_mk (st := s_what_is_open) l_what_is_open c_what_is_open k_what_is_open
  have b_what_is_open := binds1 (p0 := "record") F_what_is_open (fun _ _ _ _ _ _ _ => rfl)
  have F_agreed := fun_mk (st := s_agreed) l_agreed c_agreed k_agreed
  have b_agreed := binds1 (p0 := "record") F_agreed (fun _ _ _ _ _ _ _ => rfl)
  have F_common := fun_mk (st := s_common) l_common c_common k_common
  have b_common := binds1 (p0 := "record") F_common (fun _ _ _ _ _ _ _ => rfl)
  have F_quarrel := fun_mk (st := s_quarrel) l_quarrel c_quarrel k_quarrel
  have b_quarrel := binds1 (p0 := "record") F_quarrel (fun _ _ _ _ _ _ _ => rfl)
  have F_kinds := fun_mk (st := s_kinds) l_kinds c_kinds k_kinds
  have b_kinds := binds1 (p0 := "record") F_kinds (fun _ _ _ _ _ _ _ => rfl)
  have F_state := fun_mk (st := s_state) l_state c_state k_state
  have b_state := binds1 (p0 := "record") F_state (fun _ _ _ _ _ _ _ => rfl)
  have F_store_of := fun_mk (st := s_store_of) l_store_of c_store_of k_store_of
  have b_store_of := binds2 (p0 := "record") (p1 := "person") F_store_of (fun _ _ _ _ _ _ _ _ => rfl)
  have F_bound := fun_mk (st := s_bound) l_bound c_bound k_bound
  have b_bound := binds3 (p0 := "record") (p1 := "person") (p2 := "proposition") F_bound (fun _ _ _ _ _ _ _ _ _ => rfl)
  have F_barred := fun_mk (st := s_barred) l_barred c_barred k_barred
  have b_barred := binds3 (p0 := "record") (p1 := "person") (p2 := "proposition") F_barred (fun _ _ _ _ _ _ _ _ _ => rfl)
  have F_reason := fun_mk (st := s_reason) l_reason c_reason k_reason
  have b_reason := binds3 (p0 := "record") (p1 := "person") (p2 := "proposition") F_reason (fun _ _ _ _ _ _ _ _ _ => rfl)
  have F_would := fun_mk (st := s_would) l_would c_would k_would
  have b_would := binds2 (p0 := "record") (p1 := "proposition") F_would (fun _ _ _ _ _ _ _ _ => rfl)
  have F_tell_of_person := fun_mk (st := s_tell_of_person) l_tell_of_person c_tell_of_person k_tell_of_person
  have b_tell_of_person := binds3 (p0 := "record") (p1 := "number") (p2 := "given") F_tell_of_person (fun _ _ _ _ _ _ _ _ _ => rfl)
  have F_tell := fun_mk (st := s_tell) l_tell c_tell k_tell
  have b_tell := binds3 (p0 := "record") (p1 := "number") (p2 := "given") F_tell (fun _ _ _ _ _ _ _ _ _ => rfl)
  have F_answer := fun_mk (st := s_answer) l_answer c_answer k_answer
  have b_answer := binds3 (p0 := "record") (p1 := "number") (p2 := "given") F_answer (fun _ _ _ _ _ _ _ _ _ => rfl)
  have F_answers := fun_mk (st := s_answers) l_answers c_answers k_answers
  have b_answers := binds1 (p0 := "calls") F_answers (fun _ _ _ _ _ _ _ => rfl)
  have F_init := fun_mk (st := s_init) l_init c_init k_init
  have b_init := binds1 (p0 := "self") F_init (fun _ _ _ _ _ _ _ => rfl)
  have F_restart := fun_mk (st := s_restart) l_restart c_restart k_restart
  have b_restart := binds2 (p0 := "self") (p1 := "letters") F_restart (fun _ _ _ _ _ _ _ _ => rfl)
  have F_begin := fun_mk (st := s_begin) l_begin c_begin k_begin
  have b_begin := binds2 (p0 := "self") (p1 := "letters") F_begin (fun _ _ _ _ _ _ _ _ => rfl)
  have F_has_begun := fun_mk (st := s_has_begun) l_has_begun c_has_begun k_has_begun
  have b_has_begun := binds1 (p0 := "self") F_has_begun (fun _ _ _ _ _ _ _ => rfl)
  have F_own_store := fun_mk (st := s_own_store) l_own_store c_own_store k_own_store
  have b_own_store := binds1 (p0 := "self") F_own_store (fun _ _ _ _ _ _ _ => rfl)
  have F_other_store := fun_mk (st := s_other_store) l_other_store c_other_store k_other_store
  have b_other_store := binds1 (p0 := "self") F_other_store (fun _ _ _ _ _ _ _ => rfl)
  have F_worlds_of := fun_mk (st := s_worlds_of) l_worlds_of c_worlds_of k_worlds_of
  have b_worlds_of := binds2 (p0 := "self") (p1 := "person") F_worlds_of (fun _ _ _ _ _ _ _ _ => rfl)
  have F_is_bound := fun_mk (st := s_is_bound) l_is_bound c_is_bound k_is_bound
  have b_is_bound := binds3 (p0 := "self") (p1 := "person") (p2 := "proposition") F_is_bound (fun _ _ _ _ _ _ _ _ _ => rfl)
  have F_is_barred := fun_mk (st := s_is_barred) l_is_barred c_is_barred k_is_barred
  have b_is_barred := binds3 (p0 := "self") (p1 := "person") (p2 := "proposition") F_is_barred (fun _ _ _ _ _ _ _ _ _ => rfl)
  have F_commit := fun_mk (st := s_commit) l_commit c_commit k_commit
  have b_commit := binds2 (p0 := "self") (p1 := "proposition") F_commit (fun _ _ _ _ _ _ _ _ => rfl)
  have F_finish := fun_mk (st := s_finish) l_finish c_finish k_finish
  have b_finish := binds3 (p0 := "self") (p1 := "matter") (p2 := "topic") F_finish (fun _ _ _ _ _ _ _ _ _ => rfl)
  have F_commit_and_finish := fun_mk (st := s_commit_and_finish) l_commit_and_finish c_commit_and_finish k_commit_and_finish
  have b_commit_and_finish := binds4 (p0 := "self") (p1 := "proposition") (p2 := "matter") (p3 := "topic") F_commit_and_finish (fun _ _ _ _ _ _ _ _ _ _ => rfl)
  refine ⟨PySem.W.fnOf "answers" "answers" (defArgs s_answers) (defBody s_answers) (defScope s_answers) .none kV_answers dc_answers pm_answers an_answers cd_answers ct_answers, fun s us hu => match us, hu with | [_], _ => .of_eq rfl, fun base _ _ => ?_⟩
  have G_is_proposition : FnAt P w K mg base "is_proposition" 1 sp_is_proposition := ⟨_, _, _, PySem.W.mg_of X G a_is_proposition, k_is_proposition, b_is_proposition, ok_is_proposition F_is_proposition T⟩
  have G_opposite : FnAt P w K mg base "opposite" 1 sp_opposite := ⟨_, _, _, PySem.W.mg_of X G a_opposite, k_opposite, b_opposite, ok_opposite F_opposite T⟩
  have G_follows : FnAt P w K mg base "follows" 1 sp_follows := ⟨_, _, _, PySem.W.mg_of X G a_follows, k_follows, b_follows, ok_follows F_follows ⟩
  have G_excludes : FnAt P w K mg base "excludes" 1 sp_excludes := ⟨_, _, _, PySem.W.mg_of X G a_excludes, k_excludes, b_excludes, ok_excludes F_excludes ⟩
  have G_worlds_allowed : FnAt P w K mg base "worlds_allowed" 1 (sp_worlds_allowed K) := ⟨_, _, _, PySem.W.mg_of X G a_worlds_allowed, k_worlds_allowed, b_worlds_allowed, ok_worlds_allowed F_worlds_allowed T⟩
  have G_own_store : MtAt P w K mg base C "own_store" 1 (sp_own_store C) := ⟨_, _, _, ⟨a_own_store, i_own_store, k_own_store⟩, b_own_store, ok_own_store F_own_store T⟩
  have G_other_store : MtAt P w K mg base C "other_store" 1 (sp_other_store C) := ⟨_, _, _, ⟨a_other_store, i_other_store, k_other_store⟩, b_other_store, ok_other_store F_other_store T⟩
  have G_worlds_of : MtAt P w K mg base C "worlds_of" 2 (sp_worlds_of C) := ⟨_, _, _, ⟨a_worlds_of, i_worlds_of, k_worlds_of⟩, b_worlds_of, ok_worlds_of F_worlds_of T G_worlds_allowed⟩
  have G_is_bound : MtAt P w K mg base C "is_bound" 3 (sp_is_bound C) := ⟨_, _, _, ⟨a_is_bound, i_is_bound, k_is_bound⟩, b_is_bound, ok_is_bound F_is_bound T G_follows G_worlds_of⟩
  have G_is_barred : MtAt P w K mg base C "is_barred" 3 (sp_is_barred C) := ⟨_, _, _, ⟨a_is_barred, i_is_barred, k_is_barred⟩, b_is_barred, ok_is_barred F_is_barred T G_excludes G_worlds_of⟩
  have G_commit : MtAt P w K mg base C "commit" 4 (sp_commit C) := ⟨_, _, _, ⟨a_commit, i_commit, k_commit⟩, b_commit, ok_commit F_commit T G_is_barred G_is_bound G_own_store⟩
  have G_finish : MtAt P w K mg base C "finish" 2 (sp_finish C) := ⟨_, _, _, ⟨a_finish, i_finish, k_finish⟩, b_finish, ok_finish F_finish T G_own_store⟩
  have G_commit_and_finish : MtAt P w K mg base C "commit_and_finish" 5 (sp_caf C) := ⟨_, _, _, ⟨a_commit_and_finish, i_commit_and_finish, k_commit_and_finish⟩, b_commit_and_finish, ok_commit_and_finish F_commit_and_finish T G_commit G_finish⟩
  have G_restart : MtAt P w K mg base C "restart" 1 (sp_restart C) := ⟨_, _, _, ⟨a_restart, i_restart, k_restart⟩, b_restart, ok_restart F_restart T⟩
  have G_begin : MtAt P w K mg base C "begin" 2 (sp_begin C) := ⟨_, _, _, ⟨a_begin, i_begin, k_begin⟩, b_begin, ok_begin F_begin T G_restart⟩
  have G_has_begun : MtAt P w K mg base C "has_begun" 1 (sp_has_begun C) := ⟨_, _, _, ⟨a_has_begun, i_has_begun, k_has_begun⟩, b_has_begun, ok_has_begun F_has_begun T⟩
  have G_say : FnAt P w K mg base "say" 6 (sp_given C (fun h => h.open_ = .nothing) .say_) := ⟨_, _, _, PySem.W.mg_of X G a_say, k_say, b_say, ok_say F_say T G_is_bound G_commit_and_finish⟩
  have G_ask : FnAt P w K mg base "ask" 6 (sp_given C (fun h => h.open_ = .nothing) .ask) := ⟨_, _, _, PySem.W.mg_of X G a_ask, k_ask, b_ask, ok_ask F_ask T G_finish⟩
  have G_why : FnAt P w K mg base "why" 6 (sp_given C (fun h => h.open_ = .nothing ∨ ∃ q, h.open_ = .said q) .why) := ⟨_, _, _, PySem.W.mg_of X G a_why, k_why, b_why, ok_why F_why T G_other_store G_finish⟩
  have G_drop : FnAt P w K mg base "drop" 6 (sp_given C (fun h => h.open_ = .nothing ∨ ∃ q, h.open_ = .why q) .drop) := ⟨_, _, _, PySem.W.mg_of X G a_drop, k_drop, b_drop, ok_drop F_drop T G_own_store G_finish⟩
  have G_since : FnAt P w K mg base "since" 6 (sp_given C (fun h => ∃ q, h.open_ = .why q) .since) := ⟨_, _, _, PySem.W.mg_of X G a_since, k_since, b_since, ok_since F_since T G_follows G_commit_and_finish⟩
  have G_accept : FnAt P w K mg base "accept" 6 (sp_bare C (fun _ => True) (fun h => h.commit h.open_.what .nothing)) := ⟨_, _, _, PySem.W.mg_of X G a_accept, k_accept, b_accept, ok_accept F_accept T G_commit_and_finish⟩
  have G_passed : FnAt P w K mg base "passed" 6 (sp_bare C (fun _ => True) (fun h => (some (h.made h.mine .nothing), Krl7.say h.mine.length))) := ⟨_, _, _, PySem.W.mg_of X G a_passed, k_passed, b_passed, ok_passed F_passed T G_finish⟩
  have G_affirm : FnAt P w K mg base "affirm" 6 (sp_bare C (fun _ => True) (fun h => h.commit h.open_.what (.said h.open_.what))) := ⟨_, _, _, PySem.W.mg_of X G a_affirm, k_affirm, b_affirm, ok_affirm F_affirm T G_commit_and_finish⟩
  have G_deny : FnAt P w K mg base "deny" 6 (sp_bare C (fun _ => True) (fun h => h.commit (not_ h.m h.open_.what) (.said (not_ h.m h.open_.what)))) := ⟨_, _, _, PySem.W.mg_of X G a_deny, k_deny, b_deny, ok_deny F_deny T G_opposite G_commit_and_finish⟩
  have G_unsure : FnAt P w K mg base "unsure" 6 (sp_bare C (fun _ => True) (fun h => if h.bound h.turn h.open_.what || h.barred h.turn h.open_.what then (some h, Krl7.say (-61)) else (some (h.made h.mine .nothing), Krl7.say h.mine.length))) := ⟨_, _, _, PySem.W.mg_of X G a_unsure, k_unsure, b_unsure, ok_unsure F_unsure T G_is_bound G_is_barred G_finish⟩
  have G_refusal_of_any : FnAt P w K mg base "refusal_of_any" 1 (sp_refusal C) := ⟨_, _, _, PySem.W.mg_of X G a_refusal_of_any, k_refusal_of_any, b_refusal_of_any, ok_refusal_of_any F_refusal_of_any T B⟩
  have G_make_bare_move : FnAt P w K mg base "make_bare_move" 7 (sp_make_bare C) := ⟨_, _, _, PySem.W.mg_of X G a_make_bare_move, k_make_bare_move, b_make_bare_move, ok_make_bare_move F_make_bare_move T B G_refusal_of_any G_accept G_deny G_passed G_affirm G_unsure⟩
  have G_make_given_move : FnAt P w K mg base "make_given_move" 7 (sp_make_given C) := ⟨_, _, _, PySem.W.mg_of X G a_make_given_move, k_make_given_move, b_make_given_move, ok_make_given_move F_make_given_move T B G_refusal_of_any G_is_proposition G_say G_ask G_why G_drop G_since⟩
  have G_how_many_worlds : FnAt P w K mg base "how_many_worlds" 1 sp_how_many := ⟨_, _, _, PySem.W.mg_of X G a_how_many_worlds, k_how_many_worlds, b_how_many_worlds, ok_how_many_worlds F_how_many_worlds ⟩
  have G_sets_of_places : FnAt P w K mg base "sets_of_places" 1 sp_sets := ⟨_, _, _, PySem.W.mg_of X G a_sets_of_places, k_sets_of_places, b_sets_of_places, ok_sets_of_places F_sets_of_places T⟩
  have G_places_bind : FnAt P w K mg base "places_bind" 2 sp_places_bind := ⟨_, _, _, PySem.W.mg_of X G a_places_bind, k_places_bind, b_places_bind, ok_places_bind F_places_bind T G_follows G_worlds_allowed⟩
  have G_fewest_places_that_bind : FnAt P w K mg base "fewest_places_that_bind" 3 sp_fewest := ⟨_, _, _, PySem.W.mg_of X G a_fewest_places_that_bind, k_fewest_places_that_bind, b_fewest_places_that_bind, ok_fewest_places_that_bind F_fewest_places_that_bind T G_sets_of_places G_places_bind⟩
  have G_turn : FnAt P w K mg base "turn" 4 (sp_tb C .turn) := ⟨_, _, _, PySem.W.mg_of X G a_turn, k_turn, b_turn, ok_turn F_turn T⟩
  have G_what_is_open : FnAt P w K mg base "what_is_open" 4 (sp_tb C .open_) := ⟨_, _, _, PySem.W.mg_of X G a_what_is_open, k_what_is_open, b_what_is_open, ok_what_is_open F_what_is_open T⟩
  have G_agreed : FnAt P w K mg base "agreed" 4 (sp_tb C .agreed) := ⟨_, _, _, PySem.W.mg_of X G a_agreed, k_agreed, b_agreed, ok_agreed F_agreed T G_worlds_of G_how_many_worlds⟩
  have G_common : FnAt P w K mg base "common" 4 (sp_tb C .common) := ⟨_, _, _, PySem.W.mg_of X G a_common, k_common, b_common, ok_common F_common T G_worlds_of G_how_many_worlds⟩
  have G_quarrel : FnAt P w K mg base "quarrel" 4 (sp_tb C .quarrel) := ⟨_, _, _, PySem.W.mg_of X G a_quarrel, k_quarrel, b_quarrel, ok_quarrel F_quarrel T G_excludes G_worlds_of G_fewest_places_that_bind⟩
  have G_kinds : FnAt P w K mg base "kinds" 4 (sp_tb C .kinds) := ⟨_, _, _, PySem.W.mg_of X G a_kinds, k_kinds, b_kinds, ok_kinds F_kinds T B⟩
  have G_state : FnAt P w K mg base "state" 4 (sp_tb C .state) := ⟨_, _, _, PySem.W.mg_of X G a_state, k_state, b_state, ok_state F_state T⟩
  have G_store_of : FnAt P w K mg base "store_of" 4 (sp_store_of C) := ⟨_, _, _, PySem.W.mg_of X G a_store_of, k_store_of, b_store_of, ok_store_of F_store_of T⟩
  have G_bound : FnAt P w K mg base "bound" 4 (sp_tp C .bound) := ⟨_, _, _, PySem.W.mg_of X G a_bound, k_bound, b_bound, ok_bound F_bound T G_is_bound⟩
  have G_barred : FnAt P w K mg base "barred" 4 (sp_tp C .barred) := ⟨_, _, _, PySem.W.mg_of X G a_barred, k_barred, b_barred, ok_barred F_barred T G_is_barred⟩
  have G_reason : FnAt P w K mg base "reason" 4 (sp_tp C .reason) := ⟨_, _, _, PySem.W.mg_of X G a_reason, k_reason, b_reason, ok_reason F_reason T G_is_bound G_fewest_places_that_bind⟩
  have G_would : FnAt P w K mg base "would" 4 (sp_would C) := ⟨_, _, _, PySem.W.mg_of X G a_would, k_would, b_would, ok_would F_would T G_is_proposition G_is_bound G_is_barred⟩
  have G_tell_of_person : FnAt P w K mg base "tell_of_person" 5 (sp_top C) := ⟨_, _, _, PySem.W.mg_of X G a_tell_of_person, k_tell_of_person, b_tell_of_person, ok_tell_of_person F_tell_of_person T B2 G_store_of G_is_proposition G_bound G_barred G_reason⟩
  have G_tell : FnAt P w K mg base "tell" 6 (sp_tell C) := ⟨_, _, _, PySem.W.mg_of X G a_tell, k_tell, b_tell, ok_tell F_tell T B2 G_tell_of_person G_would G_turn G_what_is_open G_agreed G_quarrel G_common G_kinds G_state⟩
  have G_answer : FnAt P w K mg base "answer" 8 (sp_answer C) := ⟨_, _, _, PySem.W.mg_of X G a_answer, k_answer, b_answer, ok_answer F_answer T B G_begin G_has_begun G_make_bare_move G_make_given_move G_tell⟩
  have G_Record : MkAt P w K mg base "Record" C 2 (sp_init C) := ⟨_, _, _, PySem.W.mg_of X G aC, ⟨mk, a_init, i_init, kc⟩, b_init, ok_init F_init T G_restart⟩
  exact ok_answers F_answers T G_Record G_answer
end Two
theorem PySem.W.Fast.te13014188336410631129 : True := trivial
open PySem PySem.W PyProof.Rows
set_option maxRecDepth 100000 in
set_option maxHeartbeats 0 in
theorem PySem.Challenge.cw_twocommitted_s01_answers_holds : PySem.Challenge.rw_twocommitted_s01_answers.Holds := by
  w_on; k_headS; (case hw => exact ⟨[.list [.int 0, .int 1]], by decide +kernel, by decide +kernel⟩)
  k_fillS
  refine L2.walk_specK (r := PySem.Challenge.rw_twocommitted_s01_answers) (k := 9) (CX := L2.CX0) (ps := ["calls"]) (sp := Two.sp_answers) (by decide +kernel) rfl rfl ⟨rfl, by decide, by decide⟩ (fun w h Y => PySem.W.kIn_of Y) ?F ?S (fun _ _ _ _ z => z)
  case F =>
    intro w mg fa h Y KX G hmg
    refine' Two.all_mk KX G hmg ?aC ?a_is_proposition ?l_is_proposition ?c_is_proposition ?k_is_proposition ?a_opposite ?l_opposite ?c_opposite ?k_opposite ?a_follows ?l_follows ?c_follows ?k_follows ?a_excludes ?l_excludes ?c_excludes ?k_excludes ?a_worlds_allowed ?l_worlds_allowed ?c_worlds_allowed ?k_worlds_allowed ?a_how_many_worlds ?l_how_many_worlds ?c_how_many_worlds ?k_how_many_worlds ?a_sets_of_places ?l_sets_of_places ?c_sets_of_places ?k_sets_of_places ?a_places_bind ?l_places_bind ?c_places_bind ?k_places_bind ?a_fewest_places_that_bind ?l_fewest_places_that_bind ?c_fewest_places_that_bind ?k_fewest_places_that_bind ?a_say ?l_say ?c_say ?k_say ?a_ask ?l_ask ?c_ask ?k_ask ?a_why ?l_why ?c_why ?k_why ?a_drop ?l_drop ?c_drop ?k_drop ?a_since ?l_since ?c_since ?k_since ?a_accept ?l_accept ?c_accept ?k_accept ?a_passed ?l_passed ?c_passed ?k_passed ?a_affirm ?l_affirm ?c_affirm ?k_affirm ?a_deny ?l_deny ?c_deny ?k_deny ?a_unsure ?l_unsure ?c_unsure ?k_unsure ?a_refusal_of_any ?l_refusal_of_any ?c_refusal_of_any ?k_refusal_of_any ?a_make_bare_move ?l_make_bare_move ?c_make_bare_move ?k_make_bare_move ?a_make_given_move ?l_make_given_move ?c_make_given_move ?k_make_given_move ?a_turn ?l_turn ?c_turn ?k_turn ?a_what_is_open ?l_what_is_open ?c_what_is_open ?k_what_is_open ?a_agreed ?l_agreed ?c_agreed ?k_agreed ?a_common ?l_common ?c_common ?k_common ?a_quarrel ?l_quarrel ?c_quarrel ?k_quarrel ?a_kinds ?l_kinds ?c_kinds ?k_kinds ?a_state ?l_state ?c_state ?k_state ?a_store_of ?l_store_of ?c_store_of ?k_store_of ?a_bound ?l_bound ?c_bound ?k_bound ?a_barred ?l_barred ?c_barred ?k_barred ?a_reason ?l_reason ?c_reason ?k_reason ?a_would ?l_would ?c_would ?k_would ?a_tell_of_person ?l_tell_of_person ?c_tell_of_person ?k_tell_of_person ?a_tell ?l_tell ?c_tell ?k_tell ?a_answer ?l_answer ?c_answer ?k_answer ?a_answers ?l_answers ?c_answers ?k_answers ?a_init ?i_init ?l_init ?c_init ?k_init ?a_restart ?i_restart ?l_restart ?c_restart ?k_restart ?a_begin ?i_begin ?l_begin ?c_begin ?k_begin ?a_has_begun ?i_has_begun ?l_has_begun ?c_has_begun ?k_has_begun ?a_own_store ?i_own_store ?l_own_store ?c_own_store ?k_own_store ?a_other_store ?i_other_store ?l_other_store ?c_other_store ?k_other_store ?a_worlds_of ?i_worlds_of ?l_worlds_of ?c_worlds_of ?k_worlds_of ?a_is_bound ?i_is_bound ?l_is_bound ?c_is_bound ?k_is_bound ?a_is_barred ?i_is_barred ?l_is_barred ?c_is_barred ?k_is_barred ?a_commit ?i_commit ?l_commit ?c_commit ?k_commit ?a_finish ?i_finish ?l_finish ?c_finish ?k_finish ?a_commit_and_finish ?i_commit_and_finish ?l_commit_and_finish ?c_commit_and_finish ?k_commit_and_finish ?g_MOST_LETTERS ?g_NO_SUCH_PERSON ?g_NOT_IN_STORE ?g_BEFORE_BEGIN ?g_NOT_OPEN ?g_SO_ALREADY ?g_NOT_RIGHT ?g_TOO_MANY ?g_CANNOT_BE ?g_NOT_UNSURE ?g_NO_REASON ?g_TIME_IS_UP ?g_MOST_IN_STORE ?g_NOTHING ?g_SAID ?g_ASKED ?g_WHY_SO ?g_MOST_MOVES ?g_NEVER_SO ?g_STORE ?g_WOULD ?g_BEGIN ?g_ALWAYS_SO ?g_MOVES_FOR ?g_NUMBERS_GIVEN ?g_MOVES_GIVEN ?g_MOVES_BARE ?g_TELLINGS_BARE ?g_TELLINGS_OF_BOTH ?t_ALWAYS_SO ?t_MOVES_FOR ?e_MOVES_FOR ?t0_MOVES_FOR ?t1_MOVES_FOR ?t2_MOVES_FOR ?t3_MOVES_FOR ?t_NUMBERS_GIVEN ?t_MOVES_GIVEN ?t_MOVES_BARE ?t_TELLINGS_BARE ?t_TELLINGS_OF_BOTH ?b_len ?b_list ?b_range ?pg ?hd ?po ?sa ?mk ?kc ?n_letters ?n_stores ?n_mover ?n_matter ?n_topic ?n_moves_made ?v_AS ?z_AS ?d_MOVES_GIVEN ?d_MOVES_BARE ?s_MOVES_GIVEN ?s_MOVES_BARE ?v_NG ?z_NG ?d_TELLINGS_BARE ?d_TELLINGS_OF_BOTH ?s_TELLINGS_BARE ?s_TELLINGS_OF_BOTH ?v0_MF ?v1_MF ?v2_MF ?v3_MF
    (case aC => k_is)
    (case a_is_proposition => k_is)
    (case l_is_proposition => k_is)
    (case c_is_proposition => k_is)
    (case k_is_proposition => k_is)
    (case a_opposite => k_is)
    (case l_opposite => k_is)
    (case c_opposite => k_is)
    (case k_opposite => k_is)
    (case a_follows => k_is)
    (case l_follows => k_is)
    (case c_follows => k_is)
    (case k_follows => k_is)
    (case a_excludes => k_is)
    (case l_excludes => k_is)
    (case c_excludes => k_is)
    (case k_excludes => k_is)
    (case a_worlds_allowed => k_is)
    (case l_worlds_allowed => k_is)
    (case c_worlds_allowed => k_is)
    (case k_worlds_allowed => k_is)
    (case a_how_many_worlds => k_is)
    (case l_how_many_worlds => k_is)
    (case c_how_many_worlds => k_is)
    (case k_how_many_worlds => k_is)
    (case a_sets_of_places => k_is)
    (case l_sets_of_places => k_is)
    (case c_sets_of_places => k_is)
    (case k_sets_of_places => k_is)
    (case a_places_bind => k_is)
    (case l_places_bind => k_is)
    (case c_places_bind => k_is)
    (case k_places_bind => k_is)
    (case a_fewest_places_that_bind => k_is)
    (case l_fewest_places_that_bind => k_is)
    (case c_fewest_places_that_bind => k_is)
    (case k_fewest_places_that_bind => k_is)
    (case a_say => k_is)
    (case l_say => k_is)
    (case c_say => k_is)
    (case k_say => k_is)
    (case a_ask => k_is)
    (case l_ask => k_is)
    (case c_ask => k_is)
    (case k_ask => k_is)
    (case a_why => k_is)
    (case l_why => k_is)
    (case c_why => k_is)
    (case k_why => k_is)
    (case a_drop => k_is)
    (case l_drop => k_is)
    (case c_drop => k_is)
    (case k_drop => k_is)
    (case a_since => k_is)
    (case l_since => k_is)
    (case c_since => k_is)
    (case k_since => k_is)
    (case a_accept => k_is)
    (case l_accept => k_is)
    (case c_accept => k_is)
    (case k_accept => k_is)
    (case a_passed => k_is)
    (case l_passed => k_is)
    (case c_passed => k_is)
    (case k_passed => k_is)
    (case a_affirm => k_is)
    (case l_affirm => k_is)
    (case c_affirm => k_is)
    (case k_affirm => k_is)
    (case a_deny => k_is)
    (case l_deny => k_is)
    (case c_deny => k_is)
    (case k_deny => k_is)
    (case a_unsure => k_is)
    (case l_unsure => k_is)
    (case c_unsure => k_is)
    (case k_unsure => k_is)
    (case a_refusal_of_any => k_is)
    (case l_refusal_of_any => k_is)
    (case c_refusal_of_any => k_is)
    (case k_refusal_of_any => k_is)
    (case a_make_bare_move => k_is)
    (case l_make_bare_move => k_is)
    (case c_make_bare_move => k_is)
    (case k_make_bare_move => k_is)
    (case a_make_given_move => k_is)
    (case l_make_given_move => k_is)
    (case c_make_given_move => k_is)
    (case k_make_given_move => k_is)
    (case a_turn => k_is)
    (case l_turn => k_is)
    (case c_turn => k_is)
    (case k_turn => k_is)
    (case a_what_is_open => k_is)
    (case l_what_is_open => k_is)
    (case c_what_is_open => k_is)
    (case k_what_is_open => k_is)
    (case a_agreed => k_is)
    (case l_agreed => k_is)
    (case c_agreed => k_is)
    (case k_agreed => k_is)
    (case a_common => k_is)
    (case l_common => k_is)
    (case c_common => k_is)
    (case k_common => k_is)
    (case a_quarrel => k_is)
    (case l_quarrel => k_is)
    (case c_quarrel => k_is)
    (case k_quarrel => k_is)
    (case a_kinds => k_is)
    (case l_kinds => k_is)
    (case c_kinds => k_is)
    (case k_kinds => k_is)
    (case a_state => k_is)
    (case l_state => k_is)
    (case c_state => k_is)
    (case k_state => k_is)
    (case a_store_of => k_is)
    (case l_store_of => k_is)
    (case c_store_of => k_is)
    (case k_store_of => k_is)
    (case a_bound => k_is)
    (case l_bound => k_is)
    (case c_bound => k_is)
    (case k_bound => k_is)
    (case a_barred => k_is)
    (case l_barred => k_is)
    (case c_barred => k_is)
    (case k_barred => k_is)
    (case a_reason => k_is)
    (case l_reason => k_is)
    (case c_reason => k_is)
    (case k_reason => k_is)
    (case a_would => k_is)
    (case l_would => k_is)
    (case c_would => k_is)
    (case k_would => k_is)
    (case a_tell_of_person => k_is)
    (case l_tell_of_person => k_is)
    (case c_tell_of_person => k_is)
    (case k_tell_of_person => k_is)
    (case a_tell => k_is)
    (case l_tell => k_is)
    (case c_tell => k_is)
    (case k_tell => k_is)
    (case a_answer => k_is)
    (case l_answer => k_is)
    (case c_answer => k_is)
    (case k_answer => k_is)
    (case a_answers => k_is)
    (case l_answers => k_is)
    (case c_answers => k_is)
    (case k_answers => k_is)
    (case a_init => k_is)
    (case i_init => k_is)
    (case l_init => k_is)
    (case c_init => k_is)
    (case k_init => k_is)
    (case a_restart => k_is)
    (case i_restart => k_is)
    (case l_restart => k_is)
    (case c_restart => k_is)
    (case k_restart => k_is)
    (case a_begin => k_is)
    (case i_begin => k_is)
    (case l_begin => k_is)
    (case c_begin => k_is)
    (case k_begin => k_is)
    (case a_has_begun => k_is)
    (case i_has_begun => k_is)
    (case l_has_begun => k_is)
    (case c_has_begun => k_is)
    (case k_has_begun => k_is)
    (case a_own_store => k_is)
    (case i_own_store => k_is)
    (case l_own_store => k_is)
    (case c_own_store => k_is)
    (case k_own_store => k_is)
    (case a_other_store => k_is)
    (case i_other_store => k_is)
    (case l_other_store => k_is)
    (case c_other_store => k_is)
    (case k_other_store => k_is)
    (case a_worlds_of => k_is)
    (case i_worlds_of => k_is)
    (case l_worlds_of => k_is)
    (case c_worlds_of => k_is)
    (case k_worlds_of => k_is)
    (case a_is_bound => k_is)
    (case i_is_bound => k_is)
    (case l_is_bound => k_is)
    (case c_is_bound => k_is)
    (case k_is_bound => k_is)
    (case a_is_barred => k_is)
    (case i_is_barred => k_is)
    (case l_is_barred => k_is)
    (case c_is_barred => k_is)
    (case k_is_barred => k_is)
    (case a_commit => k_is)
    (case i_commit => k_is)
    (case l_commit => k_is)
    (case c_commit => k_is)
    (case k_commit => k_is)
    (case a_finish => k_is)
    (case i_finish => k_is)
    (case l_finish => k_is)
    (case c_finish => k_is)
    (case k_finish => k_is)
    (case a_commit_and_finish => k_is)
    (case i_commit_and_finish => k_is)
    (case l_commit_and_finish => k_is)
    (case c_commit_and_finish => k_is)
    (case k_commit_and_finish => k_is)
    (case g_MOST_LETTERS => k_is)
    (case g_NO_SUCH_PERSON => k_is)
    (case g_NOT_IN_STORE => k_is)
    (case g_BEFORE_BEGIN => k_is)
    (case g_NOT_OPEN => k_is)
    (case g_SO_ALREADY => k_is)
    (case g_NOT_RIGHT => k_is)
    (case g_TOO_MANY => k_is)
    (case g_CANNOT_BE => k_is)
    (case g_NOT_UNSURE => k_is)
    (case g_NO_REASON => k_is)
    (case g_TIME_IS_UP => k_is)
    (case g_MOST_IN_STORE => k_is)
    (case g_NOTHING => k_is)
    (case g_SAID => k_is)
    (case g_ASKED => k_is)
    (case g_WHY_SO => k_is)
    (case g_MOST_MOVES => k_is)
    (case g_NEVER_SO => k_is)
    (case g_STORE => k_is)
    (case g_WOULD => k_is)
    (case g_BEGIN => k_is)
    (case g_ALWAYS_SO => k_is)
    (case g_MOVES_FOR => k_is)
    (case g_NUMBERS_GIVEN => k_is)
    (case g_MOVES_GIVEN => k_is)
    (case g_MOVES_BARE => k_is)
    (case g_TELLINGS_BARE => k_is)
    (case g_TELLINGS_OF_BOTH => k_is)
    (case t_ALWAYS_SO => k_is)
    (case t_MOVES_FOR => k_is)
    (case e_MOVES_FOR => rfl)
    (case t0_MOVES_FOR => k_is)
    (case t1_MOVES_FOR => k_is)
    (case t2_MOVES_FOR => k_is)
    (case t3_MOVES_FOR => k_is)
    (case t_NUMBERS_GIVEN => k_is)
    (case t_MOVES_GIVEN => k_is)
    (case t_MOVES_BARE => k_is)
    (case t_TELLINGS_BARE => k_is)
    (case t_TELLINGS_OF_BOTH => k_is)
    (case b_len => k_is)
    (case b_list => k_is)
    (case b_range => k_is)
    (case pg => k_is)
    (case hd => k_is)
    (case po => k_is)
    (case sa => k_is)
    (case mk => k_is)
    (case kc => k_is)
    (case n_letters => k_is)
    (case n_stores => k_is)
    (case n_mover => k_is)
    (case n_matter => k_is)
    (case n_topic => k_is)
    (case n_moves_made => k_is)
    (case v_AS => rfl)
    (case z_AS => decide)
    (case d_MOVES_GIVEN => rfl)
    (case d_MOVES_BARE => rfl)
    (case s_MOVES_GIVEN => rfl)
    (case s_MOVES_BARE => rfl)
    (case v_NG => rfl)
    (case z_NG => decide)
    (case d_TELLINGS_BARE => rfl)
    (case d_TELLINGS_OF_BOTH => rfl)
    (case s_TELLINGS_BARE => rfl)
    (case s_TELLINGS_OF_BOTH => rfl)
    (case v0_MF => rfl)
    (case v1_MF => rfl)
    (case v2_MF => rfl)
    (case v3_MF => rfl)
  case S =>
    intro K H xs a hO hwi hask hx
    cases hx with
    | cons h1 h2 =>
      cases h2
      cases h1 with
      | lst hs ha =>
        have e := L2.ints_dw a.1 _ ha
        subst e
        have q : ((Codec.inLen 0 500 a.1 && a.1.all (Codec.inInt 0 4294967295)) && true) = true := hwi
        rw [Bool.and_eq_true, Bool.and_eq_true] at q
        refine ⟨_, a.1, rfl, hs, fun x hx => ?_, hask, fun H' p hp => .lst (L2.SqL.of hp) (L2.dw_ints _)⟩
        have hx' := List.all_eq_true.mp q.1.2 x hx
        exact (Codec.inInt_iff.mp hx').1
end
