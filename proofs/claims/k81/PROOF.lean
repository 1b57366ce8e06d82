import PyProof.Rows.All
import Wide.All
import OpenK.AllK
import Wide.FinOn
import Lean
import PyProof.EqAt
import PyProof.EqKinds
import PyProof.TupleCall
import PyProof.ExcBaseAll.ValueError
import PyProof.P3Eq
import PyProof.NeData
import PyProof.DictTable
import KE.KEqDict
import PyProof.EnumFor
import PyProof.EnumMake
import PyProof.EnumStmt
import PyProof.NsDelKeeps
import KE.KListMore
import PyProof.Rows.SortWalk
import PyProof.ListRange
import PyProof.CollectIter
import PyProof.TupleOfStr
import PyProof.P3In
import PyProof.Rows.SumAny
import PySem.Challenge.RW_knockwright_k81_what_sticks
set_option Elab.async false
set_option linter.all false
set_option maxRecDepth 100000
namespace L2
open PySem PySem.Spec PyProof.Rows
noncomputable abbrev Key := Sum Int Str
noncomputable def keyIs : Key → Value → Bool
  | .inl k, v => Value.isInt k v
  | .inr x, v => Value.isStrOf x v
noncomputable def keyH (w : World) : Key → Int
  | .inl k => hashInt k
  | .inr x => hashStr w x
theorem keyIs_shape : ∀ {k : Key} {v : Value}, keyIs k v = true → (∃ i t, k = Sum.inl i ∧ v = Value.int i t) ∨ (∃ x t, k = Sum.inr x ∧ v = Value.str x t)
  | .inl i, v, h => by
    obtain ⟨t, e⟩ := Value.isInt_shape (k := i) (v := v) h
    exact .inl ⟨i, t, rfl, e⟩
  | .inr x, v, h => by
    obtain ⟨t, e⟩ := Value.isStrOf_shape (x := x) (v := v) h
    exact .inr ⟨x, t, rfl, e⟩
theorem keyIs_int (i : Int) (t : Tok) : keyIs (.inl i) (.int i t) = true := by simp [keyIs, Value.isInt]
theorem keyIs_str (x : Str) (t : Tok) : keyIs (.inr x) (.str x t) = true := by simp [keyIs, Value.isStrOf]
theorem key_ll (a b : Int) : decide ((Sum.inl a : Key) = Sum.inl b) = (a == b) := by
  by_cases e : a = b
  · subst e; simp
  · have h : ¬ (Sum.inl a : Key) = Sum.inl b := fun q => e (Sum.inl.inj q)
    rw [decide_eq_false h]
    exact (beq_eq_false_iff_ne.mpr e).symm
theorem key_rr (a b : Str) : decide ((Sum.inr a : Key) = Sum.inr b) = decide (a = b) := by
  by_cases e : a = b
  · subst e; simp
  · have h : ¬ (Sum.inr a : Key) = Sum.inr b := fun q => e (Sum.inr.inj q)
    rw [decide_eq_false h, decide_eq_false e]
theorem key_lr (a : Int) (b : Str) : decide ((Sum.inl a : Key) = Sum.inr b) = false := decide_eq_false (fun q => nomatch q)
theorem key_rl (a : Str) (b : Int) : decide ((Sum.inr a : Key) = Sum.inl b) = false := decide_eq_false (fun q => nomatch q)
noncomputable def mixKind (prog : Program) (w : World) : PySem.KeyKind prog w Key where
  is := keyIs
  hash := keyH w
  inj := fun v a b ha hb => by
    rcases keyIs_shape ha with ⟨i, t, rfl, rfl⟩ | ⟨x, t, rfl, rfl⟩
    · rcases keyIs_shape hb with ⟨j, u, rfl, e⟩ | ⟨y, u, rfl, e⟩
      · injection e with e1 _; rw [e1]
      · exact nomatch e
    · rcases keyIs_shape hb with ⟨j, u, rfl, e⟩ | ⟨y, u, rfl, e⟩
      · exact nomatch e
      · injection e with e1 _; rw [e1]
  byValue := fun k v h => by
    rcases keyIs_shape h with ⟨i, t, rfl, rfl⟩ | ⟨x, t, rfl, rfl⟩ <;> rfl
  pyHash := fun hv h => by
    rcases keyIs_shape hv with ⟨i, t, rfl, rfl⟩ | ⟨x, t, rfl, rfl⟩
    · exact wpAny_pyHash_int h
    · exact wpAny_pyHash_str h
  eqBool := fun hu hv h => by
    rcases keyIs_shape hu with ⟨i, t, rfl, rfl⟩ | ⟨x, t, rfl, rfl⟩
    · rcases keyIs_shape hv with ⟨j, u, rfl, rfl⟩ | ⟨y, u, rfl, rfl⟩
      · rw [key_ll] at h; exact wpAny_eqBool_int h
      · rw [key_lr] at h; exact SeqAt.EqAt.int_str i t y u _ _ _ _ h
    · rcases keyIs_shape hv with ⟨j, u, rfl, rfl⟩ | ⟨y, u, rfl, rfl⟩
      · rw [key_rl] at h; exact SeqAt.EqAt.str_int x t j u _ _ _ _ h
      · rw [key_rr] at h; exact wpAny_eqBool_str h
  «strs» := fun k x t v h => by
    rcases keyIs_shape h with ⟨i, u, rfl, e⟩ | ⟨y, u, rfl, e⟩
    · exact nomatch e
    · injection e with e1 _
      subst e1
      cases v <;> rfl
theorem mixKind_int (prog : Program) (w : World) (i : Int) (t : Tok) : (mixKind prog w).is (.inl i) (.int i t) = true := keyIs_int i t
theorem mixKind_str (prog : Program) (w : World) (x : Str) (t : Tok) : (mixKind prog w).is (.inr x) (.str x t) = true := keyIs_str x t
end L2
namespace L2
open PySem PySem.Spec PyProof.Rows
inductive V where
  | non | bl (b : Bool) | int (i : Int) | str (x : Str) | byt (b : Array UInt8) | flt (b : UInt64) | ref (a : Addr) | ty (n : String)
  deriving DecidableEq
noncomputable def RelV : V → Value → Prop
  | .non, u => u = Value.none
  | .bl b, u => u = Value.bool b
  | .int i, u => ∃ t, u = Value.int i t
  | .str x, u => ∃ t, u = Value.str x t
  | .byt b, u => ∃ t, u = Value.bytes b t
  | .flt b, u => ∃ t, u = Value.float b t
  | .ref a, u => u = Value.ref a
  | .ty n, u => u = Value.type n
noncomputable abbrev Vals : List V → List Value → Prop := Paired RelV
theorem Vals.length {xs : List V} {us : List Value} (r : Vals xs us) : xs.length = us.length := Paired.length r
theorem Vals.get : ∀ {xs : List V} {us : List Value} {i : Nat} {x : V}, Vals xs us → xs[i]? = some x → ∃ u, us[i]? = some u ∧ RelV x u
  | _, _, _, _, .nil, e => by simp at e
  | _, _, 0, _, .cons r _, e => by simp at e; subst e; exact ⟨_, rfl, r⟩
  | _, _, i + 1, x, .cons _ t, e => by
    obtain ⟨u, h1, h2⟩ := Vals.get (i := i) (x := x) t (by simpa using e)
    exact ⟨u, by simpa using h1, h2⟩
theorem Vals.set {x : V} {u : Value} (r : RelV x u) : ∀ {xs : List V} {us : List Value} (i : Nat), Vals xs us → Vals (xs.set i x) (us.set i u)
  | _, _, _, .nil => .nil
  | _, _, 0, .cons _ t => .cons r t
  | _, _, i + 1, .cons q t => .cons q (Vals.set r i t)
theorem Vals.append : ∀ {xs ys : List V} {us ws : List Value}, Vals xs us → Vals ys ws → Vals (xs ++ ys) (us ++ ws)
  | _, _, _, _, .nil, s => s
  | _, _, _, _, .cons r t, s => .cons r (Vals.append t s)
theorem Vals.take : ∀ {xs : List V} {us : List Value} (n : Nat), Vals xs us → Vals (xs.take n) (us.take n)
  | _, _, 0, _ => .nil
  | _, _, _ + 1, .nil => .nil
  | _, _, n + 1, .cons r t => .cons r (Vals.take n t)
theorem Vals.drop : ∀ {xs : List V} {us : List Value} (n : Nat), Vals xs us → Vals (xs.drop n) (us.drop n)
  | _, _, 0, r => r
  | _, _, _ + 1, .nil => .nil
  | _, _, n + 1, .cons _ t => Vals.drop n t
noncomputable def RelO : Option V → Option Value → Prop
  | some v, some u => RelV v u
  | none, none => True
  | _, _ => False
noncomputable def KV {κ : Type} : List (κ × V) → List (κ × Value) → Prop := Paired fun (p : κ × V) (q : κ × Value) => p.1 = q.1 ∧ RelV p.2 q.2
noncomputable def kV : Key → V
  | .inl i => .int i
  | .inr x => .str x
inductive HO where
  | lst (xs : List V)
  | tup (xs : List V)
  | dK (kvs : List (Key × V)) | dT (kvs : List (List Key × V))
  | set (S : Int → Bool) (n : Nat)
  | ins (C dx : Addr) (fs : List (Str × V))
  | own (x : Addr)
  | xd (fs : List (Str × V))
  | met (f x : Addr)
  | rng (lo hi : Int)
  | frz (o : Obj) (u : HO)
  | tbl (ps : Array Value)
  | ext (φ : Heap → Prop)
noncomputable abbrev Hp := Addr → Option HO
noncomputable def upd (H : Hp) (a : Addr) (o : HO) : Hp := fun b => if b = a then some o else H b
theorem upd_same {H : Hp} {a : Addr} {o : HO} : upd H a o a = some o := by unfold upd; rw [if_pos rfl]
theorem upd_ne {H : Hp} {a b : Addr} {o : HO} (h : b ≠ a) : upd H a o b = H b := by unfold upd; rw [if_neg h]
theorem ne_of {H : Hp} {a b : Addr} {o u : HO} (h : H a = some o) (h' : H b = some u) (d : o ≠ u) : a ≠ b := by
  intro e; subst e; rw [h] at h'; exact d (Option.some.inj h')
theorem ne_of_none {H : Hp} {a b : Addr} {o : HO} (h : H a = some o) (h' : H b = none) : a ≠ b := by
  intro e; subst e; rw [h] at h'; cases h'
section
variable (P : Program) (w : World)
noncomputable def ObjOk (H : Hp) (h : Heap) (a : Addr) : HO → Prop
  | .lst xs => xs.length ≤ sizeLine ∧ ∃ (its : List Value) (n : Nat), Vals xs its ∧ h.get? a = some { cls := .type "list", data := .seq its.toArray n }
  | .tup xs => xs.length ≤ sizeLine ∧ ∃ its : List Value, Vals xs its ∧ IsTup h a its.toArray
  | .dK kvs => kvs.length ≤ sizeLine ∧ (a == sysModules) = false ∧ ∃ vs, KV kvs vs ∧ h.DictOf (mixKind P w) a vs
  | .dT kvs => kvs.length ≤ sizeLine ∧ (a == sysModules) = false ∧ ∃ xs : List (List Key × Addr × Value),
      Paired (fun (p : List Key × V) (q : List Key × Addr × Value) => p.1 = q.1 ∧ H q.2.1 = some (.tup (p.1.map kV)) ∧ RelV p.2 q.2.2) kvs xs ∧
      ∃ o es ep, h.get? a = some o ∧ o.ExactDict ∧ o.data = .dict es ep ∧ es.toList = xs.map (entryOfKey (tupleKind (mixKind P w))) ∧ (xs.map (·.1)).Nodup
  | .set S n => h.SetOf (intKind P w) a S n
  | .ins C dx fs => H dx = some (.own a) ∧ fs.length ≤ 1000 ∧ dx ≠ a ∧ h.get? a = some (PySem.W.instObj C dx) ∧
      ∃ mA, h.Ns1 dx mA ∧ (∀ f, RelO (fs.lookup f) (mA f)) ∧ PySem.Within mA (fs.map (·.1))
  | .own _ => ∃ o, h.get? a = some o
  | .xd fs => ∃ mA, h.Ns1 a mA ∧ ∀ f, RelO (fs.lookup f) (mA f)
  | .rng lo hi => ∃ t u v, h.get? a = some { cls := .type "range", data := .fields #[.int lo t, .int hi u, .int 1 v] }
  | .frz o u => h.get? a = some o ∧ ObjOk H h a u
  | .tbl ps => h.get? a = some { cls := .none, data := .fields ps }
  | .met f x => h.get? a = some (PySem.W.methodObj (.ref f) (.ref x))
  | .ext φ => φ h ∧ (∃ o, h.get? a = some o) ∧ ∀ h1 h2 : Heap, φ h1 → (∀ o, h1.get? a = some o → h2.get? a = some o) → φ h2
noncomputable def HOk (H : Hp) (h : Heap) : Prop := ∀ a o, H a = some o → ObjOk P w H h a o
end
section
variable {P : Program} {w : World} {H H' : Hp} {h h' : Heap} {a : Addr} {o : HO}
theorem ObjOk.lt (x : ObjOk P w H h a o) : a < h.objs.size := by
  cases o with
  | lst xs => obtain ⟨_, _, _, _, e⟩ := x; exact Heap.lt_size e
  | tup xs => obtain ⟨_, _, _, p⟩ := x; exact p.lt
  | dK kvs => obtain ⟨_, _, _, _, o, _, _, e, _⟩ := x; exact Heap.lt_size e
  | dT kvs => obtain ⟨_, _, _, _, o, _, _, e, _⟩ := x; exact Heap.lt_size e
  | set S n => obtain ⟨o, _, _, _, e, _⟩ := x; exact Heap.lt_size e
  | ins C dx fs => obtain ⟨_, _, _, e, _⟩ := x; exact Heap.lt_size e
  | own y => obtain ⟨_, e⟩ := x; exact Heap.lt_size e
  | xd fs => obtain ⟨_, ⟨_, _, _, e, _⟩, _⟩ := x; exact Heap.lt_size e
  | rng lo hi => obtain ⟨_, _, _, e⟩ := x; exact Heap.lt_size e
  | frz ob u => obtain ⟨e, _⟩ := x; exact Heap.lt_size e
  | tbl ps => exact Heap.lt_size (show h.get? a = some _ from x)
  | met f y => exact Heap.lt_size (show h.get? a = some _ from x)
  | ext φ => obtain ⟨_, ⟨_, e⟩, _⟩ := x; exact Heap.lt_size e
theorem Paired.mapP {α β : Type} {F G : α → β → Prop} : ∀ {l₁ : List α} {l₂ : List β}, Paired F l₁ l₂ → (∀ a b, F a b → G a b) → Paired G l₁ l₂
  | _, _, .nil, _ => .nil
  | _, _, .cons r t, f => .cons (f _ _ r) (Paired.mapP t f)
theorem ObjOk.stay (x : ObjOk P w H h a o) (k : ∀ b u, (b = a ∨ H b = some (.own a)) → h.get? b = some u → h'.get? b = some u)
    (ho : ∀ b, H b = some (.own a) → H' b = some (.own a)) (ht : ∀ b xs, H b = some (.tup xs) → H' b = some (.tup xs)) : ObjOk P w H' h' a o := by
  induction o with
  | lst xs => obtain ⟨z, its, n, r, e⟩ := x; exact ⟨z, its, n, r, k _ _ (.inl rfl) e⟩
  | tup xs => obtain ⟨z, its, r, ob, e, c⟩ := x; exact ⟨z, its, r, ob, k _ _ (.inl rfl) e, c⟩
  | dK kvs => obtain ⟨z, y, vs, r, ob, es, ep, e, c⟩ := x; exact ⟨z, y, vs, r, ob, es, ep, k _ _ (.inl rfl) e, c⟩
  | dT kvs =>
    obtain ⟨z, y, xs, r, ob, es, ep, e, c⟩ := x
    exact ⟨z, y, xs, Paired.mapP r fun p q z => ⟨z.1, ht _ _ z.2.1, z.2.2⟩, ob, es, ep, k _ _ (.inl rfl) e, c⟩
  | set S n => obtain ⟨ob, es, ep, t, e, c⟩ := x; exact ⟨ob, es, ep, t, k _ _ (.inl rfl) e, c⟩
  | ins C dx fs =>
    obtain ⟨d, z, ne, e, mA, ⟨od, es, ep, e2, c⟩, r⟩ := x
    exact ⟨ho _ d, z, ne, k _ _ (.inl rfl) e, mA, ⟨od, es, ep, k _ _ (.inr d) e2, c⟩, r⟩
  | own y => obtain ⟨ob, e⟩ := x; exact ⟨ob, k _ _ (.inl rfl) e⟩
  | xd fs => obtain ⟨mA, ⟨od, es, ep, e, c⟩, r⟩ := x; exact ⟨mA, ⟨od, es, ep, k _ _ (.inl rfl) e, c⟩, r⟩
  | rng lo hi => obtain ⟨t, u, v, e⟩ := x; exact ⟨t, u, v, k _ _ (.inl rfl) e⟩
  | frz ob u ih => obtain ⟨e, q⟩ := x; exact ⟨k _ _ (.inl rfl) e, ih q⟩
  | tbl ps =>
    have e : h.get? a = some { cls := .none, data := .fields ps } := x
    show h'.get? a = some { cls := .none, data := .fields ps }
    exact k a _ (.inl rfl) e
  | met f y =>
    have e : h.get? a = some (PySem.W.methodObj (.ref f) (.ref y)) := x
    show h'.get? a = some (PySem.W.methodObj (.ref f) (.ref y))
    exact k a _ (.inl rfl) e
  | ext φ => obtain ⟨p, ⟨o, e⟩, st⟩ := x; exact ⟨st _ _ p fun o q => k _ _ (.inl rfl) q, ⟨o, k _ _ (.inl rfl) e⟩, st⟩
theorem HOk.lt (x : HOk P w H h) (e : H a = some o) : a < h.objs.size := (x a o e).lt
theorem HOk.fresh (x : HOk P w H h) (e : h.objs.size ≤ a) : H a = none := by
  cases q : H a with
  | none => rfl
  | some u => exact absurd (Nat.lt_of_lt_of_le (x.lt q) e) (Nat.lt_irrefl _)
theorem HOk.kept (x : HOk P w H h) (k : ∀ b u, h.get? b = some u → h'.get? b = some u) : HOk P w H h' := fun a o e =>
  (x a o e).stay (fun b u _ q => k b u q) (fun _ q => q) fun _ _ q => q
theorem HOk.laid (x : HOk P w H h) (k : ∀ b u, h.get? b = some u → h'.get? b = some u) (hp : h.objs.size ≤ a) (new : ObjOk P w (upd H a o) h' a o) : HOk P w (upd H a o) h' := fun b u e => by
  have hn := x.fresh hp
  by_cases hb : b = a
  · subst hb; rw [upd_same] at e; cases e; exact new
  · rw [upd_ne hb] at e
    exact (x b u e).stay (fun c v _ q => k c v q) (fun c q => by rw [upd_ne (ne_of_none q hn)]; exact q) fun c xs q => by rw [upd_ne (ne_of_none q hn)]; exact q
end
noncomputable def Rd (H : Hp) (a : Addr) (u : HO) : Prop := H a = some u ∨ ∃ o, H a = some (.frz o u)
theorem Rd.ok {P : Program} {w : World} {H : Hp} {h : Heap} {a : Addr} {u : HO} (r : Rd H a u) (x : HOk P w H h) : ObjOk P w H h a u := by
  rcases r with r | ⟨o, r⟩
  · exact x a u r
  · obtain ⟨_, q⟩ := x a _ r
    exact q
noncomputable def Mut : Option HO → Prop
  | some (.lst _) => True
  | some (.dK _) => True
  | some (.dT _) => True
  | some (.set _ _) => True
  | some (.ins _ _ _) => True
  | some (.ext _) => True
  | _ => False
section
variable {P : Program} {w : World} {H : Hp} {h h' : Heap} {x e : Addr} {o' : HO}
theorem HOk.write (ok : HOk P w H h) (mu : Mut (H x)) (he : e = x ∨ H e = some (.own x)) (k : ∀ b u, b ≠ e → h.get? b = some u → h'.get? b = some u) (heo : ∃ u, h'.get? e = some u)
    (new : ObjOk P w (upd H x o') h' x o') : HOk P w (upd H x o') h' := fun b u q => by
  have nown : ∀ c y, H c = some (.own y) → c ≠ x := fun c y r z => by subst z; rw [r] at mu; exact mu
  have ntup : ∀ c xs, H c = some (.tup xs) → c ≠ x := fun c xs r z => by subst z; rw [r] at mu; exact mu
  by_cases hb : b = x
  · subst hb; rw [upd_same] at q; cases q; exact new
  · rw [upd_ne hb] at q
    by_cases hbe : b = e
    · have q' : H b = some (.own x) := by
        rcases he with z | z
        · exact absurd (hbe.trans z) hb
        · rw [hbe]; exact z
      rw [q] at q'; cases q'
      obtain ⟨v, hv⟩ := heo
      exact ⟨v, by rw [hbe]; exact hv⟩
    · refine (ok b u q).stay (fun c v hc r => k c v ?_ r) (fun c r => by rw [upd_ne (nown c b r)]; exact r) fun c xs r => by rw [upd_ne (ntup c xs r)]; exact r
      rcases hc with rfl | hc
      · exact hbe
      · rintro rfl
        rcases he with z | z
        · exact nown c b hc z
        · rw [hc] at z; cases z; exact hb rfl
end
structure Un (fs ex : List Addr) (H H' : Hp) (h h' : Heap) : Prop where
  keep : ∀ b o, h.get? b = some o → H b = none → b ∉ fs → b ∉ ex → h'.get? b = some o
  slot : ∀ b o, h.get? b = some o → H b = none → b ∈ fs → b ∉ ex → ∃ sl, h'.get? b = some { o with slots := sl }
  free : ∀ b o, h.get? b = some o → H b = none → b ∉ ex → H' b = none
  there : ∀ b o, h.get? b = some o → b ∉ ex → ∃ o', h'.get? b = some o'
  tups : ∀ b xs, H b = some (.tup xs) → H' b = some (.tup xs)
  frzs : ∀ b o u, H b = some (.frz o u) → H' b = some (.frz o u)
  tbls : ∀ b ps, H b = some (.tbl ps) → ∃ more, H' b = some (.tbl (ps ++ more))
section
variable {fs fs' ex ex' : List Addr} {H H1 H2 : Hp} {h h1 h2 h' : Heap} {a x e : Addr} {o : HO}
theorem Un.any (u : Un fs ex H H1 h h1) {b : Addr} {ob : Obj} (q : h.get? b = some ob) (n : H b = none) (hx : b ∉ ex) : ∃ sl, h1.get? b = some { ob with slots := sl } := by
  by_cases hb : b ∈ fs
  · exact u.slot b ob q n hb hx
  · exact ⟨ob.slots, u.keep b ob q n hb hx⟩
theorem Un.kept (k : ∀ b u, h.get? b = some u → h'.get? b = some u) : Un fs ex H H h h' :=
  ⟨fun b ob q _ _ _ => k b ob q, fun b ob q _ _ _ => ⟨ob.slots, k b ob q⟩, fun _ _ _ n _ => n, fun b ob q _ => ⟨ob, k b ob q⟩, fun _ _ q => q, fun _ _ _ q => q, fun _ ps q => ⟨#[], by rw [q]; simp⟩⟩
theorem Un.refl : Un fs ex H H h h := Un.kept fun _ _ q => q
theorem Un.laid (k : ∀ b u, h.get? b = some u → h'.get? b = some u) (hp : h.objs.size ≤ a) (hn : H a = none) : Un fs ex H (upd H a o) h h' where
  keep := fun b u q _ _ _ => k b u q
  slot := fun b u q _ _ _ => ⟨u.slots, k b u q⟩
  free := fun b u q n _ => by rw [upd_ne (Nat.ne_of_lt (Nat.lt_of_lt_of_le (Heap.lt_size q) hp))]; exact n
  there := fun b u q _ => ⟨u, k b u q⟩
  tups := fun b xs q => by rw [upd_ne (ne_of_none q hn)]; exact q
  frzs := fun b u xs q => by rw [upd_ne (ne_of_none q hn)]; exact q
  tbls := fun b ps q => ⟨#[], by rw [upd_ne (ne_of_none q hn), q]; simp⟩
theorem Un.write (mu : Mut (H x)) (he : e = x ∨ H e = some (.own x)) (k : ∀ b u, b ≠ e → h.get? b = some u → h'.get? b = some u) (heo : ∃ u, h'.get? e = some u) : Un fs ex H (upd H x o) h h' := by
  have hx : ∀ b, H b = none → b ≠ x := fun b n z => by subst z; rw [n] at mu; exact mu
  have hb : ∀ b, H b = none → b ≠ e := fun b n z => by
    subst z
    rcases he with r | r
    · exact hx b n r
    · rw [n] at r; cases r
  have hm : ∀ b u, H b = some u → ¬ Mut (some u) → b ≠ x := fun b u q nm z => by subst z; rw [q] at mu; exact nm mu
  refine ⟨fun b u q n _ _ => k b u (hb b n) q, fun b u q n _ _ => ⟨u.slots, k b u (hb b n) q⟩, fun b u q n _ => by rw [upd_ne (hx b n)]; exact n, fun b u q _ => ?_,
    fun b xs q => by rw [upd_ne (hm b _ q fun z => z)]; exact q, fun b u xs q => by rw [upd_ne (hm b _ q fun z => z)]; exact q, fun b ps q => ⟨#[], by rw [upd_ne (hm b _ q fun z => z), q]; simp⟩⟩
  by_cases hbe : b = e
  · subst hbe; exact heo
  · exact ⟨u, k b u hbe q⟩
end
noncomputable def trk (h : Heap) (H : Hp) : List Addr := (List.range h.objs.size).filter fun a => (H a).isSome
noncomputable def hidT (h : Heap) (H : Hp) : Heap := PySem.W.hideAll h (trk h H)
theorem hidT_size (h : Heap) (H : Hp) : (hidT h H).objs.size = h.objs.size := PySem.W.hideAll_size _ _
theorem hidT_get {h : Heap} {H : Hp} {b : Addr} {o : Obj} (e : h.get? b = some o) (n : H b = none) : (hidT h H).get? b = some o :=
  PySem.W.hideAll_get _ e fun hm => by
    have q : (H b).isSome = true := (List.mem_filter.mp hm).2
    rw [n] at q; simp at q
theorem of_hidT {h : Heap} {H : Hp} {b : Addr} {o : Obj} (e : (hidT h H).get? b = some o) : h.get? b = some o ∧ H b = none := by
  have e' : h.get? b = some o := PySem.W.of_hideAll (trk h H) e
  refine ⟨e', ?_⟩
  cases q : H b with
  | none => rfl
  | some x =>
    have hm : b ∈ trk h H := List.mem_filter.mpr ⟨List.mem_range.mpr (Heap.lt_size e'), by simp [q]⟩
    have z : (hidT h H).get? b = none := PySem.W.hideAll_none (trk h H) hm
    rw [z] at e; cases e
end L2
namespace L2
open PySem PySem.Spec PyProof.Rows
structure Mod (K : PySem.W.Frag) (mg : Str → Option Value) (base : Heap) : Prop where
  kin : K.In base
  glob : base.Ns mainGlobals mg
  blt : ∃ mb, base.Ns builtinsNs mb ∧ ∀ x : Str, x ≠ "__name__" → mb x = bootBuiltins x
  nolimit : base.NoLimit
structure Cx where
  prog : Program
  w : World
  K : PySem.W.Frag
  mg : Str → Option Value
  base : Heap
  A : Around
  N : List Str
  s₀ : Shared
  H₀ : Hp
  env : Env
  outer : List Env
  stack : List Env
  ex : List Addr
  fn : Str → Bool
  calm : Bool
  pn : List (Addr × Obj)
  xe : Value → Shared → Prop
noncomputable def frs (l : List Env) : List Addr := l.filterMap (·.frame)
noncomputable abbrev Cx.fs (X : Cx) : List Addr := frs X.outer
noncomputable def Vis (sc : Scope) (x : Str) : Prop := sc.names.lookup x = some .local ∨ sc.names.lookup x = some .cell ∨ sc.names.lookup x = some .free
noncomputable def Loc (sc : Scope) (x : Str) : Prop := sc.names.lookup x = some .local ∨ sc.names.lookup x = some .cell
noncomputable def Look (env : Env) (h : Heap) (m : Str → Option Value) (x : Str) (u : Value) : Prop :=
  (env.kindOf x = some .local ∧ m x = some u) ∨ ((env.kindOf x = some .cell ∨ env.kindOf x = some .free) ∧ ∃ c, env.cells.lookup x = some c ∧ h.IsCell c (some u))
structure Cx.Ok (X : Cx) : Prop where
  mod : Mod X.K X.mg X.base
  kind : X.env.scope.kind = .function
  glob : X.env.globals = mainGlobals
  blt : X.env.builtins = builtinsNs
  above : X.s₀.heap.objs.size ≤ X.env.locals
  inj : ∀ x y c, X.env.cells.lookup x = some c → X.env.cells.lookup y = some c → x = y
  has : ∀ x, (X.env.kindOf x = some .cell ∨ X.env.kindOf x = some .free) → ∃ c, X.env.cells.lookup x = some c
  cab : ∀ x c, X.fn x = true → X.env.cells.lookup x = some c → X.s₀.heap.objs.size ≤ c
  hd : X.calm = true → X.A.handled = none
  frames : X.A.frames = some X.stack
  stk : X.stack = X.outer ∨ (X.stack = X.env :: X.outer ∧ X.env.frame = some X.env.locals)
  exf : ∀ b ∈ X.ex, b ≠ X.env.locals ∧ ∀ x c, X.env.cells.lookup x = some c → c ≠ b
  bs : ∀ b o, X.base.get? b = some o → X.s₀.heap.get? b = some o ∧ X.H₀ b = none
  bsz : X.base.objs.size ≤ X.s₀.heap.objs.size
  noex : ∀ b o, X.base.get? b = some o → b ∉ X.ex
  exfs : ∀ b ∈ X.ex, b ∉ X.fs
  funs : X.s₀.heap.FunFrames X.base X.outer
  frf : ∀ b ∈ X.fs, X.H₀ b = none
structure Inv (X : Cx) (pins : List (Addr × Obj)) (σ : List (Option V)) (H : Hp) (s : Shared) : Prop where
  ok : X.Ok
  os : s.os = X.s₀.os
  bare : AllBare s.gens
  base : Un X.fs X.ex X.H₀ H X.s₀.heap s.heap
  loc : ∃ m, s.heap.Ns X.env.locals m ∧ ∀ (i : Nat) (x : Str) (v : V), X.N[i]? = some x → σ[i]? = some (some v) → Vis X.env.scope x → ∃ u, RelV v u ∧ Look X.env s.heap m x u
  cell : ∀ x c, X.env.cells.lookup x = some c → ∃ v, s.heap.IsCell c v
  free : H X.env.locals = none
  freeC : ∀ x c, X.env.cells.lookup x = some c → H c = none
  pin : ∀ p ∈ X.pn ++ pins, s.heap.get? p.1 = some p.2 ∧ H p.1 = none ∧ p.1 ≠ X.env.locals ∧ p.1 ∉ X.fs ∧ ∀ v, p.2.data ≠ .cell v
  hok : HOk X.prog X.w H s.heap
  len : σ.length = X.N.length
section
variable {X : Cx} {pins : List (Addr × Obj)} {σ : List (Option V)} {H H' : Hp} {s : Shared} {h' : Heap}
theorem Cx.Ok.nofr (ok : X.Ok) {b : Addr} {o : Obj} (e : X.base.get? b = some o) : b ∉ X.fs := fun hb => by
  have := (ok.funs.mem hb).1
  rw [e] at this; cases this
theorem Inv.bs (I : Inv X pins σ H s) : ∀ b o, X.base.get? b = some o → s.heap.get? b = some o ∧ H b = none := fun b o e =>
  ⟨I.base.keep b o (I.ok.bs b o e).1 (I.ok.bs b o e).2 (I.ok.nofr e) (I.ok.noex b o e), I.base.free b o (I.ok.bs b o e).1 (I.ok.bs b o e).2 (I.ok.noex b o e)⟩
theorem Inv.bk (I : Inv X pins σ H s) : ∀ b o, X.base.get? b = some o → s.heap.get? b = some o := fun b o e => (I.bs b o e).1
theorem Inv.mod (I : Inv X pins σ H s) : Mod X.K X.mg X.base := I.ok.mod
theorem Inv.kIn (I : Inv X pins σ H s) : X.K.In s.heap := I.ok.mod.kin.keeps I.bk
theorem Inv.lt (I : Inv X pins σ H s) : X.env.locals < s.heap.objs.size := let ⟨_, hn, _⟩ := I.loc; hn.lt
theorem Inv.sz (I : Inv X pins σ H s) : X.s₀.heap.objs.size ≤ s.heap.objs.size := Nat.le_trans I.ok.above (Nat.le_of_lt I.lt)
theorem Inv.nofs (I : Inv X pins σ H s) {a : Addr} (h : s.heap.objs.size ≤ a) : a ∉ X.fs := fun hb => by
  obtain ⟨_, o, ho, _⟩ := I.ok.funs.mem hb
  exact absurd (Nat.lt_of_lt_of_le (Heap.lt_size ho) (Nat.le_trans I.sz h)) (Nat.lt_irrefl _)
theorem Inv.cne (I : Inv X pins σ H s) : ∀ x c, X.env.cells.lookup x = some c → c ≠ X.env.locals := fun x c e z => by
  obtain ⟨v, o, ho, hd⟩ := I.cell x c e
  obtain ⟨m, ⟨o', es, ep, ho', hd', _⟩, _⟩ := I.loc
  rw [z, ho'] at ho; cases ho; rw [hd'] at hd; cases hd
theorem Inv.funs (I : Inv X pins σ H s) : s.heap.FunFrames X.base X.outer := by
  have all : ∀ (l : List Env), (∀ b ∈ frs l, b ∈ X.fs) → X.s₀.heap.FunFrames X.base l → s.heap.FunFrames X.base l := by
    intro l
    induction l with
    | nil => intro _ _; trivial
    | cons env r ih =>
      intro hs hl
      obtain ⟨hk, ⟨L, o, hf, hn, ho, hd⟩, hr⟩ := hl
      have hL : L ∈ X.fs := hs L (by unfold frs; rw [List.filterMap_cons, hf]; exact List.mem_cons_self)
      obtain ⟨sl, e⟩ := I.base.slot L o ho (I.ok.frf L hL) hL fun z => I.ok.exfs L z hL
      exact ⟨hk, ⟨L, _, hf, hn, e, hd⟩, ih (fun b hb => hs b (by unfold frs; rw [List.filterMap_cons, hf]; exact List.mem_cons_of_mem _ hb)) hr⟩
  exact all X.outer (fun _ hb => hb) I.ok.funs
theorem Inv.stack (I : Inv X pins σ H s) : s.heap.FunFrames X.base X.stack := by
  rcases I.ok.stk with e | ⟨e, hf⟩
  · rw [e]; exact I.funs
  · rw [e]
    obtain ⟨m, hn, _⟩ := I.loc
    refine .cons (by rw [I.ok.kind]; decide) hf hn ?_ I.funs
    exact Heap.get?_none_of_le (Nat.le_trans I.ok.bsz I.ok.above)
theorem Inv.stkSub (I : Inv X pins σ H s) : ∀ b ∈ frs X.stack, b ∈ X.env.locals :: X.fs := fun b hb => by
  rcases I.ok.stk with e | ⟨e, hf⟩
  · rw [e] at hb; exact List.mem_cons_of_mem _ hb
  · rw [e] at hb
    unfold frs at hb
    rw [List.filterMap_cons, hf] at hb
    exact hb
theorem Inv.stkFree (I : Inv X pins σ H s) : ∀ b ∈ frs X.stack, H b = none := fun b hb => by
  rcases List.mem_cons.mp (I.stkSub b hb) with e | hb
  · rw [e]; exact I.free
  · obtain ⟨_, o, ho, _⟩ := I.ok.funs.mem hb
    exact I.base.free b o ho (I.ok.frf b hb) fun z => I.ok.exfs b z hb
theorem Inv.step {g' : Array GenState} {t' : Nat} {d' : Drawn} {ch : List Addr} (I : Inv X pins σ H s)
    (hch : ∀ b ∈ ch, (b ∈ X.ex ∨ X.s₀.heap.objs.size ≤ b) ∧ b ≠ X.env.locals ∧ (∀ x c, X.env.cells.lookup x = some c → c ≠ b) ∧ ∀ p ∈ X.pn ++ pins, p.1 ≠ b)
    (keep : ∀ b o, b ≠ X.env.locals → b ∉ X.fs → b ∉ ch → s.heap.get? b = some o → H b = none → h'.get? b = some o)
    (slot : ∀ b o, b ≠ X.env.locals → b ∈ X.fs → b ∉ ch → s.heap.get? b = some o → H b = none → ∃ sl, h'.get? b = some { o with slots := sl }) (free : ∀ b o, b ∉ ch → s.heap.get? b = some o → H b = none → H' b = none)
    (there : ∀ b o, b ∉ ch → s.heap.get? b = some o → ∃ o', h'.get? b = some o')
    (tups : ∀ b xs, H b = some (.tup xs) → H' b = some (.tup xs)) (frzs : ∀ b o u, H b = some (.frz o u) → H' b = some (.frz o u)) (tbls : ∀ b ps, H b = some (.tbl ps) → ∃ more, H' b = some (.tbl (ps ++ more)))
    (ns : ∀ m, s.heap.Ns X.env.locals m → h'.Ns X.env.locals m) (hok : HOk X.prog X.w H' h') (hg : AllBare g') :
    Inv X pins σ H' { s with heap := h', gens := g', drawn := d', toks := t' } := by
  have neL : ∀ b o, X.s₀.heap.get? b = some o → b ≠ X.env.locals := fun b o e => Nat.ne_of_lt (Nat.lt_of_lt_of_le (Heap.lt_size e) I.ok.above)
  have neC : ∀ b o, X.s₀.heap.get? b = some o → b ∉ X.ex → b ∉ ch := fun b o e hx hb => by
    rcases (hch b hb).1 with z | z
    · exact hx z
    · exact absurd (Nat.lt_of_lt_of_le (Heap.lt_size e) z) (Nat.lt_irrefl _)
  have cellK : ∀ x c, X.env.cells.lookup x = some c → ∀ v, s.heap.IsCell c v → h'.IsCell c v := fun x c e v ⟨o, ho, hd⟩ => by
    have nch : c ∉ ch := fun z => (hch c z).2.2.1 x c e rfl
    by_cases hc : c ∈ X.fs
    · obtain ⟨sl, q⟩ := slot c o (I.cne x c e) hc nch ho (I.freeC x c e)
      exact ⟨_, q, hd⟩
    · exact ⟨o, keep c o (I.cne x c e) hc nch ho (I.freeC x c e), hd⟩
  refine ⟨I.ok, I.os, hg, ⟨fun b o e n hb hx => ?_, fun b o e n hb hx => ?_, fun b o e n hx => ?_, fun b o e hx => ?_, fun b xs e => tups b xs (I.base.tups b xs e), fun b o xs e => frzs b o xs (I.base.frzs b o xs e), fun b ps e => ?_⟩, ?_, fun x c e => ?_, ?_, fun x c e => ?_, fun p hp => ?_, hok, I.len⟩
  · exact keep b o (neL b o e) hb (neC b o e hx) (I.base.keep b o e n hb hx) (I.base.free b o e n hx)
  · obtain ⟨sl, e1⟩ := I.base.slot b o e n hb hx
    obtain ⟨sl', e2⟩ := slot b _ (neL b o e) hb (neC b o e hx) e1 (I.base.free b o e n hx)
    exact ⟨sl', e2⟩
  · obtain ⟨o', e1⟩ := I.base.there b o e hx
    exact free b o' (neC b o e hx) e1 (I.base.free b o e n hx)
  · obtain ⟨o', e1⟩ := I.base.there b o e hx
    exact there b o' (neC b o e hx) e1
  · obtain ⟨m1, e1⟩ := I.base.tbls b ps e
    obtain ⟨m2, e2⟩ := tbls b _ e1
    exact ⟨m1 ++ m2, by rw [e2, Array.append_assoc]⟩
  · obtain ⟨m, hn, hl⟩ := I.loc
    refine ⟨m, ns m hn, fun i x v e1 e2 e3 => ?_⟩
    obtain ⟨u, r, l⟩ := hl i x v e1 e2 e3
    refine ⟨u, r, ?_⟩
    rcases l with l | ⟨k, c, e, z⟩
    · exact .inl l
    · exact .inr ⟨k, c, e, cellK x c e _ z⟩
  · obtain ⟨v, z⟩ := I.cell x c e
    exact ⟨v, cellK x c e v z⟩
  · obtain ⟨m, ⟨o, _, _, ho, _⟩, _⟩ := I.loc
    exact free _ o (fun z => (hch _ z).2.1 rfl) ho I.free
  · obtain ⟨v, o, ho, hd⟩ := I.cell x c e
    exact free c o (fun z => (hch c z).2.2.1 x c e rfl) ho (I.freeC x c e)
  · obtain ⟨e, n, ne, nf, d⟩ := I.pin p hp
    have nch : p.1 ∉ ch := fun z => (hch p.1 z).2.2.2 p hp rfl
    exact ⟨keep p.1 p.2 ne nf nch e n, free p.1 p.2 nch e n, ne, nf, d⟩
theorem Inv.un {t' : Nat} (I : Inv X pins σ H s) (u : Un X.fs [] H H' s.heap h') (hok : HOk X.prog X.w H' h') : Inv X pins σ H' { s with heap := h', toks := t' } := by
  obtain ⟨m, ⟨o, es, ep, ho, r⟩, _⟩ := id I.loc
  obtain ⟨sl, hL⟩ := u.any ho I.free (by simp)
  exact I.step (g' := s.gens) (d' := s.drawn) (ch := []) (fun _ z => nomatch z) (fun b o _ hb _ e n => u.keep b o e n hb (by simp)) (fun b o _ hb _ e n => u.slot b o e n hb (by simp)) (fun b o _ e n => u.free b o e n (by simp)) (fun b o _ e => u.there b o e (by simp)) u.tups u.frzs u.tbls (fun m' hm => by
    obtain ⟨o', es', ep', ho', r'⟩ := hm
    rw [ho] at ho'; cases ho'
    exact ⟨_, es', ep', hL, r'⟩) hok I.bare
theorem Inv.call {g' : Array GenState} {t' : Nat} {d' : Drawn} {ch : List Addr} (I : Inv X pins σ H s) (u : Un (frs X.stack) ch H H' s.heap h') (hok : HOk X.prog X.w H' h') (hg : AllBare g')
    (hch : ∀ b ∈ ch, (b ∈ X.ex ∨ X.s₀.heap.objs.size ≤ b) ∧ b ≠ X.env.locals ∧ (∀ x c, X.env.cells.lookup x = some c → c ≠ b) ∧ ∀ p ∈ X.pn ++ pins, p.1 ≠ b) :
    Inv X pins σ H' { s with heap := h', gens := g', drawn := d', toks := t' } := by
  obtain ⟨m, ⟨o, es, ep, ho, r⟩, _⟩ := id I.loc
  obtain ⟨sl, hL⟩ := u.any ho I.free fun z => (hch _ z).2.1 rfl
  exact I.step (ch := ch) hch (fun b o hL hb hc e n => u.keep b o e n (fun z => (List.mem_cons.mp (I.stkSub b z)).elim hL hb) hc) (fun b o _ _ hc e n => u.any e n hc) (fun b o hc e n => u.free b o e n hc) (fun b o hc e => u.there b o e hc) u.tups u.frzs u.tbls (fun m' hm => by
    obtain ⟨o', es', ep', ho', r'⟩ := hm
    rw [ho] at ho'; cases ho'
    exact ⟨_, es', ep', hL, r'⟩) hok hg
theorem Inv.turned {t' : Nat} {it : Addr} (I : Inv X pins σ H s) (k : ∀ b o, b ≠ it → s.heap.get? b = some o → h'.get? b = some o) (hn : H it = none) (hL : it ≠ X.env.locals)
    (h1 : it ∈ X.ex ∨ X.s₀.heap.objs.size ≤ it) (h2 : ∀ x c, X.env.cells.lookup x = some c → c ≠ it) (h3 : ∀ p ∈ X.pn ++ pins, p.1 ≠ it) : Inv X pins σ H { s with heap := h', toks := t' } := by
  have nit : ∀ b u, H b = some u → b ≠ it := fun b u e z => by rw [z, hn] at e; cases e
  refine I.step (g' := s.gens) (d' := s.drawn) (ch := [it]) (fun b hb => ?_) (fun b o _ _ hc e _ => k b o (fun z => hc (by simp [z])) e) (fun b o _ _ hc e _ => ⟨o.slots, k b o (fun z => hc (by simp [z])) e⟩) (fun _ _ _ _ n => n)
    (fun b o hc e => ⟨o, k b o (fun z => hc (by simp [z])) e⟩) (fun _ _ e => e) (fun _ _ _ e => e) (fun b ps e => ⟨#[], by rw [e]; simp⟩) (fun m hm => ?_) (fun b u e => ?_) I.bare
  · have e : b = it := by simpa using hb
    subst e
    exact ⟨h1, hL, h2, h3⟩
  · obtain ⟨o, es, ep, ho, r⟩ := hm
    exact ⟨o, es, ep, k _ o (Ne.symm hL) ho, r⟩
  · refine (I.hok b u e).stay (fun c v hc q => k c v ?_ q) (fun _ q => q) fun _ _ q => q
    rcases hc with z | z
    · rw [z]; exact nit b u e
    · exact nit c _ z
theorem Inv.tok (I : Inv X pins σ H s) (t : Nat) : Inv X pins σ H { s with toks := t } := I.un (h' := s.heap) (t' := t) Un.refl I.hok
theorem Inv.kept {t' : Nat} (I : Inv X pins σ H s) (k : ∀ b u, s.heap.get? b = some u → h'.get? b = some u) : Inv X pins σ H { s with heap := h', toks := t' } := I.un (Un.kept k) (I.hok.kept k)
theorem Inv.laid {a : Addr} {o : HO} {t' : Nat} (I : Inv X pins σ H s) (k : ∀ b u, s.heap.get? b = some u → h'.get? b = some u) (hp : s.heap.objs.size ≤ a) (new : ObjOk X.prog X.w (upd H a o) h' a o) :
    Inv X pins σ (upd H a o) { s with heap := h', toks := t' } := I.un (Un.laid k hp (I.hok.fresh hp)) (I.hok.laid k hp new)
theorem Inv.write {x e : Addr} {o : HO} {t' : Nat} (I : Inv X pins σ H s) (mu : Mut (H x)) (he : e = x ∨ H e = some (.own x)) (k : ∀ b u, b ≠ e → s.heap.get? b = some u → h'.get? b = some u) (heo : ∃ u, h'.get? e = some u)
    (new : ObjOk X.prog X.w (upd H x o) h' x o) : Inv X pins σ (upd H x o) { s with heap := h', toks := t' } := I.un (Un.write mu he k heo) (I.hok.write mu he k heo new)
theorem Inv.weak {σ' : List (Option V)} (I : Inv X pins σ H s) (hl : σ'.length = σ.length) (w : ∀ (i : Nat) v, σ'[i]? = some (some v) → σ[i]? = some (some v)) : Inv X pins σ' H s :=
  ⟨I.ok, I.os, I.bare, I.base, let ⟨m, hn, hl'⟩ := I.loc; ⟨m, hn, fun i x v e1 e2 e3 => hl' i x v e1 (w i v e2) e3⟩, I.cell, I.free, I.freeC, I.pin, I.hok, hl.trans I.len⟩
theorem Inv.pins_of {pins' : List (Addr × Obj)} (I : Inv X pins σ H s) (h : ∀ p ∈ pins', s.heap.get? p.1 = some p.2 ∧ H p.1 = none ∧ p.1 ≠ X.env.locals ∧ p.1 ∉ X.fs ∧ ∀ v, p.2.data ≠ .cell v) : Inv X pins' σ H s :=
  ⟨I.ok, I.os, I.bare, I.base, I.loc, I.cell, I.free, I.freeC, fun p hp => (List.mem_append.mp hp).elim (fun z => I.pin p (List.mem_append_left _ z)) (h p), I.hok, I.len⟩
theorem nodup_ix {N : List Str} (hN : N.Nodup) {i j : Nat} {x : Str} (a : N[i]? = some x) (b : N[j]? = some x) : i = j := by
  obtain ⟨h1, e1⟩ := List.getElem?_eq_some_iff.mp a
  obtain ⟨h2, e2⟩ := List.getElem?_eq_some_iff.mp b
  exact (List.getElem_inj hN).mp (e1.trans e2.symm)
theorem store_ok2 {M : Model} {A : Around} {E : Value → Shared → Prop} {i : Nat} {x : Str} {v : V} {u : Value} {Q : Unit → Shared → Prop} (I : Inv X pins σ H s) (hN : X.N.Nodup) (hi : X.N[i]? = some x) (hx : Loc X.env.scope x) (r : RelV v u)
    (h : ∀ s', Inv X pins (σ.set i (some v)) H s' → (∃ a, Heap.SameBut a s.heap s'.heap ∧ (a = X.env.locals ∨ X.env.cells.lookup x = some a)) → Q () s') (hf : X.fn x = true ∨ X.env.scope.names.lookup x = some .local := by first | exact .inl rfl | exact .inr rfl | assumption) : wpAny M A (storeName X.env x u) Q E s := by
  obtain ⟨m, hn, hl⟩ := id I.loc
  have hcls : (X.env.scope.kind == .class || (X.env.scope.kind == .module && X.env.locals != X.env.globals)) = false := by rw [I.ok.kind]; rfl
  have hiσ : i < σ.length := by rw [I.len]; exact (List.getElem?_eq_some_iff.mp hi).1
  have cne := I.cne
  have tracked : ∀ {a : Addr} {h' : Heap}, (∃ o, s.heap.get? a = some o ∧ H a = none) → Heap.SameBut a s.heap h' → HOk X.prog X.w H h' := fun {a h'} ha hs b ob e => by
    obtain ⟨_, _, hfree⟩ := ha
    refine (I.hok b ob e).stay (fun c w' hc q => (hs.2 c ?_).trans q) (fun _ q => q) fun _ _ q => q
    rintro rfl
    rcases hc with rfl | hc
    · rw [hfree] at e; cases e
    · rw [hfree] at hc; cases hc
  rcases hx with hk | hk
  · refine wpAny_storeName_local hk hn (fun h' hn' hs => ?_) hcls
    obtain ⟨oL, _, _, hoL, _⟩ := id hn
    refine h _ ⟨I.ok, I.os, I.bare, ⟨fun b o e n hb hx => ?_, fun b o e n hb hx => ?_, I.base.free, fun b o e hx => ?_, I.base.tups, I.base.frzs, I.base.tbls⟩, ⟨_, hn', fun j y v' e1 e2 e3 => ?_⟩, fun y c e => ?_, I.free, I.freeC, fun p hp => ?_, tracked ⟨oL, hoL, I.free⟩ hs, by simpa using I.len⟩ ⟨_, hs, .inl rfl⟩
    · exact (hs.2 b (Nat.ne_of_lt (Nat.lt_of_lt_of_le (Heap.lt_size e) I.ok.above))).trans (I.base.keep b o e n hb hx)
    · obtain ⟨sl, e1⟩ := I.base.slot b o e n hb hx
      exact ⟨sl, (hs.2 b (Nat.ne_of_lt (Nat.lt_of_lt_of_le (Heap.lt_size e) I.ok.above))).trans e1⟩
    · obtain ⟨o', e1⟩ := I.base.there b o e hx
      exact ⟨o', (hs.2 b (Nat.ne_of_lt (Nat.lt_of_lt_of_le (Heap.lt_size e) I.ok.above))).trans e1⟩
    · by_cases hj : j = i
      · subst hj
        rw [hi] at e1; cases e1
        rw [List.getElem?_set_self hiσ] at e2
        cases e2
        exact ⟨u, r, .inl ⟨hk, by simp⟩⟩
      · rw [List.getElem?_set_ne (Ne.symm hj)] at e2
        obtain ⟨u', r', q⟩ := hl j y v' e1 e2 e3
        refine ⟨u', r', ?_⟩
        rcases q with ⟨k, e⟩ | ⟨k, c, e, z⟩
        · refine .inl ⟨k, ?_⟩
          have : y ≠ x := fun e => hj (nodup_ix hN e1 (e ▸ hi))
          simp [this, e]
        · exact .inr ⟨k, c, e, z.sameBut hs (cne y c e)⟩
    · obtain ⟨w', z⟩ := I.cell y c e
      exact ⟨w', z.sameBut hs (cne y c e)⟩
    · obtain ⟨e, n, ne, nf, d⟩ := I.pin p hp
      exact ⟨(hs.2 p.1 ne).trans e, n, ne, nf, d⟩
  · have hfn : X.fn x = true := by
      rcases hf with z | z
      · exact z
      · rw [z] at hk; cases hk
    obtain ⟨c, hc⟩ := I.ok.has x (.inl hk)
    obtain ⟨w', z⟩ := I.cell x c hc
    refine wpAny_storeName_cell I.ok.kind hk hc z (fun h' hc' hs => ?_)
    obtain ⟨oc, hoc, hocd⟩ := id z
    refine h { s with heap := h' } ⟨I.ok, I.os, I.bare, ⟨fun b o e n hb hx => ?_, fun b o e n hb hx => ?_, I.base.free, fun b o e hx => ?_, I.base.tups, I.base.frzs, I.base.tbls⟩, ⟨m, hn.sameBut hs (Ne.symm (cne x c hc)), fun j y v' e1 e2 e3 => ?_⟩, fun y c' e => ?_, I.free, I.freeC, fun p hp => ?_, tracked ⟨oc, hoc, I.freeC x c hc⟩ hs, by simpa using I.len⟩ ⟨c, hs, .inr hc⟩
    · exact (hs.2 b (Nat.ne_of_lt (Nat.lt_of_lt_of_le (Heap.lt_size e) (I.ok.cab x c hfn hc)))).trans (I.base.keep b o e n hb hx)
    · obtain ⟨sl, e1⟩ := I.base.slot b o e n hb hx
      exact ⟨sl, (hs.2 b (Nat.ne_of_lt (Nat.lt_of_lt_of_le (Heap.lt_size e) (I.ok.cab x c hfn hc)))).trans e1⟩
    · obtain ⟨o', e1⟩ := I.base.there b o e hx
      exact ⟨o', (hs.2 b (Nat.ne_of_lt (Nat.lt_of_lt_of_le (Heap.lt_size e) (I.ok.cab x c hfn hc)))).trans e1⟩
    · by_cases hj : j = i
      · subst hj
        rw [hi] at e1; cases e1
        rw [List.getElem?_set_self hiσ] at e2
        cases e2
        exact ⟨u, r, .inr ⟨.inl hk, c, hc, hc'⟩⟩
      · rw [List.getElem?_set_ne (Ne.symm hj)] at e2
        obtain ⟨u', r', q⟩ := hl j y v' e1 e2 e3
        refine ⟨u', r', ?_⟩
        rcases q with q | ⟨k, c', e, z'⟩
        · exact .inl q
        · refine .inr ⟨k, c', e, z'.sameBut hs ?_⟩
          rintro rfl
          exact hj (nodup_ix hN e1 (I.ok.inj _ _ _ e hc ▸ hi))
    · by_cases hcc : c' = c
      · subst hcc; exact ⟨_, hc'⟩
      · obtain ⟨w2, z2⟩ := I.cell y c' e
        exact ⟨w2, z2.sameBut hs hcc⟩
    · obtain ⟨e, n, ne, nf, d⟩ := I.pin p hp
      refine ⟨(hs.2 p.1 ?_).trans e, n, ne, nf, d⟩
      intro q
      rw [q, hoc] at e
      have q' : oc = p.2 := Option.some.inj e
      exact d w' (by rw [← q']; exact hocd)
theorem store_ok {M : Model} {A : Around} {E : Value → Shared → Prop} {i : Nat} {x : Str} {v : V} {u : Value} {Q : Unit → Shared → Prop} (I : Inv X pins σ H s) (hN : X.N.Nodup) (hi : X.N[i]? = some x) (hx : Loc X.env.scope x) (r : RelV v u)
    (h : ∀ s', Inv X pins (σ.set i (some v)) H s' → Q () s') (hf : X.fn x = true ∨ X.env.scope.names.lookup x = some .local := by first | exact .inl rfl | exact .inr rfl | assumption) : wpAny M A (storeName X.env x u) Q E s :=
  store_ok2 I hN hi hx r (fun s' I' _ => h s' I') hf
theorem Inv.call' {s' : Shared} {ch : List Addr} (I : Inv X pins σ H s) (ho : s'.os = s.os) (u : Un (frs X.stack) ch H H' s.heap s'.heap) (hok : HOk X.prog X.w H' s'.heap) (hg : AllBare s'.gens)
    (hch : ∀ b ∈ ch, (b ∈ X.ex ∨ X.s₀.heap.objs.size ≤ b) ∧ b ≠ X.env.locals ∧ (∀ x c, X.env.cells.lookup x = some c → c ≠ b) ∧ ∀ p ∈ X.pn ++ pins, p.1 ≠ b) : Inv X pins σ H' s' := by
  obtain ⟨h', g', d', t', o'⟩ := s'
  have e : o' = s.os := ho
  subst e
  exact I.call (g' := g') (t' := t') (d' := d') u hok hg hch
end
noncomputable abbrev XK := Value → Option Addr → Hp → Prop
noncomputable abbrev St := List (Option V)
noncomputable abbrev VK := V → Hp → Prop
noncomputable abbrev TE := St → Hp → VK → Prop
noncomputable abbrev TT := St → Hp → (Bool → Hp → Prop) → Prop
noncomputable abbrev TA := St → Hp → (List V → Hp → Prop) → Prop
structure Ends where
  nx : St → Hp → Prop
  rt : VK
  bk : St → Hp → Prop := fun _ _ => False
  ct : St → Hp → Prop := fun _ _ => False
noncomputable abbrev TS := Ends → St → Hp → Prop
noncomputable def EP (X : Cx) (pins : List (Addr × Obj)) (σ : St) (Q : VK) (u : Value) (s' : Shared) : Prop := ∃ v H', Inv X pins σ H' s' ∧ RelV v u ∧ Q v H'
noncomputable def TP (X : Cx) (pins : List (Addr × Obj)) (σ : St) (Q : Bool → Hp → Prop) (b : Bool) (s' : Shared) : Prop := ∃ H', Inv X pins σ H' s' ∧ Q b H'
noncomputable def AP (X : Cx) (pins : List (Addr × Obj)) (σ : St) (Q : List V → Hp → Prop) (us : List Value) (s' : Shared) : Prop := ∃ vs H', Inv X pins σ H' s' ∧ Vals vs us ∧ Q vs H'
noncomputable def SP (X : Cx) (pins : List (Addr × Obj)) (D : Ends) (f : Flow) (s' : Shared) : Prop :=
  match f with
  | .next => ∃ σ' H', Inv X pins σ' H' s' ∧ D.nx σ' H'
  | .brk => ∃ σ' H', Inv X pins σ' H' s' ∧ D.bk σ' H'
  | .cont => ∃ σ' H', Inv X pins σ' H' s' ∧ D.ct σ' H'
  | .ret u => ∃ v σ' H', Inv X pins σ' H' s' ∧ RelV v u ∧ D.rt v H'
noncomputable def PE (X : Cx) (e : Expr) (t : TE) : Prop :=
  ∀ (pins : List (Addr × Obj)) (s : Shared) (σ : St) (H : Hp) (Q : VK), Inv X pins σ H s → t σ H Q → wpAny (model X.prog X.w) X.A (eval e X.env) (EP X pins σ Q) X.xe s
noncomputable def PT (X : Cx) (e : Expr) (t : TT) : Prop :=
  ∀ (pins : List (Addr × Obj)) (s : Shared) (σ : St) (H : Hp) (Q : Bool → Hp → Prop), Inv X pins σ H s → t σ H Q → wpAny (model X.prog X.w) X.A (isTrue e X.env (eval e X.env)) (TP X pins σ Q) X.xe s
noncomputable def PW (X : Cx) (e : Expr) (t : TT) : Prop :=
  ∀ (whole : Sem Value) (pins : List (Addr × Obj)) (s : Shared) (σ : St) (H : Hp) (Q : Bool → Hp → Prop), Inv X pins σ H s → t σ H Q → wpAny (model X.prog X.w) X.A (isTrue e X.env whole) (TP X pins σ Q) X.xe s
theorem PW.pt {X : Cx} {e : Expr} {t : TT} (h : PW X e t) : PT X e t := h _
noncomputable def PA (X : Cx) (es : List Expr) (t : TA) : Prop :=
  ∀ (pos : Pos) (pins : List (Addr × Obj)) (s : Shared) (σ : St) (H : Hp) (Q : List V → Hp → Prop), Inv X pins σ H s → t σ H Q → wpAny (model X.prog X.w) X.A (spliced (backTo pos (starEach es X.env))) (AP X pins σ Q) X.xe s
noncomputable def PS (X : Cx) (st : Stmt) (t : TS) : Prop :=
  ∀ (pins : List (Addr × Obj)) (s : Shared) (σ : St) (H : Hp) (D : Ends), Inv X pins σ H s → t D σ H → wpAny (model X.prog X.w) X.A (exec st X.env) (SP X pins D) X.xe s
noncomputable def PSs (X : Cx) (st : List Stmt) (t : TS) : Prop :=
  ∀ (pins : List (Addr × Obj)) (s : Shared) (σ : St) (H : Hp) (D : Ends), Inv X pins σ H s → t D σ H → wpAny (model X.prog X.w) X.A (execs st X.env) (SP X pins D) X.xe s
theorem thn {α : Type} {t : Sem α} {Q Q' : α → Shared → Prop} {M : Model} {A : Around} {E : Value → Shared → Prop} {s : Shared} (h : wpAny M A t Q E s) (hQ : ∀ a s, Q a s → Q' a s) : wpAny M A t Q' E s := wpAny_mono h hQ fun _ _ x => x
end L2
namespace L2
open PySem PySem.Spec PyProof.Rows
section
variable {X : Cx}
noncomputable def tVar (i : Nat) : TE := fun σ H Q => ∃ v, σ[i]? = some (some v) ∧ Q v H
noncomputable def tC (v : V) : TE := fun _ H Q => Q v H
theorem pe_var {i : Nat} {x : Str} {pos : Pos} (hN : X.N[i]? = some x) (hv : Vis X.env.scope x) (hd : (x == ("__debug__" : Str)) = false := by decide) (hcd : (x == ("__classdict__" : Str)) = false := by decide) : PE X (.Name x pos) (tVar i) := by
  intro pins s σ H Q I h
  obtain ⟨v, e, h⟩ := h
  obtain ⟨m, hn, hl⟩ := I.loc
  obtain ⟨u, r, l⟩ := hl i x v hN e hv
  have fin : EP X pins σ Q u s := ⟨v, H, I, r, h⟩
  rcases l with ⟨hk, hm⟩ | ⟨hk, c, hc, hcell⟩
  · exact wpAny_Name (wpAny_loadName_local I.ok.kind hk hn hm fin) hd
  · rcases hk with hk | hk
    · exact wpAny_Name (wpAny_loadName_cell I.ok.kind hk hc hcell fin) hd
    · exact wpAny_Name (wpAny_loadName_free I.ok.kind hk hc hcell fin hcd) hd
theorem pe_int {i j pos} : PE X (.Constant (.int i) j pos) (tC (.int i)) := fun _ _ _ H _ I h => wpAny_Constant_int ⟨.int i, H, I.tok _, ⟨_, rfl⟩, h⟩
theorem pe_bl {b j pos} : PE X (.Constant (.bool b) j pos) (tC (.bl b)) := fun _ _ _ H _ I h => Constant_bool ⟨.bl b, H, I, rfl, h⟩
theorem pe_non {j pos} : PE X (.Constant .none j pos) (tC .non) := fun _ _ _ H _ I h => Constant_none ⟨.non, H, I, rfl, h⟩
theorem pe_str {x j pos} : PE X (.Constant (.str x) j pos) (tC (.str x)) := fun _ _ _ H _ I h => Calls.Constant_str ⟨.str x, H, I.tok _, ⟨_, rfl⟩, h⟩
noncomputable def Gl (X : Cx) (x : Str) : Prop := X.env.kindOf x = some .globalImplicit
theorem ld_glob {E : Value → Shared → Prop} {pins : List (Addr × Obj)} {s : Shared} {σ : St} {H : Hp} {x : Str} {u : Value} {pos : Pos} {Q : Value → Shared → Prop} (I : Inv X pins σ H s) (hg : Gl X x) (hm : X.mg x = some u) (h : Q u s)
    (hd : (x == ("__debug__" : Str)) = false := by decide) : wpAny (model X.prog X.w) X.A (eval (.Name x pos) X.env) Q E s :=
  Calls.Name_function_global I.ok.kind hg (Calls.loadGlobal_global (by rw [I.ok.glob]; exact I.mod.glob.keeps I.bk) hm h) hd
theorem ld_blt {E : Value → Shared → Prop} {pins : List (Addr × Obj)} {s : Shared} {σ : St} {H : Hp} {x : Str} {u : Value} {pos : Pos} {Q : Value → Shared → Prop} (I : Inv X pins σ H s) (hg : Gl X x) (hm : X.mg x = none) (hv : bootBuiltins x = some u) (h : Q u s)
    (hn : x ≠ "__name__" := by decide) (hd : (x == ("__debug__" : Str)) = false := by decide) : wpAny (model X.prog X.w) X.A (eval (.Name x pos) X.env) Q E s := by
  obtain ⟨mb, h1, h2⟩ := I.mod.blt
  exact Calls.Name_function_global I.ok.kind hg (Calls.loadGlobal_builtin (by rw [I.ok.glob]; exact I.mod.glob.keeps I.bk) hm (by rw [I.ok.blt]; exact h1.keeps I.bk) ((h2 x hn).trans hv) h) hd
theorem pe_glob {x : Str} {v : V} {u : Value} {pos : Pos} (hg : Gl X x) (hm : X.mg x = some u) (r : RelV v u) (hd : (x == ("__debug__" : Str)) = false := by decide) : PE X (.Name x pos) (tC v) :=
  fun _ _ _ H _ I h => ld_glob I hg hm ⟨v, H, I, r, h⟩ hd
theorem pe_bltn {x : Str} {v : V} {u : Value} {pos : Pos} (hg : Gl X x) (hm : X.mg x = none) (hv : bootBuiltins x = some u) (r : RelV v u) (hn : x ≠ "__name__" := by decide) (hd : (x == ("__debug__" : Str)) = false := by decide) : PE X (.Name x pos) (tC v) :=
  fun _ _ _ H _ I h => ld_blt I hg hm hv ⟨v, H, I, r, h⟩ hn hd
variable {a b : Expr} {ta tb : TE} {pos : Pos}
noncomputable def PC (X : Cx) (op : CmpOp) (a b : Expr) (t : TE) : Prop :=
  ∀ (pins : List (Addr × Obj)) (s : Shared) (σ : St) (H : Hp) (Q : VK), Inv X pins σ H s → t σ H Q →
    wpAny (model X.prog X.w) X.A (eval a X.env) (fun v s₁ => wpAny (model X.prog X.w) X.A (eval b X.env) (fun u s₂ => wpAny (model X.prog X.w) X.A (compareOp op v u) (EP X pins σ Q) X.xe s₂) X.xe s₁) X.xe s
noncomputable def tB (t : TE) : TT := fun σ H Q => t σ H fun x H1 => ∃ c, x = .bl c ∧ Q c H1
theorem pt_cmp {op : CmpOp} {t : TE} (h : PC X op a b t) (h1 : behindInMarks op b = false := by first | exact nobehind _ (by decide) (by decide) | rfl) : PT X (.Compare a [op] [b] pos) (tB t) := by
  intro pins s σ H Q I hw
  refine wpAny_isTrue_Compare1 (thn (h pins s σ H _ I hw) fun v s1 h1 => thn h1 fun u s2 h2 => thn h2 fun c s3 ⟨x, H1, I1, r1, q1⟩ => ?_) h1
  obtain ⟨d, rfl, q⟩ := q1
  cases r1
  exact wpAny_truthy_bool ⟨H1, I1, q⟩
theorem pt_val {e : Expr} {t : TE} (h : PE X e t) (he : ∀ whole, isTrue e X.env whole = (do let v ← whole; standAt e.pos; holding [v] (truthy v)) := by intro _; rfl) : PT X e (tB t) := by
  intro pins s σ H Q I hw
  refine isTrue_plain (thn (h pins s σ H _ I hw) fun v s1 ⟨x, H1, I1, r1, q1⟩ => ?_) (he _)
  obtain ⟨d, rfl, q⟩ := q1
  cases r1
  exact wpAny_truthy_bool ⟨H1, I1, q⟩
variable {tA tB' : TT} {rest : List Expr}
noncomputable def tOr (t u : TT) : TT := fun σ H Q => t σ H fun c H1 => if c = true then Q true H1 else u σ H1 Q
noncomputable def tNot (t : TT) : TT := fun σ H Q => t σ H fun c H1 => Q (!c) H1
theorem pw_or1 (ha : PT X a tA) : PW X (.BoolOp .Or [a] pos) tA := by
  intro wh pins s σ H Q I h
  refine isTrue_or (thn (ha pins s σ H Q I h) fun c s1 e => ?_)
  cases c with
  | false => exact isTrue_or_nil e
  | true => exact e
theorem pw_or (ha : PT X a tA) (hb : PW X (.BoolOp .Or (b :: rest) pos) tB') : PW X (.BoolOp .Or (a :: b :: rest) pos) (tOr tA tB') := by
  intro wh pins s σ H Q I h
  refine isTrue_or (thn (ha pins s σ H _ I h) fun c s1 zz => ?_)
  obtain ⟨H1, I1, q1⟩ := zz
  cases c with
  | true => exact ⟨H1, I1, q1⟩
  | false => exact hb wh pins s1 σ H1 Q I1 q1
theorem pt_not (ha : PT X a tA) : PT X (.UnaryOp .Not a pos) (tNot tA) := by
  intro pins s σ H Q I h
  exact isTrue_not (ha pins s σ H (fun c H1 => Q (!c) H1) I h)
noncomputable def tAndV (ta tb : TE) : TE := fun σ H Q => ta σ H fun x H1 => ∃ c, x = .bl c ∧ if c = true then tb σ H1 Q else Q (.bl false) H1
noncomputable def tNotV (ta : TE) : TE := fun σ H Q => ta σ H fun x H1 => ∃ c, x = .bl c ∧ Q (.bl (!c)) H1
theorem pe_one {op} {t : TE} (h : PE X a t) : PE X (.BoolOp op [a] pos) t := fun pins s σ H Q I hw => BoolOp_one (h pins s σ H Q I hw)
theorem pe_and (ha : PE X a ta) (hb : PE X (.BoolOp .And (b :: rest) pos) tb) : PE X (.BoolOp .And (a :: b :: rest) pos) (tAndV ta tb) := by
  intro pins s σ H Q I h
  refine BoolOp_and (thn (ha pins s σ H _ I h) fun v s1 zz => ?_)
  obtain ⟨x, H1, I1, r1, q1⟩ := zz
  obtain ⟨c, rfl, q1⟩ := q1
  cases r1
  refine wpAny_truthy_bool ?_
  cases c with
  | true => exact hb pins s1 σ H1 Q I1 q1
  | false => exact ⟨.bl false, H1, I1, rfl, q1⟩
theorem pe_not (ha : PE X a ta) : PE X (.UnaryOp .Not a pos) (tNotV ta) := by
  intro pins s σ H Q I h
  refine UnaryOp_ (thn (ha pins s σ H _ I h) fun v s1 zz => ?_)
  obtain ⟨x, H1, I1, r1, q1⟩ := zz
  obtain ⟨c, rfl, q1⟩ := q1
  cases r1
  exact not_of (wpAny_truthy_bool ⟨.bl (!c), H1, I1, rfl, q1⟩)
noncomputable def tIf (t : TT) (ta tb : TE) : TE := fun σ H Q => t σ H fun c H1 => if c = true then ta σ H1 Q else tb σ H1 Q
theorem pe_ifExp {c : Expr} (hc : PT X c tA) (ha : PE X a ta) (hb : PE X b tb) : PE X (.IfExp c a b pos) (tIf tA ta tb) := by
  intro pins s σ H Q I h
  refine wpAny_IfExp (thn (hc pins s σ H _ I h) fun d s1 zz => ?_)
  obtain ⟨H1, I1, q1⟩ := zz
  cases d with
  | true => exact ha pins s1 σ H1 Q I1 q1
  | false => exact hb pins s1 σ H1 Q I1 q1
end
end L2
namespace L2
open PySem PySem.Spec PyProof.Rows
noncomputable def SqL (K : PySem.W.Frag) (H : Hp) (a : Addr) (xs : List V) : Prop :=
  Rd H a (.lst xs) ∨
    ∃ (o : Obj) (its : Array Value) (n : Nat), K.lookup a = some o ∧ o.cls = .type "list" ∧ o.dict = none ∧ o.data = .seq its n ∧ its.size ≤ sizeLine ∧ Vals xs its.toList
noncomputable def SqT (K : PySem.W.Frag) (H : Hp) (a : Addr) (xs : List V) : Prop :=
  Rd H a (.tup xs) ∨
    ∃ (o : Obj) (its : Array Value) (n : Nat), K.lookup a = some o ∧ o.cls = .type "tuple" ∧ o.data = .seq its n ∧ its.size ≤ sizeLine ∧ Vals xs its.toList
noncomputable def absV : Value → Option V
  | .none => some .non
  | .bool b => some (.bl b)
  | .int i _ => some (.int i)
  | .str x _ => some (.str x)
  | .bytes b _ => some (.byt b)
  | .float b _ => some (.flt b)
  | .ref a => some (.ref a)
  | .type n => some (.ty n)
  | _ => none
theorem RelV.abs {x : V} {u : Value} (r : RelV x u) : absV u = some x := by
  cases x with
  | non => cases r; rfl
  | bl _ => cases r; rfl
  | int _ => obtain ⟨t, rfl⟩ := r; rfl
  | str _ => obtain ⟨t, rfl⟩ := r; rfl
  | byt _ => obtain ⟨t, rfl⟩ := r; rfl
  | flt _ => obtain ⟨t, rfl⟩ := r; rfl
  | ref _ => cases r; rfl
  | ty _ => cases r; rfl
theorem RelV.inj {x y : V} {u : Value} (r : RelV x u) (q : RelV y u) : x = y := Option.some.inj (r.abs.symm.trans q.abs)
theorem Vals.inj : ∀ {xs ys : List V} {us : List Value}, Vals xs us → Vals ys us → xs = ys
  | _, _, _, .nil, .nil => rfl
  | _, _, _, .cons r t, .cons r' t' => by rw [r.inj r', Vals.inj t t']
section
variable {X : Cx} {pins : List (Addr × Obj)} {σ : St} {H : Hp} {s : Shared} {a : Addr} {xs ys : List V}
theorem SqL.of {K : PySem.W.Frag} (h : H a = some (.lst xs)) : SqL K H a xs := .inl (.inl h)
theorem SqT.of {K : PySem.W.Frag} (h : H a = some (.tup xs)) : SqT K H a xs := .inl (.inl h)
theorem Inv.list (I : Inv X pins σ H s) (h : SqL X.K H a xs) : ∃ its : List Value, Vals xs its ∧ PlainL s.heap a its.toArray ∧ xs.length ≤ sizeLine := by
  rcases h with h | ⟨o, its, n, hk, hc, hd, hs, hz, r⟩
  · obtain ⟨z, its, n, r, e⟩ := h.ok I.hok
    exact ⟨its, r, ⟨_, n, e, rfl, rfl, rfl⟩, z⟩
  · refine ⟨its.toList, r, ⟨o, n, I.kIn a o hk, hc, hd, by simpa using hs⟩, ?_⟩
    have e := r.length
    simp only [Array.length_toList] at e
    omega
theorem Inv.tuple (I : Inv X pins σ H s) (h : SqT X.K H a xs) : ∃ its : List Value, Vals xs its ∧ IsTup s.heap a its.toArray ∧ xs.length ≤ sizeLine := by
  rcases h with h | ⟨o, its, n, hk, hc, hs, hz, r⟩
  · obtain ⟨z, its, r, p⟩ := h.ok I.hok
    exact ⟨its, r, p, z⟩
  · refine ⟨its.toList, r, ⟨o, I.kIn a o hk, hc, n, by simpa using hs⟩, ?_⟩
    have e := r.length
    simp only [Array.length_toList] at e
    omega
theorem Inv.list_inj (I : Inv X pins σ H s) (h : SqL X.K H a xs) (h' : SqL X.K H a ys) : xs = ys := by
  obtain ⟨its, r, ⟨o, n, e, _, _, d⟩, _⟩ := I.list h
  obtain ⟨its', r', ⟨o', n', e', _, _, d'⟩, _⟩ := I.list h'
  rw [e] at e'; cases e'
  rw [d] at d'
  injection d' with d1 _
  have : its = its' := by simpa using congrArg Array.toList d1
  subst this
  exact r.inj r'
end
noncomputable abbrev Cx.wish (X : Cx) (E : Value → Shared → Prop) : Cx := { X with xe := E }
noncomputable abbrev Cx.nox (X : Cx) : Cx := X.wish fun _ _ => False
theorem Cx.Ok.wish {X : Cx} (ok : X.Ok) (E : Value → Shared → Prop) : (X.wish E).Ok :=
  ⟨ok.mod, ok.kind, ok.glob, ok.blt, ok.above, ok.inj, ok.has, ok.cab, ok.hd, ok.frames, ok.stk, ok.exf, ok.bs, ok.bsz, ok.noex, ok.exfs, ok.funs, ok.frf⟩
theorem Cx.Ok.unwish {X : Cx} {E : Value → Shared → Prop} (ok : (X.wish E).Ok) : X.Ok :=
  ⟨ok.mod, ok.kind, ok.glob, ok.blt, ok.above, ok.inj, ok.has, ok.cab, ok.hd, ok.frames, ok.stk, ok.exf, ok.bs, ok.bsz, ok.noex, ok.exfs, ok.funs, ok.frf⟩
section
variable {X : Cx} {pins : List (Addr × Obj)} {σ : St} {H : Hp} {s : Shared} {E : Value → Shared → Prop}
theorem Inv.wish (I : Inv X pins σ H s) (E : Value → Shared → Prop) : Inv (X.wish E) pins σ H s := ⟨I.ok.wish E, I.os, I.bare, I.base, I.loc, I.cell, I.free, I.freeC, I.pin, I.hok, I.len⟩
theorem Inv.unwish (I : Inv (X.wish E) pins σ H s) : Inv X pins σ H s := ⟨I.ok.unwish, I.os, I.bare, I.base, I.loc, I.cell, I.free, I.freeC, I.pin, I.hok, I.len⟩
theorem SP.unwish {D : Ends} {f : Flow} {s' : Shared} (h : SP (X.wish E) pins D f s') : SP X pins D f s' := by
  cases f with
  | next => obtain ⟨σ', H', I, q⟩ := h; exact ⟨σ', H', I.unwish, q⟩
  | brk => obtain ⟨σ', H', I, q⟩ := h; exact ⟨σ', H', I.unwish, q⟩
  | cont => obtain ⟨σ', H', I, q⟩ := h; exact ⟨σ', H', I.unwish, q⟩
  | ret u => obtain ⟨v, σ', H', I, r, q⟩ := h; exact ⟨v, σ', H', I.unwish, r, q⟩
theorem PSs.nox {st : List Stmt} {t : TS} (h : PSs X.nox st t) : PSs X st t := fun pins s σ H D I hw =>
  wpAny_mono (h pins s σ H D (I.wish _) hw) (fun _ _ q => q.unwish) fun _ _ z => False.elim z
end
section
variable {X : Cx} {st : Stmt} {rest : List Stmt} {t u : TS} {e : Expr} {te : TE} {pos : Pos}
noncomputable def tNext : TS := fun D σ H => D.nx σ H
noncomputable def tSeq (t u : TS) : TS := fun D σ H => t { D with nx := u D } σ H
theorem pss_nil : PSs X [] tNext := fun _ _ σ H _ I h => wpAny_execs_nil ⟨σ, H, I, h⟩
theorem pss_cons (h1 : PS X st t) (h2 : PSs X rest u) : PSs X (st :: rest) (tSeq t u) := by
  intro pins s σ H D I h
  refine wpAny_execs_cons (thn (h1 pins s σ H { D with nx := u D } I h) fun f s1 q => ?_)
  cases f with
  | next =>
    obtain ⟨σ', H', I', q⟩ := q
    exact h2 pins s1 σ' H' D I' q
  | ret v => exact q
  | brk => exact q
  | cont => exact q
theorem pss_one (h1 : PS X st t) : PSs X [st] t := by
  intro pins s σ H D I h
  refine wpAny_execs_cons (thn (h1 pins s σ H D I h) fun f s1 q => ?_)
  cases f with
  | next => exact wpAny_execs_nil q
  | ret v => exact q
  | brk => exact q
  | cont => exact q
theorem Inv.quiet {pins : List (Addr × Obj)} {σ : St} {H : Hp} {s : Shared} (I : Inv X pins σ H s) : interactive X.env = false := by simp [interactive, I.ok.kind]
noncomputable def tDrop (te : TE) : TS := fun D σ H => te σ H fun _ H1 => D.nx σ H1
theorem ps_expr (he : PE X e te) (hs : swapsWith e none pos.line X.env = pure false := by rfl) : PS X (.Expr e pos) (tDrop te) := by
  intro pins s σ H D I h
  exact wpAny_Expr_any (thn (he pins s σ H _ I h) fun v s1 ⟨x, H1, I1, r1, q1⟩ => ⟨σ, H1, I1, q1⟩) I.quiet hs
noncomputable def tRet (te : TE) : TS := fun D σ H => te σ H D.rt
theorem ps_ret (he : PE X e te) : PS X (.Return (some e) pos) (tRet te) := by
  intro pins s σ H D I h
  exact wpAny_Return_some (thn (he pins s σ H _ I h) fun v s1 ⟨x, H1, I1, r1, q1⟩ => ⟨x, σ, H1, I1, r1, q1⟩)
noncomputable def tIfS (c : TT) (t u : TS) : TS := fun D σ H => c σ H fun b H1 => if b = true then t D σ H1 else u D σ H1
theorem ps_if {c : Expr} {a b : List Stmt} {tc : TT} (hc : PT X c tc) (ha : PSs X a t) (hb : PSs X b u) : PS X (.If c a b pos) (tIfS tc t u) := by
  intro pins s σ H D I h
  refine wpAny_If (thn (hc pins s σ H _ I h) fun d s1 zz => ?_)
  obtain ⟨H1, I1, q1⟩ := zz
  cases d with
  | true => exact ha pins s1 σ H1 D I1 q1
  | false => exact hb pins s1 σ H1 D I1 q1
noncomputable def tNever : TS := fun _ _ _ => False
theorem ps_never : PS X st tNever := fun _ _ _ _ _ _ h => h.elim
theorem pss_never {sts : List Stmt} : PSs X sts tNever := fun _ _ _ _ _ _ h => h.elim
end
noncomputable abbrev TG := V → St → Hp → (St → Hp → Prop) → Prop
noncomputable abbrev TGs := List V → St → Hp → (St → Hp → Prop) → Prop
noncomputable def PG (X : Cx) (target : Expr) (t : TG) : Prop :=
  ∀ (pins : List (Addr × Obj)) (s : Shared) (σ : St) (H : Hp) (v : V) (u : Value) (Q : St → Hp → Prop), Inv X pins σ H s → RelV v u → t v σ H Q →
    wpAny (model X.prog X.w) X.A (assign target X.env u) (fun _ s' => ∃ σ' H', Inv X pins σ' H' s' ∧ Q σ' H') X.xe s
noncomputable def PGs (X : Cx) (ts : List Expr) (t : TGs) : Prop :=
  ∀ (pins : List (Addr × Obj)) (s : Shared) (σ : St) (H : Hp) (vs : List V) (us : List Value) (Q : St → Hp → Prop), Inv X pins σ H s → Vals vs us → t vs σ H Q →
    wpAny (model X.prog X.w) X.A (assignInOrder ((assignEach ts X.env).map (·.2)) us) (fun _ s' => ∃ σ' H', Inv X pins σ' H' s' ∧ Q σ' H') X.xe s
noncomputable abbrev TSet := V → V → V → Hp → (Hp → Prop) → Prop
noncomputable def PSet (X : Cx) (t : TSet) : Prop :=
  ∀ (pins : List (Addr × Obj)) (s : Shared) (σ : St) (H : Hp) (o i v : V) (ov iv u : Value) (Q : Hp → Prop), Inv X pins σ H s → RelV o ov → RelV i iv → RelV v u → t o i v H Q →
    wpAny (model X.prog X.w) X.A (setItem ov iv u) (fun _ s' => ∃ H', Inv X pins σ H' s' ∧ Q H') X.xe s
section
variable {X : Cx} {pos : Pos}
noncomputable def gName (i : Nat) : TG := fun v σ H Q => Q (σ.set i (some v)) H
theorem pg_name {i : Nat} {x : Str} (hN : X.N.Nodup) (hi : X.N[i]? = some x) (hx : Loc X.env.scope x) (hf : X.fn x = true ∨ X.env.scope.names.lookup x = some .local := by first | exact .inl rfl | exact .inr rfl | assumption) : PG X (.Name x pos) (gName i) := by
  intro pins s σ H v u Q I r h
  exact wpAny_assign_Name (store_ok I hN hi hx r (fun s' I' => ⟨_, H, I', h⟩) hf)
noncomputable def gNil : TGs := fun vs σ H Q => vs = [] ∧ Q σ H
noncomputable def gCons (t : TG) (u : TGs) : TGs := fun vs σ H Q => ∃ v r, vs = v :: r ∧ t v σ H fun σ' H' => u r σ' H' Q
theorem pgs_nil : PGs X [] gNil := by
  intro pins s σ H vs us Q I r h
  obtain ⟨e, h⟩ := h
  subst e
  cases r
  exact assignInOrder_nil ⟨σ, H, I, h⟩
theorem pgs_cons {e : Expr} {es : List Expr} {t : TG} {u : TGs} (h1 : PG X e t) (h2 : PGs X es u)
    (hs : (assignEach (e :: es) X.env).map (·.2) = assign e X.env :: (assignEach es X.env).map (·.2) := by rfl) : PGs X (e :: es) (gCons t u) := by
  intro pins s σ H vs us Q I r h
  obtain ⟨v, vr, e1, h⟩ := h
  subst e1
  cases r with
  | cons r rr =>
    rw [hs]
    refine assignInOrder_cons (thn (h1 pins s σ H _ _ _ I r h) fun _ s1 zz => ?_)
    obtain ⟨σ1, H1, I1, q1⟩ := zz
    exact h2 pins s1 σ1 H1 _ _ Q I1 rr q1
noncomputable def gTup (K : PySem.W.Frag) (n : Nat) (t : TGs) : TG := fun v σ H Q => ∃ a xs, v = .ref a ∧ SqT K H a xs ∧ xs.length = n ∧ t xs σ H Q
theorem pg_tup {es : List Expr} {k : Nat} {t : TGs} {n : Nat} (hc : X.calm = true) (h : PGs X es t)
    (hn : (assignEach es X.env).length = n := by rfl) (hst : (assignEach es X.env).findIdx? (·.1) = none := by rfl) : PG X (.Tuple es k pos) (gTup X.K n t) := by
  intro pins s σ H v u Q I r hw
  obtain ⟨a, xs, e1, hq, hl, hw⟩ := hw
  subst e1
  cases r
  obtain ⟨its, rv, ht, hz⟩ := I.tuple hq
  refine assign_Tuple_tuple (I.ok.hd hc) ht (by simp [hn, ← hl, rv.length]) hst fun h' hx => ?_
  have I1 : Inv X pins σ H { s with heap := h' } := I.kept (t' := s.toks) fun b o e => hx b o (Nat.ne_of_lt (Heap.lt_size e)) e
  exact h pins _ σ H xs _ Q I1 (by simpa using rv) hw
noncomputable def gSub (to ti : TE) (t : TSet) : TG := fun v σ H Q => to σ H fun o H1 => ti σ H1 fun i H2 => t o i v H2 fun H3 => Q σ H3
theorem pg_sub {o i : Expr} {to ti : TE} {t : TSet} (ho : PE X o to) (hi : PE X i ti) (hs : PSet X t)
    (ha : ∀ v, assign (.Subscript o i pos) X.env v = (do
      let ov ← holding [v] (eval o X.env)
      let iv ← holding [v, ov] (eval i X.env)
      standAt pos
      holding [v, ov, iv] (setItem ov iv v)
      release [v, ov, iv] []) := by intro _; rfl) : PG X (.Subscript o i pos) (gSub to ti t) := by
  intro pins s σ H v u Q I r h
  rw [ha]
  refine wpAny_bind (wpAny_holding (thn (ho pins s σ H _ I h) fun ov s1 zz => ?_))
  obtain ⟨x, H1, I1, r1, q1⟩ := zz
  refine wpAny_bind (wpAny_holding (thn (hi pins s1 σ H1 _ I1 q1) fun iv s2 zz => ?_))
  obtain ⟨y, H2, I2, r2, q2⟩ := zz
  refine wpAny_bind (wpAny_standAt (wpAny_bind (wpAny_holding (thn (hs pins s2 σ H2 x y v ov iv u _ I2 r1 r2 r q2) fun _ s3 zz => ?_))))
  obtain ⟨H3, I3, q3⟩ := zz
  exact wpAny_release ⟨σ, H3, I3, q3⟩
noncomputable def tAsg (te : TE) (g : TG) : TS := fun D σ H => te σ H fun x H1 => g x σ H1 D.nx
theorem ps_asg {tg e : Expr} {te : TE} {g : TG} (he : PE X e te) (hg : PG X tg g) (hs : swapsWithSole [tg] e pos.line X.env = pure false := by rfl) (hw : swappedStores [tg] e X.env = pure none := by rfl)
    (h1 : (assignEach [tg] X.env).map (·.2) = [assign tg X.env] := by rfl) : PS X (.Assign [tg] e pos) (tAsg te g) := by
  intro pins s σ H D I h
  refine wpAny_Assign_stores (thn (he pins s σ H _ I h) fun v s1 ⟨x, H1, I1, r1, q1⟩ => ?_) hs hw
  rw [h1]
  exact thn (hg pins s1 σ H1 x v _ I1 r1 q1) fun _ s2 q => q
theorem ps_set {i : Nat} {x : Str} {e : Expr} {te : TE} {pos' : Pos} (hN : X.N.Nodup) (hi : X.N[i]? = some x) (hx : Loc X.env.scope x) (he : PE X e te) (hs : swapsWith e (some (.Name x pos')) pos.line X.env = pure false := by rfl) (hf : X.fn x = true ∨ X.env.scope.names.lookup x = some .local := by first | exact .inl rfl | exact .inr rfl | assumption) :
    PS X (.Assign [.Name x pos'] e pos) (tAsg te (gName i)) := by
  intro pins s σ H D I h
  refine wpAny_Assign_Name (thn (he pins s σ H _ I h) fun v s1 ⟨y, H1, I1, r1, q1⟩ => ?_) hs
  exact store_ok I1 hN hi hx r1 (fun s2 I2 => ⟨_, H1, I2, q1⟩) hf
noncomputable def tPar (i j : Nat) (ta : TA) : TS := fun D σ H => ta σ H fun vs H1 => ∃ v w, vs = [v, w] ∧ D.nx ((σ.set i (some v)).set j (some w)) H1
theorem ps_par {i j : Nat} {x y : Str} {a b : Expr} {ta : TA} {px py pt : Pos} {kt k2 pt2} (hc : X.calm = true) (hN : X.N.Nodup) (hi : X.N[i]? = some x) (hj : X.N[j]? = some y) (hij : i ≠ j)
    (hx : X.env.scope.names.lookup x = some .local) (hy : X.env.scope.names.lookup y = some .local) (ha : PA X [a, b] ta)
    (hw : swappedStores [.Tuple [.Name x px, .Name y py] kt pt] (.Tuple [a, b] k2 pt2) X.env = pure (some [x, y]))
    (hs : swapsWithSole [.Tuple [.Name x px, .Name y py] kt pt] (.Tuple [a, b] k2 pt2) pos.line X.env = pure false := by rfl) :
    PS X (.Assign [.Tuple [.Name x px, .Name y py] kt pt] (.Tuple [a, b] k2 pt2) pos) (tPar i j ta) := by
  intro pins s σ H D I h
  rw [exec_Assign_arm]
  refine wpAny_bind (wpAny_standAt ?_)
  rw [hs]
  refine wpAny_bind (wpAny_pure ?_)
  rw [if_neg (by decide)]
  refine wpAny_bind (Tuple_ (thn (ha _ pins s σ H _ I h) fun us s1 zz => ?_))
  obtain ⟨vs, H1, I1, r1, q1⟩ := zz
  obtain ⟨v, w, e1, q1⟩ := q1
  subst e1
  obtain ⟨u1, u2, rfl, rv, rw'⟩ : ∃ u1 u2, us = [u1, u2] ∧ RelV v u1 ∧ RelV w u2 := by
    cases r1 with
    | cons p q =>
      cases q with
      | cons p' q' =>
        cases q'
        exact ⟨_, _, rfl, p, p'⟩
  refine wpAny_newObj_type ?_ (by show 2 ≤ sizeLine; decide)
  have I2 : Inv X pins σ H1 { s1 with heap := s1.heap.push { cls := .type "tuple", data := .seq [u1, u2].toArray } } := I1.kept (t' := s1.toks) fun b o e => Heap.get?_push_of_some _ e
  rw [hw]
  refine wpAny_bind (wpAny_pure ?_)
  show wpAny (model X.prog X.w) X.A (do rule "assign.swapped-stores"; let items ← unpackItems (.ref s1.heap.objs.size) 2 none; assignInOrder [fun v => bindName X.env y v, fun v => bindName X.env x v] items.reverse; pure Flow.next) _ _ _
  refine wpAny_bind (wpAny_rule (wpAny_bind (unpackItems_tuple (items := #[u1, u2]) (I.ok.hd hc) (IsTup.new s1.heap _) fun h' hx' => ?_)))
  have I3 := I2.kept (h' := h') (t' := s1.toks) fun b o e => hx' b o (Nat.ne_of_lt (Heap.lt_size e)) e
  show wpAny _ _ (assignInOrder [fun v => bindName X.env y v, fun v => bindName X.env x v] [u2, u1] >>= fun _ => pure Flow.next) _ _ _
  refine wpAny_bind (assignInOrder_cons (wpAny_bindName (store_ok I3 hN hj (.inl hy) rw' (fun s2 I4 => ?_) (.inr hy))))
  refine assignInOrder_cons (wpAny_bindName (store_ok I4 hN hi (.inl hx) rv (fun s3 I5 => assignInOrder_nil (wpAny_pure ?_)) (.inr hx)))
  rw [List.set_comm _ _ (Ne.symm hij)] at I5
  exact ⟨_, H1, I5, q1⟩
end
section
variable {X : Cx} {pos : Pos}
noncomputable def tWhile (c : TT) (tb : TS) : TS := fun D σ H => ∃ W : Nat → St → Hp → Prop, (∃ m, W m σ H) ∧ ∀ m σ H, W m σ H →
  c σ H fun b H1 => if b = true then ∃ N : St → Hp → Prop, (∀ σ' H', N σ' H' → ∃ m', m' < m ∧ W m' σ' H') ∧ tb { D with nx := N, ct := N, bk := D.nx } σ H1 else D.nx σ H1
theorem ps_while {c : Expr} {body : List Stmt} {tc : TT} {tb : TS} (hp : PassesOwn (model X.prog X.w) X.A X.env X.xe) (hc : PT X c tc) (hb : PSs X body tb) : PS X (.While c body [] pos) (tWhile tc tb) := by
  intro pins s σ H D I h
  obtain ⟨W, ⟨m0, w0⟩, turn⟩ := h
  refine wpAny_While (codeAny_whileLoop (fun n s' => ∃ σ' H', Inv X pins σ' H' s' ∧ W n σ' H') ?_ m0 ⟨σ, H, I, w0⟩)
  rintro n s1 ⟨σ1, H1, I1, w1⟩
  refine wpAny_passesOwn hp (thn (hc pins s1 σ1 H1 _ I1 (turn n σ1 H1 w1)) fun b s2 zz => ?_)
  obtain ⟨H2, I2, q2⟩ := zz
  cases b with
  | true =>
    obtain ⟨N, hN, q2⟩ := q2
    rw [if_pos rfl]
    refine wpAny_passesOwn hp (thn (hb pins s2 σ1 H2 _ I2 q2) fun f s3 q3 => ?_)
    cases f with
    | next =>
      obtain ⟨σ3, H3, I3, n3⟩ := q3
      obtain ⟨m', hm, w3⟩ := hN σ3 H3 n3
      exact ⟨m', hm, σ3, H3, I3, w3⟩
    | cont =>
      obtain ⟨σ3, H3, I3, n3⟩ := q3
      obtain ⟨m', hm, w3⟩ := hN σ3 H3 n3
      exact ⟨m', hm, σ3, H3, I3, w3⟩
    | brk => exact q3
    | ret v => exact q3
  | false =>
    rw [if_neg Bool.false_ne_true]
    exact wpAny_execs_nil ⟨σ1, H2, I2, q2⟩
end
structure It where
  go : Nat → Hp → Prop
  yld : Nat → Hp → V → Hp → Prop
  stop : Nat → Hp → Prop
noncomputable def FpOk (X : Cx) (pins : List (Addr × Obj)) (H : Hp) (b : Addr) : Prop :=
  H b = none ∧ b ≠ X.env.locals ∧ b ∉ X.fs ∧ (b ∈ X.ex ∨ X.s₀.heap.objs.size ≤ b) ∧ (∀ x c, X.env.cells.lookup x = some c → c ≠ b) ∧ ∀ p ∈ X.pn ++ pins, p.1 ≠ b
theorem Inv.fpOk {X : Cx} {pins : List (Addr × Obj)} {σ : St} {H H' : Hp} {s : Shared} {b : Addr} (I : Inv X pins σ H s) (hb : s.heap.objs.size ≤ b) (hn : H' b = none) : FpOk X pins H' b := by
  refine ⟨hn, Nat.ne_of_gt (Nat.lt_of_lt_of_le I.lt hb), I.nofs hb, .inr (Nat.le_trans I.sz hb), fun x c e z => ?_, fun p hp z => ?_⟩
  · obtain ⟨v, q⟩ := I.cell x c e
    exact absurd (Nat.lt_of_lt_of_le q.lt (by rw [z]; exact hb)) (Nat.lt_irrefl _)
  · exact absurd (Nat.lt_of_lt_of_le (Heap.lt_size (I.pin p hp).1) (by rw [z]; exact hb)) (Nat.lt_irrefl _)
structure Turn (P : Program) (w : World) (K : PySem.W.Frag) (tg : Expr) (J : It) (fp : List Addr) (it : Addr) (tn : Nat → Heap → Prop) : Prop where
  mem : it ∈ fp
  obj : ∀ i h, tn i h → ∀ b ∈ fp, ∃ o, h.get? b = some o ∧ ∀ v, o.data ≠ .cell v
  keep : ∀ i h h', tn i h → (∀ b ∈ fp, ∀ o, h.get? b = some o → h'.get? b = some o) → tn i h'
  item : ∀ (X : Cx), X.prog = P → X.w = w → X.K = K → X.calm = true → ∀ (i : Nat) (pins : List (Addr × Obj)) (s : Shared) (σ : St) (H : Hp) (E : Value → Shared → Prop), Inv X pins σ H s → (∀ b ∈ fp, FpOk X pins H b) → tn i s.heap → J.go i H →
    wpAny (model P w) X.A (pyNext (.ref it)) (fun r s1 => ∃ u, r = some u ∧
      wpAny (model P w) X.A (letOwnedTupleGo tg (.ref it) u) (fun _ s2 => ∃ x H', Inv X pins σ H' s2 ∧ RelV x u ∧ J.yld i H x H' ∧ tn (i + 1) s2.heap ∧ ∀ b ∈ fp, H' b = none) E s1) E s
  done : ∀ (X : Cx), X.prog = P → X.w = w → X.K = K → X.calm = true → ∀ (i : Nat) (pins : List (Addr × Obj)) (s : Shared) (σ : St) (H : Hp) (E : Value → Shared → Prop), Inv X pins σ H s → (∀ b ∈ fp, FpOk X pins H b) → tn i s.heap → J.stop i H →
    wpAny (model P w) X.A (pyNext (.ref it)) (fun r s1 => r = none ∧ Inv X pins σ H s1) E s
  self : ∀ (A : Around) (i : Nat) (s : Shared) (Q : Value → Shared → Prop) (E : Value → Shared → Prop), tn i s.heap → Q (.ref it) s → wpAny (model P w) A (pyIter (.ref it)) Q E s
noncomputable abbrev TI := St → Hp → (It → Hp → Prop) → Prop
noncomputable def PIE (X : Cx) (pins : List (Addr × Obj)) (σ : St) (tg : Expr) (R : It → Hp → Prop) (itv : Value) (s2 : Shared) : Prop :=
  ∃ (it : Addr) (fp : List Addr) (tn : Nat → Heap → Prop) (J : It) (H' : Hp), itv = .ref it ∧ Inv X pins σ H' s2 ∧ Turn X.prog X.w X.K tg J fp it tn ∧ tn 0 s2.heap ∧ (∀ b ∈ fp, FpOk X pins H' b) ∧ R J H'
noncomputable def PI (X : Cx) (tg iter : Expr) (wi : TI) : Prop :=
  ∀ (pins : List (Addr × Obj)) (s : Shared) (σ : St) (H : Hp) (R : It → Hp → Prop), Inv X pins σ H s → wi σ H R →
    wpAny (model X.prog X.w) X.A (eval iter X.env) (fun v s1 => wpAny (model X.prog X.w) X.A (pyIter v) (PIE X pins σ tg R) X.xe s1) X.xe s
theorem go_of {M : Model} {A : Around} {E : Value → Shared → Prop} {s : Shared} {tg : Expr} {it : Addr} {u : Value} {o : Obj} {n : String} {vs : Array Value} {Q : Unit → Shared → Prop} (ho : s.heap.get? it = some o) (hc : o.cls = .type n) (hd : o.data = .fields vs)
    (hn : ["enumerate", "zip", "dict_itemiterator", "dict_reverseitemiterator", "odict_iterator", "itertools.zip_longest", "itertools.pairwise"].contains n = false) (hQ : Q () s) : wpAny M A (letOwnedTupleGo tg (.ref it) u) Q E s := by
  unfold letOwnedTupleGo
  cases tg <;> first
    | exact wpAny_pure hQ
    | (cases u <;> first
        | exact wpAny_pure hQ
        | (refine wpAny_bind (wpAny_load ho ?_)
           rw [hc, hd]
           show wpAny M A (if (["enumerate", "zip", "dict_itemiterator", "dict_reverseitemiterator", "odict_iterator", "itertools.zip_longest", "itertools.pairwise"].contains n && vs[0]? == some (rawInt _)) = true then _ else _) Q E s
           rw [if_neg (by intro h; rw [hn, Bool.false_and] at h; cases h)]
           exact wpAny_pure hQ))
noncomputable def Itl (K : PySem.W.Frag) (a : Addr) : It :=
  ⟨fun i H => ∃ xs x, SqL K H a xs ∧ xs[i]? = some x, fun i H x H' => H' = H ∧ ∀ xs, SqL K H a xs → xs[i]? = some x, fun i H => ∃ xs, SqL K H a xs ∧ xs.length ≤ i⟩
noncomputable def Itr (lo : Int) (n : Nat) : It := ⟨fun i _ => i < n, fun i H x H' => H' = H ∧ x = .int (lo + i), fun i _ => n ≤ i⟩
theorem turn_list {P : Program} {w : World} {K : PySem.W.Frag} {tg : Expr} (a it : Addr) : Turn P w K tg (Itl K a) [it] it (fun i h => h.IsListIter it a i) where
  mem := by simp
  obj := fun i h st b hb => by
    have e : b = it := by simpa using hb
    subst e
    obtain ⟨o, e, c, d⟩ := st
    exact ⟨o, e, fun v z => by rw [d] at z; cases z⟩
  keep := fun i h h' st k => st.at fun o e => k it (by simp) o e
  item := by
    intro X hP hw hK hc i pins s σ H E I hf st hg
    subst hP hw hK
    obtain ⟨xs, x, hq, hx⟩ := hg
    obtain ⟨its, rv, p, hz⟩ := I.list hq
    obtain ⟨u, hu, ru⟩ := rv.get hx
    obtain ⟨f0, f1, f2, f3, f4, f5⟩ := hf it (by simp)
    refine wpAny_pyNext_list_item st p.isList (x := u) (by simpa using hu) fun h' st' sb => ?_
    have I1 : Inv X pins σ H { s with heap := h' } := I.turned (t' := s.toks) (fun b o hb e => (sb.2 b hb).trans e) f0 f1 f3 f4 f5
    obtain ⟨o, e, c, d⟩ := id st'
    exact ⟨u, rfl, go_of (s := { s with heap := h' }) e c d (by decide) ⟨x, H, I1, ru, ⟨rfl, fun ys hy => by rw [I.list_inj hy hq]; exact hx⟩, st', fun b hb => (hf b hb).1⟩⟩
  done := by
    intro X hP hw hK hc i pins s σ H E I hf st hg
    subst hP hw hK
    obtain ⟨xs, hq, hx⟩ := hg
    obtain ⟨its, rv, p, hz⟩ := I.list hq
    obtain ⟨f0, f1, f2, f3, f4, f5⟩ := hf it (by simp)
    have hl := rv.length
    exact wpAny_pyNext_list_end (I.ok.hd hc) st p.isList (by simp; omega) fun h' eb => ⟨rfl, I.turned (t' := s.toks) (fun b o hb e => eb b o hb e) f0 f1 f3 f4 f5⟩
  self := fun _ _ _ _ _ st h => wpAny_pyIter_listiter st h
theorem turn_range {P : Program} {w : World} {K : PySem.W.Frag} {tg : Expr} (it : Addr) (lo : Int) (n : Nat) : Turn P w K tg (Itr lo n) [it] it (fun i h => IsRangeIter h it (lo + (i : Nat) * 1) ((n : Int) - (i : Nat)) 1) where
  mem := by simp
  obj := fun i h st b hb => by
    have e : b = it := by simpa using hb
    subst e
    exact ⟨_, st, fun v z => by
      have z' : Data.fields _ = Data.cell v := z
      cases z'⟩
  keep := fun i h h' st k => k it (by simp) _ st
  item := by
    intro X hP hw hK hc i pins s σ H E I hf st hg
    subst hP hw hK
    obtain ⟨f0, f1, f2, f3, f4, f5⟩ := hf it (by simp)
    have W := Walks.range (prog := X.prog) (w := X.w) (I.ok.hd hc) it lo 1 n
    refine W.item i s _ _ hg st fun v h' tk hv st' kk => ?_
    obtain ⟨t, rfl⟩ := hv
    have I1 : Inv X pins σ H { s with heap := h', toks := tk } := I.turned (fun b o hb e => kk b o (by simpa using hb) e) f0 f1 f3 f4 f5
    refine ⟨_, rfl, go_of (s := { s with heap := h', toks := tk }) (n := "range_iterator") st' rfl rfl (by decide) ⟨.int (lo + i), H, I1, ⟨t, ?_⟩, ⟨rfl, rfl⟩, st', fun b hb => (hf b hb).1⟩⟩
    rw [Int.mul_one]
  done := by
    intro X hP hw hK hc i pins s σ H E I hf st hg
    subst hP hw hK
    obtain ⟨f0, f1, f2, f3, f4, f5⟩ := hf it (by simp)
    exact wpAny_pyNext_range_end (I.ok.hd hc) st (by have : n ≤ i := hg; omega) fun h' eb => ⟨rfl, I.turned (t' := s.toks) (fun b o hb e => eb b o hb e) f0 f1 f3 f4 f5⟩
  self := fun _ _ _ _ _ st h => wpAny_pyIter_rangeiter st h
end L2
namespace L2
open PySem PySem.Spec PyProof.Rows
section
variable {X : Cx} {tg : Expr}
noncomputable def iList (K : PySem.W.Frag) (tl : TE) : TI := fun σ H R => tl σ H fun x H1 => ∃ a, x = .ref a ∧ (∃ xs, SqL K H1 a xs) ∧ R (Itl K a) H1
theorem pi_list {l : Expr} {tl : TE} (hl : PE X l tl) : PI X tg l (iList X.K tl) := by
  intro pins s σ H R I h
  refine thn (hl pins s σ H _ I h) fun v s1 zz => ?_
  obtain ⟨x, H1, I1, r1, q1⟩ := zz
  obtain ⟨a, e, ⟨xs, hq⟩, q⟩ := q1
  subst e
  cases r1
  obtain ⟨its, rv, p, hz⟩ := I1.list hq
  refine wpAny_pyIter_list p.isList ?_
  refine ⟨s1.heap.objs.size, [s1.heap.objs.size], _, _, H1, rfl, I1.kept (t' := s1.toks) fun b o e => Heap.get?_push_of_some _ e, turn_list a _, ⟨_, Heap.get?_push_size _ rfl, rfl, rfl⟩, fun b hb => ?_, q⟩
  have e : b = s1.heap.objs.size := by simpa using hb
  subst e
  exact I1.fpOk (Nat.le_refl _) (I1.hok.fresh (Nat.le_refl _))
theorem range_it {pins : List (Addr × Obj)} {σ : St} {H : Hp} {s : Shared} {R : It → Hp → Prop} {E : Value → Shared → Prop} {lo hi : Int} {t u v : Tok} {tk : Nat} (I : Inv X pins σ H s) (h1 : -(2 ^ 62) ≤ lo) (h2 : lo < 2 ^ 62) (h3 : -(2 ^ 62) ≤ hi) (h4 : hi < 2 ^ 62)
    (q : R (Itr lo (hi - lo).toNat) H) : wpAny (model X.prog X.w) X.A (pyIter (.ref s.heap.objs.size)) (PIE X pins σ tg R) E { s with heap := s.heap.push { cls := .type "range", data := .fields #[.int lo t, .int hi u, .int 1 v] }, toks := tk } := by
  refine wpAny_pyIter_range (IsRange.new ..) (small_one h1 h2 h3 h4) ?_
  have I1 : Inv X pins σ H { s with heap := s.heap.push { cls := .type "range", data := .fields #[.int lo t, .int hi u, .int 1 v] }, toks := tk } := I.kept fun b o e => Heap.get?_push_of_some _ e
  refine ⟨(s.heap.push { cls := .type "range", data := .fields #[.int lo t, .int hi u, .int 1 v] }).objs.size, [(s.heap.push { cls := .type "range", data := .fields #[.int lo t, .int hi u, .int 1 v] }).objs.size], _, _, H, rfl,
    I1.kept (t' := tk) fun b o e => Heap.get?_push_of_some _ e, turn_range _ lo (hi - lo).toNat, ?_, fun b hb => ?_, q⟩
  · have e1 : lo + ((0 : Nat) : Int) * 1 = lo := by simp
    have e2 : (((hi - lo).toNat : Nat) : Int) - ((0 : Nat) : Int) = Builtin.Range.rangeSize lo hi 1 := by rw [rangeSize_one]; split <;> omega
    show IsRangeIter _ _ (lo + ((0 : Nat) : Int) * 1) ((((hi - lo).toNat : Nat) : Int) - ((0 : Nat) : Int)) 1
    rw [e1, e2]
    exact Heap.get?_push_size _ rfl
  · have e : b = (s.heap.push { cls := .type "range", data := .fields #[.int lo t, .int hi u, .int 1 v] }).objs.size := by simpa using hb
    subst e
    exact I1.fpOk (Nat.le_refl _) (I1.hok.fresh (Nat.le_refl _))
noncomputable def iRng1 (ta : TA) : TI := fun σ H R => ta σ H fun vs H1 => ∃ j : Int, vs = [.int j] ∧ -(2 ^ 62) ≤ j ∧ j < 2 ^ 62 ∧ R (Itr 0 j.toNat) H1
noncomputable def iRng2 (ta : TA) : TI := fun σ H R => ta σ H fun vs H1 => ∃ i j : Int, vs = [.int i, .int j] ∧ (-(2 ^ 62) ≤ i ∧ i < 2 ^ 62 ∧ -(2 ^ 62) ≤ j ∧ j < 2 ^ 62) ∧ R (Itr i (j - i).toNat) H1
theorem pi_range1 {a : Expr} {ta : TA} {p pos : Pos} (hg : Gl X "range") (hm : X.mg "range" = none) (ha : PA X [a] ta) (hs : starEach [a] X.env = [(false, eval a X.env)] := by rfl) : PI X tg (.Call (.Name "range" p) [a] [] pos) (iRng1 ta) := by
  intro pins s σ H R I h
  refine Call_ (ld_blt I hg hm boot_range (PyProof.Rows.callWith_type1 (thn (ha pos pins s σ H _ I h) fun us s1 ⟨vs, H1, I1, r1, q1⟩ => ?_) hs rfl))
  obtain ⟨j, e, q1, q2, q⟩ := q1
  subst e
  cases r1 with
  | cons r rr =>
    cases rr
    obtain ⟨t, rfl⟩ := r
    exact call_range_1 (range_it I1 (by omega) (by omega) q1 q2 (by simpa using q))
theorem pi_range2 {a b : Expr} {ta : TA} {p pos : Pos} (hg : Gl X "range") (hm : X.mg "range" = none) (ha : PA X [a, b] ta) (hs : starEach [a, b] X.env = [(false, eval a X.env), (false, eval b X.env)] := by rfl) (hs2 : starEach [b] X.env = [(false, eval b X.env)] := by rfl) :
    PI X tg (.Call (.Name "range" p) [a, b] [] pos) (iRng2 ta) := by
  intro pins s σ H R I h
  refine Call_ (ld_blt I hg hm boot_range (PyProof.Rows.callWith_type1 (thn (ha pos pins s σ H _ I h) fun us s1 ⟨vs, H1, I1, r1, q1⟩ => ?_) (by rw [hs, hs2]) (by rw [hs2]; rfl)))
  obtain ⟨i, j, e, ⟨q1, q2, q3, q4⟩, q⟩ := q1
  subst e
  cases r1 with
  | cons r rr =>
    cases rr with
    | cons r' rr =>
      cases rr
      obtain ⟨t, rfl⟩ := r
      obtain ⟨t', rfl⟩ := r'
      exact call_range_2 (range_it I1 q1 q2 q3 q4 q)
noncomputable def tFor (wi : TI) (g : TG) (tb : TS) : TS := fun D σ H => wi σ H fun J H1 => ∃ W : Nat → Nat → St → Hp → Prop, (∃ m, W 0 m σ H1) ∧ ∀ i m σ H, W i m σ H →
  (J.stop i H ∧ D.nx σ H) ∨ (J.go i H ∧ ∃ N : St → Hp → Prop, (∀ σ' H', N σ' H' → ∃ m', m' < m ∧ W (i + 1) m' σ' H') ∧ ∀ x H', J.yld i H x H' → g x σ H' fun σ2 H2 => tb { D with nx := N, ct := N, bk := D.nx } σ2 H2)
noncomputable def pinsAt (fp : List Addr) (h : Heap) : List (Addr × Obj) := fp.filterMap fun b => (h.get? b).map fun o => (b, o)
theorem mem_pinsAt {fp : List Addr} {h : Heap} {b : Addr} {o : Obj} (hb : b ∈ fp) (e : h.get? b = some o) : (b, o) ∈ pinsAt fp h := List.mem_filterMap.mpr ⟨b, hb, by rw [e]; rfl⟩
theorem of_pinsAt {fp : List Addr} {h : Heap} {p : Addr × Obj} (hp : p ∈ pinsAt fp h) : p.1 ∈ fp ∧ h.get? p.1 = some p.2 := by
  obtain ⟨b, hb, e⟩ := List.mem_filterMap.mp hp
  cases q : h.get? b with
  | none => rw [q] at e; cases e
  | some o =>
    rw [q] at e
    have e' : (b, o) = p := Option.some.inj e
    subst e'
    exact ⟨hb, q⟩
theorem Inv.pinned {pins : List (Addr × Obj)} {σ : St} {H : Hp} {s : Shared} {fp : List Addr} (I : Inv X pins σ H s) (hf : ∀ b ∈ fp, FpOk X pins H b) (ho : ∀ b ∈ fp, ∃ o, s.heap.get? b = some o ∧ ∀ v, o.data ≠ .cell v) : Inv X (pins ++ pinsAt fp s.heap) σ H s :=
  I.pins_of fun p hp => (List.mem_append.mp hp).elim (fun z => I.pin p (List.mem_append_right _ z)) fun z => by
    obtain ⟨hb, e⟩ := of_pinsAt z
    obtain ⟨f0, f1, f2, _⟩ := hf p.1 hb
    obtain ⟨o, e', d⟩ := ho p.1 hb
    rw [e] at e'; cases e'
    exact ⟨e, f0, f1, f2, d⟩
theorem Inv.unpinned {pins pl : List (Addr × Obj)} {σ : St} {H : Hp} {s : Shared} (I : Inv X (pins ++ pl) σ H s) : Inv X pins σ H s := I.pins_of fun p hp => I.pin p (List.mem_append_right _ (List.mem_append_left _ hp))
theorem ps_for {iter : Expr} {body : List Stmt} {wi : TI} {g : TG} {tb : TS} {pos : Pos} (hp : PassesOwn (model X.prog X.w) X.A X.env X.xe) (hc : X.calm = true) (hi : PI X tg iter wi) (hg : PG X tg g) (hb : PSs X body tb)
    (hs : ∀ x, foldedSetIterable iter X.env x = pure x := by intro _; rfl) : PS X (.For tg iter body [] pos) (tFor wi g tb) := by
  intro pins s σ H D I h
  refine wpAny_For (thn (hi pins s σ H _ I h) fun v s1 h1 => thn h1 fun itv s2 h2 => ?_) hs
  obtain ⟨it, fp, tn, J, H2, e, I2, T, st2, f2, W, ⟨m0, w0⟩, turn⟩ := h2
  subst e
  have stat : ∀ {H' : Hp}, (∀ b ∈ fp, H' b = none) → ∀ b ∈ fp, FpOk X pins H' b := fun hn b hb => ⟨hn b hb, (f2 b hb).2⟩
  refine codeAny_forLoop_any (fun n s' => ∃ i σ' H', Inv X pins σ' H' s' ∧ tn i s'.heap ∧ (∀ b ∈ fp, H' b = none) ∧ W i n σ' H') ?_ m0 ⟨0, σ, H2, I2, st2, fun b hb => (f2 b hb).1, w0⟩
  rintro n s3 ⟨i, σ3, H3, I3, st3, fr3, w3⟩
  rcases turn i n σ3 H3 w3 with ⟨stop, qn⟩ | ⟨go, N, hN, step⟩
  · refine wpAny_passesOwn hp (thn (T.done X rfl rfl rfl hc i pins s3 σ3 H3 X.xe I3 (stat fr3) st3 stop) fun r s4 zz => ?_)
    obtain ⟨hr, I4⟩ := zz
    subst hr
    exact wpAny_execs_nil ⟨σ3, H3, I4, qn⟩
  · refine wpAny_passesOwn hp (thn (T.item X rfl rfl rfl hc i pins s3 σ3 H3 X.xe I3 (stat fr3) st3 go) fun r s4 zz => ?_)
    obtain ⟨u, hr, h4⟩ := zz
    subst hr
    refine wpAny_passesOwn hp (thn h4 fun _ s5 zz => ?_)
    obtain ⟨x, H5, I5, r5, y5, st5, fr5⟩ := zz
    have I5' := I5.pinned (stat fr5) (T.obj _ _ st5)
    refine wpAny_passesOwn hp (thn (hg _ s5 σ3 H5 x u _ I5' r5 (step x H5 y5)) fun _ s6 zz => ?_)
    obtain ⟨σ6, H6, I6, q6⟩ := zz
    refine wpAny_passesOwn hp (thn (hb _ s6 σ6 H6 _ I6 q6) fun f s7 q7 => ?_)
    have again : ∀ {σ7 : St} {H7 : Hp}, Inv X (pins ++ pinsAt fp s5.heap) σ7 H7 s7 → N σ7 H7 → ∃ m, m < n ∧ ∃ i σ' H', Inv X pins σ' H' s7 ∧ tn i s7.heap ∧ (∀ b ∈ fp, H' b = none) ∧ W i m σ' H' := fun {σ7 H7} I7 n7 => by
      obtain ⟨m', hm, w7⟩ := hN σ7 H7 n7
      refine ⟨m', hm, i + 1, σ7, H7, I7.unpinned, T.keep _ _ _ st5 fun b hb o e => (I7.pin (b, o) (List.mem_append_right _ (List.mem_append_right _ (mem_pinsAt hb e)))).1, fun b hb => ?_, w7⟩
      obtain ⟨o, e, d⟩ := T.obj _ _ st5 b hb
      exact (I7.pin (b, o) (List.mem_append_right _ (List.mem_append_right _ (mem_pinsAt hb e)))).2.1
    cases f with
    | next => obtain ⟨σ7, H7, I7, n7⟩ := q7; exact again I7 n7
    | cont => obtain ⟨σ7, H7, I7, n7⟩ := q7; exact again I7 n7
    | brk => obtain ⟨σ7, H7, I7, q7⟩ := q7; exact ⟨σ7, H7, I7.unpinned, q7⟩
    | ret v => obtain ⟨x7, σ7, H7, I7, r7, q7⟩ := q7; exact ⟨x7, σ7, H7, I7.unpinned, r7, q7⟩
end
theorem for_list {K : PySem.W.Frag} {a : Addr} {xs : List V} {g : TG} {tb : TS} {D : Ends} {σ : St} {H : Hp} (Pv : Nat → St → Hp → Prop) (h0 : Pv 0 σ H) (hl : ∀ i σ H, i ≤ xs.length → Pv i σ H → SqL K H a xs)
    (hs : ∀ i x σ H, xs[i]? = some x → Pv i σ H → g x σ H fun σ2 H2 => tb { D with nx := Pv (i + 1), ct := Pv (i + 1), bk := D.nx } σ2 H2) (hd : ∀ σ H, Pv xs.length σ H → D.nx σ H) :
    ∃ W : Nat → Nat → St → Hp → Prop, (∃ m, W 0 m σ H) ∧ ∀ i m σ H, W i m σ H →
      ((Itl K a).stop i H ∧ D.nx σ H) ∨ ((Itl K a).go i H ∧ ∃ N : St → Hp → Prop, (∀ σ' H', N σ' H' → ∃ m', m' < m ∧ W (i + 1) m' σ' H') ∧ ∀ x H', (Itl K a).yld i H x H' → g x σ H' fun σ2 H2 => tb { D with nx := N, ct := N, bk := D.nx } σ2 H2) := by
  refine ⟨fun i m σ H => m = xs.length - i ∧ i ≤ xs.length ∧ Pv i σ H, ⟨xs.length, by simp, Nat.zero_le _, h0⟩, ?_⟩
  rintro i m σ H ⟨rfl, hi, p⟩
  have q := hl i σ H hi p
  by_cases hlt : i < xs.length
  · refine .inr ⟨⟨xs, xs[i], q, by simp [hlt]⟩, Pv (i + 1), fun σ' H' p' => ⟨xs.length - (i + 1), by omega, rfl, hlt, p'⟩, fun x H' y => ?_⟩
    obtain ⟨e, y⟩ := y
    subst e
    exact hs i x σ _ (y xs q) p
  · have e : i = xs.length := by omega
    subst e
    exact .inl ⟨⟨xs, q, Nat.le_refl _⟩, hd σ H p⟩
theorem for_range {lo : Int} {n : Nat} {g : TG} {tb : TS} {D : Ends} {σ : St} {H : Hp} (Pv : Nat → St → Hp → Prop) (h0 : Pv 0 σ H)
    (hs : ∀ i σ H, i < n → Pv i σ H → g (.int (lo + i)) σ H fun σ2 H2 => tb { D with nx := Pv (i + 1), ct := Pv (i + 1), bk := D.nx } σ2 H2) (hd : ∀ σ H, Pv n σ H → D.nx σ H) :
    ∃ W : Nat → Nat → St → Hp → Prop, (∃ m, W 0 m σ H) ∧ ∀ i m σ H, W i m σ H →
      ((Itr lo n).stop i H ∧ D.nx σ H) ∨ ((Itr lo n).go i H ∧ ∃ N : St → Hp → Prop, (∀ σ' H', N σ' H' → ∃ m', m' < m ∧ W (i + 1) m' σ' H') ∧ ∀ x H', (Itr lo n).yld i H x H' → g x σ H' fun σ2 H2 => tb { D with nx := N, ct := N, bk := D.nx } σ2 H2) := by
  refine ⟨fun i m σ H => m = n - i ∧ i ≤ n ∧ Pv i σ H, ⟨n, by simp, Nat.zero_le _, h0⟩, ?_⟩
  rintro i m σ H ⟨rfl, hi, p⟩
  by_cases hlt : i < n
  · refine .inr ⟨hlt, Pv (i + 1), fun σ' H' p' => ⟨n - (i + 1), by omega, rfl, hlt, p'⟩, fun x H' y => ?_⟩
    obtain ⟨e, y⟩ := y
    subst e y
    exact hs i σ _ hlt p
  · have e : i = n := by omega
    subst e
    exact .inl ⟨Nat.le_refl _, hd σ H p⟩
end L2
namespace L2
open PySem PySem.Spec PyProof.Rows
noncomputable abbrev R2 := V → V → Hp → VK → Prop
noncomputable def OpR (X : Cx) (f : Value → Value → Sem Value) (r : R2) : Prop :=
  ∀ (pins : List (Addr × Obj)) (s : Shared) (σ : St) (H : Hp) (x y : V) (v u : Value) (Q : VK), Inv X pins σ H s → RelV x v → RelV y u → r x y H Q →
    wpAny (model X.prog X.w) X.A (f v u) (EP X pins σ Q) X.xe s
noncomputable def UnR (X : Cx) (f : Value → Sem Value) (r : V → Hp → VK → Prop) : Prop :=
  ∀ (pins : List (Addr × Obj)) (s : Shared) (σ : St) (H : Hp) (x : V) (v : Value) (Q : VK), Inv X pins σ H s → RelV x v → r x H Q →
    wpAny (model X.prog X.w) X.A (f v) (EP X pins σ Q) X.xe s
noncomputable def CallR (X : Cx) (f : Value) (r : List V → Hp → VK → Prop) : Prop :=
  ∀ (pins : List (Addr × Obj)) (s : Shared) (σ : St) (H : Hp) (xs : List V) (us : List Value) (Q : VK), Inv X pins σ H s → Vals xs us → r xs H Q →
    wpAny (model X.prog X.w) X.A (call f us) (EP X pins σ Q) X.xe s
noncomputable def tOp (r : R2) (ta tb : TE) : TE := fun σ H Q => ta σ H fun x H1 => tb σ H1 fun y H2 => r x y H2 Q
noncomputable def tUn (r : V → Hp → VK → Prop) (ta : TE) : TE := fun σ H Q => ta σ H fun x H1 => r x H1 Q
noncomputable def rI (C : Int → Int → Prop) (g : Int → Int → V) : R2 := fun x y H Q => ∃ i j, x = .int i ∧ y = .int j ∧ C i j ∧ Q (g i j) H
noncomputable def rI0 (g : Int → Int → V) : R2 := fun x y H Q => ∃ i j, x = .int i ∧ y = .int j ∧ Q (g i j) H
noncomputable def rU (g : Int → V) : V → Hp → VK → Prop := fun x H Q => ∃ i, x = .int i ∧ Q (g i) H
section
variable {X : Cx} {a b c : Expr} {ta tb tc : TE} {pos : Pos}
theorem binT (ha : PE X a ta) (hb : PE X b tb) {pins : List (Addr × Obj)} {s : Shared} {σ : St} {H : Hp} {R : V → V → Hp → Prop} (I : Inv X pins σ H s)
    (h : ta σ H fun x H1 => tb σ H1 fun y H2 => R x y H2) {Q : Value → Shared → Prop} {f : Value → Value → Sem Value}
    (hf : ∀ v u s2 x y H2, Inv X pins σ H2 s2 → RelV x v → RelV y u → R x y H2 → wpAny (model X.prog X.w) X.A (f v u) Q X.xe s2) :
    wpAny (model X.prog X.w) X.A (eval a X.env) (fun v s₁ => wpAny (model X.prog X.w) X.A (eval b X.env) (fun u s₂ => wpAny (model X.prog X.w) X.A (f v u) Q X.xe s₂) X.xe s₁) X.xe s := by
  refine thn (ha pins s σ H _ I h) fun v s1 zz => ?_
  obtain ⟨x, H1, I1, r1, q1⟩ := zz
  refine thn (hb pins s1 σ H1 _ I1 q1) fun u s2 zz => ?_
  obtain ⟨y, H2, I2, r2, q2⟩ := zz
  exact hf v u s2 x y H2 I2 r1 r2 q2
theorem pe_op {op : Operator} {r : R2} (ho : OpR X (binaryOp op) r) (ha : PE X a ta) (hb : PE X b tb) : PE X (.BinOp a op b pos) (tOp r ta tb) := by
  intro pins s σ H Q I h
  exact wpAny_BinOp (binT ha hb I h fun v u s2 x y H2 I2 rx ry q => ho pins s2 σ H2 x y v u Q I2 rx ry q)
theorem pe_un {op : UnaryOp} {r : V → Hp → VK → Prop} (ho : UnR X (unaryOp op) r) (ha : PE X a ta) : PE X (.UnaryOp op a pos) (tUn r ta) := by
  intro pins s σ H Q I h
  exact UnaryOp_ (thn (ha pins s σ H _ I h) fun v s1 ⟨x, H1, I1, r1, q1⟩ => ho pins s1 σ H1 x v Q I1 r1 q1)
theorem opI {f : Value → Value → Sem Value} {C : Int → Int → Prop} {g : Int → Int → Int}
    (rule : ∀ (i j : Int) (t u : Tok) (s : Shared) (Q : Value → Shared → Prop) (E : Value → Shared → Prop), C i j → Q (.int (g i j) s.toks) { s with toks := s.toks + 1 } → wpAny (model X.prog X.w) X.A (f (.int i t) (.int j u)) Q E s) :
    OpR X f (rI C fun i j => .int (g i j)) := by
  intro pins s σ H x y v u Q I rx ry h
  obtain ⟨i, j, rfl, rfl, hc, q⟩ := h
  obtain ⟨t, rfl⟩ := rx
  obtain ⟨t', rfl⟩ := ry
  exact rule i j t t' s _ _ hc ⟨.int (g i j), H, I.tok _, ⟨_, rfl⟩, q⟩
theorem opI0 {f : Value → Value → Sem Value} {g : Int → Int → Int}
    (rule : ∀ (i j : Int) (t u : Tok) (s : Shared) (Q : Value → Shared → Prop) (E : Value → Shared → Prop), Q (.int (g i j) s.toks) { s with toks := s.toks + 1 } → wpAny (model X.prog X.w) X.A (f (.int i t) (.int j u)) Q E s) :
    OpR X f (rI0 fun i j => .int (g i j)) := by
  intro pins s σ H x y v u Q I rx ry h
  obtain ⟨i, j, rfl, rfl, q⟩ := h
  obtain ⟨t, rfl⟩ := rx
  obtain ⟨t', rfl⟩ := ry
  exact rule i j t t' s _ _ ⟨.int (g i j), H, I.tok _, ⟨_, rfl⟩, q⟩
theorem opB0 {f : Value → Value → Sem Value} {g : Int → Int → Bool}
    (rule : ∀ (i j : Int) (t u : Tok) (s : Shared) (Q : Value → Shared → Prop) (E : Value → Shared → Prop), Q (.bool (g i j)) s → wpAny (model X.prog X.w) X.A (f (.int i t) (.int j u)) Q E s) :
    OpR X f (rI0 fun i j => .bl (g i j)) := by
  intro pins s σ H x y v u Q I rx ry h
  obtain ⟨i, j, rfl, rfl, q⟩ := h
  obtain ⟨t, rfl⟩ := rx
  obtain ⟨t', rfl⟩ := ry
  exact rule i j t t' s _ _ ⟨.bl (g i j), H, I, rfl, q⟩
theorem op_add : OpR X (binaryOp .Add) (rI0 fun i j => .int (i + j)) := opI0 fun _ _ _ _ _ _ _ q => add_int q
theorem op_sub : OpR X (binaryOp .Sub) (rI0 fun i j => .int (i - j)) := opI0 fun _ _ _ _ _ _ _ q => sub_int q
theorem op_mod : OpR X (binaryOp .Mod) (rI (fun _ j => 0 < j) fun i j => .int (i % j)) := opI fun i j _ _ _ _ _ hc q => by
  have h1 : (0 : Int) < j := hc
  exact mod_int' (by omega) (by rw [Int.fmod_eq_emod_of_nonneg i (by omega)]; exact q)
theorem unI {f : Value → Sem Value} {g : Int → Int}
    (rule : ∀ (i : Int) (t : Tok) (s : Shared) (Q : Value → Shared → Prop) (E : Value → Shared → Prop), Q (.int (g i) s.toks) { s with toks := s.toks + 1 } → wpAny (model X.prog X.w) X.A (f (.int i t)) Q E s) :
    UnR X f (rU fun i => .int (g i)) := by
  intro pins s σ H x v Q I rx h
  obtain ⟨i, rfl, q⟩ := h
  obtain ⟨t, rfl⟩ := rx
  exact rule i t s _ _ ⟨.int (g i), H, I.tok _, ⟨_, rfl⟩, q⟩
theorem un_neg : UnR X (unaryOp .USub) (rU fun i => .int (-i)) := unI fun _ _ _ _ _ q => neg_int q
end
noncomputable def scal : V → V → Bool
  | .non, .non => true | .non, .int _ => true | .int _, .non => true | .non, .bl _ => true | .bl _, .non => true | .non, .str _ => true | .str _, .non => true
  | .int _, .int _ => true | .bl _, .bl _ => true | .str _, .str _ => true | .byt _, .byt _ => true
  | .int _, .str _ => true | .str _, .int _ => true | .bl _, .str _ => true | .str _, .bl _ => true
  | _, _ => false
noncomputable def rEq : R2 := fun x y H Q => scal x y = true ∧ Q (.bl (decide (x = y))) H
theorem dec_int {i j : Int} : decide (V.int i = V.int j) = (i == j) := by
  rw [Bool.eq_iff_iff]
  simp
theorem dec_bl {i j : Bool} : decide (V.bl i = V.bl j) = (i == j) := by
  rw [Bool.eq_iff_iff]
  simp
theorem dec_str {i j : Str} : decide (V.str i = V.str j) = (i == j) := by
  rw [Bool.eq_iff_iff]
  simp
theorem dec_byt {i j : Array UInt8} : decide (V.byt i = V.byt j) = (i.toList == j.toList) := by
  rw [Bool.eq_iff_iff]
  cases i
  cases j
  simp
section
variable {X : Cx} {a b c : Expr} {ta tb tc : TE} {pos : Pos}
theorem fin_bl {pins : List (Addr × Obj)} {σ : St} {H : Hp} {s : Shared} {Q : VK} {k k' : Bool} (I : Inv X pins σ H s) (q : Q (.bl k) H) (e : k = k') : EP X pins σ Q (.bool k') s := by
  subst e
  exact ⟨.bl k, H, I, rfl, q⟩
theorem op_eq : OpR X (compareOp .Eq) rEq := by
  intro pins s σ H x y v u Q I rx ry h
  obtain ⟨hs, q⟩ := h
  cases x with
  | non =>
    cases rx
    cases y with
    | non => cases ry; exact PySem.EqNone.eq_none_none (fin_bl I q (by simp))
    | bl j => cases ry; exact PySem.EqNone.eq_none_bool (fin_bl I q (by simp))
    | int j => obtain ⟨t', rfl⟩ := ry; exact PySem.EqNone.eq_none_int (fin_bl I q (by simp))
    | str j => obtain ⟨t', rfl⟩ := ry; exact PySem.EqNone.eq_none_str (fin_bl I q (by simp))
    | _ => exact absurd (show false = true from hs) Bool.false_ne_true
  | bl i =>
    cases rx
    cases y with
    | non => cases ry; exact PySem.EqNone.eq_bool_none (fin_bl I q (by simp))
    | bl j => cases ry; exact eq_bool (fin_bl I q dec_bl)
    | str j => obtain ⟨t', rfl⟩ := ry; exact PySem.EqMixed.eq_bool_str (fin_bl I q (by simp))
    | _ => exact absurd (show false = true from hs) Bool.false_ne_true
  | int i =>
    obtain ⟨t, rfl⟩ := rx
    cases y with
    | non => cases ry; exact PySem.EqNone.eq_int_none (fin_bl I q (by simp))
    | int j => obtain ⟨t', rfl⟩ := ry; exact eq_int (fin_bl I q dec_int)
    | str j => obtain ⟨t', rfl⟩ := ry; exact PySem.EqMixed.eq_int_str (fin_bl I q (by simp))
    | _ => exact absurd (show false = true from hs) Bool.false_ne_true
  | str i =>
    obtain ⟨t, rfl⟩ := rx
    cases y with
    | non => cases ry; exact PySem.EqNone.eq_str_none (fin_bl I q (by simp))
    | bl j => cases ry; exact PySem.EqMixed.eq_str_bool (fin_bl I q (by simp))
    | int j => obtain ⟨t', rfl⟩ := ry; exact PySem.EqMixed.eq_str_int (fin_bl I q (by simp))
    | str j => obtain ⟨t', rfl⟩ := ry; exact eq_str (fin_bl I q dec_str)
    | _ => exact absurd (show false = true from hs) Bool.false_ne_true
  | byt i =>
    obtain ⟨t, rfl⟩ := rx
    cases y with
    | byt j => obtain ⟨t', rfl⟩ := ry; exact PySem.W.eq_bytes (fin_bl I q dec_byt)
    | _ => exact absurd (show false = true from hs) Bool.false_ne_true
  | _ => cases y <;> exact absurd (show false = true from hs) Bool.false_ne_true
theorem op_lt : OpR X (compareOp .Lt) (rI0 fun i j => .bl (decide (i < j))) := opB0 fun _ _ _ _ _ _ _ q => lt_int q
theorem op_le : OpR X (compareOp .LtE) (rI0 fun i j => .bl (decide (i ≤ j))) := opB0 fun _ _ _ _ _ _ _ q => le_int q
theorem op_gt : OpR X (compareOp .Gt) (rI0 fun i j => .bl (decide (j < i))) := opB0 fun _ _ _ _ _ _ _ q => gt_int q
theorem op_isN : OpR X (compareOp .Is) (fun x y H Q => y = .non ∧ Q (.bl (decide (x = .non))) H) := by
  intro pins s σ H x y v u Q I rx ry h
  obtain ⟨rfl, q⟩ := h
  cases ry
  refine is_none_gen (fin_bl I q ?_)
  cases x <;> first
    | (cases rx; rfl)
    | (obtain ⟨t, rfl⟩ := rx; rfl)
theorem op_notN : OpR X (compareOp .IsNot) (fun x y H Q => y = .non ∧ Q (.bl (!decide (x = .non))) H) := by
  intro pins s σ H x y v u Q I rx ry h
  obtain ⟨rfl, q⟩ := h
  cases ry
  refine isnot_none_gen (fin_bl I q ?_)
  cases x <;> first
    | (cases rx; rfl)
    | (obtain ⟨t, rfl⟩ := rx; rfl)
theorem nomark (b : Expr) {op : CmpOp} (h : op ≠ .In := by decide) (h2 : op ≠ .NotIn := by decide) : behindInMarks op b = false := by
  have e1 : (op == CmpOp.In) = false := by cases op <;> first | rfl | exact absurd rfl h
  have e2 : (op == CmpOp.NotIn) = false := by cases op <;> first | rfl | exact absurd rfl h2
  cases b <;> simp [behindInMarks, e1, e2]
theorem pe_cmpR {op : CmpOp} {r : R2} (ho : OpR X (compareOp op) r) (ha : PE X a ta) (hb : PE X b tb) (hm : behindInMarks op b = false) : PE X (.Compare a [op] [b] pos) (tOp r ta tb) := by
  intro pins s σ H Q I h
  exact wpAny_Compare1 (binT ha hb I h fun v u s2 x y H2 I2 rx ry q => ho pins s2 σ H2 x y v u Q I2 rx ry q) hm
noncomputable def tTest (t : TE) : TT := fun σ H Q => t σ H fun x H' => ∃ k, x = .bl k ∧ Q k H'
theorem pt_cmpR {op : CmpOp} {r : R2} (ho : OpR X (compareOp op) r) (ha : PE X a ta) (hb : PE X b tb) (hm : behindInMarks op b = false) : PT X (.Compare a [op] [b] pos) (tTest (tOp r ta tb)) := by
  intro pins s σ H Q I h
  refine wpAny_isTrue_Compare1 (thn (ha pins s σ H _ I h) fun v s1 ⟨x, H1, I1, r1, q1⟩ => thn (hb pins s1 σ H1 _ I1 q1) fun u s2 ⟨y, H2, I2, r2, q2⟩ =>
    thn (ho pins s2 σ H2 x y v u _ I2 r1 r2 q2) fun c s3 ⟨z, H3, I3, r3, k, e, q3⟩ => ?_) hm
  subst e
  cases r3
  exact wpAny_truthy_bool ⟨H3, I3, q3⟩
noncomputable def tChain (r r' : R2) (ta tb tc : TE) : TE := fun σ H Q => ta σ H fun x H1 => tb σ H1 fun y H2 => r x y H2 fun z H3 => ∃ k, z = .bl k ∧
  (if k = true then tc σ H3 fun w' H4 => r' y w' H4 Q else Q (.bl false) H3)
theorem pt_chain {op op' : CmpOp} {r r' : R2} (ho : OpR X (compareOp op) r) (ho' : OpR X (compareOp op') r') (ha : PE X a ta) (hb : PE X b tb) (hc : PE X c tc)
    (hm : lastMarks [op, op'] [b, c] = false := by with_unfolding_all rfl) : PT X (.Compare a [op, op'] [b, c] pos) (tTest (tChain r r' ta tb tc)) := by
  intro pins s σ H Q I h
  refine isTrue_chain (thn (ha pins s σ H _ I h) fun v s1 ⟨x, H1, I1, r1, q1⟩ => test_link (thn (hb pins s1 σ H1 _ I1 q1) fun u s2 ⟨y, H2, I2, r2, q2⟩ =>
    thn (ho pins s2 σ H2 x y v u _ I2 r1 r2 q2) fun d s3 ⟨z, H3, I3, r3, k, e, q3⟩ => ?_)) hm
  subst e
  cases r3
  refine wpAny_truthy_bool ?_
  cases k with
  | false =>
    obtain ⟨k', e', q'⟩ := q3
    cases e'
    exact ite_ff ⟨H3, I3, q'⟩
  | true =>
    refine ite_tt (test_last (thn (hc pins s3 σ H3 _ I3 q3) fun w' s4 ⟨z', H4, I4, r4, q4⟩ => thn (ho' pins s4 σ H4 y z' u w' _ I4 r2 r4 q4) fun d' s5 zz => ?_))
    obtain ⟨z2, H5, I5, r5, k2, e2, q5⟩ := zz
    subst e2
    cases r5
    exact wpAny_truthy_bool ⟨H5, I5, q5⟩
theorem line63 : (sizeLine : Nat) < 2 ^ 63 := by rw [sizeLine_eq]; decide
theorem vals1 {x : V} {us : List Value} (r : Vals [x] us) : ∃ u, us = [u] ∧ RelV x u := by
  cases r with
  | cons r1 r2 => cases r2; exact ⟨_, rfl, r1⟩
theorem vals2 {x y : V} {us : List Value} (r : Vals [x, y] us) : ∃ u w', us = [u, w'] ∧ RelV x u ∧ RelV y w' := by
  cases r with
  | cons r1 r2 =>
    cases r2 with
    | cons r3 r4 => cases r4; exact ⟨_, _, rfl, r1, r3⟩
theorem call_abs : CallR X (.builtin "abs") (fun xs H Q => ∃ i, xs = [.int i] ∧ Q (.int (if i < 0 then -i else i)) H) := by
  intro pins s σ H xs us Q I r h
  obtain ⟨i, rfl, q⟩ := h
  obtain ⟨u, rfl, t, rfl⟩ := vals1 r
  exact call_abs_int fun u tk => ⟨.int (if i < 0 then -i else i), H, I.tok _, ⟨_, rfl⟩, q⟩
theorem call_max2 (hc : X.calm = true) : CallR X (.builtin "max") (fun xs H Q => ∃ i j, xs = [.int i, .int j] ∧ Q (.int (if j > i then j else i)) H) := by
  intro pins s σ H xs us Q I r h
  obtain ⟨i, j, rfl, q⟩ := h
  obtain ⟨u, w', rfl, ⟨t, rfl⟩, ⟨t', rfl⟩⟩ := vals2 r
  refine max_two_ints (I.ok.hd hc) fun h' tk k => ⟨_, H, I.kept k, ?_, q⟩
  by_cases hj : j > i
  · rw [if_pos hj, if_pos hj]; exact ⟨_, rfl⟩
  · rw [if_neg hj, if_neg hj]; exact ⟨_, rfl⟩
theorem call_min2 (hc : X.calm = true) : CallR X (.builtin "min") (fun xs H Q => ∃ i j, xs = [.int i, .int j] ∧ Q (.int (if j < i then j else i)) H) := by
  intro pins s σ H xs us Q I r h
  obtain ⟨i, j, rfl, q⟩ := h
  obtain ⟨u, w', rfl, ⟨t, rfl⟩, ⟨t', rfl⟩⟩ := vals2 r
  refine min_two_ints (I.ok.hd hc) fun h' tk k => ⟨_, H, I.kept k, ?_, q⟩
  by_cases hj : j < i
  · rw [if_pos hj, if_pos hj]; exact ⟨_, rfl⟩
  · rw [if_neg hj, if_neg hj]; exact ⟨_, rfl⟩
noncomputable def LenV (K : PySem.W.Frag) (x : V) (H : Hp) (n : Nat) : Prop :=
  match x with
  | .str y => y.length ≤ sizeLine ∧ n = y.length
  | .byt y => y.size ≤ sizeLine ∧ n = y.size
  | .ref p => (∃ xs, SqL K H p xs ∧ n = xs.length) ∨ ∃ xs, SqT K H p xs ∧ n = xs.length
  | _ => False
theorem call_len : CallR X (.builtin "len") (fun xs H Q => ∃ x n, xs = [x] ∧ LenV X.K x H n ∧ Q (.int n) H) := by
  intro pins s σ H xs us Q I r h
  obtain ⟨x, n, rfl, e, q⟩ := h
  obtain ⟨u, rfl, rx⟩ := vals1 r
  have hl := line63
  have hs : sizeLine = 16777216 := sizeLine_eq
  cases x with
  | str y =>
    obtain ⟨t, rfl⟩ := rx
    obtain ⟨hy, e'⟩ : y.length ≤ sizeLine ∧ n = y.length := e
    subst e'
    exact len_str (by omega) ⟨.int _, H, I.tok _, ⟨_, rfl⟩, q⟩
  | byt y =>
    obtain ⟨t, rfl⟩ := rx
    obtain ⟨hy, e'⟩ : y.size ≤ sizeLine ∧ n = y.size := e
    subst e'
    exact PySem.W.len_bytes (by omega) ⟨.int _, H, I.tok _, ⟨_, rfl⟩, q⟩
  | ref p =>
    cases rx
    have e' : (∃ xs, SqL X.K H p xs ∧ n = xs.length) ∨ ∃ xs, SqT X.K H p xs ∧ n = xs.length := e
    rcases e' with ⟨xs, hx, e'⟩ | ⟨xs, hx, e'⟩
    · subst e'
      obtain ⟨its, r', pl, hz⟩ := I.list hx
      have hlen := r'.length
      exact Calls.call_len_list pl.isList (by simp only [List.size_toArray]; omega) ⟨.int xs.length, H, I.tok _, ⟨_, by simp only [List.size_toArray]; rw [hlen]⟩, q⟩
    · subst e'
      obtain ⟨its, r', pl, hz⟩ := I.tuple hx
      have hlen := r'.length
      exact len_tuple pl (by simp only [List.size_toArray]; omega) ⟨.int xs.length, H, I.tok _, ⟨_, by simp only [List.size_toArray]; rw [hlen]⟩, q⟩
  | _ => exact (show False from e).elim
end
end L2
namespace L2
open PySem PySem.Spec PyProof.Rows
structure ObjM (h : Heap) (x dx C : Addr) (mA : Str → Option Value) : Prop where
  obj : h.get? x = some (PySem.W.instObj C dx)
  ns : h.Ns1 dx mA
  ne : dx ≠ x
theorem lookIn_ns {h : Heap} {dx : Addr} {mA : Str → Option Value} (n : h.Ns1 dx mA) : ∃ od, h.get? dx = some od ∧ ∀ name, PySem.W.lookIn name od = some (mA name) := by
  obtain ⟨o, es, ep, ho, hd, hk, _, hm⟩ := n
  refine ⟨o, ho, fun name => ?_⟩
  have e := hm name
  unfold nsFind findBy at e
  rw [← Array.find?_toList] at e
  unfold PySem.W.lookIn
  rw [hd]
  dsimp only
  split
  · rename_i y q
    rw [q] at e
    exact congrArg some e
  · rename_i q
    rw [q] at e
    have a : es.toList.any (·.refKey) = false := by
      rw [List.any_eq_false]
      intro y hy
      obtain ⟨z, t, hkey⟩ := hk y (Array.mem_toList_iff.mp hy)
      simp [DictEntry.refKey, hkey]
    have a' : ¬ es.toList.any (·.refKey) = true := by rw [a]; exact Bool.false_ne_true
    rw [if_neg a']
    exact congrArg some e
theorem ObjM.look {h : Heap} {x dx C : Addr} {mA : Str → Option Value} (I : ObjM h x dx C mA) : ∃ od, PySem.W.InstAt h x (PySem.W.instObj C dx) C (some od) ∧ ∀ name, PySem.W.lookIn name od = some (mA name) :=
  let ⟨od, ho, hl⟩ := lookIn_ns I.ns
  ⟨od, ⟨I.obj, rfl, rfl, ho⟩, hl⟩
section
variable {prog : Program} {w : World} {A : Around} {E : Value → Shared → Prop} {s : Shared} {K : PySem.W.Frag} {x dx C f : Addr} {mA : Str → Option Value} {name : Str} {v : Value}
theorem get_map {expr : Bool} {Q : Value → Shared → Prop} (X : K.In s.heap) (I : ObjM s.heap x dx C mA) (hg : PySem.W.plainGet K C name = true) (hh : PySem.W.hasDictIn K C = true)
    (ha : PySem.W.findIn K (.ref C) name = some none) (hv : mA name = some v) (hv' : PySem.W.handedIn v = true) (h : Q v { s with toks := s.toks + 1 }) :
    wpAny (model prog w) A (getAttr (.ref x) name expr) Q E s := by
  obtain ⟨od, J, hl⟩ := I.look
  exact PySem.W.get_value X J (PySem.W.plainGet_of hg).1 (PySem.W.findObj_own hh ha rfl (by rw [hl, hv])) hv' h
theorem get_meth {pl : Sem Bool} {Q : Value × List Value → Shared → Prop} (X : K.In s.heap) (I : ObjM s.heap x dx C mA) (hg : PySem.W.plainGet K C name = true)
    (hf : PySem.W.findIn K (.ref C) name = some (some (.ref f))) (ht : PySem.W.isFn K (.ref f) = true) (hv : mA name = none) (h : Q (.ref f, [.ref x]) s) :
    wpAny (model prog w) A (getMethod (.ref x) name pl) Q E s := by
  obtain ⟨od, J, hl⟩ := I.look
  exact PySem.W.method_fn X J (PySem.W.plainGet_of hg).1 (PySem.W.plainGet_of hg).2 hf (beq_iff_eq.mp ht) (by show (PySem.W.lookIn name od).map (·.isSome) = some false; rw [hl, hv]; rfl) h
theorem set_map {ns : List Str} {Q : Unit → Shared → Prop} (X : K.In s.heap) (I : ObjM s.heap x dx C mA)
    (hs : PySem.W.findIn K (.ref C) "__setattr__" = some (some (.builtin "object.__setattr__"))) (hp : PySem.W.plainOver K C = true) (ht : PySem.W.takerIn K C name = some none) (hh : PySem.W.hasDictIn K C = true)
    (hw : PySem.Within mA ns) (hsz : ns.length ≤ sizeLine)
    (h : ∀ h', ObjM h' x dx C (fun y => if y = name then some v else mA y) → Heap.SameBut dx s.heap h' → Q () { s with heap := h', toks := s.toks + 2 }) :
    wpAny (model prog w) A (setAttr (.ref x) name v) Q E s := by
  obtain ⟨od, J, hl⟩ := I.look
  refine PySem.W.set_plain X J hs (PySem.W.osa_open (s := { s with toks := s.toks + 1 }) (r := none) X J hp ht fun b => ?_)
  obtain ⟨cd, hc, hd'⟩ := PySem.W.any_some hh
  have hx : s.heap.get? x = some ⟨.ref C, some dx, .plain, #[]⟩ := I.obj
  refine wpAny_bind (wpAny_pure (wpAny_bind (wpAny_bind (wpAny_loadPart hx (wpAny_bind (PySem.W.Looks.here (s := { s with toks := s.toks + 1 }) (PySem.W.looks_clsIn X hc) ?_))))))
  rw [hd']
  refine wpAny_pure (a := some dx) (wpAny_bind (wpAny_pure (wpAny_bind ?_)))
  refine wpAny_nsSet1 (s := { s with toks := s.toks + 1 }) I.ns fun h' hn2 hs2 => ?_
  obtain ⟨oD, esD, epD, hoD, hdD, hcD⟩ := hn2.count (PySem.Within.cons name v hw)
  refine wpAny_bind (wpAny_lookBehind hoD (by rw [hdD]; exact pastItsLine_dict (Nat.le_trans hcD (by rw [List.length_cons]; omega))) ?_)
  exact wpAny_pure (h _ ⟨(hs2.2 _ (Ne.symm I.ne)).trans I.obj, hn2, I.ne⟩ hs2)
theorem make_map {R : Result → Shared → Prop} {vs : List Value} {kw : List (Str × Value)} (X : K.In s.heap) (hm : PySem.W.makesIn K C = true)
    (hi : PySem.W.findIn K (.ref C) "__init__" = some (some (.ref f))) (hf : PySem.W.typeIn K (.ref f) = some (.type "function"))
    (h : codeAny (model prog w) (A.under (.builtin "type.__call__" ⟨.ref C :: vs, kw⟩)) (.call (.ref f) ⟨.ref (s.heap.objs.size + 1) :: vs, kw⟩) (PySem.W.InitBack (s.heap.objs.size + 1) R)
      { s with heap := (s.heap.push PySem.W.emptyDict).push (PySem.W.instObj C s.heap.objs.size) }) :
    codeAny (model prog w) A (.call (.ref C) ⟨vs, kw⟩) R s := by
  obtain ⟨hh, g, d, t, os⟩ := s
  exact PySem.W.make_core (PySem.W.makes_of X hm) (PySem.W.looks_findIn X hi) (fun self => PySem.W.bind_fn X self hf) (.inl rfl) h
end
noncomputable def putF (f : Str) (v : V) : List (Str × V) → List (Str × V)
  | [] => [(f, v)]
  | (g, x) :: r => if g = f then (g, v) :: r else (g, x) :: putF f v r
theorem lookup_putF (f g : Str) (v : V) : ∀ fs : List (Str × V), (putF f v fs).lookup g = if g = f then some v else fs.lookup g
  | [] => by
    show List.lookup g [(f, v)] = _
    by_cases h : g = f
    · have hb : (g == f) = true := beq_iff_eq.mpr h
      simp only [List.lookup, hb, if_pos h]
    · have hb : (g == f) = false := beq_eq_false_iff_ne.mpr h
      simp only [List.lookup, hb, if_neg h]
  | (k, x) :: r => by
    have ih := lookup_putF f g v r
    rw [show putF f v ((k, x) :: r) = (if k = f then (k, v) :: r else (k, x) :: putF f v r) from rfl]
    by_cases hk : k = f
    · rw [if_pos hk]
      by_cases h : g = k
      · have hb : (g == k) = true := beq_iff_eq.mpr h
        simp only [List.lookup, hb, if_pos (h.trans hk)]
      · have hb : (g == k) = false := beq_eq_false_iff_ne.mpr h
        simp only [List.lookup, hb, if_neg (fun e : g = f => h (e.trans hk.symm))]
    · rw [if_neg hk]
      by_cases h : g = k
      · have hb : (g == k) = true := beq_iff_eq.mpr h
        simp only [List.lookup, hb, if_neg (fun e : g = f => hk (h.symm.trans e))]
      · have hb : (g == k) = false := beq_eq_false_iff_ne.mpr h
        simp only [List.lookup, hb]
        exact ih
theorem keys_putF (f : Str) (v : V) : ∀ fs : List (Str × V), f ∈ (putF f v fs).map (·.1) ∧ ∀ g, g ∈ fs.map (·.1) → g ∈ (putF f v fs).map (·.1)
  | [] => ⟨by simp [putF], fun g h => by simp at h⟩
  | (k, x) :: r => by
    obtain ⟨i1, i2⟩ := keys_putF f v r
    rw [show putF f v ((k, x) :: r) = (if k = f then (k, v) :: r else (k, x) :: putF f v r) from rfl]
    by_cases hk : k = f
    · rw [if_pos hk]
      subst hk
      exact ⟨by simp, fun g h => by simpa using h⟩
    · rw [if_neg hk]
      refine ⟨?_, fun g h => ?_⟩
      · rw [List.map_cons]
        exact List.mem_cons_of_mem _ i1
      · rw [List.map_cons] at h ⊢
        rcases List.mem_cons.mp h with e | e
        · exact List.mem_cons.mpr (.inl e)
        · exact List.mem_cons_of_mem _ (i2 g e)
theorem length_putF (f : Str) (v : V) : ∀ fs : List (Str × V), (putF f v fs).length ≤ fs.length + 1
  | [] => by simp [putF]
  | (k, x) :: r => by
    have ih := length_putF f v r
    rw [show putF f v ((k, x) :: r) = (if k = f then (k, v) :: r else (k, x) :: putF f v r) from rfl]
    by_cases hk : k = f
    · rw [if_pos hk, List.length_cons, List.length_cons]; omega
    · rw [if_neg hk, List.length_cons, List.length_cons]; omega
theorem RelO.some_of {v : V} {o : Option Value} (r : RelO (some v) o) : ∃ u, o = some u ∧ RelV v u := by
  cases o with
  | none => exact (show False from r).elim
  | some u => exact ⟨u, rfl, r⟩
theorem RelO.none_of {o : Option Value} (r : RelO none o) : o = none := by
  cases o with
  | none => rfl
  | some u => exact (show False from r).elim
theorem handed_of {v : V} {u : Value} (r : RelV v u) : PySem.W.handedIn u = true := by
  cases v with
  | non => cases (show u = Value.none from r); rfl
  | bl b => cases (show u = Value.bool b from r); rfl
  | int i => obtain ⟨t, e⟩ := (show ∃ t, u = Value.int i t from r); cases e; rfl
  | str x => obtain ⟨t, e⟩ := (show ∃ t, u = Value.str x t from r); cases e; rfl
  | byt b => obtain ⟨t, e⟩ := (show ∃ t, u = Value.bytes b t from r); cases e; rfl
  | flt b => obtain ⟨t, e⟩ := (show ∃ t, u = Value.float b t from r); cases e; rfl
  | ref a => cases (show u = Value.ref a from r); rfl
  | ty n => cases (show u = Value.type n from r); rfl
section
variable {P : Program} {w : World} {H H' : Hp} {h h' : Heap} {a C dx : Addr} {fs fs' : List (Str × V)}
theorem ins_get (hok : HOk P w H h) (e : H a = some (.ins C dx fs)) : ∃ mA, ObjM h a dx C mA ∧ (∀ f, RelO (fs.lookup f) (mA f)) ∧ PySem.Within mA (fs.map (·.1)) ∧ fs.length ≤ 1000 ∧ H dx = some (.own a) := by
  obtain ⟨d, z, ne, ob, mA, n, r, q⟩ := (show ObjOk P w H h a (.ins C dx fs) from hok a _ e)
  exact ⟨mA, ⟨ob, n, ne⟩, r, q, z, d⟩
end
structure Cls (K : PySem.W.Frag) (C : Addr) : Prop where
  pg : PySem.W.plainGet K C Str.empty = true
  hd : PySem.W.hasDictIn K C = true
  po : PySem.W.plainOver K C = true
  sa : PySem.W.findIn K (.ref C) "__setattr__" = some (some (.builtin "object.__setattr__"))
theorem Cls.get {K : PySem.W.Frag} {C : Addr} (c : Cls K C) (f : Str) : PySem.W.plainGet K C f = true := c.pg
noncomputable def NoAttr (K : PySem.W.Frag) (C : Addr) (f : Str) : Prop := PySem.W.findIn K (.ref C) f = some none
theorem NoAttr.taker {K : PySem.W.Frag} {C : Addr} {f : Str} (n : NoAttr K C f) : PySem.W.takerIn K C f = some none := by
  unfold PySem.W.takerIn
  rw [show PySem.W.findIn K (.ref C) f = some none from n]
  rfl
structure Meth (K : PySem.W.Frag) (C : Addr) (m : Str) (f : Addr) : Prop where
  at_ : PySem.W.findIn K (.ref C) m = some (some (.ref f))
  fn : PySem.W.isFn K (.ref f) = true
  kp : PySem.W.keepIn K (.ref f) = true
section
variable {X : Cx} {pins : List (Addr × Obj)} {σ : St} {H : Hp} {s : Shared} {a C dx : Addr} {fs : List (Str × V)} {f : Str} {v : V} {A : Around} {E : Value → Shared → Prop}
theorem getattr_ok {b : Bool} {Q : Value → Shared → Prop} (I : Inv X pins σ H s) (e : H a = some (.ins C dx fs)) (c : Cls X.K C) (n : NoAttr X.K C f) (l : fs.lookup f = some v)
    (h : ∀ u s', Inv X pins σ H s' → RelV v u → Q u s') : wpAny (model X.prog X.w) A (getAttr (.ref a) f b) Q E s := by
  obtain ⟨mA, O, r, _, _, _⟩ := ins_get I.hok e
  obtain ⟨u, hu, ru⟩ := RelO.some_of (v := v) (o := mA f) (by rw [← l]; exact r f)
  exact get_map I.kIn O (c.get f) c.hd n hu (handed_of ru) (h u _ (I.tok _) ru)
theorem getmeth_ok {m : Str} {g : Addr} {pl : Sem Bool} {Q : Value × List Value → Shared → Prop} (I : Inv X pins σ H s) (e : H a = some (.ins C dx fs)) (c : Cls X.K C) (k : Meth X.K C m g) (l : fs.lookup m = none)
    (h : Q (.ref g, [.ref a]) s) : wpAny (model X.prog X.w) A (getMethod (.ref a) m pl) Q E s := by
  obtain ⟨mA, O, r, _, _, _⟩ := ins_get I.hok e
  have hn : mA m = none := RelO.none_of (by rw [← l]; exact r m)
  exact get_meth I.kIn O (c.get m) k.at_ k.fn hn h
theorem setattr_ok {y : V} {u : Value} {Q : Unit → Shared → Prop} (I : Inv X pins σ H s) (e : H a = some (.ins C dx fs)) (c : Cls X.K C) (n : NoAttr X.K C f) (hl : fs.length < 1000) (ry : RelV y u)
    (h : ∀ s', Inv X pins σ (upd H a (.ins C dx (putF f y fs))) s' → Q () s') : wpAny (model X.prog X.w) A (setAttr (.ref a) f u) Q E s := by
  obtain ⟨mA, O, r, wi, _, ho⟩ := ins_get I.hok e
  have hz : (fs.map (·.1)).length ≤ sizeLine := by rw [List.length_map, sizeLine_eq]; omega
  refine set_map I.kIn O c.sa c.po n.taker c.hd wi hz fun h' O' sb => h _ ?_
  have hd : ∃ o, h'.get? dx = some o := let ⟨o, _, _, e', _⟩ := O'.ns; ⟨o, e'⟩
  refine I.write (x := a) (e := dx) (by rw [e]; exact True.intro) (.inr ho) (fun b q hb z => (sb.2 b hb).trans z) hd ?_
  refine ⟨by rw [upd_ne O.ne]; exact ho, ?_, O.ne, O'.obj, _, O'.ns, fun g => ?_, fun g hg => ?_⟩
  · have := length_putF f y fs; omega
  · show RelO ((putF f y fs).lookup g) (if g = f then some u else mA g)
    rw [lookup_putF]
    by_cases q : g = f
    · rw [if_pos q, if_pos q]; exact ry
    · rw [if_neg q, if_neg q]; exact r g
  · by_cases q : g = f
    · rw [q]; exact (keys_putF f y fs).1
    · refine (keys_putF f y fs).2 g (wi g fun z => hg ?_)
      show (if g = f then some u else mA g) = none
      rw [if_neg q]; exact z
theorem Inv.made (I : Inv X pins σ H s) : Inv X pins σ (upd (upd H s.heap.objs.size (.own (s.heap.objs.size + 1))) (s.heap.objs.size + 1) (.ins C s.heap.objs.size []))
    { s with heap := (s.heap.push PySem.W.emptyDict).push (PySem.W.instObj C s.heap.objs.size) } := by
  have e1 : (s.heap.push PySem.W.emptyDict).get? s.heap.objs.size = some PySem.W.emptyDict := Heap.get?_push_size s.heap rfl
  have e2 : ((s.heap.push PySem.W.emptyDict).push (PySem.W.instObj C s.heap.objs.size)).get? (s.heap.objs.size + 1) = some (PySem.W.instObj C s.heap.objs.size) := by
    have := Heap.get?_push_size (s.heap.push PySem.W.emptyDict) (o := PySem.W.instObj C s.heap.objs.size) rfl
    rwa [Heap.size_push] at this
  have e3 : (s.heap.push PySem.W.emptyDict).Ns s.heap.objs.size (fun _ => none) := ⟨PySem.W.emptyDict, #[], _, e1, rfl, (fun e he => absurd he (by simp)), fun _ => rfl⟩
  have I1 := I.laid (a := s.heap.objs.size) (o := .own (s.heap.objs.size + 1)) (h' := s.heap.push PySem.W.emptyDict) (t' := s.toks) (fun b u q => Heap.get?_push_of_some _ q) (Nat.le_refl _) ⟨_, e1⟩
  refine I1.laid (a := s.heap.objs.size + 1) (o := .ins C s.heap.objs.size []) (t' := s.toks) (fun b u q => Heap.get?_push_of_some _ q) (Nat.le_of_eq (Heap.size_push _ _)) ?_
  have ne : s.heap.objs.size ≠ s.heap.objs.size + 1 := Nat.ne_of_lt (Nat.lt_succ_self _)
  refine ⟨by rw [upd_ne ne, upd_same], Nat.zero_le _, ne, e2, fun _ => none, (Heap.Ns1.of_empty e3).at fun o q => Heap.get?_push_of_some _ q, fun _ => True.intro, fun y hy => absurd rfl hy⟩
theorem attr_of {prog : Program} {w : World} {env : Env} {e : Expr} {f : Str} {pos : Pos} {s : Shared} {Q : Value → Shared → Prop} (hb : attributeBase e f env (eval e env) = eval e env)
    (h : wpAny (model prog w) A (eval e env) (fun o s₁ => wpAny (model prog w) A (getAttr o f true) Q E s₁) E s) : wpAny (model prog w) A (eval (.Attribute e f pos) env) Q E s :=
  Attribute_any_ h (by rw [arm_eval_Attribute, hb])
end
section
variable {X : Cx} {o e value : Expr} {f : Str} {pos pos' tpos : Pos} {ta tv : TE}
end
section
variable {X : Cx} {pins : List (Addr × Obj)} {σ : St} {H : Hp} {s : Shared} {A : Around} {E : Value → Shared → Prop} {Q : Value → Shared → Prop} {c : Value} {b : Bool}
inductive TyOf (K : PySem.W.Frag) (H : Hp) : V → Value → Prop where
  | non : TyOf K H .non (.type "NoneType")
  | bl (x : Bool) : TyOf K H (.bl x) (.type "bool")
  | int (i : Int) : TyOf K H (.int i) (.type "int")
  | str (x : Str) : TyOf K H (.str x) (.type "str")
  | flt (x : UInt64) : TyOf K H (.flt x) (.type "float")
  | lst {a : Addr} {xs : List V} (e : H a = some (.lst xs)) : TyOf K H (.ref a) (.type "list")
  | frz {a : Addr} {o : Obj} {xs : List V} (e : H a = some (.frz o (.lst xs))) : TyOf K H (.ref a) (.type "list")
  | tup {a : Addr} {xs : List V} (e : H a = some (.tup xs)) : TyOf K H (.ref a) (.type "tuple")
  | dK {a : Addr} {kvs : List (Key × V)} (e : H a = some (.dK kvs)) : TyOf K H (.ref a) (.type "dict")
  | dT {a : Addr} {kvs : List (List Key × V)} (e : H a = some (.dT kvs)) : TyOf K H (.ref a) (.type "dict")
  | ins {a C dx : Addr} {fs : List (Str × V)} (e : H a = some (.ins C dx fs)) (cl : Cls K C) (ha : PySem.W.findIn K (.ref C) "__class__" = some (some (.builtin "object.__class__")))
      (hn : PySem.W.specialIn K (.builtin "object.__class__") "__get__" = some (some (.builtin "getset_descriptor.__get__"))) (htk : PySem.W.takesIn K (.builtin "object.__class__") = some true)
      (hm : PySem.W.mroIn K C (.type "object") = some true) : TyOf K H (.ref a) (.ref C)
theorem isinst_ok {x : V} {u t : Value} (I : Inv X pins σ H s) (rx : RelV x u) (ty : TyOf X.K H x t) (e : PySem.W.kitOne X.K t c = some b) (h : ∀ tk, Q (.bool b) { s with toks := tk }) :
    wpAny (model X.prog X.w) A (call (.builtin "isinstance") [u, c]) Q E s := by
  cases ty with
  | non => cases (show u = Value.none from rx); exact PySem.W.kia_one PySem.W.kitx_none I.kIn True.intro e (fun z => nomatch z) h
  | bl y => cases (show u = Value.bool y from rx); exact PySem.W.kia_one PySem.W.kitx_bool I.kIn True.intro e (fun z => nomatch z) h
  | int i => obtain ⟨t, q⟩ := (show ∃ t, u = Value.int i t from rx); cases q; exact PySem.W.kia_one PySem.W.kitx_int I.kIn True.intro e (fun z => nomatch z) h
  | str y => obtain ⟨t, q⟩ := (show ∃ t, u = Value.str y t from rx); cases q; exact PySem.W.kia_one PySem.W.kitx_str I.kIn True.intro e (fun z => nomatch z) h
  | flt y => obtain ⟨t, q⟩ := (show ∃ t, u = Value.float y t from rx); cases q; exact PySem.W.kia_one PySem.W.kitx_float I.kIn True.intro e (fun z => nomatch z) h
  | @lst a xs ea =>
    cases (show u = Value.ref a from rx)
    obtain ⟨_, _, n, _, h1⟩ := (show ObjOk X.prog X.w H s.heap a (.lst xs) from I.hok a _ ea)
    exact PySem.W.kia_one PySem.W.kitx_list I.kIn ⟨_, h1, rfl⟩ e (fun z => nomatch z) h
  | @frz a ob xs ea =>
    cases (show u = Value.ref a from rx)
    obtain ⟨_, _, _, n, _, h1⟩ := (show ObjOk X.prog X.w H s.heap a (.frz ob (.lst xs)) from I.hok a _ ea)
    exact PySem.W.kia_one PySem.W.kitx_list I.kIn ⟨_, h1, rfl⟩ e (fun z => nomatch z) h
  | @tup a xs ea =>
    cases (show u = Value.ref a from rx)
    obtain ⟨_, _, _, p⟩ := (show ObjOk X.prog X.w H s.heap a (.tup xs) from I.hok a _ ea)
    obtain ⟨o, h1, h2, _⟩ := p
    exact PySem.W.kia_one PySem.W.kitx_tuple I.kIn ⟨o, h1, h2⟩ e (fun z => nomatch z) h
  | @dK a kvs ea =>
    cases (show u = Value.ref a from rx)
    obtain ⟨_, _, vs, _, p⟩ := (show ObjOk X.prog X.w H s.heap a (.dK kvs) from I.hok a _ ea)
    obtain ⟨o, es, ep, h1, h2, _⟩ := p
    exact PySem.W.kia_one PySem.W.kitx_dict I.kIn ⟨o, h1, h2.1⟩ e (fun z => nomatch z) h
  | @dT a kvs ea =>
    cases (show u = Value.ref a from rx)
    obtain ⟨_, _, xs, _, o, es, ep, h1, h2, _⟩ := (show ObjOk X.prog X.w H s.heap a (.dT kvs) from I.hok a _ ea)
    exact PySem.W.kia_one PySem.W.kitx_dict I.kIn ⟨o, h1, h2.1⟩ e (fun z => nomatch z) h
  | @ins a C dx fs ea cl ha hn htk hm =>
    cases (show u = Value.ref a from rx)
    obtain ⟨mA, O, _⟩ := ins_get I.hok ea
    obtain ⟨od, J, _⟩ := O.look
    exact PySem.W.kia_one (PySem.W.kitx_own (cl.get _) cl.hd ha hn htk hm) I.kIn J e (fun z => nomatch z) h
end
end L2
namespace L2
open PySem PySem.Spec PyProof.Rows
structure Room (k : Nat) (A : Around) : Prop where
  hd : A.handled = none
  dp : A.depth + 3 * k + 5 < recursionLimit
  un : A.units + 16 * k + 200 < cLine
theorem Room.mono {j k : Nat} {A : Around} (r : Room k A) (h : j ≤ k) : Room j A := ⟨r.hd, by have := r.dp; omega, by have := r.un; omega⟩
theorem Room.deeper {k : Nat} {A : Around} (r : Room (k + 1) A) (env : Env) : Room k (A.deeper env) :=
  ⟨r.hd, by have := r.dp; show A.depth + 1 + 3 * k + 5 < _; omega, by have := r.un; show A.units + 3 + 16 * k + 200 < _; omega⟩
theorem make_depth {A : Around} {C : Addr} {us : List Value} {kw : List (Str × Value)} : (A.under (.builtin "type.__call__" ⟨.ref C :: us, kw⟩)).depth = A.depth + 1 := by
  first | rfl | simp [Around.under, Code.weight, Code.isCreation, Code.isGuard, Code.isCaller, Code.frames, Code.isFrame, guardIds]
theorem make_units {A : Around} {C : Addr} {us : List Value} {kw : List (Str × Value)} : (A.under (.builtin "type.__call__" ⟨.ref C :: us, kw⟩)).units = A.units + 1 := by
  first | rfl | simp [Around.under, Code.cUnits, Code.frames, Code.isFrame]
theorem Room.make {k : Nat} {A : Around} (r : Room (k + 1) A) (C : Addr) (us : List Value) (kw : List (Str × Value)) : Room k (A.under (.builtin "type.__call__" ⟨.ref C :: us, kw⟩)) :=
  ⟨r.hd, by have := r.dp; rw [make_depth]; omega, by have := r.un; rw [make_units]; omega⟩
theorem Room.depth {k : Nat} {A : Around} (r : Room k A) : A.depth < recursionLimit := by have := r.dp; omega
noncomputable def tNil : TA := fun _ H Q => Q [] H
noncomputable def tCons (ta : TE) (tr : TA) : TA := fun σ H Q => ta σ H fun x H1 => tr σ H1 fun xs H2 => Q (x :: xs) H2
section
variable {X : Cx} {e : Expr} {es : List Expr} {te : TE} {t : TA} {pos : Pos}
theorem pa_nil : PA X [] tNil := fun _ _ _ _ H Q I h => Calls.spliced_nil ⟨[], H, I, .nil, h⟩
theorem pa_cons (ha : PE X e te) (hr : PA X es t) (hs : starEach (e :: es) X.env = (false, eval e X.env) :: starEach es X.env := by rfl) : PA X (e :: es) (tCons te t) := by
  intro pos pins s σ H Q I h
  rw [hs]
  show wpAny _ _ (spliced ((false, eval e X.env) :: backTo pos (starEach es X.env))) _ _ s
  refine Calls.spliced_cons (thn (ha pins s σ H _ I h) fun u s1 zz => ?_)
  obtain ⟨x, H1, I1, r1, q1⟩ := zz
  exact thn (hr pos pins s1 σ H1 _ I1 q1) fun us s2 ⟨xs, H2, I2, r2, q2⟩ => ⟨x :: xs, H2, I2, .cons r1 r2, q2⟩
noncomputable def tTup (t : TA) : TE := fun σ H Q => t σ H fun xs H1 => xs.length ≤ sizeLine ∧ ∀ p, H1 p = none → Q (.ref p) (upd H1 p (.tup xs))
noncomputable def tLst (t : TA) : TE := fun σ H Q => t σ H fun xs H1 => xs.length ≤ sizeLine ∧ ∀ p, H1 p = none → Q (.ref p) (upd H1 p (.lst xs))
theorem pe_tup {x1} (h : PA X es t) : PE X (.Tuple es x1 pos) (tTup t) := by
  intro pins s σ H Q I hq
  refine wpAny_Tuple_spliced (thn (h pos pins s σ H _ I hq) fun us s1 ⟨xs, H1, I1, r, z, q⟩ => ⟨by rw [← r.length]; exact z, ?_⟩)
  have hf : H1 s1.heap.objs.size = none := I1.hok.fresh (Nat.le_refl _)
  refine ⟨.ref s1.heap.objs.size, upd H1 s1.heap.objs.size (.tup xs), I1.laid (t' := s1.toks) (fun b u e => Heap.get?_push_of_some _ e) (Nat.le_refl _) ?_, rfl, q _ hf⟩
  exact ⟨z, us, r, ⟨_, Heap.get?_push_size _ rfl, rfl, _, rfl⟩⟩
theorem pe_lst (h : PA X es t) : PE X (.List es pos) (tLst t) := by
  intro pins s σ H Q I hq
  refine wpAny_List_spliced (thn (h pos pins s σ H _ I hq) fun us s1 ⟨xs, H1, I1, r, z, q⟩ => ⟨by rw [← r.length]; exact z, ?_⟩)
  have hf : H1 s1.heap.objs.size = none := I1.hok.fresh (Nat.le_refl _)
  refine ⟨.ref s1.heap.objs.size, upd H1 s1.heap.objs.size (.lst xs), I1.laid (t' := s1.toks) (fun b u e => Heap.get?_push_of_some _ e) (Nat.le_refl _) ?_, rfl, q _ hf⟩
  exact ⟨z, us, 0, r, Heap.get?_push_size _ rfl⟩
end
noncomputable abbrev Sp := List V → Hp → VK → XK → Prop
noncomputable abbrev CXT := List Env → Hp → Shared → XK → Value → Shared → Prop
structure Env0 (P : Program) (w : World) (K : PySem.W.Frag) (mg : Str → Option Value) (base : Heap) (A : Around) (outer : List Env) (s : Shared) (H : Hp) : Prop where
  frames : A.frames = some outer
  mod : Mod K mg base
  bs : ∀ b o, base.get? b = some o → s.heap.get? b = some o ∧ H b = none
  bsz : base.objs.size ≤ s.heap.objs.size
  funs : s.heap.FunFrames base outer
  frf : ∀ b ∈ frs outer, H b = none
  hok : HOk P w H s.heap
  bare : AllBare s.gens
noncomputable def CE (outer : List Env) (P : Program) (w : World) (H : Hp) (s : Shared) (Q : VK) (u : Value) (s' : Shared) : Prop :=
  ∃ v H', s'.os = s.os ∧ AllBare s'.gens ∧ Un (frs outer) [] H H' s.heap s'.heap ∧ HOk P w H' s'.heap ∧ RelV v u ∧ Q v H'
noncomputable def CR (CX : CXT) (outer : List Env) (P : Program) (w : World) (H : Hp) (s : Shared) (Q : VK) (E : XK) (r : Result) (s' : Shared) : Prop :=
  match r with
  | .ok (.ret u) => CE outer P w H s Q u s'
  | .ok _ => False
  | .error e => CX outer H s E e s'
structure FnOk (P : Program) (w : World) (K : PySem.W.Frag) (mg : Str → Option Value) (base : Heap) (CX : CXT) (k : Nat) (f : Addr) (fd : FuncData) (ps : List Str) (sp : Sp) : Prop where
  len : ∀ vs H Q E, sp vs H Q E → vs.length = ps.length
  run : ∀ (A : Around) (outer : List Env) (s : Shared) (H : Hp) (args : Args) (us : List Value) (vs : List V) (Q : VK) (E : XK), Room k A → Env0 P w K mg base A outer s H → BindsTo s fd args (ps.zip us) → Vals vs us → sp vs H Q E →
    codeAny (model P w) A (.call (.ref f) args) (CR CX outer P w H s Q E) s
theorem FnOk.imp {P : Program} {w : World} {K : PySem.W.Frag} {mg : Str → Option Value} {base : Heap} {CX : CXT} {k : Nat} {f : Addr} {fd : FuncData} {ps : List Str} {sp sp' : Sp} (F : FnOk P w K mg base CX k f fd ps sp)
    (h : ∀ vs H Q E, sp' vs H Q E → sp vs H Q E) : FnOk P w K mg base CX k f fd ps sp' :=
  ⟨fun vs H Q E q => F.len vs H Q E (h _ _ _ _ q), fun A outer s H args us vs Q E hr he hb hv hs => F.run A outer s H args us vs Q E hr he hb hv (h _ _ _ _ hs)⟩
theorem Env0.make {P : Program} {w : World} {K : PySem.W.Frag} {mg : Str → Option Value} {base : Heap} {A : Around} {outer : List Env} {s : Shared} {H : Hp} (e : Env0 P w K mg base A outer s H) (C : Addr) (us : List Value) (kw : List (Str × Value)) :
    Env0 P w K mg base (A.under (.builtin "type.__call__" ⟨.ref C :: us, kw⟩)) outer s H := ⟨by first | exact e.frames | (simpa [Around.under, Code.envs, Code.isFrame, pushEnvs] using e.frames), e.mod, e.bs, e.bsz, e.funs, e.frf, e.hok, e.bare⟩
section
variable {X : Cx} {pins : List (Addr × Obj)} {σ : St} {H : Hp} {s s' : Shared}
theorem Inv.env0 (I : Inv X pins σ H s) : Env0 X.prog X.w X.K X.mg X.base X.A X.stack s H :=
  ⟨I.ok.frames, I.ok.mod, I.bs, Nat.le_trans I.ok.bsz I.sz, I.stack, I.stkFree, I.hok, I.bare⟩
theorem Inv.after {Q : VK} {u : Value} (I : Inv X pins σ H s) (h : CE X.stack X.prog X.w H s Q u s') : EP X pins σ Q u s' := by
  obtain ⟨v, H', os, bare, un, hok, r, q⟩ := h
  obtain ⟨hh, g, d, t, os'⟩ := s'
  obtain rfl : os' = s.os := os
  exact ⟨v, H', I.call (h' := hh) (g' := g) (d' := d) (t' := t) (ch := []) un hok bare (fun b z => absurd z (by simp)), r, q⟩
end
noncomputable def tCall (sp : Sp) (dvs : List V) (E : XK) (t : TA) : TE := fun σ H Q => t σ H fun vs H1 => sp (vs ++ dvs) H1 Q E
noncomputable def tMeth (C : Addr) (m : Str) (sp : Sp) (dvs : List V) (E : XK) (ta : TE) (t : TA) : TE := fun σ H Q => ta σ H fun x H1 => ∃ a dx fs, x = .ref a ∧ H1 a = some (.ins C dx fs) ∧ fs.lookup m = none ∧
  t σ H1 fun vs H2 => sp (x :: (vs ++ dvs)) H2 Q E
noncomputable def tMake (C : Addr) (sp : Sp) (dvs : List V) (E : XK) (t : TA) : TE := fun σ H Q => t σ H fun vs H1 => ∀ x dx, H1 x = none → H1 dx = none → dx ≠ x →
  sp (.ref x :: (vs ++ dvs)) (upd (upd H1 dx (.own x)) x (.ins C dx [])) (fun v H2 => v = .non ∧ Q (.ref x) H2) E
noncomputable def Binds (K : PySem.W.Frag) (fd : FuncData) (ps : List Str) (ds : List Value) : Prop :=
  ∀ (s : Shared) (us : List Value), K.In s.heap → (us ++ ds).length = ps.length → BindsTo s fd ⟨us, []⟩ (ps.zip (us ++ ds))
theorem Binds.all {K : PySem.W.Frag} {fd : FuncData} {ps : List Str} (h : ∀ us : List Value, us.length = ps.length → bindArgs fd ⟨us, []⟩ = pure (ps.zip us)) : Binds K fd ps [] := fun s us _ hl => by
  rw [List.append_nil] at hl ⊢
  exact .of_eq (h us hl)
noncomputable def Passes (CX : CXT) (X : Cx) (E : XK) : Prop := ∀ (pins : List (Addr × Obj)) (σ : St) (H : Hp) (s : Shared) (e : Value) (s' : Shared), Inv X pins σ H s → CX X.stack H s E e s' → X.xe e s'
section
variable {X : Cx} {CX : CXT} {k : Nat} {f C : Addr} {fd : FuncData} {ps : List Str} {sp : Sp} {dvs : List V} {ds : List Value} {E : XK} {x m : Str} {p pos apos : Pos} {e o : Expr} {es : List Expr} {ta : TE} {t : TA}
theorem run_fn {pins : List (Addr × Obj)} {σ : St} {H : Hp} {s : Shared} {Q : VK} {us : List Value} {vs : List V} (F : FnOk X.prog X.w X.K X.mg X.base CX k f fd ps sp) (hr : Room k X.A) (hb : Binds X.K fd ps ds) (hd : Vals dvs ds) (hx : Passes CX X E)
    (I : Inv X pins σ H s) (r : Vals vs us) (h : sp (vs ++ dvs) H Q E) : wpAny (model X.prog X.w) X.A (call (.ref f) us) (EP X pins σ Q) X.xe s := by
  have r2 : Vals (vs ++ dvs) (us ++ ds) := r.append hd
  have hl : (us ++ ds).length = ps.length := by rw [← r2.length]; exact F.len _ _ _ _ h
  refine wpAny_call (codeAny_mono (F.run X.A X.stack s H ⟨us, []⟩ (us ++ ds) (vs ++ dvs) Q E hr I.env0 (hb s us I.kIn hl) r2 h) fun r s' hq => ?_)
  cases r with
  | error e => exact hx pins σ H s e s' I hq
  | ok fl =>
    cases fl with
    | ret u => exact I.after hq
    | next => exact False.elim hq
    | brk => exact False.elim hq
    | cont => exact False.elim hq
theorem pe_call (F : FnOk X.prog X.w X.K X.mg X.base CX k f fd ps sp) (hr : Room k X.A) (hg : Gl X x) (hm : X.mg x = some (.ref f)) (hk : PySem.W.keepIn X.K (.ref f) = true) (hb : Binds X.K fd ps ds) (hd : Vals dvs ds) (hx : Passes CX X E)
    (ha : PA X (e :: es) t) (hdb : (x == ("__debug__" : Str)) = false := by decide) (he : starEach (e :: es) X.env = (false, eval e X.env) :: starEach es X.env := by rfl) (hpl : (backTo pos (starEach es X.env)).any (·.1) = false := by rfl) :
    PE X (.Call (.Name x p) (e :: es) [] pos) (tCall sp dvs E t) := by
  intro pins s σ H Q I h
  refine wpAny_Call_Name_kw (ld_glob I hg hm ?_ hdb)
  refine PySem.W.callWith_K (h₀ := X.base) I.ok.mod.kin hk (thn (ha pos pins s σ H _ I h) fun us s1 ⟨vs, H1, I1, r, q⟩ => ⟨I1.kIn, ?_⟩) he hpl
  exact run_fn F hr hb hd hx I1 r q
theorem pe_meth {pl : Sem Bool} (he : PE X o ta) (c : Cls X.K C) (hm : Meth X.K C m f) (F : FnOk X.prog X.w X.K X.mg X.base CX k f fd ps sp) (hr : Room k X.A) (hb : Binds X.K fd ps ds) (hd : Vals dvs ds) (hx : Passes CX X E) (ha : PA X (e :: es) t)
    (hst : starEach (e :: es) X.env = (false, eval e X.env) :: starEach es X.env := by rfl) (hpl : (backTo pos (starEach es X.env)).any (·.1) = false := by rfl)
    (ht : eval (.Call (.Attribute o m apos) (e :: es) [] pos) X.env = (do
      let ov ← eval o X.env
      standAt apos.atName
      let (f, first) ← holding [ov] (getMethod ov m pl)
      callWith pos f first (backTo pos (starEach (e :: es) X.env)) (backToKw pos (keywordEach [] X.env))) := by rfl) :
    PE X (.Call (.Attribute o m apos) (e :: es) [] pos) (tMeth C m sp dvs E ta t) := by
  intro pins s σ H Q I h
  refine PySem.W.methodCall_KW (pl := pl) (thn (he pins s σ H _ I h) fun u s1 ⟨x, H1, I1, rx, a, dx, fs, ex, ea, l, q⟩ => ?_) ht
  subst ex
  obtain rfl : u = Value.ref a := rx
  refine getmeth_ok I1 ea c hm l ?_
  refine PySem.W.callWith_K (first := [.ref a]) (h₀ := X.base) I.ok.mod.kin hm.kp (thn (ha pos pins s1 σ H1 _ I1 q) fun us s2 ⟨vs, H2, I2, r, q2⟩ => ⟨I2.kIn, ?_⟩) hst hpl
  exact run_fn (us := .ref a :: us) (vs := .ref a :: vs) F hr hb hd hx I2 (.cons rfl r) q2
theorem pe_meth0 {pl : Sem Bool} (he : PE X o ta) (c : Cls X.K C) (hm : Meth X.K C m f) (F : FnOk X.prog X.w X.K X.mg X.base CX k f fd ps sp) (hr : Room k X.A) (hb : Binds X.K fd ps ds) (hd : Vals dvs ds) (hx : Passes CX X E)
    (ht : eval (.Call (.Attribute o m apos) [] [] pos) X.env = (do
      let ov ← eval o X.env
      standAt apos.atName
      let (f, first) ← holding [ov] (getMethod ov m pl)
      callWith pos f first (backTo pos (starEach [] X.env)) (backToKw pos (keywordEach [] X.env))) := by rfl) :
    PE X (.Call (.Attribute o m apos) [] [] pos) (tMeth C m sp dvs E ta tNil) := by
  intro pins s σ H Q I h
  refine PySem.W.methodCall_KW (pl := pl) (thn (he pins s σ H _ I h) fun u s1 ⟨x, H1, I1, rx, a, dx, fs, ex, ea, l, q⟩ => ?_) ht
  subst ex
  obtain rfl : u = Value.ref a := rx
  refine getmeth_ok I1 ea c hm l ?_
  exact PySem.W.callWith_K0 (first := [.ref a]) I1.kIn hm.kp (run_fn (us := [.ref a]) (vs := [.ref a]) F hr hb hd hx I1 (.cons rfl .nil) q)
structure Mk (K : PySem.W.Frag) (C f : Addr) : Prop where
  makes : PySem.W.makesIn K C = true
  init : PySem.W.findIn K (.ref C) "__init__" = some (some (.ref f))
  fn : PySem.W.isFn K (.ref f) = true
  kp : PySem.W.keepIn K (.ref C) = true
theorem run_make {pins : List (Addr × Obj)} {σ : St} {H : Hp} {s : Shared} {Q : VK} {us : List Value} {vs : List V} (M : Mk X.K C f) (F : FnOk X.prog X.w X.K X.mg X.base CX k f fd ps sp) (hr : Room (k + 1) X.A) (hb : Binds X.K fd ps ds) (hd : Vals dvs ds)
    (hx : Passes CX X E) (I : Inv X pins σ H s) (r : Vals vs us)
    (h : ∀ x dx, H x = none → H dx = none → dx ≠ x → sp (.ref x :: (vs ++ dvs)) (upd (upd H dx (.own x)) x (.ins C dx [])) (fun v H2 => v = .non ∧ Q (.ref x) H2) E) :
    wpAny (model X.prog X.w) X.A (call (.ref C) us) (EP X pins σ Q) X.xe s := by
  have hq := h (s.heap.objs.size + 1) s.heap.objs.size (I.hok.fresh (Nat.le_succ _)) (I.hok.fresh (Nat.le_refl _)) (Nat.ne_of_lt (Nat.lt_succ_self _))
  have I2 := Inv.made (C := C) I
  have r2 : Vals (V.ref (s.heap.objs.size + 1) :: (vs ++ dvs)) (Value.ref (s.heap.objs.size + 1) :: (us ++ ds)) := .cons rfl (r.append hd)
  have hl : (Value.ref (s.heap.objs.size + 1) :: us ++ ds).length = ps.length := by
    have e := r2.length
    rw [F.len _ _ _ _ hq] at e
    exact e.symm
  refine wpAny_call (make_map (f := f) I.kIn M.makes M.init (beq_iff_eq.mp M.fn) (codeAny_mono (F.run _ X.stack _ _ ⟨Value.ref (s.heap.objs.size + 1) :: us, []⟩ (Value.ref (s.heap.objs.size + 1) :: (us ++ ds)) _ _ E (hr.make C us [])
    (I2.env0.make C us []) (hb _ (Value.ref (s.heap.objs.size + 1) :: us) I2.kIn hl) r2 hq) fun r s' hq' => ?_))
  cases r with
  | error e => exact hx pins σ _ _ e s' I2 hq'
  | ok fl =>
    cases fl with
    | ret u =>
      obtain ⟨v, H', I3, rv, ev, q3⟩ := I2.after hq'
      subst ev
      exact ⟨rv, ⟨V.ref (s.heap.objs.size + 1), H', I3, rfl, q3⟩⟩
    | next => exact False.elim hq'
    | brk => exact False.elim hq'
    | cont => exact False.elim hq'
theorem pe_make (M : Mk X.K C f) (F : FnOk X.prog X.w X.K X.mg X.base CX k f fd ps sp) (hr : Room (k + 1) X.A) (hg : Gl X x) (hm : X.mg x = some (.ref C)) (hb : Binds X.K fd ps ds) (hd : Vals dvs ds) (hx : Passes CX X E)
    (ha : PA X (e :: es) t) (hdb : (x == ("__debug__" : Str)) = false := by decide) (he : starEach (e :: es) X.env = (false, eval e X.env) :: starEach es X.env := by rfl) (hpl : (backTo pos (starEach es X.env)).any (·.1) = false := by rfl) :
    PE X (.Call (.Name x p) (e :: es) [] pos) (tMake C sp dvs E t) := by
  intro pins s σ H Q I h
  refine wpAny_Call_Name_kw (ld_glob I hg hm ?_ hdb)
  refine PySem.W.callWith_K (h₀ := X.base) I.ok.mod.kin M.kp (thn (ha pos pins s σ H _ I h) fun us s1 ⟨vs, H1, I1, r, q⟩ => ⟨I1.kIn, ?_⟩) he hpl
  exact run_make M F hr hb hd hx I1 r q
end
section
variable {X : Cx} {CX : CXT} {k : Nat} {f C : Addr} {fd : FuncData} {ps ks : List Str} {sp : Sp} {E : XK} {x m : Str} {p pos apos kpos : Pos} {e o : Expr} {es : List Expr} {kws : List Keyword} {te ta : TE} {t tk : TA} {nm : Option Str}
variable {g : List Value → List Value → List Value} {gV : List V → List V → List V}
end
structure FnScope (N P : List Str) (sc : Scope) : Prop where
  kind : sc.kind = .function
  co : sc.isCoroutine = false
  gen : sc.isGenerator = false
  nd : N.Nodup
  pre : N.take P.length = P
  par : ∀ x ∈ P, sc.names.lookup x = some .local ∨ sc.names.lookup x = some .cell
  nofree : ∀ y ∈ sc.names, y.2 ≠ .free
theorem bindL_out {kindOf : Str → Option NameKind} {x : Str} : ∀ {binds : List (Str × Value)} {m : Str → Option Value}, (∀ v, (x, v) ∉ binds) → bindL kindOf binds m x = m x
  | [], _, _ => rfl
  | (n, v) :: r, m, h => by
    unfold bindL
    rw [bindL_out fun w hw => h w (List.mem_cons_of_mem _ hw)]
    split
    · have : x ≠ n := by rintro rfl; exact h v List.mem_cons_self
      simp [this]
    · rfl
theorem bindC_out {kindOf : Str → Option NameKind} {x : Str} : ∀ {binds : List (Str × Value)} {m : Str → Option Value}, (∀ v, (x, v) ∉ binds) → bindC kindOf binds m x = m x
  | [], _, _ => rfl
  | (n, v) :: r, m, h => by
    unfold bindC
    rw [bindC_out fun w hw => h w (List.mem_cons_of_mem _ hw)]
    split
    · rfl
    · have : x ≠ n := by rintro rfl; exact h v List.mem_cons_self
      simp [this]
theorem bindL_get {kindOf : Str → Option NameKind} {x : Str} {v : Value} : ∀ {P : List Str} {vs : List Value} {i : Nat} {m : Str → Option Value}, P.Nodup → P[i]? = some x → vs[i]? = some v → kindOf x = some .local →
    bindL kindOf (P.zip vs) m x = some v
  | [], _, _, _, _, h, _, _ => by simp at h
  | _ :: _, [], _, _, _, _, h, _ => by simp at h
  | p :: P, w :: vs, 0, m, nd, h1, h2, hk => by
    simp at h1 h2; subst h1; subst h2
    show bindL kindOf ((p, w) :: P.zip vs) m p = _
    unfold bindL
    rw [bindL_out fun v hv => (List.nodup_cons.mp nd).1 (List.of_mem_zip hv).1, if_pos hk]
    simp
  | p :: P, w :: vs, i + 1, m, nd, h1, h2, hk => by
    show bindL kindOf ((p, w) :: P.zip vs) m x = _
    unfold bindL
    exact bindL_get (i := i) (List.nodup_cons.mp nd).2 (by simpa using h1) (by simpa using h2) hk
theorem bindC_get {kindOf : Str → Option NameKind} {x : Str} {v : Value} : ∀ {P : List Str} {vs : List Value} {i : Nat} {m : Str → Option Value}, P.Nodup → P[i]? = some x → vs[i]? = some v → kindOf x ≠ some .local →
    bindC kindOf (P.zip vs) m x = some v
  | [], _, _, _, _, h, _, _ => by simp at h
  | _ :: _, [], _, _, _, _, h, _ => by simp at h
  | p :: P, w :: vs, 0, m, nd, h1, h2, hk => by
    simp at h1 h2; subst h1; subst h2
    show bindC kindOf ((p, w) :: P.zip vs) m p = _
    unfold bindC
    rw [bindC_out fun v hv => (List.nodup_cons.mp nd).1 (List.of_mem_zip hv).1, if_neg hk]
    simp
  | p :: P, w :: vs, i + 1, m, nd, h1, h2, hk => by
    show bindC kindOf ((p, w) :: P.zip vs) m x = _
    unfold bindC
    exact bindC_get (i := i) (List.nodup_cons.mp nd).2 (by simpa using h1) (by simpa using h2) hk
noncomputable def start (N : List Str) (vs : List V) : St := vs.map some ++ List.replicate (N.length - vs.length) none
noncomputable def cxOf (CX : CXT) (P : Program) (w : World) (K : PySem.W.Frag) (mg : Str → Option Value) (base : Heap) (N : List Str) (qual : Str) (scope : Scope) (f : Addr) (cd : Value) (A : Around) (outer : List Env) (s : Shared) (H : Hp) (E : XK) : Cx where
  prog := P
  w := w
  K := K
  mg := mg
  base := base
  A := A.deeper (envOfC qual scope s.heap.objs.size f cd)
  N := N
  s₀ := s
  H₀ := H
  env := envOfC qual scope s.heap.objs.size f cd
  outer := outer
  stack := envOfC qual scope s.heap.objs.size f cd :: outer
  ex := []
  calm := true
  fn := fun _ => true
  pn := []
  xe := fun e s' => wpAny (model P w) (A.deeper (envOfC qual scope s.heap.objs.size f cd)) (leaving (envOfC qual scope s.heap.objs.size f cd) e) (fun _ s'' => CX outer H s E e s'') (fun e' s'' => CX outer H s E e' s'') s'
theorem cell_has {sc : Scope} {n : Nat} {x : Str} (h : sc.names.lookup x = some .cell) : ∃ c, (cellsFrom n sc.names []).lookup x = some c := by
  have q := PySem.W.cellsFrom_some sc.names n [] (.inl h)
  exact Option.isSome_iff_exists.mp q
theorem inv_start {CX : CXT} {P : Program} {w : World} {K : PySem.W.Frag} {mg : Str → Option Value} {base : Heap} {N ps : List Str} {qual : Str} {scope : Scope} {f : Addr} {cd : Value} {A : Around} {outer : List Env} {s s1 : Shared} {H : Hp} {E : XK} {us : List Value} {vs : List V}
    (S : FnScope N ps scope) (hd : A.handled = none) (e0 : Env0 P w K mg base A outer s H) (hl : vs.length = ps.length) (r : Vals vs us)
    (x : InCallC s s.heap.objs.size (bindL (envOfC qual scope s.heap.objs.size f cd).kindOf (ps.zip us) fun _ => none) (cellsFrom (s.heap.objs.size + 1) scope.names []) (bindC (envOfC qual scope s.heap.objs.size f cd).kindOf (ps.zip us) fun _ => none) s1) :
    Inv (cxOf CX P w K mg base N qual scope f cd A outer s H E) [] (start N vs) H s1 := by
  have hpl : ps.length ≤ N.length := by have := congrArg List.length S.pre; rw [List.length_take] at this; omega
  obtain ⟨h1, tk, rfl, hk⟩ := x.done
  have noA : ∀ b : Addr, b ∉ (cxOf CX P w K mg base N qual scope f cd A outer s H E).ex := fun b z => absurd (show b ∈ ([] : List Addr) from z) (by simp)
  refine ⟨⟨e0.mod, S.kind, rfl, rfl, Nat.le_refl _, fun y z c h1 h2 => ?_, fun y hy => ?_, fun y c _ h => ?_, fun _ => hd, Around.frames_deeper e0.frames, .inr ⟨rfl, rfl⟩, fun b z => absurd z (noA b), e0.bs, e0.bsz, fun b _ _ => noA b, fun b z => absurd z (noA b), e0.funs, e0.frf⟩,
    rfl, e0.bare, Un.kept hk, ⟨_, x.toInCall.ns, fun i y v h1 h2 h3 => ?_⟩, fun y c h => ⟨_, x.cell y c h⟩, e0.hok.fresh (Nat.le_refl _), fun y c h => ?_, fun p hp => absurd (show p ∈ ([] : List (Addr × Obj)) from hp) (by simp), e0.hok.kept hk, ?_⟩
  · exact name_of_addr x.apart (PySem.mem_of_lookup h1) (PySem.mem_of_lookup h2)
  · have hy : scope.names.lookup y = some .cell ∨ scope.names.lookup y = some .free := hy
    rcases hy with hy | hy
    · exact cell_has hy
    · exact absurd rfl (S.nofree _ (PySem.mem_of_lookup hy))
  · exact Nat.le_of_lt (x.above y c (PySem.mem_of_lookup h))
  · have hi : i < vs.length := by
      unfold start at h2
      by_cases hi : i < vs.length
      · exact hi
      · rw [List.getElem?_append_right (by simpa using hi)] at h2
        rw [List.getElem?_replicate] at h2
        split at h2 <;> cases h2
    have ha : vs[i]? = some v := by
      unfold start at h2
      rw [List.getElem?_append_left (by simpa using hi), List.getElem?_map] at h2
      cases e : vs[i]? with
      | none => rw [e] at h2; cases h2
      | some a => rw [e] at h2; cases h2; rfl
    obtain ⟨u, hu, rv⟩ := r.get ha
    have hp : ps[i]? = some y := by
      rw [← S.pre, List.getElem?_take_of_lt (by omega)]; exact h1
    have ndP : ps.Nodup := by rw [← S.pre]; exact S.nd.sublist (List.take_sublist _ _)
    refine ⟨u, rv, ?_⟩
    rcases S.par y (List.mem_of_getElem? hp) with k | k
    · exact .inl ⟨k, bindL_get ndP hp hu k⟩
    · obtain ⟨c, e⟩ := cell_has (n := s.heap.objs.size + 1) k
      refine .inr ⟨.inl k, c, e, ?_⟩
      have q := x.cell y c e
      rw [bindC_get ndP hp hu (by show scope.names.lookup y ≠ _; rw [k]; decide)] at q
      exact q
  · exact e0.hok.fresh (Nat.le_of_lt (x.above y c (PySem.mem_of_lookup h)))
  · unfold start
    show _ = N.length
    rw [List.length_append, List.length_map, List.length_replicate]
    omega
theorem fn_of {CX : CXT} {P : Program} {w : World} {K : PySem.W.Frag} {mg : Str → Option Value} {base : Heap} {k : Nat} {f : Addr} {name qual : Str} {params : Arguments} {body : List Stmt} {scope : Scope} {dV kV doc pm cdv ct oc : Value} {an od : Option Addr}
    {osl : Array (Option Value)} {N ps : List Str} {sp : Sp} (lk : K.lookup f = some ⟨oc, od, .func (PySem.W.fnOf name qual params body scope dV kV doc pm an cdv ct), osl⟩) (hcd : PySem.W.codeIn K cdv qual = true) (S : FnScope N ps scope)
    (len : ∀ vs H Q E, sp vs H Q E → vs.length = ps.length)
    (hbody : ∀ (A : Around) (outer : List Env) (s : Shared) (H : Hp) (vs : List V) (Q : VK) (E : XK), Room k (A.deeper (envOfC qual scope s.heap.objs.size f cdv)) → sp vs H Q E →
      ∃ t, PSs (cxOf CX P w K mg base N qual scope f cdv A outer s H E) body t ∧ t { nx := fun _ H' => Q .non H', rt := Q } (start N vs) H) :
    FnOk P w K mg base CX (k + 1) f (PySem.W.fnOf name qual params body scope dV kV doc pm an cdv ct) ps sp := by
  refine ⟨len, fun A outer s H args us vs Q E hr e0 hb r hsp => ?_⟩
  have hl := len _ _ _ _ hsp
  have KX : K.In s.heap := e0.mod.kin.keeps fun b o e => (e0.bs b o e).1
  have lim : s.heap.NoLimit := e0.mod.nolimit.keeps fun b o e => (e0.bs b o e).1
  have hkind : ∀ y ∈ ps.zip us, scope.names.lookup y.1 = some .local ∨ (scope.names.lookup y.1 = some .cell ∧ ((cellsFrom (s.heap.objs.size + 1) scope.names []).lookup y.1).isSome = true) := fun ⟨n, v⟩ hy => by
    rcases S.par n (List.of_mem_zip hy).1 with q | q
    · exact .inl q
    · exact .inr ⟨q, PySem.W.cellsFrom_some _ _ _ (.inl q)⟩
  refine codeAny_call_function hr.depth (KX _ _ lk) rfl S.co S.gen rfl (PySem.W.codeRec_of KX hcd) (hb _ _ _ _ ?_)
  refine wpAny_newFunctionEnv_cells S.kind hkind fun env he s1 x => ?_
  subst he
  refine ⟨lim.keeps x.toInCall.keep, codeAny_func ?_⟩
  obtain ⟨t, ht, hq⟩ := hbody A outer s H vs Q E (hr.deeper _) hsp
  have I : Inv (cxOf CX P w K mg base N qual scope f cdv A outer s H E) [] (start N vs) H s1 := inv_start S hr.hd e0 hl r x
  refine wpAny_mono (ht [] s1 (start N vs) H _ I hq) (fun fl s' hs => ?_) fun e s' hs => hs
  have fin : ∀ {σ' : St} {H' : Hp} {v : V} {u : Value}, Inv (cxOf CX P w K mg base N qual scope f cdv A outer s H E) [] σ' H' s' → RelV v u → Q v H' → CE outer P w H s Q u s' :=
    fun {σ' H' v u} J rv q => ⟨v, H', J.os, J.bare, J.base, J.hok, rv, q⟩
  cases fl with
  | ret u =>
    obtain ⟨v, σ', H', J, rv, q⟩ := hs
    exact fin J rv q
  | next =>
    obtain ⟨σ', H', J, q⟩ := hs
    exact fin (v := V.non) (u := Value.none) J rfl q
  | brk =>
    obtain ⟨_, _, _, q⟩ := hs
    exact False.elim q
  | cont =>
    obtain ⟨_, _, _, q⟩ := hs
    exact False.elim q
end L2
namespace L2
open PySem PySem.Spec PyProof.Rows
section
variable {X : Cx} {x : Str} {p pos : Pos} {e : Expr} {es : List Expr} {t : TA} {id T : String} {r : List V → Hp → VK → Prop}
noncomputable def tCB (r : List V → Hp → VK → Prop) (t : TA) : TE := fun σ H Q => t σ H fun vs H1 => r vs H1 Q
theorem pe_callB (hc : CallR X (.builtin id) r) (hg : Gl X x) (hm : X.mg x = none) (hv : bootBuiltins x = some (.builtin id)) (ha : PA X (e :: es) t) (hn : x ≠ "__name__" := by decide) (hdb : (x == ("__debug__" : Str)) = false := by decide)
    (he : starEach (e :: es) X.env = (false, eval e X.env) :: starEach es X.env := by rfl) (hpl : (backTo pos (starEach es X.env)).any (·.1) = false := by rfl) : PE X (.Call (.Name x p) (e :: es) [] pos) (tCB r t) := by
  intro pins s σ H Q I h
  refine wpAny_Call_Name_kw (ld_blt I hg hm hv ?_ hn hdb)
  exact PyProof.Rows.callWith_builtin1 (thn (ha pos pins s σ H _ I h) fun us s1 ⟨vs, H1, I1, r1, q1⟩ => hc pins s1 σ H1 vs us Q I1 r1 q1) he hpl
end
end L2
namespace HT
open PySem PyProof.Rows
section
open PySem.SeqAt
open PySem.AutoSeq1 (wpAny_loadPart')
open PySem.MeetsSeq PySem.MeetsSeq2 PySem.MeetsSeq3
end
section
variable {prog : Program} {w : World} {A : Around} {E : Value → Shared → Prop} {s : Shared}
theorem cat_tup {t b : Addr} {vs ws : List Value} {Q : Value → Shared → Prop} (ht : IsTup s.heap t vs.toArray) (hb : IsTup s.heap b ws.toArray) (hv : vs ≠ [])
    (h1 : ws = [] → Q (.ref t) s) (h2 : ws ≠ [] → Q (.ref s.heap.objs.size) { s with heap := s.heap.push { cls := .type "tuple", data := .seq (vs ++ ws).toArray } })
    (hsz : vs.length + ws.length ≤ sizeLine) : wpAny (model prog w) A (binaryOp .Add (.ref t) (.ref b)) Q E s := by
  obtain ⟨⟨cls, dd, data, sl⟩, ho, hc, n, hd⟩ := id ht
  obtain ⟨⟨cls2, dd2, data2, sl2⟩, ho2, hc2, n2, hd2⟩ := id hb
  simp only at hc hd hc2 hd2
  subst hc hd hc2 hd2
  have e : vs.toArray ++ ws.toArray = (vs ++ ws).toArray := by simp
  by_cases hw : ws = []
  · exact concat_meets ⟨_, ho, rfl⟩ ⟨_, ho2, rfl⟩ noFill_tuple_add seq_tuple_add PySem.F.slot_tuple_add PySem.F.entry_tuple_add (PySem.F.args_tuple_add_2 _ _)
      (tuple_addW1 t b vs.toArray ws.toArray n n2 dd dd2 sl sl2 (by simpa using hv) (by simp [hw])) ⟨ho, ho2, h1 hw⟩
  · refine concat_meets ⟨_, ho, rfl⟩ ⟨_, ho2, rfl⟩ noFill_tuple_add seq_tuple_add PySem.F.slot_tuple_add PySem.F.entry_tuple_add (PySem.F.args_tuple_add_2 _ _)
      (tuple_addW2 t b vs.toArray ws.toArray n n2 dd dd2 sl sl2 (by simpa using hv) (by simpa using hw) (by rw [List.size_toArray, List.size_toArray]; exact hsz)) ⟨ho, ho2, ?_⟩
    rw [e]
    exact h2 hw
noncomputable def sIx (n d : Nat) : Option Int → Nat
  | none => d
  | some v => if v < 0 then (v + (n : Int)).toNat else min v.toNat n
theorem sIx_nat (n d k : Nat) : sIx n d (some (k : Int)) = min k n := by
  show (if (k : Int) < 0 then ((k : Int) + (n : Int)).toNat else min (k : Int).toNat n) = min k n
  rw [if_neg (by omega), Int.toNat_natCast]
theorem sIx_le (n d : Nat) (hd : d ≤ n) (o : Option Int) : sIx n d o ≤ n := by
  cases o with
  | none => exact hd
  | some v =>
    show (if v < 0 then (v + (n : Int)).toNat else min v.toNat n) ≤ n
    by_cases hv : v < 0
    · rw [if_pos hv]; omega
    · rw [if_neg hv]; exact Nat.min_le_right _ _
theorem clip_eq (v : Int) (n d : Nat) : (if v < 0 then max (v + (n : Int)) 0 else min v (n : Int)) = ((sIx n d (some v) : Nat) : Int) := by
  show (if v < 0 then max (v + (n : Int)) 0 else min v (n : Int)) = (((if v < 0 then (v + (n : Int)).toNat else min v.toNat n) : Nat) : Int)
  by_cases hv : v < 0
  · simp only [if_pos hv]; omega
  · simp only [if_neg hv]; omega
theorem adjust_gen (lo hi : Option Int) (n : Nat) : Builtin.Slice.sliceAdjust lo hi 1 (n : Int) = (((sIx n 0 lo : Nat) : Int), ((sIx n n hi : Nat) : Int)) := by
  have h1 : ¬ ((1 : Int) < 0) := by omega
  unfold Builtin.Slice.sliceAdjust
  simp only [h1, if_false]
  refine Prod.ext ?_ ?_
  · cases lo with
    | none => rfl
    | some v => exact clip_eq v n 0
  · cases hi with
    | none => rfl
    | some v => exact clip_eq v n n
theorem places_gen (i j : Nat) : Builtin.Slice.slicePlaces (i : Int) (j : Int) 1 = j - i := by
  unfold Builtin.Slice.slicePlaces
  have h1 : (1 : Int) > 0 := by omega
  simp only [h1, if_true, Int.ediv_one]
  split <;> omega
theorem slicePart_ {v : Value} {o : Option Int} {Q : Option Int → Shared → Prop} (p : IsPart v o) (h : Q o s) : wpAny (model prog w) A (Builtin.Slice.slicePartIndex v) Q E s := by
  cases p with
  | none => exact slicePart_none h
  | int i t => exact slicePart_int h
theorem sliceApplied_gen {sl : Addr} {vl vu : Value} {lo hi : Option Int} {n : Nat} {Q : Int × Int × Nat → Shared → Prop} (hs : s.heap.IsSliceOf sl vl vu .none) (pl : IsPart vl lo) (pu : IsPart vu hi)
    (h : Q (((sIx n 0 lo : Nat) : Int), 1, sIx n n hi - sIx n 0 lo) s) : wpAny (model prog w) A (Builtin.Slice.sliceApplied (.ref sl) (pure (n : Int))) Q E s := by
  obtain ⟨os, hos, hcs, hds⟩ := id hs
  unfold Builtin.Slice.sliceApplied Builtin.Slice.sliceFields
  refine wpAny_bind (wpAny_bind (wpAny_field hos hds (x := vl) rfl (wpAny_bind (wpAny_field hos hds (x := vu) rfl (wpAny_bind (wpAny_field hos hds (x := .none) rfl (wpAny_pure ?_)))))))
  refine wpAny_bind (slicePart_none ?_)
  show wpAny _ _ (if ((1 : Int) == 0) = true then _ else _) _ _ s
  rw [if_neg (by decide)]
  refine wpAny_bind (slicePart_ pl (wpAny_bind (slicePart_ pu (wpAny_bind (wpAny_pure ?_)))))
  show wpAny _ _ (match Builtin.Slice.sliceAdjust lo hi 1 (n : Int) with | (lo, hi) => pure (lo, (1 : Int), Builtin.Slice.slicePlaces lo hi 1)) _ _ s
  rw [adjust_gen lo hi n]
  show wpAny _ _ (pure (((sIx n 0 lo : Nat) : Int), (1 : Int), Builtin.Slice.slicePlaces ((sIx n 0 lo : Nat) : Int) ((sIx n n hi : Nat) : Int) 1)) _ _ s
  rw [places_gen]
  exact wpAny_pure h
theorem pick_gen (xs : Array Value) (i k : Nat) : ((List.range k).filterMap fun (m : Nat) => xs[((i : Int) + (m : Int) * 1).toNat]?).toArray = ((xs.toList.drop i).take k).toArray := by
  have e : (fun (m : Nat) => xs[((i : Int) + (m : Int) * 1).toNat]?) = fun m => xs[i + m]? := by
    funext m
    have : ((i : Int) + (m : Int) * 1).toNat = i + m := by omega
    rw [this]
  rw [e]
  have := pick_run xs i k
  rw [List.filterMap_map] at this
  have e2 : ((fun x => xs[x]?) ∘ fun x => i + x) = fun m => xs[i + m]? := rfl
  rw [e2] at this
  rw [this]
theorem getItem_tuple_cut {t sl : Addr} {items : Array Value} {vl vu : Value} {lo hi : Option Int} {Q : Value → Shared → Prop} (ht : IsTup s.heap t items) (hs : s.heap.IsSliceOf sl vl vu .none) (pl : IsPart vl lo) (pu : IsPart vu hi)
    (hw : ¬ (sIx items.size 0 lo = 0 ∧ sIx items.size items.size hi = items.size))
    (h : Q (.ref s.heap.objs.size) { s with heap := s.heap.push { cls := .type "tuple", data := .seq ((items.toList.drop (sIx items.size 0 lo)).take (sIx items.size items.size hi - sIx items.size 0 lo)).toArray } })
    (hsz : items.size ≤ sizeLine) : wpAny (model prog w) A (getItem (.ref t) (.ref sl)) Q E s := by
  have htake : sizeOk (.seq ((items.toList.drop (sIx items.size 0 lo)).take (sIx items.size items.size hi - sIx items.size 0 lo)).toArray) := by
    show ((items.toList.drop (sIx items.size 0 lo)).take (sIx items.size items.size hi - sIx items.size 0 lo)).toArray.size ≤ sizeLine
    rw [List.size_toArray, List.length_take, List.length_drop, Array.length_toList]
    omega
  have hj : sIx items.size items.size hi ≤ items.size := sIx_le _ _ (Nat.le_refl _) hi
  obtain ⟨os, hos, hcs, hds⟩ := id hs
  have hTs : s.TypeIs (.ref sl) "slice" := ⟨os, hos, hcs⟩
  unfold getItem
  try with_reducible refine wpAny_holding ?_
  first | refine wpAny_bind (wpAny_pure ?_) | skip
  refine wpAny_bind (wpAny_sequenceKey ht.typeIs (by decide) ?_)
  refine wpAny_bind (wpAny_callSpecial?_slot (name := Str.ofString "__getitem__") ht.typeIs PyProof.Rows.slot_tuple_getitem
    (wpAny_call_entry PyProof.Rows.slot_tuple_getitem ht.typeIs entry_tuple_getitem ?_ (args_tuple_getitem _ _)))
  show wpAny _ _ (Builtin.Tuple.tupleItemsOf (.ref t) >>= _) _ _ s
  refine wpAny_bind (tupleItemsOf_ ht ?_)
  refine wpAny_bind (wpAny_typeOf hTs ?_)
  rw [if_pos (by decide)]
  refine wpAny_bind (sliceApplied_gen hs pl pu ?_)
  have hno : ¬ ((((sIx items.size 0 lo : Nat) : Int) == 0 && (1 : Int) == 1 && (sIx items.size items.size hi - sIx items.size 0 lo) == items.size) = true) := by
    intro q
    rw [Bool.and_eq_true, Bool.and_eq_true] at q
    have q1 : ((sIx items.size 0 lo : Nat) : Int) = 0 := eq_of_beq q.1.1
    have q2 : sIx items.size items.size hi - sIx items.size 0 lo = items.size := eq_of_beq q.2
    exact hw ⟨by omega, by omega⟩
  show wpAny _ _ (if (((sIx items.size 0 lo : Nat) : Int) == 0 && (1 : Int) == 1 && (sIx items.size items.size hi - sIx items.size 0 lo) == items.size) = true then _ else _) _ _ s
  rw [if_neg hno, pick_gen]
  first
    | exact wpAny_bind (m := Builtin.Tuple.tupleExact _) (wpAny_newObj_type (wpAny_pure ⟨_, rfl, wpAny_pure h⟩) htake)
    | exact wpAny_bind (m := Builtin.Tuple.tupleExact _) (wpAny_newObj_type (wpAny_bind (wpAny_pure (wpAny_pure ⟨_, rfl, wpAny_pure h⟩))) htake)
    | exact wpAny_bind (wpAny_bind (m := Builtin.Tuple.tupleExact _) (wpAny_newObj_type (wpAny_pure (wpAny_pure ⟨_, rfl, wpAny_pure h⟩)) htake))
    | exact wpAny_bind (wpAny_bind (m := Builtin.Tuple.tupleExact _) (wpAny_newObj_type (wpAny_pure ⟨_, rfl, wpAny_pure h⟩) htake))
end
end HT
namespace L2
open PySem PySem.Spec PyProof.Rows
noncomputable abbrev TO := St → Hp → (Option Int → Hp → Prop) → Prop
noncomputable def PO (X : Cx) (e : Option Expr) (t : TO) : Prop :=
  ∀ (pins : List (Addr × Obj)) (s : Shared) (σ : St) (H : Hp) (Q : Option Int → Hp → Prop), Inv X pins σ H s → t σ H Q →
    wpAny (model X.prog X.w) X.A (evalPart e X.env) (fun u s' => ∃ o H', Inv X pins σ H' s' ∧ IsPart u o ∧ Q o H') X.xe s
noncomputable def tNoPart : TO := fun _ H Q => Q none H
noncomputable def tPart (t : TE) : TO := fun σ H Q => t σ H fun x H1 => ∃ i, x = .int i ∧ Q (some i) H1
section
variable {X : Cx} {e : Expr} {te : TE} {lo hi : Option Expr} {tl th : TO} {pos p2 : Pos}
theorem po_none : PO X none tNoPart := by
  intro pins s σ H Q I h
  rw [evalPart_none]
  exact wpAny_pure ⟨none, H, I, .none, h⟩
theorem po_some (h : PE X e te) : PO X (some e) (tPart te) := by
  intro pins s σ H Q I hw
  rw [evalPart_some]
  refine thn (h pins s σ H _ I hw) fun u s1 zz => ?_
  obtain ⟨x, H1, I1, r1, q1⟩ := zz
  obtain ⟨i, rfl, q⟩ := q1
  obtain ⟨t, rfl⟩ := r1
  exact ⟨some i, H1, I1, .int i t, q⟩
noncomputable def SlR (X : Cx) (r : V → Option Int → Option Int → Hp → VK → Prop) : Prop :=
  ∀ (pins : List (Addr × Obj)) (s : Shared) (σ : St) (H : Hp) (x : V) (v vl vu : Value) (lo hi : Option Int) (sl : Addr) (Q : VK), Inv X pins σ H s → RelV x v → s.heap.IsSliceOf sl vl vu .none → IsPart vl lo → IsPart vu hi → r x lo hi H Q →
    ∃ T id, typeLookup (.type T) "__getitem__" = pure (some (.builtin id)) ∧ s.TypeIs v T ∧ wpAny (model X.prog X.w) X.A (getItem v (.ref sl)) (EP X pins σ Q) X.xe s
noncomputable def tSl (r : V → Option Int → Option Int → Hp → VK → Prop) (te : TE) (tl th : TO) : TE := fun σ H Q => te σ H fun x H1 => tl σ H1 fun l H2 => th σ H2 fun u H3 => r x l u H3 Q
theorem pe_slice {r : V → Option Int → Option Int → Hp → VK → Prop} (hr : SlR X r) (he : PE X e te) (hl : PO X lo tl) (hu : PO X hi th) : PE X (.Subscript e (.Slice lo hi none p2) pos) (tSl r te tl th) := by
  intro pins s σ H Q I h
  refine Subscript_ (thn (he pins s σ H _ I h) fun v s1 zz => ?_)
  obtain ⟨x, H1, I1, r1, q1⟩ := zz
  refine wpAny_Slice (thn (hl pins s1 σ H1 _ I1 q1) fun vl s2 ⟨l, H2, I2, pl, q2⟩ => thn (hu pins s2 σ H2 _ I2 q2) fun vu s3 zz => ?_)
  obtain ⟨u, H3, I3, pu, q3⟩ := zz
  rw [evalPart_none]
  refine wpAny_pure ?_
  have I4 : Inv X pins σ H3 { s3 with heap := s3.heap.push { cls := .type "slice", data := .fields #[vl, vu, .none] } } := I3.kept (t' := s3.toks) fun b ob q => Heap.get?_push_of_some _ q
  obtain ⟨T, id, hT, ht, hg⟩ := hr pins { s3 with heap := s3.heap.push { cls := .type "slice", data := .fields #[vl, vu, .none] } } σ H3 x v vl vu l u s3.heap.objs.size Q I4 r1 (Heap.IsSliceOf.new ..) pl pu q3
  show wpAny (model X.prog X.w) X.A (subscriptTail e (.Slice lo hi none p2) v (.ref s3.heap.objs.size)) (EP X pins σ Q) X.xe { s3 with heap := s3.heap.push { cls := .type "slice", data := .fields #[vl, vu, .none] } }
  exact tail_any (ops := [.ref s3.heap.objs.size, v]) ht hT hg (by with_unfolding_all rfl)
noncomputable def cutV (xs : List V) (lo hi : Option Int) : List V := (xs.drop (HT.sIx xs.length 0 lo)).take (HT.sIx xs.length xs.length hi - HT.sIx xs.length 0 lo)
theorem cutV_length (xs : List V) (lo hi : Option Int) : (cutV xs lo hi).length ≤ xs.length := by
  unfold cutV
  rw [List.length_take, List.length_drop]
  omega
noncomputable def rSlT (K : PySem.W.Frag) : V → Option Int → Option Int → Hp → VK → Prop := fun x lo hi H Q => ∃ a xs, x = .ref a ∧ SqT K H a xs ∧
  ¬ (HT.sIx xs.length 0 lo = 0 ∧ HT.sIx xs.length xs.length hi = xs.length) ∧ ∀ p, H p = none → Q (.ref p) (upd H p (.tup (cutV xs lo hi)))
theorem sl_tup : SlR X (rSlT X.K) := by
  intro pins s σ H x v vl vu lo hi sl Q I rx hs pl pu h
  obtain ⟨a, xs, rfl, hx, hw, q⟩ := h
  cases rx
  obtain ⟨its, r, ht, hz⟩ := I.tuple hx
  have hlen : its.toArray.size = xs.length := by rw [List.size_toArray]; exact r.length.symm
  refine ⟨"tuple", _, PyProof.Rows.slot_tuple_getitem.lookup, ht.typeIs, ?_⟩
  refine HT.getItem_tuple_cut ht hs pl pu (by rw [hlen]; exact hw) ?_ (by rw [hlen]; exact hz)
  rw [hlen]
  refine ⟨.ref s.heap.objs.size, _, I.laid (t' := s.toks) (o := .tup (cutV xs lo hi)) (fun b ob q => Heap.get?_push_of_some _ q) (Nat.le_refl _) ?_, rfl, q _ (I.hok.fresh (Nat.le_refl _))⟩
  exact ⟨Nat.le_trans (cutV_length xs lo hi) hz, _, (r.drop (HT.sIx xs.length 0 lo)).take (HT.sIx xs.length xs.length hi - HT.sIx xs.length 0 lo), IsTup.new _ _⟩
noncomputable def rCatT (K : PySem.W.Frag) : R2 := fun x y H Q => ∃ a b xs ys, x = .ref a ∧ y = .ref b ∧ SqT K H a xs ∧ SqT K H b ys ∧ xs ≠ [] ∧ xs.length + ys.length ≤ sizeLine ∧
  (ys = [] → Q (.ref a) H) ∧ (ys ≠ [] → ∀ p, H p = none → Q (.ref p) (upd H p (.tup (xs ++ ys))))
theorem Vals.nil_iff {xs : List V} {us : List Value} (r : Vals xs us) : us = [] ↔ xs = [] := by
  cases r with
  | nil => simp
  | cons _ _ => simp
theorem op_catT : OpR X (binaryOp .Add) (rCatT X.K) := by
  intro pins s σ H x y v u Q I rx ry h
  obtain ⟨a, b, xs, ys, rfl, rfl, ha, hb, hx, hz, q1, q2⟩ := h
  cases rx
  cases ry
  obtain ⟨its, r1, p1, _⟩ := I.tuple ha
  obtain ⟨its2, r2, p2, _⟩ := I.tuple hb
  refine HT.cat_tup p1 p2 (fun z => hx (r1.nil_iff.mp z)) (fun z => ⟨.ref a, H, I, rfl, q1 (r2.nil_iff.mp z)⟩) (fun z => ?_) (by rw [← r1.length, ← r2.length]; exact hz)
  refine ⟨.ref s.heap.objs.size, _, I.laid (t' := s.toks) (o := .tup (xs ++ ys)) (fun b ob q => Heap.get?_push_of_some _ q) (Nat.le_refl _) ?_, rfl, q2 (fun w => z (r2.nil_iff.mpr w)) _ (I.hok.fresh (Nat.le_refl _))⟩
  exact ⟨by rw [List.length_append]; exact hz, _, r1.append r2, IsTup.new _ _⟩
end
end L2
namespace L2
open PySem PySem.Spec PyProof.Rows
noncomputable def ixN (n : Nat) (i : Int) : Option Nat := if 0 ≤ i then (if i < n then some i.toNat else none) else if -(n : Int) ≤ i then some (i + n).toNat else none
noncomputable def atI {α : Type} (xs : List α) (i : Int) : Option α := (ixN xs.length i).bind fun j => xs[j]?
theorem ixN_seq {n : Nat} {i : Int} {j : Nat} (h : ixN n i = some j) : seqIndex? i n = some j ∧ j < n ∧ -(n : Int) ≤ i ∧ i < n := by
  unfold ixN at h
  by_cases h0 : 0 ≤ i
  · rw [if_pos h0] at h
    by_cases h1 : i < n
    · rw [if_pos h1] at h
      have e : i.toNat = j := Option.some.inj h
      exact ⟨by rw [seqIndex_of h0 h1, e], by omega, by omega, h1⟩
    · rw [if_neg h1] at h; cases h
  · rw [if_neg h0] at h
    by_cases h1 : -(n : Int) ≤ i
    · rw [if_pos h1] at h
      have e : (i + n).toNat = j := Option.some.inj h
      exact ⟨by rw [seqIndex_neg (by omega) h1, e], by omega, h1, by omega⟩
    · rw [if_neg h1] at h; cases h
theorem atI_get {α : Type} {xs : List α} {i : Int} {v : α} (h : atI xs i = some v) : ∃ j, seqIndex? i xs.length = some j ∧ xs[j]? = some v ∧ j < xs.length ∧ -(xs.length : Int) ≤ i ∧ i < xs.length := by
  unfold atI at h
  cases e : ixN xs.length i with
  | none => rw [e] at h; cases h
  | some j =>
    rw [e] at h
    obtain ⟨h1, h2, h3, h4⟩ := ixN_seq e
    exact ⟨j, h1, h, h2, h3, h4⟩
theorem atI_nat {α : Type} {xs : List α} {j : Nat} {v : α} (h : xs[j]? = some v) : atI xs (j : Int) = some v := by
  have hj : j < xs.length := (List.getElem?_eq_some_iff.mp h).1
  have e : ixN xs.length (j : Int) = some j := by
    unfold ixN
    rw [if_pos (by omega), if_pos (by omega)]; simp
  unfold atI; rw [e]; exact h
noncomputable def PlainIx (b : Expr) : Prop := ∀ o i, subscripted b false o i = operate [o, i] (getItem o i)
noncomputable def IxR (X : Cx) (r : R2) : Prop :=
  ∀ (value slice : Expr) (pins : List (Addr × Obj)) (s : Shared) (σ : St) (H : Hp) (x y : V) (v u : Value) (Q : VK), Inv X pins σ H s → RelV x v → RelV y u → r x y H Q →
    subscripted slice false v u = operate [v, u] (getItem v u) → wpAny (model X.prog X.w) X.A (subscriptTail value slice v u) (EP X pins σ Q) X.xe s
noncomputable def MtR (X : Cx) (id : String) (r : V → List V → Hp → VK → Prop) : Prop :=
  ∀ (pins : List (Addr × Obj)) (s : Shared) (σ : St) (H : Hp) (x : V) (xs : List V) (v : Value) (us : List Value) (Q : VK), Inv X pins σ H s → RelV x v → Vals xs us → r x xs H Q →
    wpAny (model X.prog X.w) X.A (call (.builtin id) (v :: us)) (EP X pins σ Q) X.xe s
section
variable {X : Cx} {a b : Expr} {ta tb : TE} {pos : Pos}
theorem pe_ix {r : R2} (hr : IxR X r) (ha : PE X a ta) (hb : PE X b tb) (hs : PlainIx b) : PE X (.Subscript a b pos) (tOp r ta tb) := by
  intro pins s σ H Q I h
  exact Subscript_ (binT ha hb I h fun v u s2 x y H2 I2 rx ry q => hr a b pins s2 σ H2 x y v u Q I2 rx ry q (hs _ _))
noncomputable def rIxL (K : PySem.W.Frag) : R2 := fun x y H Q => ∃ p xs i v, x = .ref p ∧ y = .int i ∧ SqL K H p xs ∧ atI xs i = some v ∧ Q v H
noncomputable def rIxT (K : PySem.W.Frag) : R2 := fun x y H Q => ∃ p xs i v, x = .ref p ∧ y = .int i ∧ SqT K H p xs ∧ atI xs i = some v ∧ Q v H
theorem ix_list : IxR X (rIxL X.K) := by
  intro value slice pins s σ H x y v u Q I rx ry h hs
  obtain ⟨p, xs, i, z, rfl, rfl, hq, he, q⟩ := h
  cases rx
  obtain ⟨t, rfl⟩ := ry
  obtain ⟨its, r, pl, hz⟩ := I.list hq
  obtain ⟨j, h1, h2, h3, h4, h5⟩ := atI_get he
  obtain ⟨w, ew, rw'⟩ := r.get h2
  have hl := r.length
  have hn := line63
  have fin : EP X pins σ Q w s := ⟨z, H, I, rw', q⟩
  by_cases h0 : 0 ≤ i
  · have hj : i.toNat = j := by
      rw [seqIndex_of h0 h5] at h1
      exact Option.some.inj h1
    exact item_listR pl.isList h0 (by omega) (by rw [hj]; simpa using ew) fin hs
  · have hj : (i + (its.toArray.size : Int)).toNat = j := by
      rw [seqIndex_neg (by omega) h4] at h1
      rw [List.size_toArray, ← hl]
      exact Option.some.inj h1
    exact subscriptTail_builtinR (x := w) pl.isList.typeIs slot_list_getitem.lookup
      (wpAny_getItem_list_neg (Q := fun r s' => r = w ∧ EP X pins σ Q r s') pl.isList (by omega) (by rw [List.size_toArray] <;> omega) (by omega) (by rw [hj]; simpa using ew) ⟨rfl, fin⟩) hs
theorem ix_tup : IxR X (rIxT X.K) := by
  intro value slice pins s σ H x y v u Q I rx ry h hs
  obtain ⟨p, xs, i, z, rfl, rfl, hq, he, q⟩ := h
  cases rx
  obtain ⟨t, rfl⟩ := ry
  obtain ⟨its, r, pl, hz⟩ := I.tuple hq
  obtain ⟨j, h1, h2, h3, h4, h5⟩ := atI_get he
  obtain ⟨w, ew, rw'⟩ := r.get h2
  have hl := r.length
  have hn := line63
  have fin : EP X pins σ Q w s := ⟨z, H, I, rw', q⟩
  exact subscriptTail_builtinR (x := w) pl.typeIs slot_tuple_getitem.lookup
    (getItem_tuple (j := j) (Q := fun r s' => r = w ∧ EP X pins σ Q r s') pl (by omega) (by omega) (by rw [List.size_toArray, ← hl]; exact h1) (by simpa using ew) ⟨rfl, fin⟩) hs
theorem mapSeq_set (its : List Value) (n j : Nat) (u : Value) : Obj.mapSeq (·.setIfInBounds j u) { cls := .type "list", data := .seq its.toArray n } = { cls := .type "list", data := .seq (its.set j u).toArray n } := by
  simp [Obj.mapSeq]
theorem Inv.lst {pins : List (Addr × Obj)} {σ : St} {H : Hp} {s : Shared} {p : Addr} {xs : List V} (I : Inv X pins σ H s) (h : H p = some (.lst xs)) :
    ∃ (its : List Value) (n : Nat), Vals xs its ∧ s.heap.get? p = some { cls := .type "list", data := .seq its.toArray n } ∧ xs.length ≤ sizeLine := by
  obtain ⟨z, its, n, r, e⟩ := I.hok p _ h
  exact ⟨its, n, r, e, z⟩
theorem Inv.lstUpd {pins : List (Addr × Obj)} {σ : St} {H : Hp} {s : Shared} {p : Addr} {xs ys : List V} {its its' : List Value} {n n' : Nat} {f : Obj → Obj} (I : Inv X pins σ H s) (h : H p = some (.lst xs))
    (ho : s.heap.get? p = some { cls := .type "list", data := .seq its.toArray n }) (hf : f { cls := .type "list", data := .seq its.toArray n } = { cls := .type "list", data := .seq its'.toArray n' }) (r : Vals ys its') (hz : ys.length ≤ sizeLine) (t : Nat) :
    Inv X pins σ (upd H p (.lst ys)) { s with heap := s.heap.update p f, toks := t } := by
  have e : (s.heap.update p f).get? p = some { cls := .type "list", data := .seq its'.toArray n' } := by
    rw [Heap.get?_update_self f ho (by rw [hf] <;> rfl), hf]
  refine I.write (x := p) (e := p) (by rw [h]; trivial) (.inl rfl) (fun b u hb q => (Heap.get?_update_other _ _ (Ne.symm hb)).trans q) ⟨_, e⟩ ?_
  exact ⟨hz, its', n', r, e⟩
noncomputable def rSetL : V → V → V → Hp → (Hp → Prop) → Prop := fun o i v H Q => ∃ p xs k j, o = .ref p ∧ i = .int k ∧ H p = some (.lst xs) ∧ ixN xs.length k = some j ∧ Q (upd H p (.lst (xs.set j v)))
theorem set_list : PSet X rSetL := by
  intro pins s σ H o i v ov iv u Q I ro ri rv h
  obtain ⟨p, xs, k, j, rfl, rfl, hp, hj, q⟩ := h
  cases ro
  obtain ⟨t, rfl⟩ := ri
  obtain ⟨its, n, r, ho, hz⟩ := I.lst hp
  obtain ⟨h1, h2, h3, h4⟩ := ixN_seq hj
  have hl := r.length
  have hn := line63
  have I' : Inv X pins σ (upd H p (.lst (xs.set j v))) { s with heap := s.heap.update p (Obj.mapSeq (·.setIfInBounds j u)) } :=
    I.lstUpd hp ho (mapSeq_set its n j u) (r.set rv j) (by rw [List.length_set]; exact hz) s.toks
  by_cases h0 : 0 ≤ k
  · have hk : k.toNat = j := by
      rw [seqIndex_of h0 h4] at h1
      exact Option.some.inj h1
    exact PySem.W.ki_setAt ho h0 (by omega) (by rw [List.size_toArray, ← hl]; exact h4) (by rw [hk]; exact ⟨_, I', q⟩)
  · have hk : (k + (its.toArray.size : Int)).toNat = j := by
      rw [seqIndex_neg (by omega) h3] at h1
      rw [List.size_toArray, ← hl]
      exact Option.some.inj h1
    exact PySem.W.ki_setBack ho (by omega) (by rw [List.size_toArray, ← hl]; exact h3) (by omega) (by rw [hk]; exact ⟨_, I', q⟩)
theorem slice_bounds (lo hi : Option Int) (n : Nat) : (sliceBounds lo hi none n).1 = ((HT.sIx n 0 lo : Nat) : Int) ∧ (sliceBounds lo hi none n).2.1 = ((HT.sIx n n hi : Nat) : Int) ∧ (sliceBounds lo hi none n).2.2 = 1 := by
  refine ⟨?_, ?_, rfl⟩
  · cases lo with
    | none => simp [sliceBounds, HT.sIx]
    | some i =>
      simp only [sliceBounds, HT.sIx, Option.getD_none, show (1 : Int) > 0 by decide, if_true]
      by_cases h : i < 0
      · simp only [h, if_true] <;> omega
      · simp only [h, if_false] <;> omega
  · cases hi with
    | none => simp [sliceBounds, HT.sIx]
    | some i =>
      simp only [sliceBounds, HT.sIx, Option.getD_none, show (1 : Int) > 0 by decide, if_true]
      by_cases h : i < 0
      · simp only [h, if_true] <;> omega
      · simp only [h, if_false] <;> omega
theorem slicePick_cut (its : List Value) (lo hi : Option Int) : slicePick its.toArray lo hi none = ((its.drop (HT.sIx its.length 0 lo)).take (HT.sIx its.length its.length hi - HT.sIx its.length 0 lo)).toArray := by
  obtain ⟨h1, h2, h3⟩ := slice_bounds lo hi its.toArray.size
  unfold slicePick
  rw [h1, h2, h3]
  simp only [sliceRange_one, pick_run, List.size_toArray] <;> rfl
noncomputable def rSlL (K : PySem.W.Frag) : V → Option Int → Option Int → Hp → VK → Prop := fun x lo hi H Q => ∃ a xs, x = .ref a ∧ SqL K H a xs ∧ ∀ p, H p = none → Q (.ref p) (upd H p (.lst (cutV xs lo hi)))
theorem sl_list : SlR X (rSlL X.K) := by
  intro pins s σ H x v vl vu lo hi sl Q I rx hs pl pu h
  obtain ⟨a, xs, rfl, hx, q⟩ := h
  cases rx
  obtain ⟨its, r, ht, hz⟩ := I.list hx
  have hlen := r.length
  refine ⟨"list", _, slot_list_getitem.lookup, ht.isList.typeIs, ?_⟩
  refine wpAny_getItem_list_slice ht.isList hs pl pu .none (by simp) ?_ (by rw [List.size_toArray] <;> omega)
  rw [slicePick_cut, ← hlen]
  refine ⟨.ref s.heap.objs.size, _, I.laid (t' := s.toks) (o := .lst (cutV xs lo hi)) (fun b ob q => Heap.get?_push_of_some _ q) (Nat.le_refl _) ?_, rfl, q _ (I.hok.fresh (Nat.le_refl _))⟩
  exact ⟨Nat.le_trans (cutV_length xs lo hi) hz, _, 0, (r.drop (HT.sIx xs.length 0 lo)).take (HT.sIx xs.length xs.length hi - HT.sIx xs.length 0 lo), Heap.get?_push_size _ rfl⟩
noncomputable def tyV (K : PySem.W.Frag) (T : String) (x : V) (H : Hp) : Prop := match x with
  | .str _ => T = "str"
  | .int _ => T = "int"
  | .ref p => (T = "list" ∧ ∃ xs, SqL K H p xs) ∨ (T = "tuple" ∧ ∃ o, K.lookup p = some o ∧ o.cls = .type "tuple" ∧ o.dict = none) ∨
      (T = "dict" ∧ ((∃ kvs, H p = some (.dK kvs)) ∨ ∃ kvs, H p = some (.dT kvs))) ∨ (T = "set" ∧ ∃ S n, H p = some (.set S n))
  | _ => False
theorem tyV_is {pins : List (Addr × Obj)} {σ : St} {H : Hp} {s : Shared} {T : String} {x : V} {v : Value} (I : Inv X pins σ H s) (r : RelV x v) (ty : tyV X.K T x H) :
    s.TypeIs v T ∧ ∀ a, v = .ref a → ∃ ob, s.heap.get? a = some ob ∧ ob.dict = none := by
  cases x with
  | str z =>
    obtain ⟨t, rfl⟩ := r
    cases (show T = "str" from ty)
    exact ⟨typeIs_str s z t, fun _ e => nomatch e⟩
  | int i =>
    obtain ⟨t, rfl⟩ := r
    cases (show T = "int" from ty)
    exact ⟨typeIs_int s i t, fun _ e => nomatch e⟩
  | ref p =>
    cases r
    rcases ty with ⟨rfl, xs, hq⟩ | ⟨rfl, o, hk, hc, hd⟩ | ⟨rfl, hk⟩ | ⟨rfl, S, n, hk⟩
    · obtain ⟨its, _, pl, _⟩ := I.list hq
      refine ⟨pl.isList.typeIs, fun a e => ?_⟩
      cases e
      obtain ⟨o, n, e, c, hd, _⟩ := pl
      exact ⟨o, e, hd⟩
    · refine ⟨⟨o, I.kIn p o hk, hc⟩, fun a e => ?_⟩
      cases e
      exact ⟨o, I.kIn _ o hk, hd⟩
    · have z : ∃ o, s.heap.get? p = some o ∧ o.ExactDict := by
        rcases hk with ⟨kvs, hk⟩ | ⟨kvs, hk⟩
        · obtain ⟨_, _, _, _, o, _, _, e, ex, _⟩ := I.hok p _ hk
          exact ⟨o, e, ex⟩
        · obtain ⟨_, _, _, _, o, _, _, e, ex, _⟩ := I.hok p _ hk
          exact ⟨o, e, ex⟩
      obtain ⟨o, e, ex⟩ := z
      refine ⟨⟨o, e, ex.1⟩, fun a e2 => ?_⟩
      cases e2
      exact ⟨o, e, ex.2.1⟩
    · obtain ⟨o, _, _, _, e, ex, _⟩ := I.hok p _ hk
      refine ⟨⟨o, e, ex.1⟩, fun a e2 => ?_⟩
      cases e2
      exact ⟨o, e, ex.2.1⟩
  | _ => exact False.elim ty
noncomputable def tBM0 (K : PySem.W.Frag) (T : String) (r : V → List V → Hp → VK → Prop) (to : TE) : TE := fun σ H Q => to σ H fun x H1 => tyV K T x H1 ∧ r x [] H1 Q
noncomputable def tBM (K : PySem.W.Frag) (T : String) (r : V → List V → Hp → VK → Prop) (to : TE) (t : TA) : TE := fun σ H Q => to σ H fun x H1 => tyV K T x H1 ∧ t σ H1 fun xs H2 => r x xs H2 Q
variable {o e : Expr} {es : List Expr} {to : TE} {t : TA} {name : Str} {apos cpos : Pos} {T id : String} {r : V → List V → Hp → VK → Prop}
theorem pe_bm0 (pa : PlainAttrs T) (slot : Slot T name id) (hty : typeOf (.builtin id) = pure (.type "method_descriptor")) (hm : MtR X id r) (ho : PE X o to)
    (hbase : attributeBase o name X.env (eval o X.env) = eval o X.env := by rfl) (hline : (apos.endLine == cpos.line) = true := by rfl) : PE X (.Call (.Attribute o name apos) [] [] cpos) (tBM0 X.K T r to) := by
  intro pins s σ H Q I h
  refine wpAny_Call_method0_late hbase hline (thn (ho pins s σ H _ I h) fun v s1 zz => ?_)
  obtain ⟨x, H1, I1, r1, ty, q1⟩ := zz
  obtain ⟨h1, h2⟩ := tyV_is I1 r1 ty
  exact ⟨T, id, pa, slot, hty, h1, h2, Calls.callWith_builtin rfl (PySem.evalArgs_none (hm pins s1 σ H1 x [] v [] Q I1 r1 .nil q1))⟩
theorem pe_bm (pa : PlainAttrs T) (slot : Slot T name id) (hty : typeOf (.builtin id) = pure (.type "method_descriptor")) (hm : MtR X id r) (ho : PE X o to) (ha : PA X (e :: es) t)
    (hbase : attributeBase o name X.env (eval o X.env) = eval o X.env := by rfl)
    (hfew : ((backTo cpos (starEach (e :: es) X.env)).all (fun x => !x.1) && (backToKw cpos (keywordEach [] X.env)).all (fun x => x.1.isSome)
      && decide ((e :: es).length + ([] : List Keyword).length + (if ([] : List Keyword).isEmpty then 0 else 1) < 30)) = true := by rfl)
    (hline : (apos.endLine == cpos.line) = true := by rfl) (hs : starEach (e :: es) X.env = (false, eval e X.env) :: starEach es X.env := by rfl) (hplain : (backTo cpos (starEach es X.env)).any (·.1) = false := by rfl) :
    PE X (.Call (.Attribute o name apos) (e :: es) [] cpos) (tBM X.K T r to t) := by
  intro pins s σ H Q I h
  refine wpAny_Call_method_late hbase hfew hline rfl (thn (ho pins s σ H _ I h) fun v s1 zz => ?_)
  obtain ⟨x, H1, I1, r1, ty, q1⟩ := zz
  obtain ⟨h1, h2⟩ := tyV_is I1 r1 ty
  refine ⟨T, id, pa, slot, hty, h1, h2, ?_⟩
  have hA := ha cpos pins s1 σ H1 _ I1 q1
  rw [hs] at hA ⊢
  refine Calls.callWith_builtin (by show (false || (backTo cpos (starEach es X.env)).any (·.1)) = false; rw [hplain] <;> rfl) (Calls.evalArgs_plain ?_)
  exact thn hA fun us s2 ⟨vs, H2, I2, r2, q2⟩ => hm pins s2 σ H2 x vs v us Q I2 r1 r2 q2
end
end L2
namespace L2
open PySem PySem.Spec PyProof.Rows
noncomputable def MtM (X : Cx) (id : String) (r : V → List V → Hp → VK → Prop) : Prop :=
  ∀ (pins : List (Addr × Obj)) (s : Shared) (σ : St) (H : Hp) (x : V) (xs : List V) (v : Value) (us : List Value) (Q : VK), Inv X pins σ H s → RelV x v → Vals xs us → r x xs H Q →
    wpAny (model X.prog X.w) X.A (call (.builtin id) (v :: us)) (EP X pins σ Q) X.xe s
theorem Vals.one : ∀ {x : V} {us : List Value}, Vals [x] us → ∃ u, us = [u] ∧ RelV x u
  | _, _, .cons r .nil => ⟨_, rfl, r⟩
theorem Vals.zero : ∀ {us : List Value}, Vals [] us → us = []
  | _, .nil => rfl
section
variable {X : Cx} {pins : List (Addr × Obj)} {σ : St} {H : Hp} {s : Shared} {l b : Addr} {xs ys zs : List V}
theorem Inv.lset {its its' : List Value} {n : Nat} {f : Array Value → Array Value} {t' : Nat} (I : Inv X pins σ H s) (hH : H l = some (.lst xs))
    (e : s.heap.get? l = some { cls := .type "list", data := .seq its.toArray n }) (hf : f its.toArray = its'.toArray) (hv : Vals ys its') (hz : ys.length ≤ sizeLine) :
    Inv X pins σ (upd H l (.lst ys)) { s with heap := s.heap.update l (Obj.mapSeq f), toks := t' } := by
  have q := PySem.IsL.update e f
  rw [hf] at q
  refine I.write (x := l) (e := l) (by rw [hH]; exact trivial) (.inl rfl) (fun b' u hb hu => (Heap.get?_update_other s.heap (Obj.mapSeq f) (Ne.symm hb)).trans hu) ⟨_, q⟩ ?_
  exact ⟨hz, its', _, hv, q⟩
theorem Inv.lstM (I : Inv X pins σ H s) (hH : H l = some (.lst xs)) : xs.length ≤ sizeLine ∧ ∃ (its : List Value) (n : Nat), Vals xs its ∧ xs.length = its.length ∧ s.heap.get? l = some { cls := .type "list", data := .seq its.toArray n } := by
  obtain ⟨z, its, n, r, e⟩ := I.hok l _ hH
  exact ⟨z, its, n, r, r.length, e⟩
theorem notLongL {n : Nat} (h : n ≤ sizeLine) : Builtin.List.listTooLong n = false := by
  unfold Builtin.List.listTooLong
  exact decide_eq_false (by omega)
end
section
variable {X : Cx}
noncomputable def rAppend : V → List V → Hp → VK → Prop := fun x vs H Q => ∃ l xs y, x = .ref l ∧ vs = [y] ∧ H l = some (.lst xs) ∧ xs.length < sizeLine ∧ Q .non (upd H l (.lst (xs ++ [y])))
theorem mt_append : MtM X "list.append" rAppend := by
  intro pins s σ H x vs v us Q I rx rv h
  obtain ⟨l, xs, y, rfl, rfl, hH, hz, q⟩ := h
  cases rx
  obtain ⟨u, rfl, ru⟩ := rv.one
  obtain ⟨z, its, n, r, hl, e⟩ := I.lstM hH
  refine call_meets F.slot_list_append ⟨_, e, rfl⟩ F.entry_list_append (F.args_list_append_2 _ _) (PySem.list_append l its.toArray n u (by rw [List.size_toArray]; omega)) ⟨e, ?_⟩
  refine ⟨.non, _, I.lset (its' := its ++ [u]) hH e (by simp) (r.append (.cons ru .nil)) ?_, rfl, q⟩
  rw [List.length_append, List.length_singleton]
  omega
noncomputable def rExtend : V → List V → Hp → VK → Prop := fun x vs H Q => ∃ l b xs zs, x = .ref l ∧ vs = [.ref b] ∧ H l = some (.lst xs) ∧ H b = some (.lst zs) ∧ xs.length + zs.length ≤ sizeLine ∧ Q .non (upd H l (.lst (xs ++ zs)))
theorem mt_extend : MtM X "list.extend" rExtend := by
  intro pins s σ H x vs v us Q I rx rv h
  obtain ⟨l, b, xs, zs, rfl, rfl, hH, hB, hz, q⟩ := h
  cases rx
  obtain ⟨u, rfl, ru⟩ := rv.one
  cases ru
  obtain ⟨z, its, n, r, hl, e⟩ := I.lstM hH
  obtain ⟨z2, its2, n2, r2, hl2, e2⟩ := I.lstM hB
  have hsz : its.toArray.size + its2.toArray.size ≤ sizeLine := by rw [List.size_toArray, List.size_toArray]; omega
  have hlong : ¬ (!its.toArray.isEmpty && Builtin.List.listTooLong (its.toArray.size + its2.toArray.size)) = true := by
    rw [notLongL hsz, Bool.and_false]
    exact Bool.false_ne_true
  refine call_meets F.slot_list_extend ⟨_, e, rfl⟩ F.entry_list_extend (F.args_list_extend_2 _ _)
    (AutoSeq1.list_extend_list_list_0 l its.toArray n b its2.toArray n2 hlong (by rw [List.size_toArray]; omega) (by omega)) ⟨e, e2, ?_⟩
  refine ⟨.non, _, I.lset (its' := its ++ its2) hH e (by simp) (r.append r2) ?_, rfl, q⟩
  rw [List.length_append]
  omega
noncomputable def rClear : V → List V → Hp → VK → Prop := fun x vs H Q => ∃ l xs, x = .ref l ∧ vs = [] ∧ H l = some (.lst xs) ∧ Q .non (upd H l (.lst []))
theorem mt_clear : MtM X "list.clear" rClear := by
  intro pins s σ H x vs v us Q I rx rv h
  obtain ⟨l, xs, rfl, rfl, hH, q⟩ := h
  cases rx
  have hus := rv.zero
  subst hus
  obtain ⟨z, its, n, r, hl, e⟩ := I.lstM hH
  refine call_meets F.slot_list_clear ⟨_, e, rfl⟩ F.entry_list_clear (F.args_list_clear_1 _) (AutoSeq1.list_clear_list_0 l its.toArray n (by rw [List.size_toArray]; omega)) ⟨e, ?_⟩
  exact ⟨.non, _, I.lset (its' := []) (ys := []) hH e rfl .nil (Nat.zero_le _), rfl, q⟩
end
section
variable {prog : Program} {w : World} {A : Around} {E : Value → Shared → Prop} {s : Shared}
end
section
variable {X : Cx}
end
end L2
namespace Att
open PySem PySem.W PySem.Calls PyProof.Rows
theorem ints_of_wellAll {P : Params} {h : Heap} : ∀ (ns : List Int) (vs : List Value), WellAll P h vs (ns.map WData.int) → IntsAre vs ns := by
  intro ns
  induction ns with
  | nil =>
    intro vs w
    rw [List.map_nil] at w
    cases w
    exact .nil
  | cons n ns ih =>
    intro vs w
    rw [List.map_cons] at w
    cases w with
    | cons a b =>
      cases a
      exact .cons _ _ (ih _ b)
theorem script_of {l : OpenLaw} {n : Nat} (hn : l.most = some n) {P : Params} {h : Heap} {args : List WData} {vals : List Value}
    (hpre : l.row.toRowW.claim.pre args = true) (hwl : WellAll P h vals args) :
    ∃ a vs ns, vals = [Value.ref a] ∧ args = [WData.list (ns.map WData.int)] ∧ h.get? a = some { cls := .type "list", data := .seq vs.toArray } ∧ IntsAre vs ns ∧ ns.length ≤ n := by
  have hsh : WShape.hasAll [] args [.list .int] = true := (pre_splitW hpre).1
  have hc : l.pre.holds [] { args := args } = true := (pre_splitW hpre).2
  obtain ⟨d, r, rfl, h1, h2⟩ := hasAllW_cons hsh
  obtain rfl := hasAllW_nil h2
  obtain ⟨xs, rfl, h3⟩ := hasW_list h1
  obtain ⟨ns, rfl⟩ := items_int h3
  have hlen : ns.length ≤ n := by
    unfold OpenLaw.pre at hc
    have h4 : (WTm.not (.lt (.lit (.int (n : Int))) (.len (.arg 0)))).holds [] { args := [.list (ns.map .int)] } = true := by
      have h4 := (holds_andW hc).1
      rw [hn] at h4
      exact h4
    have h5 := condW_of h4 (w_not (w_lt w_lit (w_len_list (w_arg rfl))))
    rw [List.length_map] at h5
    refine Nat.le_of_not_lt fun q => ?_
    have q' : (n : Int) < ((ns.length : Nat) : Int) := by omega
    first
      | (rw [decide_eq_true q'] at h5; exact absurd h5 (by decide))
      | (simp at h5; omega)
  cases hwl with
  | cons w1 w2 =>
    cases w2
    cases w1 with
    | list ho hall => exact ⟨_, _, ns, rfl, rfl, ho, ints_of_wellAll ns _ hall, hlen⟩
theorem post_true (l : OpenLaw) (args : List WData) : l.row.toRowW.claim.post args (.bool true) args = true :=
  postW_of (r := l.row.toRowW) (X := (true == true))
    (show WShape.has [] (.bool true) .bool = true by first | rfl | decide | simp [WShape.has, WShape.arms, WShape.armsAll])
    (show (WTm.eq .res (.lit (.bool true))).value [] { args := args, res := some (.bool true), after := args } = some (.bool (true == true)) from w_eq_bool (w_res rfl) w_lit) rfl
section
variable {prog : Program} {w : World} {A : Around} {E : Value → Shared → Prop} {s : Shared} {K : Frag}
end
end Att
namespace L2
open PySem PySem.Spec PyProof.Rows
theorem vals_ints : ∀ {vs : List Value} {ns : List Int}, IntsAre vs ns → Vals (ns.map V.int) vs
  | _, _, .nil => .nil
  | _, _, .cons n t h => .cons ⟨t, rfl⟩ (vals_ints h)
noncomputable def Only (H : Hp) : Prop := ∀ b, H b = none ∨ ∃ o xs, H b = some (.frz o (.lst xs))
theorem law_call {P : Program} {w : World} {K : PySem.W.Frag} {mg mb : Str → Option Value} {CX : CXT} {k : Nat} {fa a : Addr} {fd : FuncData} {x : Str} {sp : Sp} {s₁ : Shared} {vs : List Value} {ns : List Int}
    (KX : K.In s₁.heap) (hns : s₁.heap.Ns mainGlobals mg) (hb : s₁.heap.Ns builtinsNs mb) (hbb : ∀ x : Str, x ≠ "__name__" → mb x = bootBuiltins x) (hlim : s₁.heap.NoLimit) (hg : s₁.gens = #[])
    (ha : s₁.heap.get? a = some { cls := .type "list", data := .seq vs.toArray }) (hi : IntsAre vs ns) (hl : ns.length ≤ sizeLine) (hr : Room k callerA)
    (F : ∀ base : Heap, K.In base → base.Ns mainGlobals mg → FnOk P w K mg base CX k fa fd [x] sp) (hbind : ∀ (s : Shared) (u : Value), BindsTo s fd ⟨[u], []⟩ [(x, u)])
    (hsp : ∀ H : Hp, Only H → SqL K H a (ns.map V.int) → sp [.ref a] H (fun v _ => v = .bl true) fun _ _ _ => False)
    (hCX : ∀ H e s', CX [] H s₁ (fun _ _ _ => False) e s' → False) :
    codeAny (model P w) callerA (.call (.ref fa) ⟨[.ref a], []⟩) (fun r s' => r = .ok (.ret (.bool true)) ∧ OldK s₁.heap s'.heap ∧ s'.os = s₁.os ∧ AllBare s'.gens) s₁ := by
  have rv := vals_ints hi
  have lenV := hi.length
  have core : ∀ H : Hp, Only H → SqL K H a (ns.map V.int) → HOk P w H s₁.heap → (∀ b, H b ≠ none → b = a) → (H a ≠ none → K.lookup a = none) →
      codeAny (model P w) callerA (.call (.ref fa) ⟨[.ref a], []⟩) (fun r s' => r = .ok (.ret (.bool true)) ∧ OldK s₁.heap s'.heap ∧ s'.os = s₁.os ∧ AllBare s'.gens) s₁ := by
    intro H hO hS hok hA hK
    have base_of : ∀ {b : Addr} {o : Obj}, s₁.heap.get? b = some o → H b = none → (hidT s₁.heap H).get? b = some o := fun e n => hidT_get e n
    have noA : ∀ {b : Addr} {o : Obj} {es : Array DictEntry} {ep : Nat}, s₁.heap.get? b = some o → o.data = .dict es ep → H b = none := fun {b o es ep} e d => by
      cases q : H b with
      | none => rfl
      | some u =>
        have e' : b = a := hA b (by rw [q]; simp)
        subst e'
        rw [ha] at e; cases e
        have d' : Data.seq vs.toArray _ = Data.dict es ep := d
        cases d'
    have nsK : ∀ {b : Addr} {m : Str → Option Value}, s₁.heap.Ns b m → (hidT s₁.heap H).Ns b m := fun {b m} ⟨o, es, ep, e, d, r⟩ => ⟨o, es, ep, base_of e (noA e d), d, r⟩
    have hKb : K.In (hidT s₁.heap H) := fun b o e => base_of (KX b o e) (by
      cases q : H b with
      | none => rfl
      | some u =>
        have e' : b = a := hA b (by rw [q]; simp)
        subst e'
        rw [hK (by rw [q]; simp)] at e; cases e)
    have hM : Mod K mg (hidT s₁.heap H) := ⟨hKb, nsK hns, ⟨mb, nsK hb, hbb⟩, let ⟨mc, h1, h2⟩ := hlim; ⟨mc, nsK h1, h2⟩⟩
    have e0 : Env0 P w K mg (hidT s₁.heap H) callerA [] s₁ H := ⟨rfl, hM, fun b o e => of_hidT e, Nat.le_of_eq (hidT_size _ _), trivial, fun b hb => absurd (show b ∈ ([] : List Addr) from hb) (by simp), hok, .of_eq hg⟩
    refine codeAny_mono ((F _ hKb (nsK hns)).run callerA [] s₁ H ⟨[.ref a], []⟩ [.ref a] [.ref a] _ _ hr e0 (hbind s₁ (.ref a)) (.cons rfl .nil) (hsp H hO hS)) fun r s' h => ?_
    cases r with
    | error e => exact (hCX H e s' h).elim
    | ok fl =>
      cases fl with
      | next => exact False.elim h
      | brk => exact False.elim h
      | cont => exact False.elim h
      | ret u =>
        obtain ⟨v, H', os, bare, un, hok', r', q⟩ := h
        have q' : v = .bl true := q
        subst q'
        obtain rfl : u = Value.bool true := r'
        refine ⟨rfl, OldK.of_keep fun b o e => ?_, os, bare⟩
        cases q : H b with
        | none => exact un.keep b o e q (by intro z; exact absurd (show b ∈ ([] : List Addr) from z) (by simp)) (by simp)
        | some u =>
          rcases hO b with z | ⟨ob, xs, z⟩
          · rw [q] at z; cases z
          · have z2 := un.frzs b ob _ z
            obtain ⟨e1, _⟩ := hok b _ z
            obtain ⟨e2, _⟩ := hok' b _ z2
            rw [e] at e1; cases e1
            exact e2
  cases hk : K.lookup a with
  | some o =>
    have e := KX a o hk
    rw [ha] at e
    cases e
    refine core (fun _ => none) (fun _ => .inl rfl) (.inr ⟨_, vs.toArray, _, hk, rfl, rfl, rfl, by rw [List.size_toArray, lenV]; exact hl, by simpa using rv⟩) (fun b u z => by have z' : (none : Option HO) = some u := z; cases z') (fun b z => absurd rfl z) fun z => absurd rfl z
  | none =>
    refine core (fun b => if b = a then some (.frz { cls := .type "list", data := .seq vs.toArray } (.lst (ns.map V.int))) else none) (fun b => ?_) (.inl (.inr ⟨{ cls := .type "list", data := .seq vs.toArray }, if_pos rfl⟩)) (fun b u z => ?_) (fun b z => ?_) fun _ => hk
    · by_cases hb : b = a
      · exact .inr ⟨_, _, if_pos hb⟩
      · exact .inl (if_neg hb)
    · by_cases hb : b = a
      · have z' := (if_pos hb).symm.trans z
        cases z'
        subst hb
        exact ⟨ha, by rw [List.length_map]; exact hl, vs, _, rv, ha⟩
      · have z' := (if_neg hb).symm.trans z
        cases z'
    · by_cases hb : b = a
      · exact hb
      · exact absurd (if_neg hb) z
end L2
namespace L2
open PySem PySem.Spec PyProof.Rows
end L2
namespace L2
open PySem PySem.Spec PyProof.Rows
noncomputable def defArgs (s : Stmt) : Arguments := match s with
  | .FunctionDef _ a _ _ _ _ _ _ _ _ => a
  | _ => { posonlyargs := [], args := [], vararg := none, kwonlyargs := [], kw_defaults := [], kwarg := none, defaults := [] }
noncomputable def defBody (s : Stmt) : List Stmt := match s with
  | .FunctionDef _ _ b _ _ _ _ _ _ _ => b
  | _ => []
noncomputable def defScope (s : Stmt) : Scope := match s with
  | .FunctionDef _ _ _ _ _ _ sc _ _ _ => sc
  | _ => { kind := .function, names := [], isGenerator := false, isCoroutine := false }
noncomputable abbrev E0 : XK := fun _ _ _ => False
section
variable {P : Program} {w : World} {K : PySem.W.Frag} {mg : Str → Option Value} {base : Heap}
end
section
variable {X : Cx}
theorem pv (i : Nat) {x : Str} {pos : Pos} (hN : X.N[i]? = some x := by rfl) (hv : Vis X.env.scope x := by first | exact Or.inl rfl | exact Or.inr (Or.inl rfl) | exact Or.inr (Or.inr rfl)) (hd : (x == ("__debug__" : Str)) = false := by decide)
    (hcd : (x == ("__classdict__" : Str)) = false := by decide) : PE X (.Name x pos) (tVar i) := pe_var hN hv hd hcd
end
theorem iteF {A B : Prop} (h : B) : if false = true then A else B := by
  rw [if_neg Bool.false_ne_true]
  exact h
theorem iteT {A B : Prop} (h : A) : if true = true then A else B := by
  rw [if_pos rfl]
  exact h
noncomputable def Same (H H' : Hp) : Prop := ∀ b o, H b = some o → H' b = some o
theorem Same.refl (H : Hp) : Same H H := fun _ _ h => h
theorem Same.trans {H H1 H2 : Hp} (a : Same H H1) (b : Same H1 H2) : Same H H2 := fun c o h => b c o (a c o h)
theorem Same.seq {K : PySem.W.Frag} {H H' : Hp} {a : Addr} {xs : List V} (e : Same H H') (h : SqL K H a xs) : SqL K H' a xs := by
  rcases h with (h | ⟨o, h⟩) | h
  · exact .inl (.inl (e _ _ h))
  · exact .inl (.inr ⟨o, e _ _ h⟩)
  · exact .inr h
end L2
set_option maxRecDepth 100000
namespace Kw
theorem gcd_step (g s : Int) (hg : 0 ≤ g) (hs : 0 < s) : Int.gcd s (g % s) = Int.gcd g s := by
  obtain ⟨m, rfl⟩ := Int.eq_ofNat_of_zero_le hg
  obtain ⟨n, rfl⟩ := Int.eq_ofNat_of_zero_le (Int.le_of_lt hs)
  have e : ((m : Int) % (n : Int)) = ((m % n : Nat) : Int) := by omega
  rw [e]
  show Nat.gcd n (m % n) = Nat.gcd m n
  rw [Nat.gcd_comm m n, Nat.gcd_rec n m, Nat.gcd_comm]
theorem gcd_abs (a b : Int) : Int.gcd (if a < 0 then -a else a) (if b < 0 then -b else b) = Int.gcd a b := by
  have e : ∀ x : Int, (if x < 0 then -x else x).natAbs = x.natAbs := fun x => by split <;> omega
  show Nat.gcd _ _ = Nat.gcd _ _
  rw [e, e]
theorem gcd_end (g : Int) (hg : 0 ≤ g) : ((Int.gcd g 0 : Nat) : Int) = g := by
  show ((Nat.gcd g.natAbs 0 : Nat) : Int) = g
  rw [Nat.gcd_zero_right]; omega
theorem abs_nn (a : Int) : 0 ≤ (if a < 0 then -a else a) := by split <;> omega
noncomputable def dv (t b : Int) : Int := if b < 0 then -((Int.gcd t b : Nat) : Int) else ((Int.gcd t b : Nat) : Int)
noncomputable def fT (t b : Int) : Int := t.fdiv (dv t b)
noncomputable def fB (t b : Int) : Int := b.fdiv (dv t b)
theorem dv_ne {t b : Int} (h : b ≠ 0) : dv t b ≠ 0 := by
  have hp : 0 < Int.gcd t b := Int.gcd_pos_of_ne_zero_right _ h
  unfold dv; split <;> omega
theorem dv_le {t b : Int} (h : b ≠ 0) : (dv t b).natAbs ≤ b.natAbs := by
  have hd : Int.gcd t b ∣ b.natAbs := Nat.gcd_dvd_right _ _
  have := Nat.le_of_dvd (by omega) hd
  unfold dv; split <;> omega
theorem dv_dvd_b (t b : Int) : dv t b ∣ b := by
  have h : ((Int.gcd t b : Nat) : Int) ∣ b := Int.gcd_dvd_right ..
  unfold dv; split
  · exact (Int.neg_dvd).mpr h
  · exact h
theorem dv_dvd_t (t b : Int) : dv t b ∣ t := by
  have h : ((Int.gcd t b : Nat) : Int) ∣ t := Int.gcd_dvd_left ..
  unfold dv; split
  · exact (Int.neg_dvd).mpr h
  · exact h
theorem fT_mul (t b : Int) : dv t b * fT t b = t := by
  unfold fT
  exact Int.mul_fdiv_cancel' (dv_dvd_t t b)
theorem fB_mul (t b : Int) : dv t b * fB t b = b := by
  unfold fB
  exact Int.mul_fdiv_cancel' (dv_dvd_b t b)
theorem fB_pos {t b : Int} (h : b ≠ 0) : 0 < fB t b := by
  have e := fB_mul t b
  have hn := dv_ne (t := t) h
  have hg : 0 ≤ ((Int.gcd t b : Nat) : Int) := Int.natCast_nonneg _
  rcases Int.lt_or_gt_of_ne h with hb | hb
  · have hd : dv t b < 0 := by unfold dv at hn ⊢; rw [if_pos hb] at hn ⊢; omega
    refine Int.not_le.mp fun q => ?_
    have := Int.mul_nonneg_of_nonpos_of_nonpos (Int.le_of_lt hd) q
    omega
  · have hd : 0 < dv t b := by unfold dv at hn ⊢; rw [if_neg (by omega)] at hn ⊢; omega
    refine Int.not_le.mp fun q => ?_
    have := Int.mul_nonpos_of_nonneg_of_nonpos (Int.le_of_lt hd) q
    omega
theorem natAbs_le_mul {d x : Int} (h : d ≠ 0) : x.natAbs ≤ (d * x).natAbs := by
  rw [Int.natAbs_mul]
  exact Nat.le_mul_of_pos_left _ (by omega)
theorem fT_le {t b : Int} (h : b ≠ 0) : (fT t b).natAbs ≤ t.natAbs := by
  have q := natAbs_le_mul (x := fT t b) (dv_ne (t := t) h)
  rw [fT_mul] at q; exact q
theorem fB_le {t b : Int} (h : b ≠ 0) : (fB t b).natAbs ≤ b.natAbs := by
  have q := natAbs_le_mul (x := fB t b) (dv_ne (t := t) h)
  rw [fB_mul] at q; exact q
end Kw
set_option Elab.async false
set_option linter.all false
set_option maxRecDepth 100000
set_option maxHeartbeats 4000000
namespace Kw
open PySem PySem.Spec PyProof.Rows L2
noncomputable def But (b : Addr) (H H' : Hp) : Prop := ∀ a o, a ≠ b → H a = some o → H' a = some o
theorem But.refl {b : Addr} (H : Hp) : But b H H := fun _ _ _ h => h
theorem But.trans {b : Addr} {H H1 H2 : Hp} (x : But b H H1) (y : But b H1 H2) : But b H H2 := fun a o n h => y a o n (x a o n h)
theorem But.of {b : Addr} {H H' : Hp} (x : Same H H') : But b H H' := fun a o _ h => x a o h
theorem same_new {H : Hp} {p : Addr} (h : H p = none) (o : HO) : Same H (upd H p o) := fun b u q => by rw [upd_ne (ne_of_none q h)]; exact q
theorem but_upd {H : Hp} {p : Addr} (o : HO) : But p H (upd H p o) := fun b u n q => by rw [upd_ne n]; exact q
theorem Same.tup {K : PySem.W.Frag} {H H' : Hp} {a : Addr} {xs : List V} (e : Same H H') (h : SqT K H a xs) : SqT K H' a xs := by
  rcases h with (h | ⟨o, h⟩) | h
  · exact .inl (.inl (e _ _ h))
  · exact .inl (.inr ⟨o, e _ _ h⟩)
  · exact .inr h
theorem But.tup {K : PySem.W.Frag} {H H' : Hp} {b a : Addr} {ys xs : List V} (e : But b H H') (hb : H b = some (.lst ys)) (h : SqT K H a xs) : SqT K H' a xs := by
  rcases h with (h | ⟨o, h⟩) | h
  · exact .inl (.inl (e _ _ (ne_of h hb (by intro z; cases z)) h))
  · exact .inl (.inr ⟨o, e _ _ (ne_of h hb (by intro z; cases z)) h⟩)
  · exact .inr h
theorem But.seq {K : PySem.W.Frag} {H H' : Hp} {b a : Addr} {xs : List V} (e : But b H H') (n : a ≠ b) (h : SqL K H a xs) : SqL K H' a xs := by
  rcases h with (h | ⟨o, h⟩) | h
  · exact .inl (.inl (e _ _ n h))
  · exact .inl (.inr ⟨o, e _ _ n h⟩)
  · exact .inr h
section
variable {σ : L2.St} {H : Hp} {Q : VK} {v : V} {i j : Int} {K : PySem.W.Frag} {p : Addr} {xs : List V}
theorem rd_new {R : V → Hp → Prop} {o : HO} (h : ∀ p H', Same H H' → H' p = some o → R (.ref p) H') : ∀ p, H p = none → R (.ref p) (upd H p o) := fun p hp => h p _ (same_new hp o) upd_same
end
theorem if_cases {c : Bool} {A B : Prop} (h1 : c = true → A) (h2 : c = false → B) : if c = true then A else B := by
  cases c
  · exact iteF (h2 rfl)
  · exact iteT (h1 rfl)
theorem if_dec {c : Prop} [Decidable c] {A B : Prop} (h1 : c → A) (h2 : ¬ c → B) : if decide c = true then A else B :=
  if_cases (fun e => h1 (of_decide_eq_true e)) (fun e => h2 (of_decide_eq_false e))
theorem if_decI {i j : Int} {A B : Prop} (h1 : i = j → A) (h2 : i ≠ j → B) : if decide (V.int i = V.int j) = true then A else B :=
  if_dec (fun e => h1 (V.int.inj e)) (fun e => h2 fun z => e (congrArg V.int z))
section
variable {X : Cx} {a b c : Expr} {ta tb tc : TE} {pos : Pos}
noncomputable def CDivB (_ j : Int) : Prop := j ≠ 0 ∧ j.natAbs.log2 < 9000
theorem op_fdivB : OpR X (binaryOp .FloorDiv) (rI CDivB fun i j => .int (i.fdiv j)) := opI fun _ _ _ _ _ _ _ hc q => floordiv_int hc.1 q (.inl (PyProof.noPylong_of_log2 hc.2))
theorem op_mulB : OpR X (binaryOp .Mult) (rI IntMulOk fun i j => .int (i * j)) := opI fun _ _ _ _ _ _ _ hc q => mul_int q hc
theorem call_divmodB : CallR X (.builtin "divmod") (fun xs H Q => ∃ i j, xs = [.int i, .int j] ∧ (0 < j ∧ j.natAbs.log2 < 9000) ∧ ∀ p, H p = none → Q (.ref p) (upd H p (.tup [.int (i / j), .int (i % j)]))) := by
  intro pins s σ H xs us Q I r h
  obtain ⟨i, j, rfl, ⟨h1, h2⟩, q⟩ := h
  obtain ⟨u, w', rfl, ⟨t, rfl⟩, ⟨t', rfl⟩⟩ := vals2 r
  refine divmod_int (by omega) ?_ (.inl (PyProof.noPylong_of_log2 h2))
  rw [Int.fdiv_eq_ediv_of_nonneg i (by omega), Int.fmod_eq_emod_of_nonneg i (by omega)]
  have hn : H s.heap.objs.size = none := I.hok.fresh (Nat.le_refl _)
  refine ⟨.ref s.heap.objs.size, _, ?_, rfl, q _ hn⟩
  refine I.laid (fun b o e => Heap.get?_push_of_some _ e) (Nat.le_refl _) ⟨by simp only [List.length_cons, List.length_nil]; rw [sizeLine_eq]; decide, [.int (i / j) s.toks, .int (i % j) (s.toks + 1)], .cons ⟨_, rfl⟩ (.cons ⟨_, rfl⟩ .nil), ?_⟩
  exact ⟨_, Heap.get?_push_size s.heap rfl, rfl, 0, rfl⟩
theorem pe_globI {x : Str} {i : Int} {pos : Pos} (hg : Gl X x) (hm : ∃ t, X.mg x = some (.int i t)) (hd : (x == ("__debug__" : Str)) = false := by decide) (hcd : (x == ("__classdict__" : Str)) = false := by decide) : PE X (.Name x pos) (tC (.int i)) := by
  obtain ⟨t, hm⟩ := hm
  exact pe_glob hg hm ⟨t, rfl⟩ hd
theorem pe_bty {x : Str} {T : String} {pos : Pos} (hg : Gl X x) (hm : X.mg x = none) (hv : bootBuiltins x = some (.type T)) (hn : x ≠ "__name__" := by decide) (hd : (x == ("__debug__" : Str)) = false := by decide) : PE X (.Name x pos) (tC (.ty T)) :=
  pe_bltn hg hm hv (v := .ty T) rfl hn hd
noncomputable def valC : V → Value
  | .ty T => .type T
  | .ref C => .ref C
  | _ => .none
noncomputable def IsI (K : PySem.W.Frag) (H : Hp) (x c : V) (b : Bool) : Prop := ∃ t, TyOf K H x t ∧ PySem.W.kitOne K t (valC c) = some b
theorem call_isinst : CallR X (.builtin "isinstance") (fun xs H Q => ∃ x c b, xs = [x, c] ∧ ((∃ T, c = .ty T) ∨ ∃ C, c = .ref C) ∧ IsI X.K H x c b ∧ Q (.bl b) H) := by
  intro pins s σ H xs us Q I r h
  obtain ⟨x, c, b, rfl, hc, ⟨t, ty, e⟩, q⟩ := h
  obtain ⟨u, w', rfl, rx, rc⟩ := vals2 r
  have ec : w' = valC c := by
    rcases hc with ⟨T, rfl⟩ | ⟨C, rfl⟩
    · exact rc
    · exact rc
  subst ec
  exact isinst_ok I rx ty e fun tk => ⟨.bl b, H, I.tok _, rfl, q⟩
end
end Kw
set_option Elab.async false
set_option linter.all false
set_option maxRecDepth 100000
set_option maxHeartbeats 4000000
namespace Kw
open PySem PySem.Spec PyProof.Rows L2
noncomputable def TrD (h bs : Heap) (x : Addr) (c : Value) (od : Option Addr) (a0 fl : Value) : Prop :=
  ∃ o vs T oT ts, h.get? x = some o ∧ o.cls = c ∧ o.dict = od ∧ o.data = .fields vs ∧ vs[0]? = some a0 ∧ vs[1]? = some (.ref T) ∧ bs.get? T = none ∧ T ≠ x ∧ h.get? T = some oT ∧ oT.data = .fields ts ∧ ts[3]? = some fl
structure Noted (bs : Heap) (l : List Env) (x : Addr) (c : Value) (od : Option Addr) (a0 fl : Value) (h h' : Heap) : Prop where
  st : bs.StaysIn h'
  fr : h'.FunFrames bs l
  tr : TrD h' bs x c od a0 fl
  up : h.UpToSlots h'
section
variable {M : Model} {A : Around} {E : Value → Shared → Prop} {s : Shared} {bs : Heap} {l up : List Env} {env : Env} {x L : Addr} {c : Value} {od : Option Addr} {a0 fl : Value} {Q : Unit → Shared → Prop}
theorem Noted.trans {h h1 h2 : Heap} {f1 f2 : Value} (a : Noted bs l x c od a0 f1 h h1) (b : Noted bs l x c od a0 f2 h1 h2) : Noted bs l x c od a0 f2 h h2 := ⟨b.st, b.fr, b.tr, a.up.trans b.up⟩
theorem Noted.tail {h h1 : Heap} (a : Noted bs (env :: up) x c od a0 fl h h1) : Noted bs up x c od a0 fl h h1 := ⟨a.st, a.fr.2.2, a.tr, a.up⟩
theorem flight0 (st : bs.StaysIn s.heap) (fr : s.heap.FunFrames bs l) (tr : TrD s.heap bs x c od a0 fl) (q : ∀ h', Noted bs l x c od a0 .none s.heap h' → Q () { s with heap := h' }) : wpAny M A (setFlight (.ref x) none) Q E s := by
  obtain ⟨o, vs, T, oT, ts, e1, c1, d1, f1, z0, z1, nT, ne, e2, f2, z3⟩ := tr
  have big : 3 < ts.size := (Array.getElem?_eq_some_iff.mp z3).1
  have oth : ∀ b, b ≠ T → (s.heap.update T (Obj.mapFields (·.setIfInBounds 3 Value.none))).get? b = s.heap.get? b := fun b hb => Heap.get?_update_other _ _ (Ne.symm hb)
  have nf : ∀ b u, s.heap.get? b = some u → (∀ ws, u.data ≠ .fields ws) → b ≠ T := fun b u y n z => by
    subst z
    rw [e2] at y
    cases y
    exact n ts f2
  unfold setFlight
  refine wpAny_bind (wpAny_field e1 f1 z1 ?_)
  rw [if_pos (by simp)]
  refine wpAny_setField e2 f2 big (q _ ⟨fun b u y => ?_, ?_, ?_, ?_⟩)
  · exact (oth b fun z => by rw [z, nT] at y; cases y).trans (st b u y)
  · exact fr.of_keeps fun b u y n => ⟨u, (oth b (nf b u y n)).trans y, rfl⟩
  · exact ⟨o, vs, T, _, _, (oth x (Ne.symm ne)).trans e1, c1, d1, f1, z0, z1, nT, ne, Heap.get?_update_self _ e2 (Obj.isFreed_of_fields (Obj.data_mapFields f2 _)), Obj.data_mapFields f2 _, by simp [big]⟩
  · exact fun b u y n => ⟨u.slots, (oth b (nf b u y n)).trans y⟩
theorem entry_done {h h1 : Heap} {o N : Obj} {vs ts : Array Value} (fr : h.FunFrames bs (env :: up)) (so : Heap.SlotsOnly ((env :: up).filterMap (·.frame)) h h1) (ex : h.get? x = some o) (st : bs.StaysIn h) (nx : bs.get? x = none) (fo : o.data = .fields vs) (big : 1 < vs.size)
    (z0 : vs[0]? = some a0) (hN : N.data = .fields ts) (hN3 : ts[3]? = some fl) :
    Noted bs (env :: up) x o.cls o.dict a0 fl h ((h1.push N).update x (Obj.mapFields (·.setIfInBounds 1 (Value.ref h1.objs.size)))) := by
  have out : x ∉ (env :: up).filterMap (·.frame) := fun m => by
    obtain ⟨_, u, y, n⟩ := fr.mem m
    rw [ex] at y
    cases y
    exact n vs fo
  have x1 : h1.get? x = some o := (so.2.1 x out).trans ex
  have b1 : bs.StaysIn h1 := fun b u y => (so.2.1 b fun m => by rw [(fr.mem m).1] at y; cases y).trans (st b u y)
  have nw : h1.objs.size ≠ x := Nat.ne_of_gt (Heap.lt_size x1)
  have kp : ∀ b u, b ≠ x → h1.get? b = some u → ((h1.push N).update x (Obj.mapFields (·.setIfInBounds 1 (Value.ref h1.objs.size)))).get? b = some u := fun b u hb y => by
    rw [Heap.get?_update_other _ _ (Ne.symm hb)]
    exact Heap.get?_push_of_some _ y
  have nf : ∀ b u, h.get? b = some u → (∀ ws, u.data ≠ .fields ws) → b ≠ x := fun b u y n z => by
    subst z
    rw [ex] at y
    cases y
    exact n vs fo
  have d3 := Obj.data_mapFields fo (·.setIfInBounds 1 (Value.ref h1.objs.size))
  have fN : N.isFreed = false := Obj.isFreed_of_fields hN
  refine ⟨fun b u y => kp b u (fun z => by rw [z, nx] at y; cases y) (b1 b u y), fr.of_keeps fun b u y n => ?_, ?_, fun b u y n => ?_⟩
  · obtain ⟨sl, hs⟩ := so.2.2 b u y
    exact ⟨_, kp b _ (nf b u y n) hs, rfl⟩
  · refine ⟨_, _, h1.objs.size, N, ts, Heap.get?_update_self _ (Heap.get?_push_of_some N x1) (Obj.isFreed_of_fields d3), Obj.cls_mapFields _ _, ?_, d3, by rw [Array.getElem?_setIfInBounds_ne (by decide)]; exact z0, by simp [big], b1.fresh, nw, ?_, hN, hN3⟩
    · obtain ⟨oc, odd, oda, osl⟩ := o
      simp only at fo
      subst fo
      rfl
    · rw [Heap.get?_update_other _ _ (Ne.symm nw)]
      exact Heap.get?_push_size h1 fN
  · obtain ⟨sl, hs⟩ := so.2.2 b u y
    exact ⟨sl, kp b _ (nf b u y n) hs⟩
theorem entry1 {o : Obj} {vs : Array Value} {head : Value} {had : Bool} (af : A.frames = some (env :: up)) (fr : s.heap.FunFrames bs (env :: up)) (ef : env.frame = some L) (ex : s.heap.get? x = some o) (st : bs.StaysIn s.heap) (nx : bs.get? x = none) (fo : o.data = .fields vs) (big : 1 < vs.size)
    (z0 : vs[0]? = some a0) (q : ∀ h', Noted bs (env :: up) x o.cls o.dict a0 (rawInt L) s.heap h' → Q () { s with heap := h' }) :
    wpAny M A (do let fa ← frameOf env; let pl ← entryPlaceOf L had; let en ← EntryCells.newEntry head fa .none (rawInt L) .none pl; setField (.ref x) 1 en) Q E s := by
  refine wpAny_bind (wpAny_frameOf_fun af fr ef fun h1 so => ?_)
  refine wpAny_bind (wpAny_entryPlaceOf fun pl hp => ?_)
  unfold EntryCells.newEntry newFields
  refine wpAny_bind (wpAny_newObj_type ?_ (hp.sizeOk5 _ _ _ _ _))
  have out : x ∉ (env :: up).filterMap (·.frame) := fun m => by
    obtain ⟨_, u, y, n⟩ := fr.mem m
    rw [ex] at y
    cases y
    exact n vs fo
  have x1 : h1.get? x = some o := (so.2.1 x out).trans ex
  refine wpAny_setField (Heap.get?_push_of_some _ x1) fo big (q _ (entry_done fr so ex st nx fo big z0 rfl ?_))
  first
    | (simp; done)
    | (rcases hp with rfl | ⟨_, _, _, _, _, _, _, rfl⟩ <;> simp)
theorem elder {T : Addr} {oT : Obj} {ts : Array Value} (e2 : s.heap.get? T = some oT) (f2 : oT.data = .fields ts) (nT : bs.get? T = none) (st : bs.StaysIn s.heap) (fr : s.heap.FunFrames bs l) :
    let h1 := s.heap.update T (Obj.mapFields (·.setIfInBounds 3 Value.none))
    (∀ b, b ≠ T → h1.get? b = s.heap.get? b) ∧ bs.StaysIn h1 ∧ h1.FunFrames bs l ∧ s.heap.UpToSlots h1 := by
  intro h1
  have oth : ∀ b, b ≠ T → h1.get? b = s.heap.get? b := fun b hb => Heap.get?_update_other _ _ (Ne.symm hb)
  have nf : ∀ b u, s.heap.get? b = some u → (∀ ws, u.data ≠ .fields ws) → b ≠ T := fun b u y n z => by
    subst z
    rw [e2] at y
    cases y
    exact n ts f2
  exact ⟨oth, fun b u y => (oth b fun z => by rw [z, nT] at y; cases y).trans (st b u y), fr.of_keeps fun b u y n => ⟨u, (oth b (nf b u y n)).trans y, rfl⟩, fun b u y n => ⟨u.slots, (oth b (nf b u y n)).trans y⟩⟩
theorem look1 (af : A.frames = some (env :: up)) (ef : env.frame = some L) (st : bs.StaysIn s.heap) (fr : s.heap.FunFrames bs (env :: up)) (nx : bs.get? x = none) (tr : TrD s.heap bs x c od a0 .none)
    (q : ∀ h', Noted bs (env :: up) x c od a0 (rawInt L) s.heap h' → Q () { s with heap := h' }) : wpAny M A (noteFrame (.ref x) env) Q E s := by
  obtain ⟨o, vs, T, oT, ts, e1, rfl, rfl, f1, z0, z1, nT, ne, e2, f2, z3⟩ := tr
  unfold noteFrame
  simp only [ef]
  refine wpAny_bind (wpAny_field e1 f1 z1 ?_)
  rw [if_pos (by simp)]
  refine wpAny_bind (wpAny_field e2 f2 z3 ?_)
  rw [if_neg (by simp [rawInt])]
  refine wpAny_bind (wpAny_setField e2 f2 (Array.getElem?_eq_some_iff.mp z3).1 ?_)
  obtain ⟨oth, st1, fr1, up1⟩ := elder e2 f2 nT st fr
  exact entry1 af fr1 ef ((oth x (Ne.symm ne)).trans e1) st1 nx f1 (Array.getElem?_eq_some_iff.mp z1).1 z0 fun h' n => q h' ⟨n.st, n.fr, n.tr, up1.trans n.up⟩
theorem leave1 (af : A.frames = some (env :: up)) (ef : env.frame = some L) (st : bs.StaysIn s.heap) (fr : s.heap.FunFrames bs (env :: up)) (nx : bs.get? x = none) (tr : TrD s.heap bs x c od a0 .none)
    (q : ∀ h', Noted bs up x c od a0 .none s.heap h' → Q () { s with heap := h' }) : wpAny M A (leaving env (.ref x)) Q E s := by
  unfold leaving
  refine wpAny_bind (look1 af ef st fr nx tr fun h1 n1 => ?_)
  exact flight0 n1.st n1.fr n1.tr fun h2 n2 => q h2 (n1.trans n2).tail
theorem leave0 {o : Obj} {vs : Array Value} (af : A.frames = some (env :: up)) (ef : env.frame = some L) (st : bs.StaysIn s.heap) (fr : s.heap.FunFrames bs (env :: up)) (nx : bs.get? x = none) (ex : s.heap.get? x = some o) (fo : o.data = .fields vs) (z0 : vs[0]? = some a0) (z1 : vs[1]? = some .none)
    (q : ∀ h', Noted bs up x o.cls o.dict a0 .none s.heap h' → Q () { s with heap := h' }) : wpAny M A (leaving env (.ref x)) Q E s := by
  unfold leaving
  refine wpAny_bind ?_
  unfold noteFrame
  simp only [ef]
  refine wpAny_bind (wpAny_field ex fo z1 ?_)
  rw [if_neg (by decide)]
  refine entry1 af fr ef ex st nx fo (Array.getElem?_eq_some_iff.mp z1).1 z0 fun h1 n1 => ?_
  exact flight0 n1.st n1.fr n1.tr fun h2 n2 => q h2 (n1.trans n2).tail
end
end Kw
set_option Elab.async false
set_option linter.all false
set_option maxRecDepth 100000
set_option maxHeartbeats 4000000
namespace Kw
open PySem PySem.Spec PyProof.Rows L2
structure FlyAt (H : Hp) (h0 h : Heap) (x : Addr) (C : Value) (od : Option Addr) : Prop where
  new : h0.get? x = none
  free : H x = none
  tr : ∃ oe vs a0 T oT ts, h.get? x = some oe ∧ oe.cls = C ∧ oe.dict = od ∧ oe.data = .fields vs ∧ vs[0]? = some a0 ∧ vs[1]? = some (.ref T) ∧ h0.get? T = none ∧ H T = none ∧ T ≠ x ∧ h.get? T = some oT ∧ oT.data = .fields ts ∧ ts[3]? = some .none
noncomputable def CXE (P : Program) (w : World) : CXT := fun outer H s E e s' =>
  ∃ (x : Addr) (C : Value) (od : Option Addr) (H' : Hp), e = .ref x ∧ s'.os = s.os ∧ AllBare s'.gens ∧ Un (frs outer) [] H H' s.heap s'.heap ∧ HOk P w H' s'.heap ∧ FlyAt H' s.heap s'.heap x C od ∧ E C od H'
theorem passE0 {P : Program} {w : World} {X : Cx} : Passes (CXE P w) X E0 := fun _ _ _ _ _ _ _ h => by
  obtain ⟨_, _, _, _, _, _, _, _, _, _, q⟩ := h
  exact q.elim
theorem objOk_there {P : Program} {w : World} {H : Hp} {h : Heap} {a : Addr} {o : HO} (x : ObjOk P w H h a o) : ∃ ob, h.get? a = some ob := by
  cases o with
  | lst xs => obtain ⟨_, _, _, _, e⟩ := x; exact ⟨_, e⟩
  | tup xs => obtain ⟨_, _, _, p⟩ := x; obtain ⟨ob, e, _⟩ := p; exact ⟨ob, e⟩
  | dK kvs => obtain ⟨_, _, _, _, ob, _, _, e, _⟩ := x; exact ⟨ob, e⟩
  | dT kvs => obtain ⟨_, _, _, _, ob, _, _, e, _⟩ := x; exact ⟨ob, e⟩
  | set S n => obtain ⟨ob, _, _, _, e, _⟩ := x; exact ⟨ob, e⟩
  | ins C dx fs => obtain ⟨_, _, _, e, _⟩ := x; exact ⟨_, e⟩
  | own y => exact x
  | xd fs => obtain ⟨_, ⟨ob, _, _, e, _⟩, _⟩ := x; exact ⟨ob, e⟩
  | rng lo hi => obtain ⟨_, _, _, e⟩ := x; exact ⟨_, e⟩
  | frz ob u => obtain ⟨e, _⟩ := x; exact ⟨_, e⟩
  | tbl ps => exact ⟨_, (show h.get? a = some _ from x)⟩
  | met f y => exact ⟨_, (show h.get? a = some _ from x)⟩
  | ext φ => obtain ⟨_, e, _⟩ := x; exact e
theorem free_of_none {P : Program} {w : World} {H : Hp} {h : Heap} {a : Addr} (k : HOk P w H h) (e : h.get? a = none) : H a = none := by
  cases q : H a with
  | none => rfl
  | some o =>
    obtain ⟨ob, z⟩ := objOk_there (k a o q)
    rw [e] at z; cases z
structure Plain (X : Cx) : Prop where
  ex : X.ex = []
  stk : X.stack = X.env :: X.outer
  fr : X.env.frame = some X.env.locals
section
variable {X : Cx} {pins : List (Addr × Obj)} {σ : L2.St} {H : Hp} {s : Shared} {h' : Heap} {ch : List Addr}
theorem inStack (pl : Plain X) {b : Addr} (hb : b ∈ X.fs) : b ∈ frs X.stack := by
  rw [pl.stk]
  unfold frs
  rw [List.filterMap_cons, pl.fr]
  exact List.mem_cons_of_mem _ hb
theorem locInStack (pl : Plain X) : X.env.locals ∈ frs X.stack := by
  rw [pl.stk]
  unfold frs
  rw [List.filterMap_cons, pl.fr]
  exact List.mem_cons_self
theorem old_notStack (I : Inv X pins σ H s) {b : Addr} {o : Obj} (q : X.s₀.heap.get? b = some o) (hb : b ∉ X.fs) : b ∉ frs X.stack := fun z => by
  rcases List.mem_cons.mp (I.stkSub b z) with e | z
  · subst e
    exact absurd (Heap.lt_size q) (Nat.not_lt.mpr I.ok.above)
  · exact hb z
structure Flown (X : Cx) (H : Hp) (h h' : Heap) (ch : List Addr) : Prop where
  keep : ∀ b o, h.get? b = some o → b ∉ frs X.stack → b ∉ ch → h'.get? b = some o
  slot : ∀ b o, h.get? b = some o → b ∈ frs X.stack → ∃ sl, h'.get? b = some { o with slots := sl }
  young : ∀ b ∈ ch, X.s₀.heap.get? b = none ∧ H b = none
theorem Flown.un (pl : Plain X) (I : Inv X pins σ H s) (f : Flown X H s.heap h' ch) : Un X.fs [] X.H₀ H X.s₀.heap h' where
  keep := fun b o q n hb _ => f.keep b o (I.base.keep b o q n hb (by rw [pl.ex]; simp)) (old_notStack I q hb) fun z => by
    rw [(f.young b z).1] at q; cases q
  slot := fun b o q n hb _ => by
    obtain ⟨sl, e⟩ := I.base.slot b o q n hb (by rw [pl.ex]; simp)
    obtain ⟨sl', e'⟩ := f.slot b _ e (inStack pl hb)
    exact ⟨sl', e'⟩
  free := fun b o q n _ => I.base.free b o q n (by rw [pl.ex]; simp)
  there := fun b o q _ => by
    obtain ⟨o1, e1⟩ := I.base.there b o q (by rw [pl.ex]; simp)
    by_cases hb : b ∈ frs X.stack
    · obtain ⟨sl, e⟩ := f.slot b o1 e1 hb
      exact ⟨_, e⟩
    · exact ⟨o1, f.keep b o1 e1 hb fun z => by rw [(f.young b z).1] at q; cases q⟩
  tups := I.base.tups
  frzs := I.base.frzs
  tbls := I.base.tbls
theorem Flown.hok (I : Inv X pins σ H s) (f : Flown X H s.heap h' ch) : HOk X.prog X.w H h' := fun a o e => by
  have tr : ∀ b, H b ≠ none → b ∉ frs X.stack ∧ b ∉ ch := fun b hb => ⟨fun z => hb (I.stkFree b z), fun z => hb (f.young b z).2⟩
  refine (I.hok a o e).stay (fun b u hb ho => ?_) (fun _ z => z) fun _ _ z => z
  have nb : H b ≠ none := by
    rcases hb with z | z
    · subst z; rw [e]; exact fun q => nomatch q
    · rw [z]; exact fun q => nomatch q
  exact f.keep b u ho (tr b nb).1 (tr b nb).2
theorem Flown.cxe (pl : Plain X) (I : Inv X pins σ H s) (f : Flown X H s.heap h' ch) {x : Addr} {C : Value} {od : Option Addr} {E : XK} {s' : Shared} (hs : s'.heap = h') (ho : s'.os = s.os) (hg : AllBare s'.gens) (fl : FlyAt H X.s₀.heap h' x C od) (q : E C od H) :
    CXE X.prog X.w X.outer X.H₀ X.s₀ E (.ref x) s' := by
  subst hs
  exact ⟨x, C, od, H, rfl, ho.trans I.os, hg, f.un pl I, f.hok I, fl, q⟩
theorem old_of (pl : Plain X) (I : Inv X pins σ H s) {b : Addr} (e : s.heap.get? b = none) : X.s₀.heap.get? b = none := by
  cases q : X.s₀.heap.get? b with
  | none => rfl
  | some o =>
    obtain ⟨o1, z⟩ := I.base.there b o q (by rw [pl.ex]; simp)
    rw [e] at z; cases z
end
theorem frames_hid {X : Cx} {pins : List (Addr × Obj)} {σ : L2.St} {H : Hp} {s : Shared} (pl : Plain X) (I : Inv X pins σ H s) (l : List Addr) : s.heap.FunFrames (PySem.W.hideAll s.heap (l ++ frs X.stack)) (X.env :: X.outer) := by
  have st := I.stack
  rw [pl.stk] at st
  refine PySem.W.funFrames_hide st fun env he a ha => List.mem_append_right _ ?_
  rw [pl.stk]
  exact List.mem_filterMap.mpr ⟨env, he, ha⟩
theorem frame_nofields {X : Cx} {pins : List (Addr × Obj)} {σ : L2.St} {H : Hp} {s : Shared} (I : Inv X pins σ H s) {b : Addr} {o : Obj} (hb : b ∈ frs X.stack) (e : s.heap.get? b = some o) : ∀ vs, o.data ≠ .fields vs := by
  obtain ⟨_, o', e', n⟩ := I.stack.mem hb
  rw [e] at e'
  cases e'
  exact n
theorem leaves {X : Cx} {pins : List (Addr × Obj)} {σ : L2.St} {H : Hp} {s s' : Shared} {x : Addr} {C : Value} {od : Option Addr} {E : XK} (pl : Plain X) (I0 : Inv X pins σ H s) {H' : Hp} (I : Inv X pins σ H' s') (there : ∀ b o, s.heap.get? b = some o → ∃ o', s'.heap.get? b = some o')
    (fly : FlyAt H' s.heap s'.heap x C od) (q : E C od H') {Q : Unit → Shared → Prop} {R : Value → Shared → Prop} (hQ : ∀ s'', CXE X.prog X.w X.outer X.H₀ X.s₀ E (.ref x) s'' → Q () s'') :
    wpAny (model X.prog X.w) X.A (leaving X.env (.ref x)) Q R s' := by
  obtain ⟨new, free, oe, vs, a0, T, oT, ts, he, hcl, hdc, hd, h0, h1, hT0, hTf, hTx, hT, hdT, h3⟩ := fly
  have n0 := old_of pl I0 new
  have nT := old_of pl I0 hT0
  refine leave1 (bs := PySem.W.hideAll s'.heap ([x, T] ++ frs X.stack)) (up := X.outer) (by rw [I.ok.frames, pl.stk]) pl.fr (fun b o z => PySem.W.of_hideAll _ z) (frames_hid pl I _) (PySem.W.hideAll_none _ (by simp))
    ⟨oe, vs, T, oT, ts, he, hcl, hdc, hd, h0, h1, PySem.W.hideAll_none _ (by simp), hTx, hT, hdT, h3⟩ fun h' nt => hQ _ ?_
  have up := nt.up
  have F : Flown X H' s'.heap h' [x, T] := by
    refine ⟨fun b o ho hs hc => nt.st b o (PySem.W.hideAll_get _ ho fun z => ?_), fun b o ho hb => up b o ho (frame_nofields I hb ho), fun b hb => ?_⟩
    · rcases List.mem_append.mp z with z | z
      · exact hc z
      · exact hs z
    · simp only [List.mem_cons, List.not_mem_nil, or_false] at hb
      rcases hb with rfl | rfl
      · exact ⟨n0, free⟩
      · exact ⟨nT, hTf⟩
  refine F.cxe pl I rfl rfl I.bare ⟨n0, free, ?_⟩ q
  obtain ⟨oe', vs', T', oT', ts', he', hc', hdc', hd', h0', h1', hnT', hTe', hT', hdT', h3'⟩ := nt.tr
  refine ⟨oe', vs', a0, T', oT', ts', he', hc', hdc', hd', h0', h1', ?_, ?_, hTe', hT', hdT', h3'⟩
  all_goals
    cases z : s'.heap.get? T' with
    | none => first | exact old_of pl I z | exact free_of_none I.hok z
    | some o1 =>
      have hm : T' ∈ [x, T] ++ frs X.stack := Classical.byContradiction fun hm => by
        rw [PySem.W.hideAll_get _ z hm] at hnT'; cases hnT'
      rcases List.mem_append.mp hm with hm | hm
      · simp only [List.mem_cons, List.not_mem_nil, or_false] at hm
        rcases hm with rfl | rfl
        · exact absurd rfl hTe'
        · first | exact nT | exact hTf
      · obtain ⟨sl, e⟩ := up T' o1 z (frame_nofields I hm z)
        rw [e] at hT'
        cases hT'
        exact absurd hdT' (frame_nofields I hm z _)
noncomputable def Leaves (X : Cx) (E : XK) : Prop := ∀ (e : Value) (s' : Shared), (∀ Q : Unit → Shared → Prop, ∀ R : Value → Shared → Prop, (∀ s'', CXE X.prog X.w X.outer X.H₀ X.s₀ E e s'' → Q () s'') → wpAny (model X.prog X.w) X.A (leaving X.env e) Q R s') → X.xe e s'
theorem passL {X : Cx} {E : XK} (pl : Plain X) (L : Leaves X E) : Passes (CXE X.prog X.w) X E := by
  intro pins σ H s e s' I hc
  obtain ⟨x, C, od, H', rfl, os, bare, un, hok, fly, q⟩ := hc
  have I' : Inv X pins σ H' s' := I.call' (ch := []) os un hok bare (fun b hb => absurd hb (by simp))
  exact L _ _ fun Q R hQ => leaves pl I I' (fun b o z => un.there b o z (by simp)) fly q hQ
theorem plain_cxOf {CX : CXT} {P : Program} {w : World} {K : PySem.W.Frag} {mg : Str → Option Value} {base : Heap} {N : List Str} {qual : Str} {scope : Scope} {f : Addr} {cd : Value} {A : Around} {outer : List Env} {s : Shared} {H : Hp} {E : XK} :
    Plain (cxOf CX P w K mg base N qual scope f cd A outer s H E) := ⟨rfl, rfl, rfl⟩
theorem leaves_cxOf {P : Program} {w : World} {K : PySem.W.Frag} {mg : Str → Option Value} {base : Heap} {N : List Str} {qual : Str} {scope : Scope} {f : Addr} {cd : Value} {A : Around} {outer : List Env} {s : Shared} {H : Hp} {E : XK} :
    Leaves (cxOf (CXE P w) P w K mg base N qual scope f cd A outer s H E) E := fun _ _ h => h _ _ fun _ z => z
end Kw
set_option Elab.async false
set_option linter.all false
set_option maxRecDepth 100000
set_option maxHeartbeats 4000000
namespace Kw
open PySem PySem.Spec PyProof.Rows L2
noncomputable abbrev bmV : List Value := [.type "ValueError", .type "Exception", .type "BaseException", .type "object"]
noncomputable abbrev ExcC (K : PySem.W.Frag) (C : Addr) : Prop := PySem.W.excIn K C bmV "ValueError.__new__" = true
theorem exc_obj {K : PySem.W.Frag} {h : Heap} {C : Addr} (X : K.In h) (q : ExcC K C) :
    ∃ bm N nm qn bs hdct sn sub ab col dd k0 k1 k2 k3 k5 mN, h.get? C = some (excClassObj nm qn C N bs bm hdct sn sub ab col dd k0 k1 k2 k3 k5 "ValueError.__new__") ∧ h.Ns N mN ∧ mN "__init__" = none ∧ OwnTail h bmV bm := by
  have q' : PySem.W.excIn K C bmV "ValueError.__new__" = true := q
  unfold PySem.W.excIn at q'
  cases hl : K.lookup C with
  | none => rw [hl] at q'; cases q'
  | some o =>
    rw [hl] at q'
    split at q'
    · rename_i dd cd sl eo
      cases eo
      split at q'
      · rename_i C' bm k0 k1 k2 k3 n k5 hm hs
        simp only [Bool.and_eq_true, beq_iff_eq, Bool.not_eq_true'] at q'
        obtain ⟨⟨⟨⟨⟨e1, e2⟩, e3⟩, e4⟩, e5⟩, e6⟩ := q'
        subst e1 e2
        cases cd with
        | mk nm bs mro ns qn hd sn sub ab col del =>
          simp only at hm e3 e5 e6
          subst hm e3
          cases sl with
          | mk sll =>
            simp only at hs
            subst hs
            exact ⟨bm, ns, nm, qn, bs, hd, sn, sub, ab, col, dd, k0, k1, k2, k3, k5, _, X _ _ hl, .of_isNs (PySem.W.isNs_of_in X e5), PySem.W.nsMap_none_of_in X e5 e6, PySem.W.tail_of_in X e4⟩
      · cases q'
    · cases q'
section
variable {X : Cx} {x : Str} {C : Addr} {E : XK} {e : Expr} {es : List Expr} {t : TA} {np cpos pos : Pos}
noncomputable def tRaise (C : Addr) (E : XK) (t : TA) : TS := fun _ σ H => t σ H fun vs H1 => vs.length ≤ sizeLine ∧ E (.ref C) none H1
theorem ps_raise (pl : Plain X) (L : Leaves X E) (hc : X.calm = true) (hg : Gl X x) (hm : X.mg x = some (.ref C)) (hC : ExcC X.K C) (ha : PA X (e :: es) t)
    (hd : (x == ("__debug__" : Str)) = false := by decide) (he : starEach (e :: es) X.env = (false, eval e X.env) :: starEach es X.env := by rfl) (hpl : (backTo cpos (starEach es X.env)).any (·.1) = false := by rfl) :
    PS X (.Raise (some (.Call (.Name x np) (e :: es) [] cpos)) none pos) (tRaise C E t) := by
  intro pins s σ H D I h
  obtain ⟨bm, N, nm, qn, bs, hdct, sn, sub, ab, col, dd, k0, k1, k2, k3, k5, mN, hO, hN, hni, TL⟩ := exc_obj I.mod.kin hC
  have hany : (backTo cpos (starEach (e :: es) X.env)).any (·.1) = false := by
    rw [he]
    show (false || (backTo cpos (starEach es X.env)).any (·.1)) = false
    rw [hpl]; rfl
  refine wpAny_Raise_call_subT (C := C) (nm := nm) (q := qn) (N := N) (bs := bs) (bm := bm) (hdct := hdct) (sn := sn) (sub := sub) (ab := ab) (col := col) (dd := dd) (k0 := k0) (k1 := k1) (k2 := k2) (k3 := k3) (k5 := k5)
    PySem.F.excBase_ValueError (mN := mN) (TL.hasType PySem.F.excBase_ValueError.hasBase) (I.ok.hd hc) hany hni (ld_glob I hg hm ⟨rfl, ?_⟩ hd)
  have hargs := ha cpos pins s σ H _ I h
  rw [he] at hargs ⊢
  refine Calls.evalArgs_plain (thn hargs fun us s2 ⟨vs, H2, I2, r, hz, q⟩ => ⟨rfl, by rw [← r.length]; exact hz, I2.bk _ _ hO, hN.keeps I2.bk, TL.keeps I2.bk, fun h' ex hx => ?_⟩)
  refine L _ _ fun Q R hQ => ?_
  obtain ⟨tq, htq, htn, ht⟩ := hx.there
  refine leave0 (bs := PySem.W.hideAll s2.heap ([] ++ frs X.stack)) (up := X.outer) (by rw [I2.ok.frames, pl.stk]) pl.fr (fun b o z => hx.keeps b o (PySem.W.of_hideAll _ z)) ((frames_hid pl I2 _).of_keeps fun b o hb _ => ⟨o, hx.keeps b o hb, rfl⟩) ?_ htq rfl rfl rfl fun h'' nt => hQ _ ?_
  · cases z : (PySem.W.hideAll s2.heap ([] ++ frs X.stack)).get? ex with
    | none => rfl
    | some o =>
      have y := PySem.W.of_hideAll _ z
      rw [hx.new] at y
      cases y
  have up := nt.up
  have F : Flown X H2 s2.heap h'' [] := by
    refine ⟨fun b o ho hs _ => nt.st b o (PySem.W.hideAll_get _ ho hs), fun b o ho hb => ?_, fun b hb => absurd hb (by simp)⟩
    exact up b o (hx.keeps b o ho) (frame_nofields I2 hb ho)
  refine F.cxe pl I2 rfl rfl I2.bare ⟨old_of pl I2 hx.new, free_of_none I2.hok hx.new, ?_⟩ q
  obtain ⟨oe', vs', T', oT', ts', he', hc', hdc', hd', h0', h1', hnT', hTe', hT', hdT', h3'⟩ := nt.tr
  refine ⟨oe', vs', _, T', oT', ts', he', hc', hdc', hd', h0', h1', ?_, ?_, hTe', hT', hdT', h3'⟩
  all_goals
    cases z : s2.heap.get? T' with
    | none => first | exact old_of pl I2 z | exact free_of_none I2.hok z
    | some o1 =>
      have hmm : T' ∈ [] ++ frs X.stack := Classical.byContradiction fun hmm => by
        rw [PySem.W.hideAll_get _ z hmm] at hnT'; cases hnT'
      have hmm' : T' ∈ frs X.stack := hmm
      obtain ⟨sl, ee⟩ := up T' o1 (hx.keeps _ _ z) (frame_nofields I2 hmm' z)
      rw [ee] at hT'
      cases hT'
      exact absurd hdT' (frame_nofields I2 hmm' z _)
end
structure Fu (K : PySem.W.Frag) (x : Str) (st : Stmt) (f : Addr) (fd : FuncData) : Prop where
  ex : ∃ (oc : Value) (od : Option Addr) (dV kV doc pm : Value) (an : Option Addr) (cdv ct : Value) (osl : Array (Option Value)),
    fd = PySem.W.fnOf x x (defArgs st) (defBody st) (defScope st) dV kV doc pm an cdv ct ∧ K.lookup f = some ⟨oc, od, .func fd, osl⟩ ∧ PySem.W.codeIn K cdv x = true
  kp : PySem.W.keepIn K (.ref f) = true
structure Df (K : PySem.W.Frag) (mg : Str → Option Value) (x : Str) (st : Stmt) (ps : List Str) : Prop where
  ex : ∃ f fd, Fu K x st f fd ∧ Binds K fd ps [] ∧ mg x = some (.ref f)
structure Fn (P : Program) (w : World) (K : PySem.W.Frag) (mg : Str → Option Value) (base : Heap) (k : Nat) (x : Str) (ps : List Str) (sp : Sp) : Prop where
  ex : ∃ f fd, FnOk P w K mg base (CXE P w) k f fd ps sp ∧ mg x = some (.ref f) ∧ PySem.W.keepIn K (.ref f) = true ∧ Binds K fd ps [] ∧ ∃ oc od osl, K.lookup f = some ⟨oc, od, .func fd, osl⟩
section
variable {P : Program} {w : World} {K : PySem.W.Frag} {mg : Str → Option Value} {base : Heap} {x : Str} {st : Stmt} {N ps : List Str} {k : Nat} {sp : Sp}
theorem Df.ok0 (D : Df K mg x st ps) (S : FnScope N ps (defScope st)) (len : ∀ vs H Q E, sp vs H Q E → vs.length = ps.length)
    (hbody : ∀ (f : Addr) (cdv : Value) (A : Around) (outer : List Env) (s : Shared) (H : Hp) (vs : List V) (Q : VK) (E : XK), Room k (A.deeper (envOfC x (defScope st) s.heap.objs.size f cdv)) → sp vs H Q E →
      ∃ t, PSs (cxOf (CXE P w) P w K mg base N x (defScope st) f cdv A outer s H E).nox (defBody st) t ∧ t { nx := fun _ H' => Q .non H', rt := Q } (start N vs) H) : Fn P w K mg base (k + 1) x ps sp := by
  obtain ⟨f, fd, ⟨⟨oc, od, dV, kV, doc, pm, an, cdv, ct, osl, rfl, lk, hcd⟩, kp⟩, bd, hm⟩ := D.ex
  refine ⟨f, _, fn_of lk hcd S len fun A outer s H vs Q E hr hsp => ?_, hm, kp, bd, _, _, _, lk⟩
  obtain ⟨t, h, q⟩ := hbody f cdv A outer s H vs Q E hr hsp
  exact ⟨t, h.nox, q⟩
theorem Df.okX (D : Df K mg x st ps) (S : FnScope N ps (defScope st)) (len : ∀ vs H Q E, sp vs H Q E → vs.length = ps.length)
    (hbody : ∀ (f : Addr) (cdv : Value) (A : Around) (outer : List Env) (s : Shared) (H : Hp) (vs : List V) (Q : VK) (E : XK), Room k (A.deeper (envOfC x (defScope st) s.heap.objs.size f cdv)) → sp vs H Q E →
      ∃ t, PSs (cxOf (CXE P w) P w K mg base N x (defScope st) f cdv A outer s H E) (defBody st) t ∧ t { nx := fun _ H' => Q .non H', rt := Q } (start N vs) H) : Fn P w K mg base (k + 1) x ps sp := by
  obtain ⟨f, fd, ⟨⟨oc, od, dV, kV, doc, pm, an, cdv, ct, osl, rfl, lk, hcd⟩, kp⟩, bd, hm⟩ := D.ex
  exact ⟨f, _, fn_of lk hcd S len fun A outer s H vs Q E hr hsp => hbody f cdv A outer s H vs Q E hr hsp, hm, kp, bd, _, _, _, lk⟩
end
section
variable {X : Cx} {k k' : Nat} {x : Str} {ps : List Str} {sp : Sp} {E : XK} {p pos : Pos} {e : Expr} {es : List Expr} {t : TA}
theorem pe_fn (F : Fn X.prog X.w X.K X.mg X.base k x ps sp) (hk : k ≤ k') (hr : Room k' X.A) (hg : Gl X x) (hx : Passes (CXE X.prog X.w) X E) (ha : PA X (e :: es) t) (hdb : (x == ("__debug__" : Str)) = false := by decide)
    (he : starEach (e :: es) X.env = (false, eval e X.env) :: starEach es X.env := by rfl) (hpl : (backTo pos (starEach es X.env)).any (·.1) = false := by rfl) : PE X (.Call (.Name x p) (e :: es) [] pos) (tCall sp [] E t) := by
  obtain ⟨f, fd, G, hm, kp, bd, _⟩ := F.ex
  exact pe_call G (hr.mono hk) hg hm kp bd .nil hx ha hdb he hpl
end
end Kw
set_option Elab.async false
set_option linter.all false
set_option maxRecDepth 100000
set_option maxHeartbeats 4000000
namespace Kw
open PySem PySem.Spec PyProof.Rows L2
noncomputable def Bd (n : Nat) (i : Int) : Prop := i.natAbs < 2 ^ n
theorem Bd.mono {m n : Nat} {i : Int} (h : Bd m i) (l : m ≤ n) : Bd n i := Nat.lt_of_lt_of_le h (Nat.pow_le_pow_right (by decide) l)
theorem Bd.of_le {n : Nat} {i j : Int} (h : Bd n j) (l : i.natAbs ≤ j.natAbs) : Bd n i := Nat.lt_of_le_of_lt l h
theorem Bd.bits {n : Nat} {i : Int} (h : Bd n i) : Builtin.Int.intBits i ≤ n := intBits_le_iff.mpr h
theorem bd_bits {n : Nat} {i : Int} (h : Builtin.Int.intBits i ≤ n) : Bd n i := intBits_le_iff.mp h
theorem Bd.mul {m n : Nat} {i j : Int} (h : Bd m i) (g : Bd n j) : Bd (m + n) (i * j) := bd_bits (intBits_mul_le h.bits g.bits)
theorem Bd.add {m : Nat} {i j : Int} (h : Bd m i) (g : Bd m j) : Bd (m + 1) (i + j) := bd_bits (Nat.le_trans (intBits_add_le h.bits g.bits) (by omega))
theorem Bd.sub {m : Nat} {i j : Int} (h : Bd m i) (g : Bd m j) : Bd (m + 1) (i - j) := bd_bits (Nat.le_trans (intBits_sub_le h.bits g.bits) (by omega))
theorem Bd.ok {m n : Nat} {i j : Int} (h : Bd m i) (g : Bd n j) (l : m + n ≤ 134217728) : IntMulOk i j := .of_le h.bits g.bits l
theorem Bd.small {i : Int} (h1 : -(2 ^ 64) < i) (h2 : i < 2 ^ 64) : Bd 64 i := bd_bits (intBits_le_64 h1 h2)
theorem Bd.log {i : Int} (h : Bd 9000 i) : i.natAbs.log2 < 9000 := by
  by_cases h0 : i.natAbs = 0
  · rw [h0]; decide +kernel
  · exact (Nat.log2_lt h0).mpr h
theorem mulOk_small {i j : Int} (h1 : -(2 ^ 64) < j) (h2 : j < 2 ^ 64) : IntMulOk i j := .of_right (intBits_le_64 h1 h2)
theorem mulOk_smallL {i j : Int} (h1 : -(2 ^ 64) < i) (h2 : i < 2 ^ 64) : IntMulOk i j := .of_left (intBits_le_64 h1 h2)
theorem bd_fT {n : Nat} {t b : Int} (h : b ≠ 0) (g : Bd n t) : Bd n (fT t b) := g.of_le (fT_le h)
theorem bd_fB {n : Nat} {t b : Int} (h : b ≠ 0) (g : Bd n b) : Bd n (fB t b) := g.of_le (fB_le h)
theorem bd_dv {n : Nat} {t b : Int} (h : b ≠ 0) (g : Bd n b) : Bd n (dv t b) := g.of_le (dv_le h)
section
variable {K : PySem.W.Frag}
end
noncomputable def Frac (t b : Int) (H : Hp) (Q : VK) : Prop := ∀ p H', Same H H' → H' p = some (.tup [.int (fT t b), .int (fB t b)]) → Q (.ref p) H'
noncomputable def Scr (K : PySem.W.Frag) (H : Hp) (a : Addr) : Prop := ∃ ns : List Int, SqL K H a (ns.map V.int) ∧ ns.length ≤ 63 ∧ ∀ n ∈ ns, Bd 1048576 n
noncomputable def spCell (K : PySem.W.Frag) : Sp := fun vs H Q _ => ∃ a k, vs = [.ref a, .int k] ∧ Scr K H a ∧ 0 ≤ k ∧ k ≤ 1000 ∧ ∀ c, Bd 1048576 c → Q (.int c) H
noncomputable def spMix : Sp := fun vs H Q _ => ∃ c k, vs = [.int c, .int k] ∧ Bd 1048576 c ∧ 0 ≤ k ∧ k ≤ 1000 ∧ ∀ n, Q (.int n) H
noncomputable def spBox (K : PySem.W.Frag) : Sp := fun vs H Q _ => ∃ a k, vs = [.ref a, .int k] ∧ Scr K H a ∧ 0 ≤ k ∧ k ≤ 1000 ∧ ∀ p n H', H p = none → Same H H' → H' p = some (.lst [.int n]) → Q (.ref p) H'
noncomputable def spTake : Sp := fun vs H Q _ => ∃ b m n, vs = [.ref b, .int m] ∧ H b = some (.lst [.int n]) ∧ 0 < m ∧ Bd 9000 m ∧ ∀ d n' H', 0 ≤ d → d < m → But b H H' → H' b = some (.lst [.int n']) → Q (.int d) H'
noncomputable def spFit : Sp := fun vs H Q _ => ∃ a b : Int, vs = [.int a, .int b] ∧ b ≠ 0 ∧ Bd 9000 b ∧ Frac a b H Q
end Kw
set_option Elab.async false
set_option linter.all false
set_option maxRecDepth 100000
set_option maxHeartbeats 4000000
namespace Kw
open PySem PySem.Spec PyProof.Rows L2
noncomputable def ExcIs (x : Addr) (C : Value) (h : Heap) : Prop := ∃ o vs, h.get? x = some o ∧ o.cls = C ∧ o.data = .fields vs
section
variable {X : Cx} {pins : List (Addr × Obj)} {σ : L2.St} {H : Hp} {s : Shared} {h' : Heap} {ch : List Addr} {x : Addr}
theorem Flown.inv (pl : Plain X) (hcell : X.env.cells = []) (I : Inv X pins σ H s) (f : Flown X H s.heap h' ch) (np : ∀ p ∈ X.pn ++ pins, p.1 ∉ ch) {s' : Shared} (hs : s'.heap = h') (ho : s'.os = s.os) (hg : AllBare s'.gens) : Inv X pins σ H s' := by
  subst hs
  refine ⟨I.ok, ho.trans I.os, hg, ?_, ?_, fun x c z => ?_, I.free, I.freeC, fun p hp => ?_, f.hok I, I.len⟩
  · have u := f.un pl I
    rw [pl.ex]
    exact u
  · obtain ⟨m, hn, hl⟩ := I.loc
    obtain ⟨o, es, ep, e1, e2, e3⟩ := hn
    obtain ⟨sl, e4⟩ := f.slot _ o e1 (locInStack pl)
    refine ⟨m, ⟨_, es, ep, e4, e2, e3⟩, fun i x v a b c => ?_⟩
    obtain ⟨u, r, lk⟩ := hl i x v a b c
    refine ⟨u, r, ?_⟩
    rcases lk with lk | ⟨_, c', lk, _⟩
    · exact .inl lk
    · rw [hcell] at lk
      cases lk
  · rw [hcell] at z
    cases z
  · obtain ⟨a, b, c, d, e⟩ := I.pin p hp
    refine ⟨f.keep _ _ a (fun z => ?_) (np p hp), b, c, d, e⟩
    rcases List.mem_cons.mp (I.stkSub _ z) with q | q
    · exact c q
    · exact d q
theorem Inv.adopt (hcl : ∀ y c, X.env.cells.lookup y = some c → c ≠ x)   {o : HO} (I : Inv X pins σ H s) (n0 : X.s₀.heap.get? x = none) (hx : H x = none) (hL : x ≠ X.env.locals) (np : ∀ p ∈ X.pn ++ pins, p.1 ≠ x) (ok : ObjOk X.prog X.w (upd H x o) s.heap x o) :
    Inv X pins σ (upd H x o) s := by
  have nx : ∀ b, H b ≠ none → b ≠ x := fun b hb z => hb (by rw [z]; exact hx)
  refine ⟨I.ok, I.os, I.bare, ⟨I.base.keep, I.base.slot, fun b ob q n hb => ?_, I.base.there, fun b xs q => ?_, fun b ob u q => ?_, fun b ps q => ?_⟩, I.loc, I.cell, ?_, fun y c z => ?_, fun p hp => ?_, fun a u e => ?_, I.len⟩
  · rw [upd_ne fun z => by rw [z, n0] at q; cases q]
    exact I.base.free b ob q n hb
  · have z := I.base.tups b xs q
    rw [upd_ne (nx b (by rw [z]; exact fun q => nomatch q))]
    exact z
  · have z := I.base.frzs b ob u q
    rw [upd_ne (nx b (by rw [z]; exact fun q => nomatch q))]
    exact z
  · obtain ⟨more, z⟩ := I.base.tbls b ps q
    exact ⟨more, by rw [upd_ne (nx b (by rw [z]; exact fun q => nomatch q))]; exact z⟩
  · rw [upd_ne (Ne.symm hL)]
    exact I.free
  · rw [upd_ne (hcl y c z)]
    exact I.freeC y c z
  · obtain ⟨a, b, c, d, e⟩ := I.pin p hp
    exact ⟨a, by rw [upd_ne (np p hp)]; exact b, c, d, e⟩
  · by_cases z : a = x
    · subst z
      rw [upd_same] at e
      cases e
      exact ok
    · rw [upd_ne z] at e
      refine (I.hok a u e).stay (fun b v hb q => q) (fun b q => ?_) fun b xs q => ?_
      · rw [upd_ne (nx b (by rw [q]; exact fun q => nomatch q))]
        exact q
      · rw [upd_ne (nx b (by rw [q]; exact fun q => nomatch q))]
        exact q
end
noncomputable def sut (X : Cx) (x : Addr) : Cx := { X with A := X.A.mark (some (.ref x)), calm := false, xe := fun _ _ => False }
theorem Inv.sut {X : Cx} {pins : List (Addr × Obj)} {σ : L2.St} {H : Hp} {s : Shared} (I : Inv X pins σ H s) (x : Addr) : Inv (sut X x) pins σ H s := by
  obtain ⟨ok, r1, r2, r3, r4, r5, r6, r7, r8, r9, r10⟩ := I
  obtain ⟨a1, a2, a3, a4, a5, a6, a7, a8, a9, a10, a11, a12, a13, a14, a15, a16, a17, a18⟩ := ok
  exact ⟨⟨a1, a2, a3, a4, a5, a6, a7, a8, (fun z => nomatch z), a10, a11, a12, a13, a14, a15, a16, a17, a18⟩, r1, r2, r3, r4, r5, r6, r7, r8, r9, r10⟩
theorem Inv.unsut {X : Cx} {pins : List (Addr × Obj)} {σ : L2.St} {H : Hp} {s : Shared} {x : Addr} (ok : X.Ok) (I : Inv (Kw.sut X x) pins σ H s) : Inv X pins σ H s := by
  obtain ⟨_, r1, r2, r3, r4, r5, r6, r7, r8, r9, r10⟩ := I
  exact ⟨ok, r1, r2, r3, r4, r5, r6, r7, r8, r9, r10⟩
end Kw
set_option Elab.async false
set_option linter.all false
set_option maxRecDepth 100000
set_option maxHeartbeats 4000000
namespace Kw
open PySem PySem.Spec PyProof.Rows L2
section
variable {X : Cx} {pins : List (Addr × Obj)} {σ : L2.St} {H : Hp} {s : Shared}
theorem Inv.forget (pl : Plain X) (hcell : X.env.cells = []) (I : Inv X pins σ H s) {h' : Heap} {m' : Str → Option Value} {tk : Nat} (hn : h'.Ns X.env.locals m') (sb : Heap.SameBut X.env.locals s.heap h') :
    Inv X pins (List.replicate X.N.length none) H { s with heap := h', toks := tk } := by
  have kp : ∀ b, b ≠ X.env.locals → h'.get? b = s.heap.get? b := fun b hb => sb.2 b hb
  have old : ∀ b o, X.s₀.heap.get? b = some o → b ≠ X.env.locals := fun b o q z => by
    subst z
    exact absurd (Heap.lt_size q) (Nat.not_lt.mpr I.ok.above)
  refine ⟨I.ok, I.os, I.bare, ⟨fun b o q n a c => ?_, fun b o q n a c => ?_, I.base.free, fun b o q c => ?_, I.base.tups, I.base.frzs, I.base.tbls⟩, ⟨m', hn, fun i x v a b c => ?_⟩, fun x c z => ?_, I.free, I.freeC, fun p hp => ?_, fun a o e => ?_, by simp⟩
  · exact (kp b (old b o q)).trans (I.base.keep b o q n a c)
  · obtain ⟨sl, z⟩ := I.base.slot b o q n a c
    exact ⟨sl, (kp b (old b o q)).trans z⟩
  · obtain ⟨o', z⟩ := I.base.there b o q c
    exact ⟨o', (kp b (old b o q)).trans z⟩
  · exfalso
    rw [List.getElem?_replicate] at b
    split at b <;> cases b
  · rw [hcell] at z
    cases z
  · obtain ⟨a, b, c, d, e⟩ := I.pin p hp
    exact ⟨(kp _ c).trans a, b, c, d, e⟩
  · refine (I.hok a o e).stay (fun b u hb ho => ?_) (fun _ z => z) fun _ _ z => z
    have nb : b ≠ X.env.locals := fun z => by
      subst z
      rcases hb with q | q
      · rw [← q, I.free] at e; cases e
      · rw [I.free] at q; cases q
    exact (kp b nb).trans ho
end
section
variable {X : Cx} {k k' i j : Nat} {fx y n xK : Str} {ps : List Str} {sp : Sp} {CK : Addr} {e : Expr} {es : List Expr} {t : TA} {ts : TS} {b₀ : Stmt} {suite : List Stmt} {np cpos yp apos kp hpos pos : Pos}
end
end Kw
set_option Elab.async false
set_option linter.all false
set_option maxRecDepth 100000
set_option maxHeartbeats 4000000
namespace Kw
open PySem PySem.Spec PyProof.Rows L2
theorem exc_ty {x : Addr} {C : Value} (M : Model) (h : Heap) (p : ExcIs x C h) : PySem.W.Looks M h (typeOf (.ref x)) C := by
  obtain ⟨o, vs, a, b, _⟩ := p
  exact b ▸ (PySem.W.Looks.ld a).andThen .now
section
variable {X : Cx}
end
end Kw
set_option Elab.async false
set_option linter.all false
set_option maxRecDepth 100000
set_option maxHeartbeats 4000000
namespace Kw
open PySem PySem.Spec PyProof.Rows L2
section
variable {X : Cx} {pins : List (Addr × Obj)} {σ : L2.St} {H : Hp} {s : Shared} {h' : Heap} {ch : List Addr}
theorem Inv.turnedL {t' : Nat} (I : Inv X pins σ H s) (k : ∀ b o, b ∉ ch → s.heap.get? b = some o → h'.get? b = some o) (hf : ∀ b ∈ ch, FpOk X pins H b) : Inv X pins σ H { s with heap := h', toks := t' } := by
  have nit : ∀ b u, H b = some u → b ∉ ch := fun b u e z => by rw [(hf b z).1] at e; cases e
  refine I.step (g' := s.gens) (d' := s.drawn) (ch := ch) (fun b hb => ?_) (fun b o _ _ hc e _ => k b o hc e) (fun b o _ _ hc e _ => ⟨o.slots, k b o hc e⟩) (fun _ _ _ _ n => n) (fun b o hc e => ⟨o, k b o hc e⟩) (fun _ _ e => e) (fun _ _ _ e => e)
    (fun b ps e => ⟨#[], by rw [e]; simp⟩) (fun m hm => ?_) (fun b u e => ?_) I.bare
  · obtain ⟨_, f1, _, f3, f4, f5⟩ := hf b hb
    exact ⟨f3, f1, f4, f5⟩
  · obtain ⟨o, es, ep, ho, r⟩ := hm
    exact ⟨o, es, ep, k _ o (fun z => (hf _ z).2.1 rfl) ho, r⟩
  · refine (I.hok b u e).stay (fun c v hc q => k c v ?_ q) (fun _ q => q) fun _ _ q => q
    rcases hc with z | z
    · rw [z]; exact nit b u e
    · exact nit c _ z
end
end Kw
set_option Elab.async false
set_option linter.all false
set_option maxRecDepth 100000
set_option maxHeartbeats 4000000
namespace Kw
open PySem PySem.Spec PyProof.Rows L2
section
variable {X : Cx}
end
end Kw
set_option Elab.async false
set_option linter.all false
set_option maxRecDepth 100000
set_option maxHeartbeats 4000000
namespace Kw
open PySem PySem.Spec PyProof.Rows L2
theorem weight_items : ∀ (ns : List Int) (n : Int), n ∈ ns → Builtin.Int.intBits n ≤ PySem.W.WData.weightAll (ns.map PySem.W.WData.int)
  | [], _, h => nomatch h
  | m :: r, n, h => by
    have e : PySem.W.WData.weightAll ((m :: r).map PySem.W.WData.int) = Builtin.Int.intBits m + 1 + PySem.W.WData.weightAll (r.map PySem.W.WData.int) := rfl
    rw [e]
    rcases List.mem_cons.mp h with z | z
    · subst z; omega
    · have := weight_items r n z
      omega
theorem script_bits {ns : List Int} (h : PySem.W.WData.layableAll [PySem.W.WData.list (ns.map PySem.W.WData.int)] = true) : ∀ n ∈ ns, Bd 1048576 n := fun n hn => by
  have h1 : PySem.W.WData.layable (PySem.W.WData.list (ns.map PySem.W.WData.int)) = true := by
    unfold PySem.W.WData.layableAll at h
    simpa using h
  unfold PySem.W.WData.layable at h1
  rw [Bool.and_eq_true] at h1
  have h2 : PySem.W.WData.weightAll (ns.map PySem.W.WData.int) ≤ 2 ^ 20 := of_decide_eq_true h1.2
  exact bd_bits (Nat.le_trans (weight_items ns n hn) h2)
noncomputable def spLaw (K : PySem.W.Frag) : Sp := fun vs H Q _ => ∃ a, vs = [.ref a] ∧ Scr K H a ∧ ∀ H', Q (.bl true) H'
theorem walk_kw {pn : Str} {l : PySem.W.OpenLaw} {k : Nat} {q : Program} {loose : List Str} {XP : (Str → Option Value) → Heap → Prop} {YP : World → Heap → Prop} {d : DefRec} {K : Params → PySem.W.Frag}
    (hn : l.most = some 63) (hdf : d.params.defaults = []) (hr : Room k callerA) (hY : ∀ (w : World) (h : Heap), YP w h → (K w.params).In h) (hnm : d.name = "law")
    (F : ∀ (w : World) (mg : Str → Option Value) (h : Heap), (K w.params).In h → h.Ns mainGlobals mg → ∃ fa, mg "law" = some (.ref fa) ∧ ∃ fd : FuncData, (∀ (s : Shared) (u : Value), BindsTo s fd ⟨[u], []⟩ [(pn, u)]) ∧
      ∀ base : Heap, (K w.params).In base → base.Ns mainGlobals mg → FnOk l.prog w (K w.params) mg base (CXE l.prog w) k fa fd [pn] (spLaw (K w.params))) :
    PySem.W.WalkO q loose XP YP l.row.toRowW d [] (fun f vs => PySem.call f vs) := by
  intro w s₀ s₁ mg mb G Y fa o pm cd doc dV kV ho hd hcd hD hmg hg args vals as hpre hlay hrd hwl hlo
  obtain ⟨a, vs, ns, e1, e2, hobj, hints, hlen⟩ := Att.script_of hn hpre hwl
  subst e1 e2
  have KX := hY w _ Y
  obtain ⟨fa', hfa, fd, hb, hF⟩ := F w mg _ KX G.T.g
  rw [hnm, hfa] at hmg
  cases hmg
  have core := law_call KX G.T.g G.T.b G.T.builtins G.T.nolimit hg hobj hints (Nat.le_trans hlen (by decide)) hr hF hb (fun H hO hS => ⟨a, rfl, ⟨ns, hS, hlen, script_bits hlay⟩, fun _ => rfl⟩) (fun H e s' z => by
    obtain ⟨_, _, _, _, _, _, _, _, _, _, z⟩ := z
    exact z)
  refine PySem.W.enter_call (codeAny_mono core fun r s' hq => ?_)
  obtain ⟨rfl, h2, h3, h4⟩ := hq
  exact ⟨.inl ⟨.bool true, .bool true, [], rfl, fun _ => rfl, .bool true, Att.post_true l _, fun _ => ⟨List.Pairwise.nil, fun _ hm => (nomatch hm)⟩⟩, h2, h3, h4⟩
theorem pe_cls {X : Cx} {x : Str} {C : Addr} {pos : Pos} (hg : Gl X x) (hm : X.mg x = some (.ref C)) (hd : (x == ("__debug__" : Str)) = false := by decide) : PE X (.Name x pos) (tC (.ref C)) := pe_glob hg hm (v := .ref C) rfl hd
theorem plain_nox {CX : CXT} {P : Program} {w : World} {K : PySem.W.Frag} {mg : Str → Option Value} {base : Heap} {N : List Str} {qual : Str} {scope : Scope} {f : Addr} {cd : Value} {A : Around} {outer : List Env} {s : Shared} {H : Hp} {E : XK} :
    Plain (cxOf CX P w K mg base N qual scope f cd A outer s H E).nox := ⟨rfl, rfl, rfl⟩
theorem df_mk {K : PySem.W.Frag} {h : Heap} {mg : Str → Option Value} {x : Str} {st : Stmt} {ps : List Str} {f : Addr} {od an : Option Addr} {sl : Array (Option Value)} {oc kV dc pm cd ct : Value} (X : K.In h) (G : h.Ns mainGlobals mg)
    (a : PySem.W.nsIn K mainGlobals x = some (some (.ref f))) (l : K.lookup f = some ⟨oc, od, .func (PySem.W.fnOf x x (defArgs st) (defBody st) (defScope st) .none kV dc pm an cd ct), sl⟩) (c : PySem.W.codeIn K cd x = true) (k : PySem.W.keepIn K (.ref f) = true)
    (b : ∀ us : List Value, us.length = ps.length → bindArgs (PySem.W.fnOf x x (defArgs st) (defBody st) (defScope st) .none kV dc pm an cd ct) ⟨us, []⟩ = pure (ps.zip us)) : Df K mg x st ps :=
  ⟨f, _, ⟨⟨oc, od, .none, kV, dc, pm, an, cd, ct, sl, rfl, l, c⟩, k⟩, .all b, PySem.W.mg_of X G a⟩
theorem law_end {pn : Str} {P : Program} {w : World} {K : PySem.W.Frag} {h : Heap} {mg : Str → Option Value} {st : Stmt} {f : Addr} {od an : Option Addr} {sl : Array (Option Value)} {oc kV dc pm cd ct : Value} {k : Nat} (X : K.In h) (G : h.Ns mainGlobals mg)
    (a : PySem.W.nsIn K mainGlobals "law" = some (some (.ref f))) (l : K.lookup f = some ⟨oc, od, .func (PySem.W.fnOf "law" "law" (defArgs st) (defBody st) (defScope st) .none kV dc pm an cd ct), sl⟩)
    (b : ∀ u : Value, bindArgs (PySem.W.fnOf "law" "law" (defArgs st) (defBody st) (defScope st) .none kV dc pm an cd ct) ⟨[u], []⟩ = pure [(pn, u)])
    (F : ∀ base : Heap, K.In base → base.Ns mainGlobals mg → Fn P w K mg base k "law" [pn] (spLaw K)) :
    ∃ fa, mg "law" = some (.ref fa) ∧ ∃ fd : FuncData, (∀ (s : Shared) (u : Value), BindsTo s fd ⟨[u], []⟩ [(pn, u)]) ∧ ∀ base : Heap, K.In base → base.Ns mainGlobals mg → FnOk P w K mg base (CXE P w) k fa fd [pn] (spLaw K) := by
  have hm := PySem.W.mg_of X G a
  refine ⟨f, hm, _, fun s u => .of_eq (b u), fun base kb nb => ?_⟩
  obtain ⟨f', fd', G', hm', _, _, _, _, _, lk⟩ := (F base kb nb).ex
  rw [hm] at hm'
  cases hm'
  rw [l] at lk
  cases lk
  exact G'
end Kw
set_option maxRecDepth 100000
namespace Kw
theorem q_of {n d : Int} (hd : 0 < d) (hg : Int.gcd n d = 1) : (Rat.divInt n d).num = n ∧ (((Rat.divInt n d).den : Nat) : Int) = d := by
  rw [Rat.num_divInt, Rat.den_divInt, Int.gcd_comm, hg, Int.sign_eq_one_of_pos hd, if_neg (by omega)]
  constructor
  · simp
  · simp; omega
theorem q_is {q : Rat} {n d : Int} (hd : 0 < d) (hg : Int.gcd n d = 1) (e : q = Rat.divInt n d) : n = q.num ∧ d = ((q.den : Nat) : Int) := by
  subst e
  obtain ⟨a, b⟩ := q_of hd hg
  exact ⟨a.symm, b.symm⟩
theorem gcd_fT_fB {t b : Int} (h : b ≠ 0) : Int.gcd (fT t b) (fB t b) = 1 := by
  have hp : 0 < Int.gcd t b := Int.gcd_pos_of_ne_zero_right _ h
  have e1 := fT_mul t b
  have e2 := fB_mul t b
  have e : Int.gcd (dv t b * fT t b) (dv t b * fB t b) = (dv t b).natAbs * Int.gcd (fT t b) (fB t b) := Int.gcd_mul_left ..
  rw [e1, e2] at e
  have hn : (dv t b).natAbs = Int.gcd t b := by unfold dv; split <;> simp
  rw [hn] at e
  exact Nat.eq_of_mul_eq_mul_left hp (by omega)
theorem q_fit {t b : Int} (h : b ≠ 0) : fT t b = (Rat.divInt t b).num ∧ fB t b = (((Rat.divInt t b).den : Nat) : Int) := by
  refine q_is (fB_pos h) (gcd_fT_fB h) ?_
  have e := Rat.divInt_mul_left (n := fT t b) (d := fB t b) (dv_ne (t := t) h)
  rw [fT_mul, fB_mul] at e
  exact e
theorem q_red (q : Rat) : Int.gcd q.num ((q.den : Nat) : Int) = 1 := by
  have := q.reduced
  simpa [Int.gcd, Nat.Coprime] using this
theorem q_pos (q : Rat) : 0 < ((q.den : Nat) : Int) := by
  have := q.den_nz
  omega
theorem q_add (x y : Rat) : Rat.divInt (x.num * y.den + y.num * x.den) (x.den * y.den) = x + y := by
  conv => rhs; rw [← Rat.num_divInt_den x, ← Rat.num_divInt_den y]
  rw [Rat.divInt_add_divInt _ _ (by have := q_pos x; omega) (by have := q_pos y; omega)]
theorem q_sub (x y : Rat) : Rat.divInt (x.num * y.den - y.num * x.den) (x.den * y.den) = x - y := by
  conv => rhs; rw [← Rat.num_divInt_den x, ← Rat.num_divInt_den y]
  rw [Rat.divInt_sub_divInt _ _ (by have := q_pos x; omega) (by have := q_pos y; omega)]
theorem q_mul (x y : Rat) : Rat.divInt (x.num * y.num) (x.den * y.den) = x * y := by
  conv => rhs; rw [← Rat.num_divInt_den x, ← Rat.num_divInt_den y]
  rw [Rat.divInt_mul_divInt]
theorem q_inv (y : Rat) : Rat.divInt y.den y.num = y⁻¹ := by
  conv => rhs; rw [← Rat.num_divInt_den y]
  rw [Rat.inv_divInt]
theorem q_div (x y : Rat) : Rat.divInt (x.num * y.den) (x.den * y.num) = x / y := by
  rw [Rat.div_def, ← q_inv]
  conv => rhs; rw [← Rat.num_divInt_den x]
  rw [Rat.divInt_mul_divInt]
theorem q_neg (y : Rat) : (-y).num = -y.num ∧ (-y).den = y.den := ⟨rfl, rfl⟩
theorem q_lt (x y : Rat) : x < y ↔ x.num * y.den < y.num * x.den := Rat.lt_iff x y
theorem fd_mul {x g : Int} (h : g ∣ x) : g * x.fdiv g = x := Int.mul_fdiv_cancel' h
theorem quot_dvd {x g : Int} (h : g ∣ x) : x.fdiv g ∣ x := ⟨g, by rw [Int.mul_comm]; exact (fd_mul h).symm⟩
theorem cop_dvd {a b b' : Int} (h : Int.gcd a b = 1) (d : b' ∣ b) : Int.gcd a b' = 1 := by
  have h1 : Int.gcd a b' ∣ Int.gcd a b := Int.dvd_gcd (Int.gcd_dvd_left ..) (Int.dvd_trans (Int.gcd_dvd_right ..) d)
  rw [h] at h1
  exact Nat.dvd_one.mp h1
theorem cop_mul {a b c : Int} (h : Int.gcd a b = 1) (k : Int.gcd a c = 1) : Int.gcd a (b * c) = 1 := by
  show Nat.gcd a.natAbs (b * c).natAbs = 1
  rw [Int.natAbs_mul]
  exact Nat.Coprime.mul_right h k
theorem cop_add {a b c : Int} (h : Int.gcd a b = 1) : Int.gcd (a + c * b) b = 1 := by
  rw [Int.gcd_add_mul_right_left]; exact h
theorem cop_quot {a b : Int} (h : b ≠ 0) (g : Int) (hg : g = ((Int.gcd a b : Nat) : Int)) : Int.gcd (a.fdiv g) (b.fdiv g) = 1 := by
  have hp : 0 < Int.gcd a b := Int.gcd_pos_of_ne_zero_right _ h
  have e1 : g * a.fdiv g = a := fd_mul (by rw [hg]; exact Int.gcd_dvd_left ..)
  have e2 : g * b.fdiv g = b := fd_mul (by rw [hg]; exact Int.gcd_dvd_right ..)
  have e : Int.gcd (g * a.fdiv g) (g * b.fdiv g) = g.natAbs * Int.gcd (a.fdiv g) (b.fdiv g) := Int.gcd_mul_left ..
  rw [e1, e2] at e
  have hn : g.natAbs = Int.gcd a b := by rw [hg]; simp
  rw [hn] at e
  exact Nat.eq_of_mul_eq_mul_left hp (by omega)
theorem quot_pos {b g : Int} (hb : 0 < b) (hg : 0 < g) (d : g ∣ b) : 0 < b.fdiv g := by
  have e := fd_mul d
  refine Int.not_le.mp fun q => ?_
  have := Int.mul_nonpos_of_nonneg_of_nonpos (Int.le_of_lt hg) q
  omega
theorem gpos {a b : Int} (h : b ≠ 0) : 0 < ((Int.gcd a b : Nat) : Int) := by
  have := Int.gcd_pos_of_ne_zero_right a h
  omega
theorem q_plus (x y : Rat) (g t h : Int) (hg : g = ((Int.gcd ((x.den : Nat) : Int) ((y.den : Nat) : Int) : Nat) : Int)) (ht : t = x.num * ((y.den : Nat) : Int).fdiv g + y.num * ((x.den : Nat) : Int).fdiv g) (hh : h = ((Int.gcd t g : Nat) : Int)) :
    t.fdiv h = (x + y).num ∧ ((x.den : Nat) : Int).fdiv g * ((y.den : Nat) : Int).fdiv h = (((x + y).den : Nat) : Int) := by
  have hb := q_pos x
  have hd := q_pos y
  have rx := q_red x
  have ry := q_red y
  have ea := q_add x y
  revert hb hd rx ry hg ht ea
  generalize x.num = a
  generalize y.num = c
  generalize ((x.den : Nat) : Int) = b
  generalize ((y.den : Nat) : Int) = d
  intro hg ht hb hd rx ry ea
  have g0 : 0 < g := by rw [hg]; exact gpos (by omega)
  have h0 : 0 < h := by rw [hh]; exact gpos (by omega)
  have gb : g ∣ b := by rw [hg]; exact Int.gcd_dvd_left ..
  have gd : g ∣ d := by rw [hg]; exact Int.gcd_dvd_right ..
  have hht : h ∣ t := by rw [hh]; exact Int.gcd_dvd_left ..
  have hhg : h ∣ g := by rw [hh]; exact Int.gcd_dvd_right ..
  have eb := fd_mul gb
  have ed := fd_mul gd
  have et := fd_mul hht
  have eg := fd_mul hhg
  have b0 := quot_pos hb g0 gb
  have d0 := quot_pos hd g0 gd
  have k0 := quot_pos g0 h0 hhg
  have cbd : Int.gcd (b.fdiv g) (d.fdiv g) = 1 := cop_quot (by omega) g hg
  have ctg : Int.gcd (t.fdiv h) (g.fdiv h) = 1 := cop_quot (by omega) h hh
  have dh : d.fdiv h = g.fdiv h * d.fdiv g := by
    have e := fd_mul (Int.dvd_trans hhg gd)
    have e2 : h * (g.fdiv h * d.fdiv g) = d := by rw [← Int.mul_assoc, eg, ed]
    exact Int.eq_of_mul_eq_mul_left (by omega) (e.trans e2.symm)
  have ct1 : Int.gcd t (b.fdiv g) = 1 := by
    rw [ht]
    refine cop_add ?_
    rw [Int.gcd_comm]
    exact cop_mul (by rw [Int.gcd_comm]; exact cop_dvd rx ⟨g, by rw [Int.mul_comm]; exact eb.symm⟩) cbd
  have ct2 : Int.gcd t (d.fdiv g) = 1 := by
    rw [ht, Int.add_comm]
    refine cop_add ?_
    rw [Int.gcd_comm]
    exact cop_mul (by rw [Int.gcd_comm]; exact cop_dvd ry ⟨g, by rw [Int.mul_comm]; exact ed.symm⟩) (by rw [Int.gcd_comm]; exact cbd)
  have sub : ∀ z, Int.gcd t z = 1 → Int.gcd (t.fdiv h) z = 1 := fun z hz => by
    rw [Int.gcd_comm] at hz ⊢
    exact cop_dvd hz ⟨h, by rw [Int.mul_comm]; exact et.symm⟩
  rw [dh]
  refine q_is ?_ ?_ ?_
  · exact Int.mul_pos b0 (Int.mul_pos k0 d0)
  · exact cop_mul (sub _ ct1) (cop_mul ctg (sub _ ct2))
  · rw [← ea]
    have z := Rat.divInt_mul_left (n := t.fdiv h) (d := b.fdiv g * (g.fdiv h * d.fdiv g)) (a := g * h) (by have := Int.mul_pos g0 h0; omega)
    rw [← z]
    congr 1
    · rw [Int.mul_assoc, et, ht, Int.mul_add]
      congr 1
      · rw [← Int.mul_assoc, Int.mul_comm g, Int.mul_assoc, ed]
      · rw [← Int.mul_assoc, Int.mul_comm g, Int.mul_assoc, eb]
    · rw [show g * h * (b.fdiv g * (g.fdiv h * d.fdiv g)) = (g * b.fdiv g) * ((h * g.fdiv h) * d.fdiv g) by grind, eb, eg, ed]
theorem q_times (x y : Rat) (f s : Int) (hf : f = ((Int.gcd x.num ((y.den : Nat) : Int) : Nat) : Int)) (hs : s = ((Int.gcd y.num ((x.den : Nat) : Int) : Nat) : Int)) :
    x.num.fdiv f * y.num.fdiv s = (x * y).num ∧ ((x.den : Nat) : Int).fdiv s * ((y.den : Nat) : Int).fdiv f = (((x * y).den : Nat) : Int) := by
  have hb := q_pos x
  have hd := q_pos y
  have rx := q_red x
  have ry := q_red y
  have ea := q_mul x y
  revert hb hd rx ry hf hs ea
  generalize x.num = a
  generalize y.num = c
  generalize ((x.den : Nat) : Int) = b
  generalize ((y.den : Nat) : Int) = d
  intro hf hs hb hd rx ry ea
  have f0 : 0 < f := by rw [hf]; exact gpos (by omega)
  have s0 : 0 < s := by rw [hs]; exact gpos (by omega)
  have fa : f ∣ a := by rw [hf]; exact Int.gcd_dvd_left ..
  have fd : f ∣ d := by rw [hf]; exact Int.gcd_dvd_right ..
  have sc : s ∣ c := by rw [hs]; exact Int.gcd_dvd_left ..
  have sb : s ∣ b := by rw [hs]; exact Int.gcd_dvd_right ..
  have ea' := fd_mul fa
  have ed := fd_mul fd
  have ec := fd_mul sc
  have eb := fd_mul sb
  have c1 : Int.gcd (a.fdiv f) (d.fdiv f) = 1 := cop_quot (by omega) f hf
  have c2 : Int.gcd (c.fdiv s) (b.fdiv s) = 1 := cop_quot (by omega) s hs
  have c3 : Int.gcd (a.fdiv f) (b.fdiv s) = 1 := by
    refine cop_dvd (b := b) ?_ (quot_dvd sb)
    rw [Int.gcd_comm] at rx ⊢
    exact cop_dvd rx (quot_dvd fa)
  have c4 : Int.gcd (c.fdiv s) (d.fdiv f) = 1 := by
    refine cop_dvd (b := d) ?_ (quot_dvd fd)
    rw [Int.gcd_comm] at ry ⊢
    exact cop_dvd ry (quot_dvd sc)
  refine q_is (Int.mul_pos (quot_pos hb s0 sb) (quot_pos hd f0 fd)) ?_ ?_
  · rw [Int.gcd_comm]
    refine cop_mul ?_ ?_
    · rw [Int.gcd_comm]; exact cop_mul c3 c1
    · rw [Int.gcd_comm]; exact cop_mul c2 c4
  · rw [← ea]
    have z := Rat.divInt_mul_left (n := a.fdiv f * c.fdiv s) (d := b.fdiv s * d.fdiv f) (a := f * s) (by have := Int.mul_pos f0 s0; omega)
    rw [← z]
    congr 1
    · rw [show f * s * (a.fdiv f * c.fdiv s) = (f * a.fdiv f) * (s * c.fdiv s) by grind, ea', ec]
    · rw [show f * s * (b.fdiv s * d.fdiv f) = (s * b.fdiv s) * (f * d.fdiv f) by grind, eb, ed]
theorem q_dv (a b : Int) : Rat.divInt a b = (a : Rat) / (b : Rat) := by
  have h := q_div (a : Rat) (b : Rat)
  have e1 : (a : Rat).num * (((b : Rat).den : Nat) : Int) = a := by show a * 1 = a; omega
  have e2 : (((a : Rat).den : Nat) : Int) * (b : Rat).num = b := by show 1 * b = b; omega
  rw [e1, e2] at h
  exact h
theorem q_intne {i : Int} (h : i ≠ 0) : (i : Rat) ≠ 0 := fun e => h (by have := congrArg Rat.num e; exact this)
theorem q_wpos {i : Int} (h : 1 ≤ i) : (0 : Rat) < (i : Rat) := by
  have : ((0 : Int) : Rat) < (i : Rat) := Rat.intCast_lt_intCast.mpr (by omega)
  exact this
theorem q_divpos {a b : Int} (ha : 0 < a) (hb : 0 < b) : (0 : Rat) < Rat.divInt a b := by
  rw [q_dv]
  rw [Rat.div_def]
  exact Rat.mul_pos (q_wpos (by omega)) (Rat.inv_pos.mpr (q_wpos (by omega)))
theorem q_le0 (x : Rat) : x.num ≤ 0 ↔ ¬ 0 < x := by
  have h := q_lt 0 x
  have e : (0 : Rat).num * (x.den : Int) < x.num * ((0 : Rat).den : Int) ↔ 0 < x.num := by
    show 0 * (x.den : Int) < x.num * 1 ↔ 0 < x.num
    omega
  rw [h, e]
  omega
end Kw
set_option Elab.async false
set_option linter.all false
set_option maxRecDepth 100000
set_option maxHeartbeats 4000000
namespace Kw
open PySem PySem.Spec PyProof.Rows L2 PySem.Builtin PySem.Builtin.ObjectAttr PySem.Builtin.Getset_descriptor
structure ExcQ (K : PySem.W.Frag) (C : Addr) : Prop where
  ga : PySem.W.findIn K (.ref C) "__getattribute__" = some (some (.builtin "BaseException.__getattribute__"))
  hk : PySem.W.findIn K (.ref C) "__getattr__" = some none
  cl : PySem.W.findIn K (.ref C) "__class__" = some (some (.builtin "object.__class__"))
  gt : PySem.W.specialIn K (.builtin "object.__class__") "__get__" = some (some (.builtin "getset_descriptor.__get__"))
  tk : PySem.W.takesIn K (.builtin "object.__class__") = some true
  ob : PySem.W.mroIn K C (.type "object") = some true
  be : PySem.W.mroIn K C (.type "BaseException") = some true
section
variable {prog : Program} {w : World} {A : Around} {E : Value → Shared → Prop} {s : Shared} {K : PySem.W.Frag} {x C : Addr}
theorem find_cls {M : Model} {h : Heap} {self : Value} (kx : K.In h) (q : ExcQ K C) : PySem.W.Looks M h (find self (.ref C) "__class__") (.bind (.builtin "getset_descriptor.__get__") (.builtin "object.__class__")) := by
  have l1 := PySem.W.looks_findIn (M := M) kx q.cl
  have l2 : PySem.W.Looks M h (getOf (some (.builtin "object.__class__"))) _ := PySem.W.looks_specialIn kx q.gt
  have l3 := PySem.W.looks_takesIn (M := M) kx q.tk
  have l4 : PySem.W.Looks M h (dataDescriptor? (some (.builtin "object.__class__")) (some (.builtin "getset_descriptor.__get__"))) (some (.builtin "getset_descriptor.__get__", .builtin "object.__class__")) := l3.andThen .now
  exact l1.andThen (l2.andThen (l4.andThen (PySem.W.Looks.tag .now)))
theorem cls_get {R : Result → Shared → Prop} {tp : Value} (kx : K.In s.heap) (L0 : PySem.W.Looks (model prog w) s.heap (typeOf (.ref x)) (.ref C)) (q : ExcQ K C) (want : R (.ok (.ret (.ref C))) s) :
    codeAny (model prog w) A (.call (.builtin "getset_descriptor.__get__") ⟨[.builtin "object.__class__", .ref x, tp], []⟩) R s := by
  obtain ⟨z0, z1, z2, z3, z4⟩ := s
  have L1 := PySem.W.looks_mroIn (M := model prog w) kx q.ob
  refine codeAny_call_builtin PySem.W.KF.slot_gs.plain PySem.W.KF.entry_gs (PySem.W.KF.slot_gs.check _ _ _ _ _ _ _ _ PySem.W.KF.type_class (PySem.W.KF.args_gs _ _ _) ?_)
  unfold Builtin.«getset_descriptor.__get__» descrGet
  rw [PySem.W.dga_obj]
  refine wpAny_bind (wpAny_pure ?_)
  unfold descrGetter descrCheckInstance descrNameAndClass isInstance
  simp only [PySem.W.KF.owner_class]
  repeat lk
  refine ⟨Code.quiet_builtin _ (by decide +kernel), codeAny_builtin PySem.W.KF.entry_class ?_⟩
  unfold Builtin.«object.__class__» shownTypeOf
  repeat lk
  exact want
theorem ga_entry {tk : Tok} {Q : Fin → Shared → Prop} (kx : K.In s.heap) (L0 : PySem.W.Looks (model prog w) s.heap (typeOf (.ref x)) (.ref C)) (q : ExcQ K C) (want : Q (.done (.ret (.ref C))) s) :
    wpAny (model prog w) A (Builtin.«object.__getattribute__» ⟨[.ref x, .str "__class__" tk], []⟩) Q E s := by
  obtain ⟨z0, z1, z2, z3, z4⟩ := s
  have L1 := find_cls (M := model prog w) (self := .ref x) kx q
  unfold Builtin.«object.__getattribute__»
  repeat ((fail_if_success (with_reducible show wpAny _ _ (bindTo _ _ _ _) _ _ _)); lk)
  unfold bindTo
  refine wpAny_bind (wpAny_holding (wpAny_call (cls_get kx L0 q ?_)))
  exact wpAny_pure want
theorem ga_check {nameV : Value} {Q : Unit → Shared → Prop} (kx : K.In s.heap) (L0 : PySem.W.Looks (model prog w) s.heap (typeOf (.ref x)) (.ref C)) (q : ExcQ K C) (want : Q () s) :
    wpAny (model prog w) A (checkBuiltinCall "BaseException.__getattribute__" ⟨[.ref x, nameV], []⟩) Q E s := by
  obtain ⟨z0, z1, z2, z3, z4⟩ := s
  have hk : builtinKind "BaseException.__getattribute__" = some .slot := by decide +kernel
  have hsp : splitId "BaseException.__getattribute__" = some ("BaseException", "__getattribute__") := by decide +kernel
  have L1 := PySem.W.looks_mroIn (M := model prog w) kx q.be
  have ha := PySem.F.args_bexc_ga (.ref x) nameV
  simp only [checkBuiltinCall, hk, hsp]
  refine wpAny_bind ?_
  unfold isInstance
  repeat (first | lk | wp_step)
  exact want
theorem exc_class {Q : Option Value → Shared → Prop} (kx : K.In s.heap) (L0 : PySem.W.Looks (model prog w) s.heap (typeOf (.ref x)) (.ref C)) (q : ExcQ K C) (want : Q (some (.ref C)) { s with toks := s.toks + 1 }) :
    wpAny (model prog w) A (getAttr? (.ref x) "__class__") Q E s := by
  obtain ⟨z0, z1, z2, z3, z4⟩ := s
  have L1 := PySem.W.looks_findIn (M := model prog w) kx q.ga
  have L2 := PySem.W.looks_findIn (M := model prog w) kx q.hk
  have f3 := PySem.F.excAttr_ValueError.ga.bind (.ref x)
  unfold getAttr? getAttrBy? getAttrBy
  refine wpAny_bind (wpAny_mkText (wpAny_bind (wpAny_attempt (wpAny_holding (wpAny_bind (L0.at (wpAny_bind (L1.at ?_))))))))
  dsimp only
  have e1 : (Value.builtin "BaseException.__getattribute__" == Value.builtin "object.__getattribute__") = false := by decide +kernel
  rw [e1, Bool.and_false, if_neg (by decide)]
  unfold getAttrByItsOwn hookBefore
  rw [show onTheHeap (Value.ref C) = true from rfl, if_pos rfl]
  refine wpAny_bind (L2.at ?_)
  refine wpAny_bind (wpAny_attempt (wpAny_holding ?_))
  unfold callGetattribute boundAndCalled
  rw [if_neg (by decide), f3]
  refine wpAny_bind (wpAny_pure ?_)
  dsimp only
  refine wpAny_call (codeAny_call_builtin PySem.F.excAttr_ValueError.ga.plain PySem.F.entry_bexc_ga (ga_check kx L0 q (ga_entry kx L0 q ?_)))
  exact wpAny_pure (wpAny_pure want)
theorem cls_of (q : ExcQ K C) : ∃ c d cd sl, K.lookup C = some ⟨c, d, .cls cd, sl⟩ := by
  obtain ⟨cd, e, _⟩ := Option.bind_eq_some_iff.mp q.ob
  unfold PySem.W.clsIn at e
  split at e
  · rename_i ho
    exact ⟨_, _, _, _, ho⟩
  · cases e
theorem kitx_exc (q : ExcQ K C) : PySem.W.KitX K (.ref x) (.ref C) (ExcIs x (.ref C)) where
  ty := fun M h _ p => exc_ty M h p
  it := fun M h kx _ => by
    obtain ⟨c, d, cd, sl, ho⟩ := cls_of q
    intro A' Q' E' s' keep want
    unfold isType loadHead
    exact wpAny_bind (wpAny_loadPart (keep _ _ (kx _ _ ho)) (wpAny_pure want))
  ne := fun h tp dd its n sl kx htp => by
    obtain ⟨c, d, cd, sl', ho⟩ := cls_of q
    refine Bool.eq_false_iff.mpr fun z => ?_
    have e : C = tp := Value.ref.inj (beq_iff_eq.mp z)
    subst e
    have y := (kx _ _ ho).symm.trans htp
    cases y
  ca := fun kx p want => exc_class kx (exc_ty _ _ p) q want
end
section
variable {X : Cx}
end
end Kw
set_option Elab.async false
set_option linter.all false
set_option maxRecDepth 100000
set_option maxHeartbeats 4000000
namespace Kw
open PySem PySem.Spec PyProof.Rows L2
mutual
inductive Dp (K : PySem.W.Frag) (H : Hp) : V → PyData → Prop
  | non : Dp K H .non .none
  | bl (b : Bool) : Dp K H (.bl b) (.bool b)
  | int (i : Int) : Dp K H (.int i) (.int i)
  | str (x : Str) : Dp K H (.str x) (.str x)
  | lst {p : Addr} {xs : List V} {ds : List PyData} : SqL K H p xs → Dps K H xs ds → Dp K H (.ref p) (.list ds)
  | tup {p : Addr} {xs : List V} {ds : List PyData} : SqT K H p xs → Dps K H xs ds → Dp K H (.ref p) (.tuple ds)
inductive Dps (K : PySem.W.Frag) (H : Hp) : List V → List PyData → Prop
  | nil : Dps K H [] []
  | cons {x : V} {xs : List V} {d : PyData} {ds : List PyData} : Dp K H x d → Dps K H xs ds → Dps K H (x :: xs) (d :: ds)
end
section
variable {X : Cx} {pins : List (Addr × Obj)} {σ : L2.St} {H : Hp} {s : Shared}
mutual
theorem Dp.reads (I : Inv X pins σ H s) : ∀ {x : V} {d : PyData} {u : Value}, Dp X.K H x d → RelV x u → ∃ as, Reads s.heap u d as
  | _, _, _, .non, r => by cases r; exact ⟨_, .none⟩
  | _, _, _, .bl b, r => by cases r; exact ⟨_, .bool b⟩
  | _, _, _, .int i, r => by obtain ⟨t, rfl⟩ := r; exact ⟨_, .int i t⟩
  | _, _, _, .str x, r => by obtain ⟨t, rfl⟩ := r; exact ⟨_, .str x t⟩
  | _, _, _, .lst h q, r => by
    cases r
    obtain ⟨its, r', pl, hz⟩ := I.list h
    obtain ⟨as, ra⟩ := Dps.reads I q r'
    obtain ⟨o, n, ho, hc, _, hd⟩ := pl
    exact ⟨_, .list ho hc hd ra⟩
  | _, _, _, .tup h q, r => by
    cases r
    obtain ⟨its, r', pl, hz⟩ := I.tuple h
    obtain ⟨as, ra⟩ := Dps.reads I q r'
    obtain ⟨o, ho, hc, n, hd⟩ := pl
    exact ⟨_, .tuple ho hc hd ra⟩
theorem Dps.reads (I : Inv X pins σ H s) : ∀ {xs : List V} {ds : List PyData} {us : List Value}, Dps X.K H xs ds → Vals xs us → ∃ as, ReadsAll s.heap us ds as
  | _, _, _, .nil, r => by cases r; exact ⟨_, .nil⟩
  | _, _, _, .cons h q, r => by
    cases r with
    | cons a b =>
      obtain ⟨as, ra⟩ := Dp.reads I h a
      obtain ⟨bs, rb⟩ := Dps.reads I q b
      exact ⟨_, .cons ra rb⟩
end
noncomputable def rDp (K : PySem.W.Frag) (g : Bool → Bool) : V → V → Hp → VK → Prop := fun x y H Q => ∃ dx dy, Dp K H x dx ∧ Dp K H y dy ∧ dx.canLay0 = true ∧ dy.canLay0 = true ∧ min dx.depth dy.depth ≤ 60 ∧ Q (.bl (g (PyData.eqv dx dy))) H
theorem op_eqD {K : PySem.W.Frag} (hK : X.K = K) (hu : X.A.units + 100 < cLine) : OpR X (compareOp .Eq) (rDp K id) := by
  subst hK
  intro pins s σ H x y v u Q I rx ry h
  obtain ⟨dx, dy, hx, hy, cx, cy, dep, q⟩ := h
  obtain ⟨as, ra⟩ := hx.reads I rx
  obtain ⟨bs, rb⟩ := hy.reads I ry
  exact SeqAt.compareEq_reads ra rb cx cy (by omega) ⟨.bl (PyData.eqv dx dy), H, I, rfl, q⟩
theorem op_neD {K : PySem.W.Frag} (hK : X.K = K) (hu : X.A.units + 100 < cLine) : OpR X (compareOp .NotEq) (rDp K not) := by
  subst hK
  intro pins s σ H x y v u Q I rx ry h
  obtain ⟨dx, dy, hx, hy, cx, cy, dep, q⟩ := h
  obtain ⟨as, ra⟩ := hx.reads I rx
  obtain ⟨bs, rb⟩ := hy.reads I ry
  exact SeqAt.compareNe_reads ra rb cx cy (by omega) ⟨.bl (!PyData.eqv dx dy), H, I, rfl, q⟩
end
end Kw
set_option Elab.async false
set_option linter.all false
set_option maxRecDepth 100000
set_option maxHeartbeats 4000000
namespace Kw
open PySem PySem.Spec PyProof.Rows L2
section
variable {X : Cx} {pos : Pos} {k v : Expr} {x : Str} {i : Int}
end
end Kw
namespace Kw
open PySem PySem.Spec PyProof.Rows L2
section
variable {X : Cx}
end
section
variable {K : PySem.W.Frag} {H H' : Hp} {v : V} {t : Value}
end
end Kw
namespace Kw
open PySem PySem.Spec PyProof.Rows L2
section
variable {X : Cx} {k k' : Nat} {x : Str} {ps : List Str} {sp : Sp} {E : XK} {p pos : Pos} {e : Expr} {es : List Expr} {t : TA} {dv : V}
end
end Kw
namespace Kw
end Kw
namespace Kw
open PySem PySem.Spec PyProof.Rows L2
end Kw
namespace Kw
open PySem PySem.Spec PyProof.Rows L2
theorem newO {H : Hp} {p : Addr} (hp : H p = none) (o : HO) : ∃ H', upd H p o = H' ∧ Same H H' ∧ H' p = some o := ⟨_, rfl, same_new hp o, upd_same⟩
end Kw
namespace Kw
open PySem PySem.Spec PyProof.Rows L2
end Kw
theorem Kw.u100 {k : Nat} {A : PySem.Around} (r : L2.Room k A) : A.units + 100 < PySem.cLine := by have := r.un; omega
namespace Kw
open PySem PySem.Spec PyProof.Rows L2
end Kw
set_option Elab.async false
set_option linter.all false
set_option maxRecDepth 100000
set_option maxHeartbeats 4000000
namespace Kw
open PySem PySem.Spec PyProof.Rows L2
noncomputable def cxC (X : Cx) (N : List Str) (scope : Scope) (cl : List (Str × Addr)) (C : Addr) (s : Shared) (H : Hp) (fp : List Addr) : Cx :=
  { X with N := N, s₀ := s, H₀ := H, env := compEnvC scope cl C X.env, outer := X.stack, stack := X.stack, ex := fp, fn := fun _ => false, pn := [], xe := fun _ _ => False }
section
variable {X : Cx} {pins : List (Addr × Obj)} {σ : L2.St} {H : Hp} {s : Shared} {N ns : List Str} {scope : Scope} {cl : List (Str × Addr)} {C : Addr} {fp : List Addr} {x : Str} {idx : List Nat}
theorem okC (I : Inv X pins σ H s) (f : ∀ b ∈ fp, FpOk X pins H b) (lt : ∀ b ∈ fp, b < s.heap.objs.size) (hC : s.heap.objs.size ≤ C) (hkind : scope.kind = .function) (hcl : ∀ y c, cl.lookup y = some c → X.env.cells.lookup y = some c)
    (hfr : ∀ y, ((compEnvC scope cl C X.env).kindOf y = some .cell ∨ (compEnvC scope cl C X.env).kindOf y = some .free) → ∃ c, cl.lookup y = some c) : (cxC X N scope cl C s H fp).Ok where
  mod := I.ok.mod
  kind := hkind
  glob := I.ok.glob
  blt := I.ok.blt
  above := hC
  inj := fun x y c e1 e2 => I.ok.inj x y c (hcl _ _ e1) (hcl _ _ e2)
  has := hfr
  cab := fun _ _ h => nomatch h
  hd := I.ok.hd
  frames := I.ok.frames
  stk := .inl rfl
  exf := fun b hb => ⟨Nat.ne_of_lt (Nat.lt_of_lt_of_le (lt b hb) hC), fun x c e => (f b hb).2.2.2.2.1 x c (hcl _ _ e)⟩
  bs := I.bs
  bsz := Nat.le_trans I.ok.bsz I.sz
  noex := fun b o e hb => by
    rcases (f b hb).2.2.2.1 with z | z
    · exact I.ok.noex b o e z
    · exact absurd (Nat.lt_of_lt_of_le (Heap.lt_size e) (Nat.le_trans I.ok.bsz z)) (Nat.lt_irrefl _)
  exfs := fun b hb hs => by
    rcases List.mem_cons.mp (I.stkSub b hs) with z | z
    · exact (f b hb).2.1 z
    · exact (f b hb).2.2.1 z
  funs := I.stack
  frf := I.stkFree
noncomputable def Capt (X : Cx) (scope : Scope) (cl : List (Str × Addr)) (ns : List Str) (idx : List Nat) : Prop :=
  idx.length = ns.length ∧ ∀ (k : Nat) (y : Str), ns[k]? = some y → ∃ j c, idx[k]? = some j ∧ X.N[j]? = some y ∧ X.env.kindOf y = some .cell ∧ X.env.cells.lookup y = some c ∧ cl.lookup y = some c ∧ ((relabel scope X.env).names.lookup y = some .cell ∨ (relabel scope X.env).names.lookup y = some .free)
noncomputable def stIn (v : Option V) (idx : List Nat) (σ : L2.St) : L2.St := v :: idx.map fun j => (σ[j]?).join
theorem invC {D : Addr} {h1 : Heap} {t : Nat} {o : Obj} {mC : Str → Option Value} (I : Inv X pins σ H s) (ok : (cxC X (x :: ns) scope cl C s H fp).Ok) (cap : Capt X scope cl ns idx) (hcl : ∀ y c, cl.lookup y = some c → X.env.cells.lookup y = some c)
    (keep : ∀ b u, s.heap.get? b = some u → h1.get? b = some u) (hC : s.heap.objs.size ≤ C) (hns : h1.Ns C mC) (hD : h1.get? D = some o) (hDs : s.heap.objs.size ≤ D) (hDC : D ≠ C) (hod : ∀ v, o.data ≠ .cell v) (hx : (relabel scope X.env).names.lookup x = some .local) :
    Inv (cxC X (x :: ns) scope cl C s H fp) [(D, o)] (stIn none idx σ) H { s with heap := h1, toks := t } := by
  have cellK : ∀ y c, cl.lookup y = some c → ∀ v, s.heap.IsCell c v → h1.IsCell c v := fun y c e v ⟨o, ho, hd⟩ => ⟨o, keep _ _ ho, hd⟩
  refine ⟨ok, rfl, I.bare, Un.kept keep, ⟨mC, hns, fun i y v e1 e2 e3 => ?_⟩, fun y c e => ?_, I.hok.fresh hC, fun y c e => I.freeC y c (hcl y c e), fun p hp => ?_, I.hok.kept keep, ?_⟩
  · cases i with
    | zero => cases e2
    | succ k =>
      have e1' : ns[k]? = some y := e1
      obtain ⟨j, c, h1', h2, h3, h4, h5, h6⟩ := cap.2 k y e1'
      have e2' : (idx.map fun j => (σ[j]?).join)[k]? = some (some v) := e2
      rw [List.getElem?_map, h1'] at e2'
      have e4 : (σ[j]?).join = some v := Option.some.inj e2'
      have e5 : σ[j]? = some (some v) := by
        cases q : σ[j]? with
        | none => rw [q] at e4; cases e4
        | some z => rw [q] at e4; exact congrArg some e4
      obtain ⟨m, hn, hl⟩ := I.loc
      obtain ⟨u, r, lk⟩ := hl j y v h2 e5 (.inr (.inl h3))
      refine ⟨u, r, .inr ⟨h6, c, h5, ?_⟩⟩
      rcases lk with ⟨z, _⟩ | ⟨_, c', z, ic⟩
      · rw [h3] at z; cases z
      · rw [h4] at z; cases z
        exact cellK y c h5 _ ic
  · obtain ⟨v, ic⟩ := I.cell y c (hcl y c e)
    exact ⟨v, cellK y c e v ic⟩
  · have e : p = (D, o) := by simpa [cxC] using hp
    subst e
    refine ⟨hD, I.hok.fresh hDs, hDC, fun hs => ?_, hod⟩
    obtain ⟨_, o', ho', _⟩ := I.stack.mem hs
    exact absurd (Heap.lt_size ho') (Nat.not_lt.mpr hDs)
  · unfold stIn
    rw [List.length_cons, List.length_map, cap.1]
    rfl
end
noncomputable abbrev NoE : Value → Shared → Prop := fun _ _ => False
noncomputable abbrev testsOf (ifs : List Expr) (env : Env) : Sem Bool := forIn ifs true fun c r => if r = true then do let ok ← isTrue c env (eval c env); pure (ForInStep.yield ok) else pure (ForInStep.yield r)
noncomputable def PTs (X : Cx) (ifs : List Expr) (t : TT) : Prop :=
  ∀ (pins : List (Addr × Obj)) (s : Shared) (σ : L2.St) (H : Hp) (Q : Bool → Hp → Prop), Inv X pins σ H s → t σ H Q → wpAny (model X.prog X.w) X.A (testsOf ifs X.env) (TP X pins σ Q) X.xe s
noncomputable def ttNil : TT := fun _ H Q => Q true H
theorem pts_nil {X : Cx} : PTs X [] ttNil := fun _ _ _ H _ I h => wpAny_tests_nil ⟨H, I, h⟩
theorem pts_one {X : Cx} {c : Expr} {t : TT} (h : PT X c t) : PTs X [c] t := fun pins s σ H Q I q => wpAny_tests_one (h pins s σ H Q I q)
theorem lc_loop {prog : Program} {w : World} {A : Around} {R : Result → Shared → Prop} {s : Shared} {elt target iter : Expr} {ifs : List Expr} {scope : Scope} {pos : Pos} {it acc : Value} {env : Env} (Z : Nat → Shared → Prop)
    (turn : ∀ n z, Z n z → wpAny (model prog w) A (pyNext it) (fun r z1 => match r with
      | none => R (.ok .next) z1
      | some v => wpAny (model prog w) A (letOwnedTupleGo target it v) (fun _ z2 => wpAny (model prog w) A (assign target env v) (fun _ z3 => wpAny (model prog w) A (testsOf ifs env) (fun ok z4 => if ok = true then
          wpAny (model prog w) A (eval elt env) (fun y z5 => wpAny (model prog w) A (call (.builtin "list.append") [acc, y]) (fun _ z6 => ∃ m, m < n ∧ Z m z6) NoE z5) NoE z4 else ∃ m, m < n ∧ Z m z4) NoE z3) NoE z2) NoE z1) NoE z)
    (n : Nat) (h : Z n s) : codeAny (model prog w) A (.compLoop (.ListComp elt [⟨target, iter, ifs, 0⟩] scope pos) 0 it acc env) R s := by
  refine codeAny_loop rfl Z (fun n z hZ => ?_) n h
  show wpAny _ A ((compTurn (.ListComp elt [⟨target, iter, ifs, 0⟩] scope pos) 0 it acc env).onRaise (fun q => do noteFrame q env; theTreesLotGoes q)) _ _ z
  refine wpAny_noted ?_
  rw [compTurn_list]
  refine wpAny_bind (wpAny_standAt (wpAny_bind (wpAny_mono (turn n z hZ) (fun r z1 k1 => ?_) fun _ _ q => q.elim)))
  cases r with
  | none => exact wpAny_pure k1
  | some v =>
    refine wpAny_bind (wpAny_mono k1 (fun _ z2 k2 => ?_) fun _ _ q => q.elim)
    refine wpAny_bind (wpAny_mono k2 (fun _ z3 k3 => ?_) fun _ _ q => q.elim)
    refine wpAny_bind (wpAny_mono k3 (fun ok z4 k4 => ?_) fun _ _ q => q.elim)
    cases ok with
    | false => exact wpAny_pure ⟨rfl, k4⟩
    | true =>
      refine wpAny_bind (wpAny_bind (wpAny_mono (show wpAny _ _ _ _ _ _ from k4) (fun y z5 k5 => ?_) fun _ _ q => q.elim))
      exact wpAny_bind (wpAny_mono k5 (fun _ z6 k6 => wpAny_pure (wpAny_pure ⟨rfl, k6⟩)) fun _ _ q => q.elim)
noncomputable def LcBody (J : It) (idx : List Nat) (te : TE) (σ : L2.St) (Q : VK) (H1 : Hp) : Prop := ∃ W : Nat → Nat → List V → Hp → Prop, (∃ m, W 0 m [] H1) ∧ ∀ i m ys H, W i m ys H → ys.length ≤ sizeLine ∧
  ((J.stop i H ∧ ∀ p, H p = none → Q (.ref p) (upd H p (.lst ys))) ∨ (J.go i H ∧ ∀ y H', J.yld i H y H' → te (stIn (some y) idx σ) H' fun v H2 => ∃ m', m' < m ∧ W (i + 1) m' (ys ++ [v]) H2))
noncomputable def tLc (wi : TI) (idx : List Nat) (te : TE) : TE := fun σ H Q => wi σ H fun J H1 => LcBody J idx te σ Q H1
noncomputable def LcBodyT (J : It) (idx : List Nat) (tt : TT) (te : TE) (σ : L2.St) (Q : VK) (H1 : Hp) : Prop := ∃ W : Nat → Nat → List V → Hp → Prop, (∃ m, W 0 m [] H1) ∧ ∀ i m ys H, W i m ys H → ys.length ≤ sizeLine ∧
  ((J.stop i H ∧ ∀ p, H p = none → Q (.ref p) (upd H p (.lst ys))) ∨ (J.go i H ∧ ∀ y H', J.yld i H y H' → tt (stIn (some y) idx σ) H' fun b H3 => if b = true then te (stIn (some y) idx σ) H3 fun v H2 => ∃ m', m' < m ∧ W (i + 1) m' (ys ++ [v]) H2
    else ∃ m', m' < m ∧ W (i + 1) m' ys H3))
noncomputable def tLcT (wi : TI) (idx : List Nat) (tt : TT) (te : TE) : TE := fun σ H Q => wi σ H fun J H1 => LcBodyT J idx tt te σ Q H1
theorem LcBody.toT {J : It} {idx : List Nat} {te : TE} {σ : L2.St} {Q : VK} {H1 : Hp} (h : LcBody J idx te σ Q H1) : LcBodyT J idx ttNil te σ Q H1 := by
  obtain ⟨W, w0, turn⟩ := h
  refine ⟨W, w0, fun i m ys H w => ?_⟩
  obtain ⟨hz, h⟩ := turn i m ys H w
  refine ⟨hz, h.imp id fun h => ⟨h.1, fun y H' yl => ?_⟩⟩
  show (if true = true then te (stIn (some y) idx σ) H' (fun v H2 => ∃ m', m' < m ∧ W (i + 1) m' (ys ++ [v]) H2) else ∃ m', m' < m ∧ W (i + 1) m' ys H')
  rw [if_pos rfl]
  exact h.2 y H' yl
section
variable {X : Cx} {elt iter : Expr} {ifs : List Expr} {x : Str} {px pos : Pos} {scope : Scope} {cl : List (Str × Addr)} {wi : TI} {tt : TT} {te : TE} {ns : List Str} {idx : List Nat}
structure LcEnd (X : Cx) (fp : List Addr) (H2 H4 : Hp) (s2 s5 : Shared) (C D : Addr) (ys : List V) : Prop where
  dn : D = s2.heap.objs.size
  cn : s2.heap.objs.size ≤ C
  dc : D ≠ C
  un : Un (frs X.stack) fp H2 H4 s2.heap s5.heap
  hok : HOk X.prog X.w H4 s5.heap
  cf : H4 C = none
  df : H4 D = none
  os : s5.os = s2.os
  bare : AllBare s5.gens
  ns : ∃ m, s5.heap.Ns C m
  obj : ∃ us, Vals ys us ∧ s5.heap.get? D = some (LCg.lst us)
  len : ys.length ≤ sizeLine
theorem lc_main (hc : X.calm = true) (hi : PI X (.Name x px) iter wi) (hclos : closureFor scope X.env = pure cl) (hcell : ∀ y ∈ scope.names, y.2 ≠ .cell) (hkind : scope.kind = .function)
    (hnames : ∀ y ∈ scope.names, y.2 = .local → scope.names.lookup y.1 = some .local) (hx : scope.names.lookup x = some .local) (nd : (x :: ns).Nodup) (cap : Capt X scope cl ns idx)
    (hcl : ∀ y c, cl.lookup y = some c → X.env.cells.lookup y = some c) (hfr : ∀ y, ((relabel scope X.env).names.lookup y = some .cell ∨ (relabel scope X.env).names.lookup y = some .free) → ∃ c, cl.lookup y = some c)
    (htt : ∀ (C : Addr) (s : Shared) (H : Hp) (fp : List Addr), PTs (cxC X (x :: ns) scope cl C s H fp) ifs tt) (hel : ∀ (C : Addr) (s : Shared) (H : Hp) (fp : List Addr), PE (cxC X (x :: ns) scope cl C s H fp) elt te)
    {pins : List (Addr × Obj)} {σ : L2.St} {Q : VK} {itv : Value} {s2 : Shared} {E : Value → Shared → Prop} {RR : Value → Addr → Result → Shared → Prop} (h2 : PIE X pins σ (.Name x px) (fun J H1 => LcBodyT J idx tt te σ Q H1) itv s2)
    (hRR : ∀ fp H2 H4 s5 C D ys, Inv X pins σ H2 s2 → (∀ b ∈ fp, FpOk X pins H2 b) → LcEnd X fp H2 H4 s2 s5 C D ys → Q (.ref D) (upd H4 D (.lst ys)) → RR (.ref D) C (.ok .next) s5) :
    wpAny (model X.prog X.w) X.A (newList []) (fun acc s3 => wpAny (model X.prog X.w) X.A (newFunctionEnv scope X.env.globals cl [] X.env.qual none .none (some X.env)) (fun cenv s4 =>
      codeAny (model X.prog X.w) X.A (.compStart (.ListComp elt [⟨.Name x px, iter, ifs, 0⟩] scope pos) 0 itv acc { cenv with scope := relabel scope X.env }) (RR acc cenv.locals) s4) E s3) E s2 := by
  obtain ⟨it, fp, tn, J, H2, e, I2, T, st2, f2, W, ⟨m0, w0⟩, turn⟩ := h2
  subst e
  refine wpAny_newObj_type (wpAny_newFunctionEnv hcell (by intro y hy; simp at hy) (fun h1 hns1 hsb1 => ?_) hkind)
  dsimp only at hns1 hsb1 ⊢
  generalize hH2 : s2.heap.push { cls := .type "list", dict := none, data := .seq ([] : List Value).toArray } = g2 at hns1 hsb1 ⊢
  have hC : g2.objs.size = s2.heap.objs.size + 1 := by rw [← hH2, Heap.size_push]
  have hDC : s2.heap.objs.size ≠ g2.objs.size := by rw [hC]; exact Nat.ne_of_lt (Nat.lt_succ_self _)
  have hCle : s2.heap.objs.size ≤ g2.objs.size := by rw [hC]; exact Nat.le_succ _
  have keep1 : ∀ b o, s2.heap.get? b = some o → h1.get? b = some o := fun b o e => hsb1.extBut b o (Nat.ne_of_lt (Nat.lt_of_lt_of_le (Heap.lt_size e) hCle)) (Heap.get?_push_of_some _ (hH2 ▸ Heap.get?_push_of_some _ e))
  have hacc : h1.get? s2.heap.objs.size = some { cls := .type "list", data := .seq ([] : List Value).toArray 0 } := hsb1.extBut _ _ hDC (Heap.get?_push_of_some _ (hH2 ▸ Heap.get?_push_size _ rfl))
  have lt : ∀ b ∈ fp, b < s2.heap.objs.size := fun b hb => by
    obtain ⟨o, e, _⟩ := T.obj _ _ st2 b hb
    exact Heap.lt_size e
  have hxr : (relabel scope X.env).names.lookup x = some .local := lookup_relabel_local hx
  have ok := okC (N := x :: ns) (scope := scope) (cl := cl) (C := g2.objs.size) I2 f2 lt hCle hkind hcl hfr
  have I3 := invC (D := s2.heap.objs.size) (t := s2.toks + ([] : List (Str × Value)).length) I2 ok cap hcl keep1 hCle hns1 hacc (Nat.le_refl _) hDC (fun v z => by cases z) hxr
  have fC : ∀ {H' : Hp} {pl : List (Addr × Obj)}, (∀ p ∈ pl, p.1 = s2.heap.objs.size) → (∀ b ∈ fp, H' b = none) → ∀ b ∈ fp, FpOk (cxC X (x :: ns) scope cl g2.objs.size s2 H2 fp) pl H' b := fun {H' pl} hpl hn b hb =>
    ⟨hn b hb, (ok.exf b hb).1, fun z => ok.exfs b hb z, .inl hb, (ok.exf b hb).2, fun p hp z => by
      have q := hpl p (by simpa [cxC] using hp)
      have := lt b hb
      rw [← z, q] at this
      exact Nat.lt_irrefl _ this⟩
  have lnc : ∀ us : List Value, ∀ v, (LCg.lst us).data ≠ .cell v := fun us v z => by cases z
  have loop : ∀ s3 : Shared, s3 = { s2 with heap := h1, toks := s2.toks + ([] : List (Str × Value)).length } →
      codeAny (model X.prog X.w) X.A (.compLoop (.ListComp elt [⟨.Name x px, iter, ifs, 0⟩] scope pos) 0 (.ref it) (.ref s2.heap.objs.size) (compEnvC scope cl g2.objs.size X.env))
        (RR (.ref s2.heap.objs.size) g2.objs.size) s3 := by
    rintro s3 rfl
    refine lc_loop (fun n s' => ∃ i ys us r H', Inv (cxC X (x :: ns) scope cl g2.objs.size s2 H2 fp) [(s2.heap.objs.size, LCg.lst us)] (stIn r idx σ) H' s' ∧ tn i s'.heap ∧ (∀ b ∈ fp, H' b = none) ∧ Vals ys us ∧ W i n ys H') ?_ m0
      ⟨0, [], [], none, H2, I3, T.keep _ _ _ st2 fun b _ o e => keep1 b o e, fun b hb => (f2 b hb).1, .nil, w0⟩
    rintro n s4 ⟨i, ys, us, r, H4, I4, st4, fr4, vs4, w4⟩
    obtain ⟨hz, ⟨stop, qn⟩ | ⟨go, step⟩⟩ := turn i n ys H4 w4
    · refine thn (T.done (cxC X (x :: ns) scope cl g2.objs.size s2 H2 fp) rfl rfl rfl hc i _ s4 _ H4 NoE I4 (fC (fun p hp => by rw [List.mem_singleton.mp hp]) fr4) st4 stop) fun r5 s5 zz => ?_
      obtain ⟨hr5, I5⟩ := zz
      subst hr5
      obtain ⟨mC, hnC, _⟩ := I5.loc
      obtain ⟨pD1, pD2, _⟩ := I5.pin (s2.heap.objs.size, LCg.lst us) (List.mem_append_right _ (List.mem_singleton.mpr rfl))
      exact hRR fp H2 H4 s5 g2.objs.size s2.heap.objs.size ys I2 f2 ⟨rfl, hCle, hDC, I5.base, I5.hok, I5.free, pD2, I5.os, I5.bare, ⟨mC, hnC⟩, ⟨us, vs4, pD1⟩, hz⟩ (qn _ pD2)
    · refine thn (T.item (cxC X (x :: ns) scope cl g2.objs.size s2 H2 fp) rfl rfl rfl hc i _ s4 _ H4 NoE I4 (fC (fun p hp => by rw [List.mem_singleton.mp hp]) fr4) st4 go) fun r5 s5 zz => ?_
      obtain ⟨u, hr5, k5⟩ := zz
      subst hr5
      refine thn k5 fun _ s6 zz => ?_
      obtain ⟨y, H6, I6, r6, y6, st6, fr6⟩ := zz
      have I6' := I6.pinned (fC (fun p hp => by rw [List.mem_singleton.mp hp]) fr6) (T.obj _ _ st6)
      have G := pg_name (X := cxC X (x :: ns) scope cl g2.objs.size s2 H2 fp) (pos := px) (i := 0) (x := x) nd rfl (.inl hxr) (.inr hxr)
      refine thn (G _ s6 _ H6 y u (fun σ' H' => σ' = stIn (some y) idx σ ∧ H' = H6) I6' r6 ⟨rfl, rfl⟩) fun _ s7 zz => ?_
      obtain ⟨σ7, H7, I7, e7, eH⟩ := zz
      subst e7 eH
      refine thn (htt g2.objs.size s2 H2 fp _ s7 _ _ _ I7 (step y _ y6)) fun ok s71 zz => ?_
      obtain ⟨H71, I71, k71⟩ := zz
      cases ok with
      | false =>
        obtain ⟨m', lm, w8⟩ := (show ∃ m', m' < n ∧ W (i + 1) m' ys H71 from k71)
        have kf : ∀ b ∈ fp, ∀ o, s6.heap.get? b = some o → s71.heap.get? b = some o ∧ H71 b = none := fun b hb o e => by
          have q := I71.pin (b, o) (List.mem_append_right _ (List.mem_append_right _ (mem_pinsAt hb e)))
          exact ⟨q.1, q.2.1⟩
        obtain ⟨pD1, pD2, pD3, pD4, _⟩ := I71.pin (s2.heap.objs.size, LCg.lst us) (by simp [cxC])
        refine ⟨m', lm, i + 1, ys, us, some y, H71, I71.pins_of fun p hp => ?_, ?_, fun b hb => ?_, vs4, w8⟩
        · rw [List.mem_singleton.mp hp]
          exact ⟨pD1, pD2, pD3, pD4, lnc _⟩
        · exact T.keep _ _ _ st6 fun b hb o e => (kf b hb o e).1
        · obtain ⟨o, e, _⟩ := T.obj _ _ st6 b hb
          exact (kf b hb o e).2
      | true =>
      refine thn (hel g2.objs.size s2 H2 fp _ s71 _ _ _ I71 k71) fun y8 s8 zz => ?_
      obtain ⟨v, H8, I8, r8, m', lm, w8⟩ := zz
      obtain ⟨pD1, pD2, pD3, pD4, _⟩ := I8.pin (s2.heap.objs.size, LCg.lst us) (by simp [cxC])
      have kf : ∀ b ∈ fp, ∀ o, s6.heap.get? b = some o → s8.heap.get? b = some o ∧ H8 b = none := fun b hb o e => by
        have q := I8.pin (b, o) (List.mem_append_right _ (List.mem_append_right _ (mem_pinsAt hb e)))
        exact ⟨q.1, q.2.1⟩
      refine append_at (hsz := by show us.toArray.size ≤ sizeLine; rw [List.size_toArray, ← vs4.length]; exact hz) pD1 fun h9 sb9 hD9 => ?_
      have I8' : Inv (cxC X (x :: ns) scope cl g2.objs.size s2 H2 fp) [] (stIn (some y) idx σ) H8 s8 := I8.pins_of fun p hp => nomatch hp
      have I9 := I8'.turned (it := s2.heap.objs.size) (h' := h9) (t' := s8.toks) (fun b o hb e => (sb9.2 b hb).trans e) pD2 pD3 (.inr (Nat.le_refl _)) (fun y c e z => by
          obtain ⟨v, q⟩ := I2.cell y c (hcl y c e)
          exact absurd q.lt (by rw [z]; exact Nat.lt_irrefl _)) (fun p hp => by simp [cxC] at hp)
      refine ⟨m', lm, i + 1, ys ++ [v], us ++ [y8], some y, H8, I9.pins_of fun p hp => ?_, ?_, fun b hb => ?_, vs4.append (.cons r8 .nil), w8⟩
      · rw [List.mem_singleton.mp hp]
        exact ⟨hD9.trans (congrArg some (LCg.lst_snoc us y8)), pD2, pD3, pD4, lnc _⟩
      · exact T.keep _ _ _ st6 fun b hb o e => (sb9.2 b (Nat.ne_of_lt (lt b hb))).trans (kf b hb o e).1
      · obtain ⟨o, e, _⟩ := T.obj _ _ st6 b hb
        exact (kf b hb o e).2
  exact codeAny_compStart_list (loop _ rfl) (T.self _ 0 _ _ _ (T.keep _ _ _ st2 fun b _ o e => keep1 b o e) (loop _ rfl))
theorem LcEnd.inv {fp : List Addr} {H2 H4 : Hp} {s2 s5 : Shared} {C D : Addr} {ys : List V} {pins : List (Addr × Obj)} {σ : L2.St} {h' : Heap} (L : LcEnd X fp H2 H4 s2 s5 C D ys) (I2 : Inv X pins σ H2 s2) (f2 : ∀ b ∈ fp, FpOk X pins H2 b) (sb : Heap.SameBut C s5.heap h') :
    Inv X pins σ (upd H4 D (.lst ys)) { s5 with heap := h' } := by
  obtain ⟨rfl, hCle, hDC, U, hok, cf, pD2, eo, bare, ⟨mC, hnC⟩, ⟨us, vs4, pD1⟩, hz⟩ := L
  have neC : ∀ b o, s2.heap.get? b = some o → b ≠ C := fun b o e => Nat.ne_of_lt (Nat.lt_of_lt_of_le (Heap.lt_size e) hCle)
  have U' : Un (frs X.stack) fp H2 H4 s2.heap h' := ⟨fun b o e n hb hx => (sb.2 b (neC b o e)).trans (U.keep b o e n hb hx), fun b o e n hb hx => by
      obtain ⟨sl, q⟩ := U.slot b o e n hb hx
      exact ⟨sl, (sb.2 b (neC b o e)).trans q⟩, U.free, fun b o e hx => by
      obtain ⟨o', q⟩ := U.there b o e hx
      exact ⟨o', (sb.2 b (neC b o e)).trans q⟩, U.tups, U.frzs, U.tbls⟩
  have hok' : HOk X.prog X.w H4 h' := fun a o e => by
    refine (hok a o e).stay (fun b u hb q => (sb.2 b ?_).trans q) (fun _ z => z) fun _ _ z => z
    rintro rfl
    rcases hb with hb | hb
    · rw [← hb, cf] at e; cases e
    · rw [cf] at hb; cases hb
  have I6 := I2.call (ch := fp) (h' := h') (g' := s5.gens) (t' := s5.toks) (d' := s5.drawn) U' hok' bare fun b hb => ⟨(f2 b hb).2.2.2.1, (f2 b hb).2.1, (f2 b hb).2.2.2.2.1, (f2 b hb).2.2.2.2.2⟩
  have I7 := Inv.adopt (x := s2.heap.objs.size) (o := .lst ys) (fun y c e z => by
      obtain ⟨v, q⟩ := I2.cell y c e
      exact absurd q.lt (by rw [z]; exact Nat.lt_irrefl _)) I6 (Heap.get?_none_of_le I2.sz) pD2 (Nat.ne_of_gt I2.lt) (fun p hp z => by
      have := Heap.lt_size (I2.pin p hp).1
      rw [z] at this
      exact Nat.lt_irrefl _ this) ⟨hz, us, us.length, vs4, (sb.2 _ hDC).trans pD1⟩
  rw [← eo] at I7
  exact I7
theorem pie_toT {pins : List (Addr × Obj)} {σ : L2.St} {tg : Expr} {Q : VK} {itv : Value} {s2 : Shared} (h : PIE X pins σ tg (fun J H1 => LcBody J idx te σ Q H1) itv s2) : PIE X pins σ tg (fun J H1 => LcBodyT J idx ttNil te σ Q H1) itv s2 := by
  obtain ⟨it, fp, tn, J, H', a, b, c, d, e, q⟩ := h
  exact ⟨it, fp, tn, J, H', a, b, c, d, e, q.toT⟩
theorem pe_lcT (hc : X.calm = true) (hi : PI X (.Name x px) iter wi) (hclos : closureFor scope X.env = pure cl) (hcell : ∀ y ∈ scope.names, y.2 ≠ .cell) (hkind : scope.kind = .function)
    (hnames : ∀ y ∈ scope.names, y.2 = .local → scope.names.lookup y.1 = some .local) (hx : scope.names.lookup x = some .local) (nd : (x :: ns).Nodup) (cap : Capt X scope cl ns idx)
    (hcl : ∀ y c, cl.lookup y = some c → X.env.cells.lookup y = some c) (hfr : ∀ y, ((relabel scope X.env).names.lookup y = some .cell ∨ (relabel scope X.env).names.lookup y = some .free) → ∃ c, cl.lookup y = some c)
    (htt : ∀ (C : Addr) (s : Shared) (H : Hp) (fp : List Addr), PTs (cxC X (x :: ns) scope cl C s H fp) ifs tt) (hel : ∀ (C : Addr) (s : Shared) (H : Hp) (fp : List Addr), PE (cxC X (x :: ns) scope cl C s H fp) elt te) (hs : ∀ v, foldedSetIterable iter X.env v = pure v := by intro _; rfl) :
    PE X (.ListComp elt [⟨.Name x px, iter, ifs, 0⟩] scope pos) (tLcT wi idx tt te) := by
  intro pins s σ H Q I h
  rw [eval_ListComp]
  refine wpAny_comprehension_free (use := none) rfl hs hclos hkind hnames (thn (hi pins s σ H _ I h) fun v s1 h1 => thn h1 fun itv s2 h2 => ?_)
  refine lc_main hc hi hclos hcell hkind hnames hx nd cap hcl hfr htt hel (RR := fun acc C => compPost (model X.prog X.w) X.A X.xe none (EP X pins σ Q) acc C) h2 fun fp H2 H4 s5 C D ys I2 f2 L q => ?_
  obtain ⟨mC, hnC⟩ := L.ns
  exact ⟨mC, hnC, fun h' sb => ⟨.ref D, _, L.inv I2 f2 sb, rfl, q⟩⟩
theorem pe_lc (hc : X.calm = true) (hi : PI X (.Name x px) iter wi) (hclos : closureFor scope X.env = pure cl) (hcell : ∀ y ∈ scope.names, y.2 ≠ .cell) (hkind : scope.kind = .function)
    (hnames : ∀ y ∈ scope.names, y.2 = .local → scope.names.lookup y.1 = some .local) (hx : scope.names.lookup x = some .local) (nd : (x :: ns).Nodup) (cap : Capt X scope cl ns idx)
    (hcl : ∀ y c, cl.lookup y = some c → X.env.cells.lookup y = some c) (hfr : ∀ y, ((relabel scope X.env).names.lookup y = some .cell ∨ (relabel scope X.env).names.lookup y = some .free) → ∃ c, cl.lookup y = some c)
    (hel : ∀ (C : Addr) (s : Shared) (H : Hp) (fp : List Addr), PE (cxC X (x :: ns) scope cl C s H fp) elt te) (hs : ∀ v, foldedSetIterable iter X.env v = pure v := by intro _; rfl) :
    PE X (.ListComp elt [⟨.Name x px, iter, [], 0⟩] scope pos) (tLc wi idx te) := by
  intro pins s σ H Q I h
  rw [eval_ListComp]
  refine wpAny_comprehension_free (use := none) rfl hs hclos hkind hnames (thn (hi pins s σ H _ I h) fun v s1 h1 => thn h1 fun itv s2 h2 => ?_)
  refine lc_main (tt := ttNil) hc hi hclos hcell hkind hnames hx nd cap hcl hfr (fun _ _ _ _ => pts_nil) hel (RR := fun acc C => compPost (model X.prog X.w) X.A X.xe none (EP X pins σ Q) acc C) (pie_toT h2) fun fp H2 H4 s5 C D ys I2 f2 L q => ?_
  obtain ⟨mC, hnC⟩ := L.ns
  exact ⟨mC, hnC, fun h' sb => ⟨.ref D, _, L.inv I2 f2 sb, rfl, q⟩⟩
theorem ps_lc {j : Nat} {y : Str} {py spos : Pos} (hN : X.N.Nodup) (hj : X.N[j]? = some y) (hy : X.env.scope.names.lookup y = some .local) (hsw : swapsWith (.ListComp elt [⟨.Name x px, iter, [], 0⟩] scope pos) (some (.Name y py)) spos.line X.env = pure true)
    (hc : X.calm = true) (hi : PI X (.Name x px) iter wi) (hclos : closureFor scope X.env = pure cl) (hcell : ∀ y ∈ scope.names, y.2 ≠ .cell) (hkind : scope.kind = .function)
    (hnames : ∀ y ∈ scope.names, y.2 = .local → scope.names.lookup y.1 = some .local) (hx : scope.names.lookup x = some .local) (nd : (x :: ns).Nodup) (cap : Capt X scope cl ns idx)
    (hcl : ∀ y c, cl.lookup y = some c → X.env.cells.lookup y = some c) (hfr : ∀ y, ((relabel scope X.env).names.lookup y = some .cell ∨ (relabel scope X.env).names.lookup y = some .free) → ∃ c, cl.lookup y = some c)
    (hel : ∀ (C : Addr) (s : Shared) (H : Hp) (fp : List Addr), PE (cxC X (x :: ns) scope cl C s H fp) elt te) (hs : ∀ v, foldedSetIterable iter X.env v = pure v) :
    PS X (.Assign [.Name y py] (.ListComp elt [⟨.Name x px, iter, [], 0⟩] scope pos) spos) (tAsg (tLc wi idx te) (gName j)) := by
  intro pins s σ H D I h
  rw [exec_Assign_Name_used _ _ _ _ hsw]
  refine wpAny_bind (wpAny_standAt (wpAny_bind ?_))
  show wpAny _ _ (do let _ ← comprehension (.ListComp elt [⟨.Name x px, iter, [], 0⟩] scope pos) scope X.env _ (newList []) false (eval iter X.env) (some (assign (.Name y py) X.env))) _ _ s
  refine wpAny_bind (wpAny_mono (wpAny_comprehension_free (use := some (assign (.Name y py) X.env)) (Q := fun _ s' => SP X pins D .next s') rfl hs hclos hkind hnames
    (thn (hi pins s σ H _ I h) fun v s1 h1 => thn h1 fun itv s2 h2 => ?_)) (fun _ s' hq => wpAny_pure (wpAny_pure hq)) fun _ _ e => e)
  refine lc_main (tt := ttNil) hc hi hclos hcell hkind hnames hx nd cap hcl hfr (fun _ _ _ _ => pts_nil) hel (RR := fun acc C => compPost (model X.prog X.w) X.A X.xe (some (assign (.Name y py) X.env)) (fun _ s' => SP X pins D .next s') acc C) (pie_toT h2) fun fp H2 H4 s5 C Da ys I2 f2 L q => ?_
  have I7 := L.inv I2 f2 (h' := s5.heap) ⟨rfl, fun _ _ => rfl⟩
  show wpAny _ _ (assign (.Name y py) X.env (.ref Da)) _ _ s5
  have cL : C ≠ X.env.locals := Nat.ne_of_gt (Nat.lt_of_lt_of_le I2.lt L.cn)
  have cc : ∀ z c, X.env.cells.lookup z = some c → c ≠ C := fun z c e => by
    obtain ⟨v, k⟩ := I2.cell z c e
    exact Nat.ne_of_lt (Nat.lt_of_lt_of_le k.lt L.cn)
  refine wpAny_assign_Name (store_ok2 I7 hN hj (.inl hy) (v := .ref Da) rfl (fun s8 I8 sm => ?_) (.inr hy))
  obtain ⟨a, sba, ha⟩ := sm
  have ac : C ≠ a := by
    rcases ha with rfl | ha
    · exact cL
    · exact Ne.symm (cc _ _ ha)
  obtain ⟨mC, o, es, ep, e1, e2⟩ := L.ns
  refine ⟨mC, ⟨o, es, ep, (sba.2 C ac).trans e1, e2⟩, fun h' sb => ⟨_, _, ?_, q⟩⟩
  refine I8.turned (it := C) (h' := h') (t' := s8.toks) (fun b u nb e => (sb.2 b nb).trans e) ?_ cL (.inr (Nat.le_trans I2.sz L.cn)) cc fun p hp z => ?_
  · rw [upd_ne (Ne.symm L.dc)]
    exact L.cf
  · have := Heap.lt_size (I2.pin p hp).1
    rw [z] at this
    exact absurd this (Nat.not_lt.mpr L.cn)
end
end Kw
set_option Elab.async false
set_option linter.all false
set_option maxRecDepth 100000
set_option maxHeartbeats 4000000
namespace Kw
open PySem PySem.Spec PyProof.Rows L2
section
variable {X : Cx}
end
end Kw
namespace Kw
open PySem PySem.Spec PyProof.Rows L2
section
variable {prog : Program} {w : World} {A : Around} {E : Value → Shared → Prop} {s : Shared} {I l S : Addr} {items : Array Value}
end
end Kw
namespace Kw
open PySem PySem.Spec PyProof.Rows L2
section
variable {X : Cx}
end
end Kw
set_option Elab.async false
set_option linter.all false
set_option maxRecDepth 100000
set_option maxHeartbeats 4000000
namespace Kw
open PySem PySem.Spec PyProof.Rows L2
section
variable {X : Cx}
end
end Kw
set_option Elab.async false
set_option linter.all false
set_option maxRecDepth 100000
set_option maxHeartbeats 4000000
namespace Kw
open PySem PySem.Spec PyProof.Rows L2
noncomputable abbrev FQ (K : PySem.W.Frag) (H : Hp) (p : Addr) (x : Rat) : Prop := SqT K H p [.int x.num, .int ((x.den : Nat) : Int)]
section
variable {K : PySem.W.Frag} {H H' : Hp} {p q : Addr} {x y : Rat} {m n : Nat}
theorem FQ.cast (h : FQ K H p x) (e : x = y) : FQ K H p y := e ▸ h
theorem FQ.dp (h : FQ K H p x) : Dp K H (.ref p) (.tuple [.int x.num, .int ((x.den : Nat) : Int)]) := .tup h (.cons (.int _) (.cons (.int _) .nil))
theorem FQ.fit {t b : Int} (h : b ≠ 0) (e : SqT K H p [.int (fT t b), .int (fB t b)]) : FQ K H p (Rat.divInt t b) := by
  obtain ⟨e1, e2⟩ := q_fit (t := t) h
  rw [e1, e2] at e
  exact e
theorem FQ.ofInt {i : Int} (h : SqT K H p [.int i, .int 1]) : FQ K H p (i : Rat) := h
theorem FQ.ofNeg {i : Int} (h : SqT K H p [.int i, .int ((x.den : Nat) : Int)]) (e : i = -x.num) : FQ K H p (-x) := by
  subst e
  exact h
theorem FQ.lit {t b : Int} (h : SqT K H p [.int t, .int b]) (e1 : 0 < b) (e2 : Int.gcd t b = 1) : FQ K H p (Rat.divInt t b) := by
  obtain ⟨z1, z2⟩ := q_of e1 e2
  unfold FQ
  rw [z1, z2]
  exact h
noncomputable def FB (n : Nat) (x : Rat) : Prop := Bd n x.num ∧ Bd n ((x.den : Nat) : Int)
theorem FB.mono (h : FB m x) (l : m ≤ n) : FB n x := ⟨h.1.mono l, h.2.mono l⟩
theorem FB.cast (h : FB n x) (e : x = y) : FB n y := e ▸ h
theorem FB.fit {t b : Int} (h : b ≠ 0) (g1 : Bd n t) (g2 : Bd n b) : FB n (Rat.divInt t b) := by
  obtain ⟨e1, e2⟩ := q_fit (t := t) h
  refine ⟨?_, ?_⟩
  · rw [← e1]; exact bd_fT h g1
  · rw [← e2]; exact bd_fB h g2
theorem q_ne (x : Rat) : ((x.den : Nat) : Int) ≠ 0 := by have := q_pos x; omega
theorem q_num_ne (h : x ≠ 0) : x.num ≠ 0 := fun e => h (Rat.num_eq_zero.mp e)
theorem FB.add (h : FB m x) (g : FB n y) : FB (m + n + 1) (x + y) := by
  rw [← q_add]
  exact FB.fit (Int.mul_ne_zero (q_ne x) (q_ne y)) ((h.1.mul g.2).add ((g.1.mul h.2).mono (by omega))) ((h.2.mul g.2).mono (by omega))
theorem FB.sub (h : FB m x) (g : FB n y) : FB (m + n + 1) (x - y) := by
  rw [← q_sub]
  exact FB.fit (Int.mul_ne_zero (q_ne x) (q_ne y)) ((h.1.mul g.2).sub ((g.1.mul h.2).mono (by omega))) ((h.2.mul g.2).mono (by omega))
theorem FB.mul (h : FB m x) (g : FB n y) : FB (m + n) (x * y) := by
  rw [← q_mul]
  exact FB.fit (Int.mul_ne_zero (q_ne x) (q_ne y)) (h.1.mul g.1) (h.2.mul g.2)
theorem FB.div (h : FB m x) (g : FB n y) (y0 : y ≠ 0) : FB (m + n) (x / y) := by
  rw [← q_div]
  exact FB.fit (Int.mul_ne_zero (q_ne x) (q_num_ne y0)) (h.1.mul g.2) (h.2.mul g.1)
theorem FB.neg (h : FB n x) : FB n (-x) := by
  refine ⟨?_, h.2⟩
  have := h.1
  unfold Bd at this ⊢
  rw [(q_neg x).1]
  omega
theorem FB.ofInt {i : Int} (h : Bd n i) (l : 64 ≤ n) : FB n (i : Rat) := ⟨h, (Bd.small (i := 1) (by decide) (by decide)).mono l⟩
theorem bd_quot {b g : Int} (hb : Bd n b) (d : g ∣ b) (g0 : g ≠ 0) : Bd n (b.fdiv g) := by
  refine hb.of_le ?_
  have e := fd_mul d
  have q := natAbs_le_mul (x := b.fdiv g) g0
  rw [e] at q
  exact q
theorem bd_gcdR {a b : Int} (h : b ≠ 0) (hb : Bd n b) : Bd n ((Int.gcd a b : Nat) : Int) := by
  refine hb.of_le ?_
  have hd : Int.gcd a b ∣ b.natAbs := Nat.gcd_dvd_right _ _
  have := Nat.le_of_dvd (by omega) hd
  omega
end
theorem But.fresh {b : Addr} {H H' : Hp} (h : H b = none) (s : But b H H') : Same H H' := fun a o e => s a o (ne_of_none e h) e
theorem atI_mem (ns : List Int) (d : Int) (lo : 0 ≤ d) (hi : d < (ns.length : Int)) : ∃ v, atI (ns.map V.int) d = some (.int v) ∧ v ∈ ns := by
  have hk : d.toNat < ns.length := by omega
  have ek : d = ((d.toNat : Nat) : Int) := by omega
  have z : atI (ns.map V.int) ((d.toNat : Nat) : Int) = some (.int ns[d.toNat]) := atI_nat (by rw [List.getElem?_map, List.getElem?_eq_getElem hk] <;> rfl)
  rw [← ek] at z
  exact ⟨_, z, List.getElem_mem hk⟩
theorem Scr.same {K : PySem.W.Frag} {H H' : Hp} {a : Addr} (h : Scr K H a) (s : Same H H') : Scr K H' a := by
  obtain ⟨ns, x, y⟩ := h
  exact ⟨ns, s.seq x, y⟩
theorem Fn.imp {P : Program} {w : World} {K : PySem.W.Frag} {mg : Str → Option Value} {base : Heap} {k : Nat} {x : Str} {ps : List Str} {sp sp' : Sp} (F : Fn P w K mg base k x ps sp) (h : ∀ vs H Q E, sp' vs H Q E → sp vs H Q E) : Fn P w K mg base k x ps sp' := by
  obtain ⟨f, fd, g, r⟩ := F.ex
  exact ⟨f, fd, g.imp h, r⟩
theorem if_not {c : Prop} [Decidable c] {A B : Prop} (h1 : ¬ c → A) (h2 : c → B) : if (!decide c) = true then A else B := by
  by_cases e : c
  · rw [decide_eq_true e]; exact iteF (h2 e)
  · rw [decide_eq_false e]; exact iteT (h1 e)
section
variable {X : Cx}
noncomputable def rAl (K : PySem.W.Frag) (r : Bool) : V → V → Hp → VK → Prop := fun x y H Q => ∃ d, Dp K H x d ∧ Dp K H y d ∧ d.canLay0 = true ∧ Nat.ble d.depth 60 = true ∧ Q (.bl r) H
theorem op_neA {K : PySem.W.Frag} (hK : X.K = K) (hu : X.A.units + 100 < cLine) : OpR X (compareOp .NotEq) (rAl K false) := by
  intro pins s σ H x y v u Q I rx ry h
  obtain ⟨d, hx, hy, c, dep, q⟩ := h
  refine op_neD hK hu pins s σ H x y v u Q I rx ry ⟨d, d, hx, hy, c, c, ?_, ?_⟩
  · have := Nat.le_of_ble_eq_true dep
    omega
  · rw [SeqAt.eqv_refl d c]
    exact q
end
end Kw
set_option Elab.async false
set_option linter.all false
set_option maxRecDepth 100000
set_option maxHeartbeats 4000000
namespace Kw
open PySem PySem.Spec PyProof.Rows L2
section
variable {K : PySem.W.Frag} {idx : List Nat} {te : TE} {σ : L2.St} {H : Hp} {Q : VK}
theorem lc_list {a : Addr} {xs : List V} (Pv : Nat → List V → Hp → Prop) (h0 : Pv 0 [] H) (hz : xs.length ≤ sizeLine) (hy : ∀ i ys H, Pv i ys H → ys.length = i) (hl : ∀ i ys H, Pv i ys H → SqL K H a xs)
    (hs : ∀ i x ys H (Q' : VK), xs[i]? = some x → Pv i ys H → (∀ v H2, Pv (i + 1) (ys ++ [v]) H2 → Q' v H2) → te (stIn (some x) idx σ) H Q') (hd : ∀ ys H, Pv xs.length ys H → ∀ p, H p = none → Q (.ref p) (upd H p (.lst ys))) :
    LcBody (Itl K a) idx te σ Q H := by
  refine ⟨fun i m ys H => m = xs.length - i ∧ i ≤ xs.length ∧ Pv i ys H, ⟨xs.length, by simp, Nat.zero_le _, h0⟩, ?_⟩
  rintro i m ys H ⟨rfl, hi, p⟩
  have q := hl i ys H p
  refine ⟨by rw [hy i ys H p]; omega, ?_⟩
  by_cases hlt : i < xs.length
  · refine .inr ⟨⟨xs, xs[i], q, by simp [hlt]⟩, fun y H' yl => ?_⟩
    obtain ⟨e, yl⟩ := yl
    subst e
    exact hs i y ys _ _ (yl xs q) p fun v H2 z => ⟨xs.length - (i + 1), by omega, rfl, hlt, z⟩
  · have e : i = xs.length := by omega
    subst e
    exact .inl ⟨⟨xs, q, Nat.le_refl _⟩, hd ys H p⟩
theorem lc_range {lo : Int} {n : Nat} (Pv : Nat → List V → Hp → Prop) (h0 : Pv 0 [] H) (hz : n ≤ sizeLine) (hy : ∀ i ys H, Pv i ys H → ys.length = i)
    (hs : ∀ i ys H (Q' : VK), i < n → Pv i ys H → (∀ v H2, Pv (i + 1) (ys ++ [v]) H2 → Q' v H2) → te (stIn (some (.int (lo + (i : Int)))) idx σ) H Q') (hd : ∀ ys H, Pv n ys H → ∀ p, H p = none → Q (.ref p) (upd H p (.lst ys))) :
    LcBody (Itr lo n) idx te σ Q H := by
  refine ⟨fun i m ys H => m = n - i ∧ i ≤ n ∧ Pv i ys H, ⟨n, by simp, Nat.zero_le _, h0⟩, ?_⟩
  rintro i m ys H ⟨rfl, hi, p⟩
  refine ⟨by rw [hy i ys H p]; omega, ?_⟩
  by_cases hlt : i < n
  · refine .inr ⟨hlt, fun y H' yl => ?_⟩
    obtain ⟨e, yl⟩ := yl
    subst e yl
    exact hs i ys _ _ hlt p fun v H2 z => ⟨n - (i + 1), by omega, rfl, hlt, z⟩
  · have e : i = n := by omega
    subst e
    exact .inl ⟨Nat.le_refl _, hd ys H p⟩
end
theorem no_free {names : List (Str × NameKind)} {cl : List (Str × Addr)} (h : names.all (fun z => z.2 != .cell && z.2 != .free) = true) : ∀ y, (names.lookup y = some .cell ∨ names.lookup y = some .free) → ∃ c, cl.lookup y = some c := fun y hy => by
  have mem : ∀ (l : List (Str × NameKind)) k, l.lookup y = some k → ∃ z ∈ l, z.2 = k := fun l => by
    induction l with
    | nil => intro k e; cases e
    | cons a r ih =>
      intro k e
      rw [List.lookup_cons] at e
      split at e
      · exact ⟨a, List.mem_cons_self, Option.some.inj e⟩
      · obtain ⟨z, hz, ez⟩ := ih k e
        exact ⟨z, List.mem_cons_of_mem _ hz, ez⟩
  rcases hy with e | e
  all_goals
    obtain ⟨z, hz, ez⟩ := mem _ _ e
    have := List.all_eq_true.mp h z hz
    rw [ez] at this
    simp at this
theorem cap_none {X : Cx} {scope : Scope} {cl : List (Str × Addr)} : Capt X scope cl [] [] := ⟨rfl, fun k y h => by simp at h⟩
end Kw
namespace Kw
open PySem PySem.Spec PyProof.Rows L2
section
variable {K : PySem.W.Frag} {H H' : Hp} {b : Addr} {v : V}
theorem kit_lst_lst : PySem.W.kitOne K (.type "list") (.type "list") = some true := by with_unfolding_all rfl
end
end Kw
namespace Kw
open PySem PySem.Spec PyProof.Rows L2
section
variable {K : PySem.W.Frag} {H H' : Hp} {b c : Addr} {x : V}
end
end Kw
namespace Kw
open PySem PySem.Spec PyProof.Rows L2
theorem cap_one {X : Cx} {scope : Scope} {cl : List (Str × Addr)} {y : Str} {j : Nat} {c : Addr} (h1 : X.N[j]? = some y) (h2 : X.env.kindOf y = some .cell) (h3 : X.env.cells.lookup y = some c) (h4 : cl.lookup y = some c)
    (h5 : (relabel scope X.env).names.lookup y = some .cell ∨ (relabel scope X.env).names.lookup y = some .free) : Capt X scope cl [y] [j] :=
  ⟨rfl, fun k z h => by
    cases k with
    | zero => cases h; exact ⟨j, c, rfl, h1, h2, h3, h4, h5⟩
    | succ k => simp at h⟩
theorem cap_fr {names : List (Str × NameKind)} {cl : List (Str × Addr)} (h : names.all (fun z => (z.2 != .cell && z.2 != .free) || (cl.lookup z.1).isSome) = true) : ∀ y, (names.lookup y = some .cell ∨ names.lookup y = some .free) → ∃ c, cl.lookup y = some c := fun y hy => by
  have mem : ∀ (l : List (Str × NameKind)) k, l.lookup y = some k → (y, k) ∈ l := fun l => by
    induction l with
    | nil => intro k e; cases e
    | cons a r ih =>
      intro k e
      rw [List.lookup_cons] at e
      split at e
      · rename_i q
        have e1 : y = a.1 := by simpa using q
        have e2 := Option.some.inj e
        rw [e1, ← e2]
        exact List.mem_cons_self
      · exact List.mem_cons_of_mem _ (ih k e)
  rcases hy with e | e
  all_goals
    have := List.all_eq_true.mp h _ (mem _ _ e)
    exact Option.isSome_iff_exists.mp (by simpa using this)
end Kw
theorem Kw.ixL {X : L2.Cx} {K : PySem.W.Frag} (hK : X.K = K) : L2.IxR X (L2.rIxL K) := by
  subst hK
  exact L2.ix_list
theorem Kw.ixT {X : L2.Cx} {K : PySem.W.Frag} (hK : X.K = K) : L2.IxR X (L2.rIxT K) := by
  subst hK
  exact L2.ix_tup
namespace Kw
open PySem PySem.Spec PyProof.Rows L2
section
variable {K : PySem.W.Frag} {H : Hp} {b : Addr} {x : V}
end
end Kw
set_option Elab.async false
set_option linter.all false
set_option maxRecDepth 100000
set_option maxHeartbeats 4000000
namespace Kw
open PySem PySem.Spec PyProof.Rows L2
noncomputable def Al2 {β : Type} (R : V → β → Prop) : List V → List β → Prop
  | [], [] => True
  | x :: xs, b :: bs => R x b ∧ Al2 R xs bs
  | _, _ => False
section
variable {β : Type} {R R' : V → β → Prop}
theorem Al2.imp (h : ∀ x b, R x b → R' x b) : ∀ {xs : List V} {bs : List β}, Al2 R xs bs → Al2 R' xs bs
  | [], [], _ => trivial
  | _ :: _, _ :: _, z => ⟨h _ _ z.1, Al2.imp h z.2⟩
  | [], _ :: _, z => z.elim
  | _ :: _, [], z => z.elim
theorem Al2.len : ∀ {xs : List V} {bs : List β}, Al2 R xs bs → xs.length = bs.length
  | [], [], _ => rfl
  | _ :: _, _ :: _, z => by simp [Al2.len z.2]
  | [], _ :: _, z => z.elim
  | _ :: _, [], z => z.elim
theorem Al2.get : ∀ {xs : List V} {bs : List β} {i : Nat} {x : V}, Al2 R xs bs → xs[i]? = some x → ∃ b, bs[i]? = some b ∧ R x b
  | [], _, _, _, _, e => by simp at e
  | _ :: _, [], _, _, z, _ => z.elim
  | _ :: _, b :: _, 0, _, z, e => by
    simp only [List.getElem?_cons_zero, Option.some.injEq] at e
    subst e
    exact ⟨b, rfl, z.1⟩
  | _ :: _, _ :: _, i + 1, _, z, e => by
    simp only [List.getElem?_cons_succ] at e
    obtain ⟨b, h1, h2⟩ := Al2.get z.2 e
    exact ⟨b, by simpa using h1, h2⟩
theorem Al2.snoc : ∀ {xs : List V} {bs : List β} {x : V} {b : β}, Al2 R xs bs → R x b → Al2 R (xs ++ [x]) (bs ++ [b])
  | [], [], _, _, _, h => ⟨h, trivial⟩
  | _ :: _, _ :: _, _, _, z, h => ⟨z.1, Al2.snoc z.2 h⟩
  | [], _ :: _, _, _, z, _ => z.elim
  | _ :: _, [], _, _, z, _ => z.elim
theorem take_snoc {bs : List β} {i : Nat} {b : β} (h : bs[i]? = some b) : bs.take (i + 1) = bs.take i ++ [b] := by
  rw [List.take_add_one, h]
  rfl
end
noncomputable def FrQ (K : PySem.W.Frag) (H : Hp) (n : Nat) (x : V) (q : Rat) : Prop := ∃ p, x = .ref p ∧ FQ K H p q ∧ FB n q
noncomputable def BdQ (K : PySem.W.Frag) (H : Hp) (n : Nat) (x : V) (b : Rat × Rat × Int) : Prop := ∃ p a c, x = .ref p ∧ SqT K H p [.ref a, .ref c, .int b.2.2] ∧ FQ K H a b.1 ∧ FQ K H c b.2.1 ∧ FB n b.1 ∧ FB n b.2.1 ∧ 1 ≤ b.2.2 ∧ b.2.2 ≤ 10000
section
variable {K : PySem.W.Frag} {H H' : Hp} {n m : Nat} {x : V} {q : Rat} {b : Rat × Rat × Int}
theorem FrQ.same (h : FrQ K H n x q) (s : Same H H') : FrQ K H' n x q := by
  obtain ⟨p, e, g, d⟩ := h
  exact ⟨p, e, Kw.Same.tup s g, d⟩
theorem BdQ.same (h : BdQ K H n x b) (s : Same H H') : BdQ K H' n x b := by
  obtain ⟨p, a, c, e, h1, h2, h3, r⟩ := h
  exact ⟨p, a, c, e, Kw.Same.tup s h1, Kw.Same.tup s h2, Kw.Same.tup s h3, r⟩
theorem frs_same {xs : List V} {qs : List Rat} (h : Al2 (FrQ K H n) xs qs) (s : Same H H') : Al2 (FrQ K H' n) xs qs := Al2.imp (fun _ _ z => z.same s) h
theorem bds_same {xs : List V} {bs : List (Rat × Rat × Int)} (h : Al2 (BdQ K H n) xs bs) (s : Same H H') : Al2 (BdQ K H' n) xs bs := Al2.imp (fun _ _ z => z.same s) h
end
noncomputable def sumQ (qs : List Rat) : Rat := qs.foldl (fun a b => a + b) 0
theorem sumQ_snoc (qs : List Rat) (q : Rat) : sumQ (qs ++ [q]) = sumQ qs + q := by
  unfold sumQ
  rw [List.foldl_append]
  rfl
noncomputable def pushQ (bs : List (Rat × Rat × Int)) : Rat := sumQ (bs.map fun b => (b.2.2 : Rat) * b.2.1)
noncomputable def mightQ (bs : List (Rat × Rat × Int)) : Rat := sumQ (bs.map fun b => (b.2.2 : Rat) * b.2.1 * b.2.1)
section
variable {X : Cx} {K : PySem.W.Frag}
noncomputable def tGlobT (K : PySem.W.Frag) (t b : Int) : TE := fun _ H Q => ∀ N, (∀ H1, SqT K H1 N [.int t, .int b]) → Q (.ref N) H
theorem pe_globT {x : Str} {t b : Int} {pos : Pos} (hK : X.K = K) (hg : Gl X x) (hm : ∃ N, X.mg x = some (.ref N) ∧ ∀ H, SqT K H N [.int t, .int b]) (hd : (x == ("__debug__" : Str)) = false := by decide) : PE X (.Name x pos) (tGlobT K t b) := by
  obtain ⟨N, hm, hN⟩ := hm
  intro pins s σ H Q I h
  exact pe_glob hg hm (v := .ref N) rfl hd pins s σ H Q I (h N hN)
theorem sqt_const {A : Addr} {o : Option Addr} {t b : Int} {k1 k2 : Tok} {n : Nat} {sl : Array (Option Value)} (h : K.lookup A = some ⟨.type "tuple", o, .seq #[.int t k1, .int b k2] n, sl⟩) : ∀ H, SqT K H A [.int t, .int b] := fun H =>
  .inr ⟨_, _, _, h, rfl, rfl, by show 2 ≤ sizeLine; decide, .cons ⟨_, rfl⟩ (.cons ⟨_, rfl⟩ .nil)⟩
end
end Kw
set_option Elab.async false
set_option linter.all false
set_option maxRecDepth 100000
set_option maxHeartbeats 4000000
namespace Kw
open PySem PySem.Spec PyProof.Rows L2
section
variable {pr : Program} {wd : World} {Ar : Around} {Er : Value → Shared → Prop}
end
section
variable {X : Cx} {pos : Pos}
end
end Kw
set_option Elab.async false
set_option linter.all false
set_option maxRecDepth 100000
set_option maxHeartbeats 4000000
namespace Kw
open PySem PySem.Spec PyProof.Rows L2
section
variable {K : PySem.W.Frag} {te : TE} {σ : L2.St} {H : Hp} {Q : VK} {idx : List Nat}
end
end Kw
set_option Elab.async false
set_option linter.all false
set_option maxRecDepth 100000
set_option maxHeartbeats 4000000
namespace Kw
open PySem PySem.Spec PyProof.Rows L2
section
variable {K : PySem.W.Frag} {H H' : Hp} {n : Nat} {x : V} {q : Rat} {b : Rat × Rat × Int} {c : Addr} {zs xs : List V} {bs : List (Rat × Rat × Int)}
theorem BdQ.but (h : BdQ K H n x b) (s : But c H H') (hc : H c = some (.lst zs)) : BdQ K H' n x b := by
  obtain ⟨p, a, e, z, h1, h2, h3, r⟩ := h
  exact ⟨p, a, e, z, s.tup hc h1, s.tup hc h2, s.tup hc h3, r⟩
theorem bds_but (h : Al2 (BdQ K H n) xs bs) (s : But c H H') (hc : H c = some (.lst zs)) : Al2 (BdQ K H' n) xs bs := Al2.imp (fun _ _ z => z.but s hc) h
noncomputable def frD (q : Rat) : PyData := .tuple [.int q.num, .int ((q.den : Nat) : Int)]
theorem newB {H : Hp} {p : Addr} (o : HO) : ∃ H', upd H p o = H' ∧ But p H H' ∧ H' p = some o := ⟨_, rfl, but_upd _, upd_same⟩
theorem none_of_but {H H' : Hp} {a c : Addr} (s : But c H H') (h : H' a = none) (n : a ≠ c) : H a = none := by
  cases e : H a with
  | none => rfl
  | some o => have := s _ _ n e; rw [h] at this; cases this
noncomputable def Asc (bs : List (Rat × Rat × Int)) : Prop := List.Pairwise (fun a b => a.1 < b.1) bs
theorem Asc.snoc (h : Asc bs) (k : ∀ a ∈ bs, a.1 < b.1) : Asc (bs ++ [b]) := by
  unfold Asc
  rw [List.pairwise_append]
  exact ⟨h, List.pairwise_singleton _ _, fun a ha z hz => by rw [List.mem_singleton.mp hz]; exact k a ha⟩
end
section
theorem same_then_but {H H1 H2 : Hp} {c : Addr} (n : H c = none) (s : Same H H1) (t : But c H1 H2) : Same H H2 := fun a o e => t a o (ne_of_none e n) (s a o e)
end
theorem most_of (ns : List Int) (N : Int) (h : 1 ≤ N) : ∃ m : Int, (if (if N < (((ns.map V.int).length : Nat) : Int) then N else (((ns.map V.int).length : Nat) : Int)) > 1 then (if N < (((ns.map V.int).length : Nat) : Int) then N else (((ns.map V.int).length : Nat) : Int)) else 1) = m ∧ 1 ≤ m ∧ m ≤ N := by
  refine ⟨_, rfl, ?_⟩
  split
  · split <;> omega
  · omega
end Kw
set_option Elab.async false
set_option linter.all false
set_option maxRecDepth 100000
set_option maxHeartbeats 4000000
namespace Kw
open PySem PySem.Spec PyProof.Rows L2
noncomputable def stL (loc : List (Option V)) (idx : List Nat) (σ : L2.St) : L2.St := loc ++ idx.map fun j => (σ[j]?).join
noncomputable def LcBodyG (J : It) (k : Nat) (idx : List Nat) (g : TG) (tt : TT) (te : TE) (σ : L2.St) (Q : VK) (H1 : Hp) : Prop := ∃ W : Nat → Nat → List V → Hp → Prop, (∃ m, W 0 m [] H1) ∧ ∀ i m ys H, W i m ys H → ys.length ≤ sizeLine ∧
  ((J.stop i H ∧ ∀ p, H p = none → Q (.ref p) (upd H p (.lst ys))) ∨ (J.go i H ∧ ∀ y H', J.yld i H y H' → ∀ loc : List (Option V), loc.length = k → g y (stL loc idx σ) H' fun σ2 H2 => (∃ loc2 : List (Option V), loc2.length = k ∧ σ2 = stL loc2 idx σ) ∧ tt σ2 H2 fun b H3 => if b = true then te σ2 H3 fun v H4 => ∃ m', m' < m ∧ W (i + 1) m' (ys ++ [v]) H4
    else ∃ m', m' < m ∧ W (i + 1) m' ys H3))
noncomputable def tLcG (wi : TI) (k : Nat) (idx : List Nat) (g : TG) (tt : TT) (te : TE) : TE := fun σ H Q => wi σ H fun J H1 => LcBodyG J k idx g tt te σ Q H1
section
variable {X : Cx} {pins : List (Addr × Obj)} {σ : L2.St} {H : Hp} {s : Shared} {N ns xs : List Str} {scope : Scope} {cl : List (Str × Addr)} {C : Addr} {fp : List Addr} {idx : List Nat}
theorem invCL {D : Addr} {h1 : Heap} {t : Nat} {o : Obj} {mC : Str → Option Value} (I : Inv X pins σ H s) (ok : (cxC X (xs ++ ns) scope cl C s H fp).Ok) (cap : Capt X scope cl ns idx) (hcl : ∀ y c, cl.lookup y = some c → X.env.cells.lookup y = some c)
    (keep : ∀ b u, s.heap.get? b = some u → h1.get? b = some u) (hC : s.heap.objs.size ≤ C) (hns : h1.Ns C mC) (hD : h1.get? D = some o) (hDs : s.heap.objs.size ≤ D) (hDC : D ≠ C) (hod : ∀ v, o.data ≠ .cell v) :
    Inv (cxC X (xs ++ ns) scope cl C s H fp) [(D, o)] (stL (xs.map fun _ => none) idx σ) H { s with heap := h1, toks := t } := by
  have cellK : ∀ y c, cl.lookup y = some c → ∀ v, s.heap.IsCell c v → h1.IsCell c v := fun y c e v ⟨o, ho, hd⟩ => ⟨o, keep _ _ ho, hd⟩
  refine ⟨ok, rfl, I.bare, Un.kept keep, ⟨mC, hns, fun i y v e1 e2 e3 => ?_⟩, fun y c e => ?_, I.hok.fresh hC, fun y c e => I.freeC y c (hcl y c e), fun p hp => ?_, I.hok.kept keep, ?_⟩
  · by_cases hlt : i < xs.length
    · have e2' : (xs.map (fun _ => (none : Option V)))[i]? = some (some v) := by
        have z : (stL (xs.map fun _ => none) idx σ)[i]? = some (some v) := e2
        unfold stL at z
        rwa [List.getElem?_append_left (by simpa using hlt)] at z
      rw [List.getElem?_map] at e2'
      cases q : xs[i]? with
      | none => rw [q] at e2'; cases e2'
      | some w => rw [q] at e2'; cases e2'
    · obtain ⟨k, rfl⟩ : ∃ k, i = xs.length + k := ⟨i - xs.length, by omega⟩
      have e1' : ns[k]? = some y := by
        have z : (xs ++ ns)[xs.length + k]? = some y := e1
        rwa [List.getElem?_append_right (by omega), Nat.add_sub_cancel_left] at z
      obtain ⟨j, c, h1', h2, h3, h4, h5, h6⟩ := cap.2 k y e1'
      have e2' : (idx.map fun j => (σ[j]?).join)[k]? = some (some v) := by
        have z : (stL (xs.map fun _ => none) idx σ)[xs.length + k]? = some (some v) := e2
        unfold stL at z
        rwa [List.getElem?_append_right (by simp), List.length_map, Nat.add_sub_cancel_left] at z
      rw [List.getElem?_map, h1'] at e2'
      have e4 : (σ[j]?).join = some v := Option.some.inj e2'
      have e5 : σ[j]? = some (some v) := by
        cases q : σ[j]? with
        | none => rw [q] at e4; cases e4
        | some z => rw [q] at e4; exact congrArg some e4
      obtain ⟨m, hn, hl⟩ := I.loc
      obtain ⟨u, r, lk⟩ := hl j y v h2 e5 (.inr (.inl h3))
      refine ⟨u, r, .inr ⟨h6, c, h5, ?_⟩⟩
      rcases lk with ⟨z, _⟩ | ⟨_, c', z, ic⟩
      · rw [h3] at z; cases z
      · rw [h4] at z; cases z
        exact cellK y c h5 _ ic
  · obtain ⟨v, ic⟩ := I.cell y c (hcl y c e)
    exact ⟨v, cellK y c e v ic⟩
  · have e : p = (D, o) := by simpa [cxC] using hp
    subst e
    refine ⟨hD, I.hok.fresh hDs, hDC, fun hs => ?_, hod⟩
    obtain ⟨_, o', ho', _⟩ := I.stack.mem hs
    exact absurd (Heap.lt_size ho') (Nat.not_lt.mpr hDs)
  · unfold stL
    rw [List.length_append, List.length_map, List.length_map, cap.1]
    exact (List.length_append ..).symm
end
section
variable {X : Cx} {elt iter tg : Expr} {ifs : List Expr} {xs : List Str} {pos : Pos} {scope : Scope} {cl : List (Str × Addr)} {wi : TI} {g : TG} {tt : TT} {te : TE} {ns : List Str} {idx : List Nat}
theorem lc_mainG (hc : X.calm = true) (hi : PI X tg iter wi) (hclos : closureFor scope X.env = pure cl) (hcell : ∀ y ∈ scope.names, y.2 ≠ .cell) (hkind : scope.kind = .function)
    (hnames : ∀ y ∈ scope.names, y.2 = .local → scope.names.lookup y.1 = some .local) (hg : ∀ (C : Addr) (s : Shared) (H : Hp) (fp : List Addr), PG (cxC X (xs ++ ns) scope cl C s H fp) tg g) (cap : Capt X scope cl ns idx)
    (hcl : ∀ y c, cl.lookup y = some c → X.env.cells.lookup y = some c) (hfr : ∀ y, ((relabel scope X.env).names.lookup y = some .cell ∨ (relabel scope X.env).names.lookup y = some .free) → ∃ c, cl.lookup y = some c)
    (htt : ∀ (C : Addr) (s : Shared) (H : Hp) (fp : List Addr), PTs (cxC X (xs ++ ns) scope cl C s H fp) ifs tt) (hel : ∀ (C : Addr) (s : Shared) (H : Hp) (fp : List Addr), PE (cxC X (xs ++ ns) scope cl C s H fp) elt te)
    {pins : List (Addr × Obj)} {σ : L2.St} {Q : VK} {itv : Value} {s2 : Shared} {E : Value → Shared → Prop} {RR : Value → Addr → Result → Shared → Prop} (h2 : PIE X pins σ tg (fun J H1 => LcBodyG J xs.length idx g tt te σ Q H1) itv s2)
    (hRR : ∀ fp H2 H4 s5 C D ys, Inv X pins σ H2 s2 → (∀ b ∈ fp, FpOk X pins H2 b) → LcEnd X fp H2 H4 s2 s5 C D ys → Q (.ref D) (upd H4 D (.lst ys)) → RR (.ref D) C (.ok .next) s5) :
    wpAny (model X.prog X.w) X.A (newList []) (fun acc s3 => wpAny (model X.prog X.w) X.A (newFunctionEnv scope X.env.globals cl [] X.env.qual none .none (some X.env)) (fun cenv s4 =>
      codeAny (model X.prog X.w) X.A (.compStart (.ListComp elt [⟨tg, iter, ifs, 0⟩] scope pos) 0 itv acc { cenv with scope := relabel scope X.env }) (RR acc cenv.locals) s4) E s3) E s2 := by
  obtain ⟨it, fp, tn, J, H2, e, I2, T, st2, f2, W, ⟨m0, w0⟩, turn⟩ := h2
  subst e
  refine wpAny_newObj_type (wpAny_newFunctionEnv hcell (by intro y hy; simp at hy) (fun h1 hns1 hsb1 => ?_) hkind)
  dsimp only at hns1 hsb1 ⊢
  generalize hH2 : s2.heap.push { cls := .type "list", dict := none, data := .seq ([] : List Value).toArray } = g2 at hns1 hsb1 ⊢
  have hC : g2.objs.size = s2.heap.objs.size + 1 := by rw [← hH2, Heap.size_push]
  have hDC : s2.heap.objs.size ≠ g2.objs.size := by rw [hC]; exact Nat.ne_of_lt (Nat.lt_succ_self _)
  have hCle : s2.heap.objs.size ≤ g2.objs.size := by rw [hC]; exact Nat.le_succ _
  have keep1 : ∀ b o, s2.heap.get? b = some o → h1.get? b = some o := fun b o e => hsb1.extBut b o (Nat.ne_of_lt (Nat.lt_of_lt_of_le (Heap.lt_size e) hCle)) (Heap.get?_push_of_some _ (hH2 ▸ Heap.get?_push_of_some _ e))
  have hacc : h1.get? s2.heap.objs.size = some { cls := .type "list", data := .seq ([] : List Value).toArray 0 } := hsb1.extBut _ _ hDC (Heap.get?_push_of_some _ (hH2 ▸ Heap.get?_push_size _ rfl))
  have lt : ∀ b ∈ fp, b < s2.heap.objs.size := fun b hb => by
    obtain ⟨o, e, _⟩ := T.obj _ _ st2 b hb
    exact Heap.lt_size e
  have ok := okC (N := xs ++ ns) (scope := scope) (cl := cl) (C := g2.objs.size) I2 f2 lt hCle hkind hcl hfr
  have I3 := invCL (D := s2.heap.objs.size) (t := s2.toks + ([] : List (Str × Value)).length) I2 ok cap hcl keep1 hCle hns1 hacc (Nat.le_refl _) hDC (fun v z => by cases z)
  have fC : ∀ {H' : Hp} {pl : List (Addr × Obj)}, (∀ p ∈ pl, p.1 = s2.heap.objs.size) → (∀ b ∈ fp, H' b = none) → ∀ b ∈ fp, FpOk (cxC X (xs ++ ns) scope cl g2.objs.size s2 H2 fp) pl H' b := fun {H' pl} hpl hn b hb =>
    ⟨hn b hb, (ok.exf b hb).1, fun z => ok.exfs b hb z, .inl hb, (ok.exf b hb).2, fun p hp z => by
      have q := hpl p (by simpa [cxC] using hp)
      have := lt b hb
      rw [← z, q] at this
      exact Nat.lt_irrefl _ this⟩
  have lnc : ∀ us : List Value, ∀ v, (LCg.lst us).data ≠ .cell v := fun us v z => by cases z
  have loop : ∀ s3 : Shared, s3 = { s2 with heap := h1, toks := s2.toks + ([] : List (Str × Value)).length } →
      codeAny (model X.prog X.w) X.A (.compLoop (.ListComp elt [⟨tg, iter, ifs, 0⟩] scope pos) 0 (.ref it) (.ref s2.heap.objs.size) (compEnvC scope cl g2.objs.size X.env))
        (RR (.ref s2.heap.objs.size) g2.objs.size) s3 := by
    rintro s3 rfl
    refine lc_loop (fun n s' => ∃ i ys us r H', r.length = xs.length ∧ Inv (cxC X (xs ++ ns) scope cl g2.objs.size s2 H2 fp) [(s2.heap.objs.size, LCg.lst us)] (stL r idx σ) H' s' ∧ tn i s'.heap ∧ (∀ b ∈ fp, H' b = none) ∧ Vals ys us ∧ W i n ys H') ?_ m0
      ⟨0, [], [], xs.map fun _ => none, H2, by simp, I3, T.keep _ _ _ st2 fun b _ o e => keep1 b o e, fun b hb => (f2 b hb).1, .nil, w0⟩
    rintro n s4 ⟨i, ys, us, r, H4, lr, I4, st4, fr4, vs4, w4⟩
    obtain ⟨hz, ⟨stop, qn⟩ | ⟨go, step⟩⟩ := turn i n ys H4 w4
    · refine thn (T.done (cxC X (xs ++ ns) scope cl g2.objs.size s2 H2 fp) rfl rfl rfl hc i _ s4 _ H4 NoE I4 (fC (fun p hp => by rw [List.mem_singleton.mp hp]) fr4) st4 stop) fun r5 s5 zz => ?_
      obtain ⟨hr5, I5⟩ := zz
      subst hr5
      obtain ⟨mC, hnC, _⟩ := I5.loc
      obtain ⟨pD1, pD2, _⟩ := I5.pin (s2.heap.objs.size, LCg.lst us) (List.mem_append_right _ (List.mem_singleton.mpr rfl))
      exact hRR fp H2 H4 s5 g2.objs.size s2.heap.objs.size ys I2 f2 ⟨rfl, hCle, hDC, I5.base, I5.hok, I5.free, pD2, I5.os, I5.bare, ⟨mC, hnC⟩, ⟨us, vs4, pD1⟩, hz⟩ (qn _ pD2)
    · refine thn (T.item (cxC X (xs ++ ns) scope cl g2.objs.size s2 H2 fp) rfl rfl rfl hc i _ s4 _ H4 NoE I4 (fC (fun p hp => by rw [List.mem_singleton.mp hp]) fr4) st4 go) fun r5 s5 zz => ?_
      obtain ⟨u, hr5, k5⟩ := zz
      subst hr5
      refine thn k5 fun _ s6 zz => ?_
      obtain ⟨y, H6, I6, r6, y6, st6, fr6⟩ := zz
      have I6' := I6.pinned (fC (fun p hp => by rw [List.mem_singleton.mp hp]) fr6) (T.obj _ _ st6)
      refine thn (hg g2.objs.size s2 H2 fp _ s6 _ H6 y u _ I6' r6 (step y _ y6 r lr)) fun _ s7 ⟨σ7, H7, I7, ⟨loc2, l2, e7⟩, k7⟩ => ?_
      subst e7
      refine thn (htt g2.objs.size s2 H2 fp _ s7 _ _ _ I7 k7) fun ok s71 zz => ?_
      obtain ⟨H71, I71, k71⟩ := zz
      cases ok with
      | false =>
        obtain ⟨m', lm, w8⟩ := (show ∃ m', m' < n ∧ W (i + 1) m' ys H71 from k71)
        have kf : ∀ b ∈ fp, ∀ o, s6.heap.get? b = some o → s71.heap.get? b = some o ∧ H71 b = none := fun b hb o e => by
          have q := I71.pin (b, o) (List.mem_append_right _ (List.mem_append_right _ (mem_pinsAt hb e)))
          exact ⟨q.1, q.2.1⟩
        obtain ⟨pD1, pD2, pD3, pD4, _⟩ := I71.pin (s2.heap.objs.size, LCg.lst us) (by simp [cxC])
        refine ⟨m', lm, i + 1, ys, us, loc2, H71, l2, I71.pins_of fun p hp => ?_, ?_, fun b hb => ?_, vs4, w8⟩
        · rw [List.mem_singleton.mp hp]
          exact ⟨pD1, pD2, pD3, pD4, lnc _⟩
        · exact T.keep _ _ _ st6 fun b hb o e => (kf b hb o e).1
        · obtain ⟨o, e, _⟩ := T.obj _ _ st6 b hb
          exact (kf b hb o e).2
      | true =>
      refine thn (hel g2.objs.size s2 H2 fp _ s71 _ _ _ I71 k71) fun y8 s8 zz => ?_
      obtain ⟨v, H8, I8, r8, m', lm, w8⟩ := zz
      obtain ⟨pD1, pD2, pD3, pD4, _⟩ := I8.pin (s2.heap.objs.size, LCg.lst us) (by simp [cxC])
      have kf : ∀ b ∈ fp, ∀ o, s6.heap.get? b = some o → s8.heap.get? b = some o ∧ H8 b = none := fun b hb o e => by
        have q := I8.pin (b, o) (List.mem_append_right _ (List.mem_append_right _ (mem_pinsAt hb e)))
        exact ⟨q.1, q.2.1⟩
      refine append_at (hsz := by show us.toArray.size ≤ sizeLine; rw [List.size_toArray, ← vs4.length]; exact hz) pD1 fun h9 sb9 hD9 => ?_
      have I8' : Inv (cxC X (xs ++ ns) scope cl g2.objs.size s2 H2 fp) [] (stL loc2 idx σ) H8 s8 := I8.pins_of fun p hp => nomatch hp
      have I9 := I8'.turned (it := s2.heap.objs.size) (h' := h9) (t' := s8.toks) (fun b o hb e => (sb9.2 b hb).trans e) pD2 pD3 (.inr (Nat.le_refl _)) (fun y c e z => by
          obtain ⟨v, q⟩ := I2.cell y c (hcl y c e)
          exact absurd q.lt (by rw [z]; exact Nat.lt_irrefl _)) (fun p hp => by simp [cxC] at hp)
      refine ⟨m', lm, i + 1, ys ++ [v], us ++ [y8], loc2, H8, l2, I9.pins_of fun p hp => ?_, ?_, fun b hb => ?_, vs4.append (.cons r8 .nil), w8⟩
      · rw [List.mem_singleton.mp hp]
        exact ⟨hD9.trans (congrArg some (LCg.lst_snoc us y8)), pD2, pD3, pD4, lnc _⟩
      · exact T.keep _ _ _ st6 fun b hb o e => (sb9.2 b (Nat.ne_of_lt (lt b hb))).trans (kf b hb o e).1
      · obtain ⟨o, e, _⟩ := T.obj _ _ st6 b hb
        exact (kf b hb o e).2
  exact codeAny_compStart_list (loop _ rfl) (T.self _ 0 _ _ _ (T.keep _ _ _ st2 fun b _ o e => keep1 b o e) (loop _ rfl))
theorem pe_lcG (hc : X.calm = true) (hi : PI X tg iter wi) (hclos : closureFor scope X.env = pure cl) (hcell : ∀ y ∈ scope.names, y.2 ≠ .cell) (hkind : scope.kind = .function)
    (hnames : ∀ y ∈ scope.names, y.2 = .local → scope.names.lookup y.1 = some .local) (hg : ∀ (C : Addr) (s : Shared) (H : Hp) (fp : List Addr), PG (cxC X (xs ++ ns) scope cl C s H fp) tg g) (cap : Capt X scope cl ns idx)
    (hcl : ∀ y c, cl.lookup y = some c → X.env.cells.lookup y = some c) (hfr : ∀ y, ((relabel scope X.env).names.lookup y = some .cell ∨ (relabel scope X.env).names.lookup y = some .free) → ∃ c, cl.lookup y = some c)
    (htt : ∀ (C : Addr) (s : Shared) (H : Hp) (fp : List Addr), PTs (cxC X (xs ++ ns) scope cl C s H fp) ifs tt) (hel : ∀ (C : Addr) (s : Shared) (H : Hp) (fp : List Addr), PE (cxC X (xs ++ ns) scope cl C s H fp) elt te) (hs : ∀ v, foldedSetIterable iter X.env v = pure v := by intro _; rfl) :
    PE X (.ListComp elt [⟨tg, iter, ifs, 0⟩] scope pos) (tLcG wi xs.length idx g tt te) := by
  intro pins s σ H Q I h
  rw [eval_ListComp]
  refine wpAny_comprehension_free (use := none) rfl hs hclos hkind hnames (thn (hi pins s σ H _ I h) fun v s1 h1 => thn h1 fun itv s2 h2 => ?_)
  refine lc_mainG hc hi hclos hcell hkind hnames hg cap hcl hfr htt hel (RR := fun acc C => compPost (model X.prog X.w) X.A X.xe none (EP X pins σ Q) acc C) h2 fun fp H2 H4 s5 C D ys I2 f2 L q => ?_
  obtain ⟨mC, hnC⟩ := L.ns
  exact ⟨mC, hnC, fun h' sb => ⟨.ref D, _, L.inv I2 f2 sb, rfl, q⟩⟩
end
section
variable {K : PySem.W.Frag} {te : TE} {tt : TT} {g : TG} {σ : L2.St} {H : Hp} {Q : VK} {idx : List Nat} {k : Nat}
theorem lcg_list {a : Addr} {xs : List V} (Pv : Nat → List V → Hp → Prop) (h0 : Pv 0 [] H) (hz : xs.length ≤ sizeLine) (hy : ∀ i ys H, Pv i ys H → ys.length = i) (hl : ∀ i ys H, Pv i ys H → SqL K H a xs)
    (hs : ∀ i x ys H (Q' : VK) (loc : List (Option V)), loc.length = k → xs[i]? = some x → Pv i ys H → (∀ v H2, Pv (i + 1) (ys ++ [v]) H2 → Q' v H2) → g x (stL loc idx σ) H fun σ2 H2 => (∃ loc2 : List (Option V), loc2.length = k ∧ σ2 = stL loc2 idx σ) ∧ te σ2 H2 Q') (hd : ∀ ys H, Pv xs.length ys H → ∀ p, H p = none → Q (.ref p) (upd H p (.lst ys))) :
    LcBodyG (Itl K a) k idx g ttNil te σ Q H := by
  refine ⟨fun i m ys H => m = xs.length - i ∧ i ≤ xs.length ∧ Pv i ys H, ⟨xs.length, by simp, Nat.zero_le _, h0⟩, ?_⟩
  rintro i m ys H ⟨rfl, hi, p⟩
  have q := hl i ys H p
  refine ⟨by rw [hy i ys H p]; omega, ?_⟩
  by_cases hlt : i < xs.length
  · refine .inr ⟨⟨xs, xs[i], q, by simp [hlt]⟩, fun y H' yl loc ll => ?_⟩
    obtain ⟨e, yl⟩ := yl
    subst e
    have z := hs i y ys _ (fun v H4 => ∃ m', m' < xs.length - i ∧ m' = xs.length - (i + 1) ∧ i + 1 ≤ xs.length ∧ Pv (i + 1) (ys ++ [v]) H4) loc ll (yl xs q) p fun v H2 z => ⟨xs.length - (i + 1), by omega, rfl, hlt, z⟩
    exact z
  · have e : i = xs.length := by omega
    subst e
    exact .inl ⟨⟨xs, q, Nat.le_refl _⟩, hd ys H p⟩
end
section
variable {X : Cx} {pos : Pos}
theorem pg_tupK {K : PySem.W.Frag} (hK : X.K = K) {es : List Expr} {k : Nat} {t : TGs} {n : Nat} (hc : X.calm = true) (h : PGs X es t) (hn : (assignEach es X.env).length = n := by rfl) (hst : (assignEach es X.env).findIdx? (·.1) = none := by rfl) : PG X (.Tuple es k pos) (gTup K n t) := by
  subst hK
  exact pg_tup hc h hn hst
end
theorem sumQ_cons (q : Rat) (qs : List Rat) : sumQ (q :: qs) = q + sumQ qs := by
  have h : ∀ (l : List Rat) (a : Rat), l.foldl (fun a b => a + b) a = a + sumQ l := by
    intro l
    induction l with
    | nil => intro a; show a = a + 0; grind
    | cons b l ih =>
      intro a
      show l.foldl _ (a + b) = a + l.foldl (fun a b => a + b) (0 + b)
      rw [ih, ih]
      grind
  show qs.foldl (fun a b => a + b) (0 + q) = _
  rw [h]
  grind
end Kw
set_option Elab.async false
set_option linter.all false
set_option maxRecDepth 100000
set_option maxHeartbeats 4000000
namespace Kw
open PySem PySem.Spec PyProof.Rows L2
noncomputable def Ite (K : PySem.W.Frag) (a : Addr) : It where
  go := fun i H => ∃ xs x, SqL K H a xs ∧ xs[i]? = some x
  yld := fun i H v H' => ∃ p x, v = .ref p ∧ H p = none ∧ H' = upd H p (.tup [.int (i : Int), x]) ∧ ∀ xs, SqL K H a xs → xs[i]? = some x
  stop := fun i H => ∃ xs, SqL K H a xs ∧ xs.length ≤ i
structure EnumAt (e it a : Addr) (i : Nat) (h : Heap) : Prop where
  en : ∃ old, IsEnum h e it (i : Int) old
  ji : h.IsListIter it a i
theorem turn_enum {P : Program} {w : World} {K : PySem.W.Frag} {elts : List Expr} {x1} {pos : Pos} (e it a : Addr) (ne : e ≠ it) :
    Turn P w K (.Tuple elts x1 pos) (Ite K a) [e, it] e (fun i h => EnumAt e it a i h) where
  mem := by simp
  obj := fun i h st c hc => by
    obtain ⟨⟨old, en⟩, ⟨o1, e1, _, c1⟩⟩ := st
    simp only [List.mem_cons, List.not_mem_nil, or_false] at hc
    rcases hc with rfl | rfl
    · exact ⟨_, en, fun v q => nomatch q⟩
    · exact ⟨_, e1, fun v q => by rw [c1] at q; cases q⟩
  keep := fun i h h' st k => by
    obtain ⟨⟨old, en⟩, ⟨o1, e1, b1, c1⟩⟩ := st
    exact ⟨⟨old, k e (by simp) _ en⟩, ⟨o1, k it (by simp) _ e1, b1, c1⟩⟩
  item := by
    intro X hP hw hK hc i pins s σ H E I hf st hg
    subst hP hw hK
    obtain ⟨xs, x, hx, ex⟩ := hg
    obtain ⟨its, rv, p, hz⟩ := I.list hx
    obtain ⟨u, hu, ru⟩ := rv.get ex
    obtain ⟨⟨old, en⟩, ji⟩ := st
    refine wpAny_pyNext_enum_item en ji p.isList (x := u) (by simpa using hu) ne fun h1 eo j1 pt sz kp => ?_
    refine ⟨_, rfl, wpAny_letOwnedTupleGo_enum eo fun h2 e2 sb => ?_⟩
    have I1 : Inv X pins σ H { s with heap := h1, toks := s.toks + 1 } := Kw.Inv.turnedL (t' := s.toks + 1) (ch := [e, it]) I (fun c o hc q => by
      simp only [List.mem_cons, List.not_mem_nil, or_false, not_or] at hc
      exact kp c o hc.1 hc.2 q) hf
    have I2 : Inv X pins σ H { s with heap := h2, toks := s.toks + 1 } := Kw.Inv.turnedL (s := { s with heap := h1, toks := s.toks + 1 }) (t' := s.toks + 1) (ch := [e, it]) I1 (fun c o hc q => by
      simp only [List.mem_cons, List.not_mem_nil, or_false, not_or] at hc
      exact (sb.2 c hc.1).trans q) hf
    have nn : H s.heap.objs.size = none := I.hok.fresh (Nat.le_refl _)
    have zl : e ≠ s.heap.objs.size := Nat.ne_of_lt (Heap.lt_size en)
    have kk : ∀ c, c ≠ e → h2.get? c = h1.get? c := fun c hc => sb.2 c hc
    have pp2 : h2.get? s.heap.objs.size = some { cls := .type "tuple", data := .seq #[.int i s.toks, u] } := (kk _ (Ne.symm zl)).trans pt
    have I3 : Inv X pins σ (upd H s.heap.objs.size (.tup [.int (i : Int), x])) { s with heap := h2, toks := s.toks + 1 } := by
      refine Kw.Inv.adopt (fun q c hq z' => ?_) I2 (Heap.get?_none_of_le I.sz) nn (fun z' => ?_) (fun q hq z' => ?_) ⟨by show 2 ≤ sizeLine; decide, [.int i s.toks, u], .cons ⟨_, rfl⟩ (.cons ru .nil), ⟨_, pp2, rfl, 0, rfl⟩⟩
      · obtain ⟨_, o, q, _⟩ := I.cell q c hq
        exact absurd (Heap.lt_size q) (by rw [z']; exact Nat.lt_irrefl _)
      · exact absurd I.lt (by rw [← z']; exact Nat.lt_irrefl _)
      · exact absurd (Heap.lt_size (I.pin q hq).1) (by rw [z']; exact Nat.lt_irrefl _)
    refine ⟨.ref s.heap.objs.size, _, I3, rfl, ⟨_, x, rfl, nn, rfl, fun zs hzs => by rw [I.list_inj hzs hx]; exact ex⟩, ⟨⟨u, by simpa using e2⟩, ?_⟩, fun c hc => ?_⟩
    · obtain ⟨o1, q1, r1⟩ := j1
      exact ⟨o1, (kk _ (Ne.symm ne)).trans q1, r1⟩
    · have lc : c ≠ s.heap.objs.size := by
        simp only [List.mem_cons, List.not_mem_nil, or_false] at hc
        obtain ⟨o1, q1, _⟩ := ji
        rcases hc with rfl | rfl
        · exact zl
        · exact Nat.ne_of_lt (Heap.lt_size q1)
      rw [upd_ne lc]
      exact (hf c hc).1
  done := by
    intro X hP hw hK hc i pins s σ H E I hf st hg
    subst hP hw hK
    obtain ⟨xs, hx, hl⟩ := hg
    obtain ⟨its, rv, p, hz⟩ := I.list hx
    obtain ⟨⟨old, en⟩, ji⟩ := st
    have l1 := rv.length
    exact wpAny_pyNext_enum_end (I.ok.hd hc) en ji p.isList (by simp; omega) fun h1 eb => ⟨rfl, Kw.Inv.turnedL (t' := s.toks) (ch := [e, it]) I (fun c o hc q => by
      simp only [List.mem_cons, List.not_mem_nil, or_false, not_or] at hc
      exact eb c o hc.2 q) hf⟩
  self := fun _ _ _ _ _ st h => let ⟨_, q⟩ := st.en; wpAny_pyIter_enum q h
noncomputable def iEnum (K : PySem.W.Frag) (ta : TA) : TI := fun σ H R => ta σ H fun vs H1 => ∃ a xs, vs = [.ref a] ∧ SqL K H1 a xs ∧ R (Ite K a) H1
theorem pi_enum {X : Cx} {elts : List Expr} {x1} {tpos p pos : Pos} {e1 : Expr} {ta : TA} (hg : Gl X "enumerate") (hm : X.mg "enumerate" = none) (ha : PA X [e1] ta) (hs : starEach [e1] X.env = [(false, eval e1 X.env)] := by rfl) :
    PI X (.Tuple elts x1 tpos) (.Call (.Name "enumerate" p) [e1] [] pos) (iEnum X.K ta) := by
  intro pins s σ H R I h
  refine Call_ (ld_blt I hg hm PyProof.Rows.Boot.«enumerate» (PyProof.Rows.callWith_type1 (thn (ha pos pins s σ H _ I h) fun us s1 ⟨vs, H1, I1, r1, q1⟩ => ?_) hs rfl))
  obtain ⟨a, xs, rfl, hx, q⟩ := q1
  obtain ⟨u, rfl, ru⟩ := vals1 r1
  cases (show u = Value.ref a from ru)
  obtain ⟨its, _, pa, _⟩ := I1.list hx
  refine call_enumerate_list pa.isList fun h' en ji sz kp => ?_
  refine wpAny_pyIter_enum en ?_
  refine ⟨_, [s1.heap.objs.size + 1, s1.heap.objs.size], _, _, H1, rfl, I1.kept (t' := s1.toks) kp, turn_enum _ _ a (Nat.succ_ne_self _), ⟨⟨_, en⟩, ji⟩, fun c hc => ?_, q⟩
  have lc : s1.heap.objs.size ≤ c := by
    simp only [List.mem_cons, List.not_mem_nil, or_false] at hc
    rcases hc with rfl | rfl
    · exact Nat.le_succ _
    · exact Nat.le_refl _
  exact I1.fpOk lc (I1.hok.fresh lc)
theorem for_enum {K : PySem.W.Frag} {a : Addr} {xs : List V} {g : TG} {tb : TS} {D : Ends} {σ : L2.St} {H : Hp} (Pv : Nat → L2.St → Hp → Prop) (h0 : Pv 0 σ H) (hl : ∀ i σ H, Pv i σ H → SqL K H a xs)
    (hs : ∀ i x σ H, xs[i]? = some x → Pv i σ H → ∀ p H', Same H H' → H p = none → H' p = some (.tup [.int (i : Int), x]) → g (.ref p) σ H' fun σ2 H2 => tb { D with nx := Pv (i + 1), ct := Pv (i + 1), bk := D.nx } σ2 H2) (hd : ∀ σ H, Pv xs.length σ H → D.nx σ H) :
    ∃ W : Nat → Nat → L2.St → Hp → Prop, (∃ m, W 0 m σ H) ∧ ∀ i m σ H, W i m σ H →
      ((Ite K a).stop i H ∧ D.nx σ H) ∨ ((Ite K a).go i H ∧ ∃ N : L2.St → Hp → Prop, (∀ σ' H', N σ' H' → ∃ m', m' < m ∧ W (i + 1) m' σ' H') ∧ ∀ x H', (Ite K a).yld i H x H' → g x σ H' fun σ2 H2 => tb { D with nx := N, ct := N, bk := D.nx } σ2 H2) := by
  refine ⟨fun i m σ H => m + i = xs.length ∧ Pv i σ H, ⟨xs.length, rfl, h0⟩, ?_⟩
  rintro i m σ H ⟨hm, pv⟩
  have l1 := hl i σ H pv
  by_cases hlt : i < xs.length
  · refine .inr ⟨⟨xs, xs[i], l1, List.getElem?_eq_getElem hlt⟩, Pv (i + 1), fun σ' H' p' => ⟨m - 1, by omega, by omega, p'⟩, fun v H' y => ?_⟩
    obtain ⟨q, x', rfl, hq, rfl, ex⟩ := y
    exact hs i x' σ H (ex xs l1) pv q _ (same_new hq _) hq upd_same
  · have e : i = xs.length := by omega
    subst e
    exact .inl ⟨⟨xs, l1, Nat.le_refl _⟩, hd σ H pv⟩
end Kw
set_option Elab.async false
set_option linter.all false
set_option maxRecDepth 100000
set_option maxHeartbeats 4000000
namespace Kw
open PySem PySem.Spec PyProof.Rows L2
noncomputable def excO (K : PySem.W.Frag) (C : Addr) : Bool := match K.lookup C with
  | some ⟨.type "type", _, .cls klass, sl⟩ => (match klass.mro, sl.toList with
    | .ref C' :: bm, [_, _, _, _, some (.builtin n), _] => C' == C && n == "ValueError.__new__" && !klass.hasDel && PySem.W.tailIn K bmV bm && PySem.W.nsOkIn K klass.ns
    | _, _ => false)
  | _ => false
section
variable {prog : Program} {w : World} {A : Around} {E : Value → Shared → Prop} {h : Heap} {g : Array GenState} {d : Drawn} {t : Nat} {os : OsState} {C f : Addr} {K : PySem.W.Frag}
end
end Kw
namespace Kw
open PySem PySem.Spec PyProof.Rows L2
section
variable {prog : Program} {w : World} {A : Around} {E : Value → Shared → Prop} {h : Heap} {g : Array GenState} {d : Drawn} {t : Nat} {os : OsState} {C e : Addr} {K : PySem.W.Frag} {oe : Obj} {vs : Array Value}
end
end Kw
namespace Kw
open PySem PySem.Spec PyProof.Rows L2 PySem.Builtin PySem.Builtin.ObjectAttr
noncomputable def isRefV : Value → Bool
  | .ref _ => true
  | _ => false
noncomputable def onlyExc : List Value → Bool
  | [] => false
  | c :: r => (c :: r) == bmV || (isRefV c && onlyExc r)
noncomputable def excOver (K : PySem.W.Frag) (C : Addr) : Bool := (PySem.W.clsIn K C).any fun klass => onlyExc klass.mro && klass.hasDict
section
variable {prog : Program} {w : World} {A : Around} {R : Result → Shared → Prop} {s : Shared} {K : PySem.W.Frag} {x C : Addr} {ox : Obj} {od : Option Obj} {name : Str} {tk : Tok} {v : Value}
end
end Kw
set_option Elab.async false
set_option linter.all false
set_option maxRecDepth 100000
set_option maxHeartbeats 4000000
namespace Kw
open PySem PySem.Spec PyProof.Rows L2 PySem.Builtin PySem.Builtin.ObjectAttr
section
variable {prog : Program} {w : World} {A : Around} {R : Result → Shared → Prop} {s : Shared} {K : PySem.W.Frag} {x C : Addr} {ox : Obj} {od : Option Obj} {name : Str} {tk : Tok} {v : Value}
end
end Kw
set_option Elab.async false
set_option linter.all false
set_option maxRecDepth 100000
set_option maxHeartbeats 4000000
namespace Kw
open PySem PySem.Spec PyProof.Rows L2 PySem.Builtin PySem.Builtin.ObjectAttr
section
variable {prog : Program} {w : World} {A : Around} {E : Value → Shared → Prop} {s : Shared} {K : PySem.W.Frag} {x C : Addr} {ox : Obj} {odx : Obj} {name : Str} {v : Value}
end
end Kw
set_option Elab.async false
set_option linter.all false
set_option maxRecDepth 100000
set_option maxHeartbeats 4000000
namespace Kw
open PySem PySem.Spec PyProof.Rows L2
section
variable {P : Program} {w : World} {H : Hp} {h : Heap} {x C d : Addr} {od : Option Addr} {fs : List (Str × V)}
end
structure XCls (K : PySem.W.Frag) (C : Addr) : Prop where
  ov : excOver K C = true
  ob : PySem.W.mroIn K C (.type "object") = some true
  sa : PySem.W.findIn K (.ref C) "__setattr__" = some (some (.builtin "object.__setattr__"))
  hd : PySem.W.hasDictIn K C = true
section
variable {P : Program} {w : World} {K : PySem.W.Frag} {mg : Str → Option Value} {base : Heap} {C : Addr} {qual : Str} {st : Stmt} {N ps : List Str} {k : Nat} {sp : Sp}
end
section
variable {X : Cx} {pins : List (Addr × Obj)} {σ : L2.St} {H : Hp} {s : Shared} {k k' : Nat} {f C CK : Addr} {fd : FuncData} {ps : List Str} {sp : Sp} {E : XK} {x : Str} {p pos apos : Pos} {e : Expr} {es : List Expr} {t : TA}
variable {o value : Expr} {f : Str} {pos' : Pos} {ta tv : TE}
end
end Kw
set_option Elab.async false
set_option linter.all false
set_option maxRecDepth 100000
set_option maxHeartbeats 4000000
namespace Kw
open PySem PySem.Spec PyProof.Rows L2
noncomputable def xq (K : PySem.W.Frag) (C : Addr) : Bool := PySem.W.findIn K (.ref C) "__getattribute__" == some (some (.builtin "BaseException.__getattribute__")) && PySem.W.findIn K (.ref C) "__getattr__" == some none &&
  PySem.W.findIn K (.ref C) "__class__" == some (some (.builtin "object.__class__")) && PySem.W.specialIn K (.builtin "object.__class__") "__get__" == some (some (.builtin "getset_descriptor.__get__")) &&
  PySem.W.takesIn K (.builtin "object.__class__") == some true && PySem.W.mroIn K C (.type "object") == some true && PySem.W.mroIn K C (.type "BaseException") == some true
theorem xq_ok {K : PySem.W.Frag} {C : Addr} (h : xq K C = true) : ExcQ K C := by
  simp only [xq, Bool.and_eq_true, beq_iff_eq] at h
  obtain ⟨⟨⟨⟨⟨⟨a, b⟩, c⟩, d⟩, e⟩, f⟩, g⟩ := h
  exact ⟨a, b, c, d, e, f, g⟩
noncomputable def xcb (K : PySem.W.Frag) (C : Addr) : Bool := excOver K C && PySem.W.mroIn K C (.type "object") == some true && PySem.W.findIn K (.ref C) "__setattr__" == some (some (.builtin "object.__setattr__")) && PySem.W.hasDictIn K C
theorem xcb_ok {K : PySem.W.Frag} {C : Addr} (h : xcb K C = true) : XCls K C := by
  simp only [xcb, Bool.and_eq_true, beq_iff_eq] at h
  obtain ⟨⟨⟨a, b⟩, c⟩, d⟩ := h
  exact ⟨a, b, c, d⟩
noncomputable def chk1 (K : PySem.W.Frag) (CK : Addr) (C : Nat → Addr) (n m i : Nat) : Bool := xq K (C i) && PySem.W.keepIn K (.ref (C i)) && PySem.W.kitOne K (.ref (C i)) (.ref CK) == some true && PySem.W.kitOne K (.ref (C i)) (.type "ValueError") == some true &&
  ((List.range n).all fun j => PySem.W.kitOne K (.ref (C i)) (.ref (C j)) == some (decide (i = j))) && (if i < m then PySem.W.excIn K (C i) bmV "ValueError.__new__" else excO K (C i) && xcb K (C i))
noncomputable def chkN (K : PySem.W.Frag) (CK : Addr) (C : Nat → Addr) (n m : Nat) : Bool := (List.range n).all (chk1 K CK C n m)
structure Refs (K : PySem.W.Frag) (CK : Addr) (C : Nat → Addr) (n m : Nat) : Prop where
  q : ∀ i, i < n → ExcQ K (C i)
  kp : ∀ i, i < n → PySem.W.keepIn K (.ref (C i)) = true
  k : ∀ i, i < n → PySem.W.kitOne K (.ref (C i)) (.ref CK) = some true
  v : ∀ i, i < n → PySem.W.kitOne K (.ref (C i)) (.type "ValueError") = some true
  mm : ∀ i j, i < n → j < n → PySem.W.kitOne K (.ref (C i)) (.ref (C j)) = some (decide (i = j))
  x : ∀ i, i < m → i < n → ExcC K (C i)
  o : ∀ i, m ≤ i → i < n → excO K (C i) = true
  c : ∀ i, m ≤ i → i < n → XCls K (C i)
theorem refs_ok {K : PySem.W.Frag} {CK : Addr} {C : Nat → Addr} {n m : Nat} (h : chkN K CK C n m = true) : Refs K CK C n m := by
  have g : ∀ i, i < n → chk1 K CK C n m i = true := fun i hi => List.all_eq_true.mp h i (List.mem_range.mpr hi)
  have g' : ∀ i, i < n → (((((xq K (C i) = true ∧ PySem.W.keepIn K (.ref (C i)) = true) ∧ PySem.W.kitOne K (.ref (C i)) (.ref CK) = some true) ∧ PySem.W.kitOne K (.ref (C i)) (.type "ValueError") = some true) ∧
      ((List.range n).all fun j => PySem.W.kitOne K (.ref (C i)) (.ref (C j)) == some (decide (i = j))) = true) ∧ (if i < m then PySem.W.excIn K (C i) bmV "ValueError.__new__" else excO K (C i) && xcb K (C i)) = true) := fun i hi => by
    have z := g i hi
    simp only [chk1, Bool.and_eq_true, beq_iff_eq] at z
    exact z
  refine ⟨fun i hi => xq_ok (g' i hi).1.1.1.1.1, fun i hi => (g' i hi).1.1.1.1.2, fun i hi => (g' i hi).1.1.1.2, fun i hi => (g' i hi).1.1.2, fun i j hi hj => ?_, fun i hm hi => ?_, fun i hm hi => ?_, fun i hm hi => ?_⟩
  · exact beq_iff_eq.mp (List.all_eq_true.mp (g' i hi).1.2 j (List.mem_range.mpr hj))
  · have z := (g' i hi).2
    rw [if_pos hm] at z
    exact z
  · have z := (g' i hi).2
    rw [if_neg (by omega), Bool.and_eq_true] at z
    exact z.1
  · have z := (g' i hi).2
    rw [if_neg (by omega), Bool.and_eq_true] at z
    exact xcb_ok z.2
noncomputable def clsAt (l : List Addr) (n : Nat) : Addr := l.getD n 0
end Kw
set_option Elab.async false
set_option linter.all false
set_option maxRecDepth 100000
set_option maxHeartbeats 4000000
namespace Kw
open PySem PySem.Spec PyProof.Rows L2
noncomputable def XcIs (x C : Addr) (od : Option Addr) (h : Heap) : Prop := ∃ (vs : Array Value) (sl : Array (Option Value)), h.get? x = some ⟨.ref C, od, .fields vs, sl⟩
noncomputable abbrev Xc (x C : Addr) (od : Option Addr) : HO := .ext (XcIs x C od)
theorem xc_ok {P : Program} {w : World} {H : Hp} {h : Heap} {x C : Addr} {od : Option Addr} (e : XcIs x C od h) : ObjOk P w H h x (Xc x C od) := by
  obtain ⟨vs, sl, b⟩ := id e
  exact ⟨e, ⟨_, b⟩, fun _ _ ⟨vs, sl, b⟩ k => ⟨vs, sl, k _ b⟩⟩
theorem xc_exc {h : Heap} {x C : Addr} {od : Option Addr} (e : XcIs x C od h) : ExcIs x (.ref C) h := by
  obtain ⟨vs, sl, b⟩ := e
  exact ⟨_, vs, b, rfl, rfl⟩
noncomputable def ClsX (K : PySem.W.Frag) (C : Addr) : Prop := ∀ h : Heap, K.In h → ∃ bm N nm qn bs hdct sn sub ab col dd k0 k1 k2 k3 k5, h.get? C = some (excClassObj nm qn C N bs bm hdct sn sub ab col dd k0 k1 k2 k3 k5 "ValueError.__new__") ∧ OwnTail h bmV bm
theorem clsx_c {K : PySem.W.Frag} {C : Addr} (q : ExcC K C) : ClsX K C := fun _ X => by
  obtain ⟨bm, N, nm, qn, bs, hdct, sn, sub, ab, col, dd, k0, k1, k2, k3, k5, _, hO, _, _, TL⟩ := exc_obj X q
  exact ⟨bm, N, nm, qn, bs, hdct, sn, sub, ab, col, dd, k0, k1, k2, k3, k5, hO, TL⟩
section
variable {X : Cx} {E : XK} {e : Expr} {te : TE} {pos : Pos}
noncomputable def rIsC (K : PySem.W.Frag) : List V → Hp → VK → Prop := fun xs H Q => ∃ x C od c b, xs = [.ref x, c] ∧ ((∃ T, c = .ty T) ∨ ∃ C', c = .ref C') ∧ H x = some (Xc x C od) ∧ ExcQ K C ∧ PySem.W.kitOne K (.ref C) (valC c) = some b ∧ Q (.bl b) H
theorem call_isinstC {K : PySem.W.Frag} (hK : X.K = K) : CallR X (.builtin "isinstance") (rIsC K) := by
  subst hK
  intro pins s σ H xs us Q I r h
  obtain ⟨x, C, od, c, b, rfl, hc, hx, eq, e, q⟩ := h
  obtain ⟨u, w', rfl, rx, rc⟩ := vals2 r
  cases (show u = Value.ref x from rx)
  have ec : w' = valC c := by
    rcases hc with ⟨T, rfl⟩ | ⟨C', rfl⟩
    · exact rc
    · exact rc
  subst ec
  have ok := xc_exc (show ObjOk X.prog X.w H s.heap x (Xc x C od) from I.hok x _ hx).1
  exact PySem.W.kia_one (kitx_exc eq) I.kIn ok e (fun z => nomatch z) fun tk => ⟨.bl b, H, I.tok _, rfl, q⟩
variable {o : Expr} {f : Str} {ta : TE}
end
end Kw
set_option Elab.async false
set_option linter.all false
set_option maxRecDepth 100000
set_option maxHeartbeats 4000000
namespace Kw
open PySem PySem.Spec PyProof.Rows L2
noncomputable abbrev Cx.cat (X : Cx) (pn0 : List (Addr × Obj)) (E0 : Value → Shared → Prop) : Cx := { X with pn := X.pn ++ pn0, xe := E0 }
section
variable {X : Cx} {pins pins' : List (Addr × Obj)} {σ : L2.St} {H : Hp} {s : Shared} {E0 : Value → Shared → Prop}
theorem Inv.cat (I : Inv X pins σ H s) : Inv (Cx.cat X pins E0) [] σ H s := by
  obtain ⟨ok, r1, r2, r3, r4, r5, r6, r7, r8, r9, r10⟩ := I
  obtain ⟨a1, a2, a3, a4, a5, a6, a7, a8, a9, a10, a11, a12, a13, a14, a15, a16, a17, a18⟩ := ok
  exact ⟨⟨a1, a2, a3, a4, a5, a6, a7, a8, a9, a10, a11, a12, a13, a14, a15, a16, a17, a18⟩, r1, r2, r3, r4, r5, r6, r7, fun p hp => r8 p (by rw [List.append_nil] at hp; exact hp), r9, r10⟩
theorem Inv.uncat (I : Inv (Cx.cat X pins E0) pins' σ H s) : Inv X pins σ H s := by
  obtain ⟨ok, r1, r2, r3, r4, r5, r6, r7, r8, r9, r10⟩ := I
  obtain ⟨a1, a2, a3, a4, a5, a6, a7, a8, a9, a10, a11, a12, a13, a14, a15, a16, a17, a18⟩ := ok
  exact ⟨⟨a1, a2, a3, a4, a5, a6, a7, a8, a9, a10, a11, a12, a13, a14, a15, a16, a17, a18⟩, r1, r2, r3, r4, r5, r6, r7, fun p hp => r8 p (List.mem_append_left _ hp), r9, r10⟩
theorem SP.uncat {D : Ends} {f : Flow} (h : SP (Cx.cat X pins E0) [] D f s) : SP X pins D f s := by
  cases f with
  | next => obtain ⟨σ', H', I, q⟩ := h; exact ⟨σ', H', Kw.Inv.uncat I, q⟩
  | brk => obtain ⟨σ', H', I, q⟩ := h; exact ⟨σ', H', Kw.Inv.uncat I, q⟩
  | cont => obtain ⟨σ', H', I, q⟩ := h; exact ⟨σ', H', Kw.Inv.uncat I, q⟩
  | ret u => obtain ⟨v, σ', H', I, r, q⟩ := h; exact ⟨v, σ', H', Kw.Inv.uncat I, r, q⟩
end
noncomputable abbrev blank (X : Cx) : L2.St := List.replicate X.N.length none
structure AtH (X : Cx) (pins : List (Addr × Obj)) (H : Hp) (s : Shared) (hc : Heap) (x CA : Addr) (od : Option Addr) : Prop where
  inv : Inv X pins (blank X) H s
  fly : FlyAt H hc s.heap x (.ref CA) od
  pn : ∀ p ∈ X.pn ++ pins, ∃ o, hc.get? p.1 = some o
  old : ∀ b o, X.s₀.heap.get? b = some o → ∃ o', hc.get? b = some o'
  thr : ∀ b o, hc.get? b = some o → ∃ o', s.heap.get? b = some o'
section
variable {X : Cx} {pins : List (Addr × Obj)} {H : Hp} {s : Shared} {hc : Heap} {x CA : Addr} {od : Option Addr}
theorem AtH.young (a : AtH X pins H s hc x CA od) {b : Addr} (e : hc.get? b = none) : X.s₀.heap.get? b = none := by
  cases q : X.s₀.heap.get? b with
  | none => rfl
  | some o =>
    obtain ⟨o', z⟩ := a.old b o q
    rw [e] at z
    cases z
theorem AtH.go {G : Prop} (pl : Plain X) (hcell : X.env.cells = []) (a : AtH X pins H s hc x CA od)
    (step : ∀ (bs : Heap) (a0 : Value), bs.StaysIn s.heap → s.heap.FunFrames bs (X.env :: X.outer) → bs.get? x = none → TrD s.heap bs x (.ref CA) od a0 .none → (∀ h', Noted bs (X.env :: X.outer) x (.ref CA) od a0 .none s.heap h' → AtH X pins H { s with heap := h' } hc x CA od) → G) : G := by
  obtain ⟨I, ⟨new, free, oe, vs, a0, T, oT, ts, he, hcl, hdc, hd, h0, h1, hT0, hTf, hTx, hT, hdT, h3⟩, pn, old, thr⟩ := id a
  have n0 := a.young new
  have nT := a.young hT0
  refine step (PySem.W.hideAll s.heap ([x, T] ++ frs X.stack)) a0 (fun b o z => PySem.W.of_hideAll _ z) (frames_hid pl I _) (PySem.W.hideAll_none _ (by simp))
    ⟨oe, vs, T, oT, ts, he, hcl, hdc, hd, h0, h1, PySem.W.hideAll_none _ (by simp), hTx, hT, hdT, h3⟩ fun h' nt => ?_
  have up := nt.up
  have F : Flown X H s.heap h' [x, T] := by
    refine ⟨fun b o ho hs hn => nt.st b o (PySem.W.hideAll_get _ ho fun z => (List.mem_append.mp z).elim hn hs), fun b o ho hb => up b o ho (frame_nofields I hb ho), fun b hb => ?_⟩
    simp only [List.mem_cons, List.not_mem_nil, or_false] at hb
    rcases hb with rfl | rfl
    · exact ⟨n0, free⟩
    · exact ⟨nT, hTf⟩
  have np : ∀ p ∈ X.pn ++ pins, p.1 ∉ [x, T] := fun p hp z => by
    obtain ⟨o, y⟩ := pn p hp
    simp only [List.mem_cons, List.not_mem_nil, or_false] at z
    rcases z with z | z
    · rw [z, new] at y; cases y
    · rw [z, hT0] at y; cases y
  refine ⟨F.inv pl hcell I np rfl rfl I.bare, ⟨new, free, ?_⟩, pn, old, fun b o y => ?_⟩
  · obtain ⟨oe', vs', T', oT', ts', he', hc', hdc', hd', h0', h1', hnT', hTe', hT', hdT', h3'⟩ := nt.tr
    have both : hc.get? T' = none ∧ H T' = none := by
      cases z : s.heap.get? T' with
      | none =>
        refine ⟨?_, free_of_none I.hok z⟩
        cases y : hc.get? T' with
        | none => rfl
        | some o =>
          obtain ⟨o', w'⟩ := thr T' o y
          rw [z] at w'
          cases w'
      | some o1 =>
        have hm : T' ∈ [x, T] ++ frs X.stack := Classical.byContradiction fun hm => by
          rw [PySem.W.hideAll_get _ z hm] at hnT'; cases hnT'
        rcases List.mem_append.mp hm with hm | hm
        · simp only [List.mem_cons, List.not_mem_nil, or_false] at hm
          rcases hm with rfl | rfl
          · exact absurd rfl hTe'
          · exact ⟨hT0, hTf⟩
        · obtain ⟨sl, ee⟩ := up T' o1 z (frame_nofields I hm z)
          rw [ee] at hT'
          cases hT'
          exact absurd hdT' (frame_nofields I hm z _)
    exact ⟨oe', vs', a0, T', oT', ts', he', hc', hdc', hd', h0', h1', both.1, both.2, hTe', hT', hdT', h3'⟩
  · obtain ⟨o', y'⟩ := thr b o y
    by_cases hb : b ∈ frs X.stack
    · obtain ⟨sl, ee⟩ := up b o' y' (frame_nofields I hb y')
      exact ⟨_, ee⟩
    · refine ⟨o', nt.st b o' (PySem.W.hideAll_get _ y' fun z => ?_)⟩
      rcases List.mem_append.mp z with z | z
      · simp only [List.mem_cons, List.not_mem_nil, or_false] at z
        rcases z with rfl | rfl
        · rw [new] at y; cases y
        · rw [hT0] at y; cases y
      · exact hb z
theorem AtH.led {R : Value → Shared → Prop} {Q : Unit → Shared → Prop} {A : Around} (pl : Plain X) (hcell : X.env.cells = []) (a : AtH X pins H s hc x CA od) (q : ∀ h', AtH X pins H { s with heap := h' } hc x CA od → Q () { s with heap := h' }) :
    wpAny (model X.prog X.w) A (setFlight (.ref x) none) Q R s :=
  a.go pl hcell fun bs a0 st fr nx tr k => flight0 st fr tr fun h' n => q h' (k h' n)
theorem AtH.noted {R : Value → Shared → Prop} {Q : Unit → Shared → Prop} (pl : Plain X) (hcell : X.env.cells = []) (a : AtH X pins H s hc x CA od) (q : ∀ h', AtH X pins H { s with heap := h' } hc x CA od → Q () { s with heap := h' }) :
    wpAny (model X.prog X.w) X.A (noteFrame (.ref x) X.env) (fun _ s' => wpAny (model X.prog X.w) X.A (setFlight (.ref x) none) Q R s') R s :=
  a.go pl hcell fun bs a0 st fr nx tr k => look1 (up := X.outer) (by rw [a.inv.ok.frames, pl.stk]) pl.fr st fr nx tr fun h1 n1 => flight0 n1.st n1.fr n1.tr fun h2 n2 => q h2 (k h2 (n1.trans n2))
end
theorem excMatches_g {M : Model} {A : Around} {R : Value → Shared → Prop} {Q : Bool → Shared → Prop} {K : PySem.W.Frag} {s : Shared} {x C CK : Addr} {oe : Obj} {b : Bool} (X : K.In s.heap) (he : s.heap.get? x = some oe) (hc : oe.cls = .ref C) (hK : ClsX K CK)
    (hsub : PySem.W.Looks M s.heap (isSubtype (.ref C) (.ref CK)) b) (hq : Q b s) : wpAny M A (excMatches (.ref x) (.ref CK)) Q R s := by
  obtain ⟨hp, gg, dd, tt, oo⟩ := s
  obtain ⟨bm, N, nm, qn, bs, hdct, sn, sub, ab, col, dct, k0, k1, k2, k3, k5, hO, TL⟩ := hK hp X
  have hB : (Value.ref CK :: bm).contains (.type "BaseException") = true := by
    rw [List.contains_cons, TL.hasType PySem.F.excBase_ValueError.hasBase, Bool.or_true]
  have nt := tc_notTuple
  unfold excMatches
  repeat (first
    | (with_reducible refine hsub.at ?_)
    | (with_reducible refine wpAny_loadPart_at he ?_; rw [hc])
    | with_reducible refine wpAny_loadPart_at hO ?_
    | (with_reducible refine wpAny_isSubtype_exc hO ?_; rw [hB])
    | wp_step)
  cases b
  · repeat (first | wp_step)
    exact hq
  · repeat (first | wp_step)
    exact hq
section
variable {X : Cx} {pins : List (Addr × Obj)} {σ : L2.St} {H : Hp} {s : Shared}
theorem Inv.unname (pl : Plain X) (hcell : X.env.cells = []) (hN : X.N.Nodup) {j : Nat} {n : Str} (hj : X.N[j]? = some n) (I : Inv X pins σ H s) {h' : Heap} {m : Str → Option Value} {v : Option Value} {tk : Nat} (hm : s.heap.Ns X.env.locals m)
    (hl : ∀ (i : Nat) (x : Str) (v : V), X.N[i]? = some x → σ[i]? = some (some v) → Vis X.env.scope x → ∃ u, RelV v u ∧ Look X.env s.heap m x u)
    (hn : h'.Ns X.env.locals (fun y => if y = n then v else m y)) (sb : Heap.SameBut X.env.locals s.heap h') : Inv X pins (σ.set j none) H { s with heap := h', toks := tk } := by
  have kp : ∀ b, b ≠ X.env.locals → h'.get? b = s.heap.get? b := fun b hb => sb.2 b hb
  have old : ∀ b o, X.s₀.heap.get? b = some o → b ≠ X.env.locals := fun b o q z => by
    subst z
    exact absurd (Heap.lt_size q) (Nat.not_lt.mpr I.ok.above)
  refine ⟨I.ok, I.os, I.bare, ⟨fun b o q n a c => ?_, fun b o q n a c => ?_, I.base.free, fun b o q c => ?_, I.base.tups, I.base.frzs, I.base.tbls⟩, ⟨_, hn, fun i x v a b c => ?_⟩, fun x c z => ?_, I.free, I.freeC, fun p hp => ?_, fun a o e => ?_, by rw [List.length_set]; exact I.len⟩
  · exact (kp b (old b o q)).trans (I.base.keep b o q n a c)
  · obtain ⟨sl, z⟩ := I.base.slot b o q n a c
    exact ⟨sl, (kp b (old b o q)).trans z⟩
  · obtain ⟨o', z⟩ := I.base.there b o q c
    exact ⟨o', (kp b (old b o q)).trans z⟩
  · have hij : j ≠ i := fun z => by
      subst z
      rw [List.getElem?_set] at b
      simp at b
    rw [List.getElem?_set_ne hij] at b
    obtain ⟨u, r, lk⟩ := hl i x v a b c
    refine ⟨u, r, ?_⟩
    rcases lk with ⟨k1, k2⟩ | ⟨_, c', lk, _⟩
    · refine .inl ⟨k1, ?_⟩
      show (if x = n then _ else m x) = some u
      rw [if_neg fun z => hij (nodup_ix hN hj (by rw [a, z]))]
      exact k2
    · rw [hcell] at lk
      cases lk
  · rw [hcell] at z
    cases z
  · obtain ⟨a, b, c, d, e⟩ := I.pin p hp
    exact ⟨(kp _ c).trans a, b, c, d, e⟩
  · refine (I.hok a o e).stay (fun b u hb ho => ?_) (fun _ z => z) fun _ _ z => z
    have nb : b ≠ X.env.locals := fun z => by
      subst z
      rcases hb with q | q
      · rw [← q, I.free] at e; cases e
      · rw [I.free] at q; cases q
    exact (kp b nb).trans ho
end
noncomputable def PH (X : Cx) (hs : List ExceptHandler) (t : Ends → Addr → Option Addr → Hp → Prop) : Prop :=
  ∀ (pins : List (Addr × Obj)) (s : Shared) (H : Hp) (hc : Heap) (x CA : Addr) (od : Option Addr) (D : Ends), AtH X pins H s hc x CA od → t D CA od H → wpAny (model X.prog X.w) X.A (handleBy (.ref x) X.env hs) (SP X pins D) X.xe s
noncomputable def tHnil : Ends → Addr → Option Addr → Hp → Prop := fun _ _ _ _ => False
noncomputable def tHas (K : PySem.W.Frag) (N : List Str) (CK : Addr) (j : Nat) (ts : TS) (tr : Ends → Addr → Option Addr → Hp → Prop) : Ends → Addr → Option Addr → Hp → Prop := fun D CA od H =>
  (PySem.W.subIn K (.ref CA) (.ref CK) = some true ∧ ∀ x, H x = none → ts { nx := fun σ H' => D.nx (σ.set j none) H', rt := D.rt } ((List.replicate N.length none).set j (some (.ref x))) (upd H x (Xc x CA od))) ∨
  (PySem.W.subIn K (.ref CA) (.ref CK) = some false ∧ tr D CA od H)
section
variable {X : Cx} {j : Nat} {n xK : Str} {CK : Addr} {ts : TS} {b₀ : Stmt} {suite : List Stmt} {kp hpos pos : Pos} {rest : List ExceptHandler} {tr : Ends → Addr → Option Addr → Hp → Prop}
theorem ph_nil : PH X [] tHnil := fun _ _ _ _ _ _ _ _ _ h => h.elim
theorem ph_as (pl : Plain X) (hcell : X.env.cells = []) (hN : X.N.Nodup) (hj : X.N[j]? = some n) (hn : X.env.scope.names.lookup n = some .local) (hgK : Gl X xK) (hmK : X.mg xK = some (.ref CK)) (hCK : ClsX X.K CK)
    (hs : ∀ x, PSs (sut X x) (b₀ :: suite) ts) (hr : PH X rest tr) (hfn : X.fn n = true := by rfl) (hdK : (xK == ("__debug__" : Str)) = false := by decide)
    (hkc : (X.env.scope.kind == .class || (X.env.scope.kind == .module && X.env.locals != X.env.globals)) = false := by rfl) (hkn : X.env.kindOf n = some .local := by rfl) :
    PH X (.ExceptHandler (some (.Name xK kp)) (some n) (b₀ :: suite) hpos :: rest) (tHas X.K X.N CK j ts tr) := by
  intro pins s H hc x CA od D a h
  obtain ⟨o5, ho5, hc5⟩ : ∃ o, s.heap.get? x = some o ∧ o.cls = .ref CA := by
    obtain ⟨oe, _, _, _, _, _, z1, z2, _⟩ := a.fly.tr
    exact ⟨oe, z1, z2⟩
  refine wpAny_handleBy_cons (codeAny_handlers_test (ld_glob (X := sut X x) (Kw.Inv.sut a.inv x) hgK hmK ?_ hdK)) (by intro z; cases z)
  rcases h with ⟨hsub, hq⟩ | ⟨hsub, hq⟩
  · refine excMatches_g (K := X.K) a.inv.kIn ho5 hc5 hCK (PySem.W.looks_subIn a.inv.kIn hsub) ?_
    refine codeAny_handlers_suite_as ?_
    refine a.led pl hcell fun h6 a6 => ?_
    have I6 := a6.inv
    have n0 := a6.young a6.fly.new
    obtain ⟨o6, v6, _, _, _, _, ho6, hc6, hdc6, hd6, _⟩ := a6.fly.tr
    have free := a6.fly.free
    have hxL : x ≠ X.env.locals := fun z => by
      obtain ⟨m, ⟨o, es', ep, e1, e2, _⟩, _⟩ := I6.loc
      rw [← z] at e1
      have e1' : h6.get? x = some o := e1
      have ho6' : h6.get? x = some o6 := ho6
      rw [ho6'] at e1'
      cases e1'
      rw [hd6] at e2
      cases e2
    have ok : XcIs x CA od h6 := by
      obtain ⟨c6, d6, da6, sl6⟩ := o6
      simp only at hc6 hdc6 hd6
      subst hc6 hdc6 hd6
      exact ⟨v6, sl6, ho6⟩
    have I7 : Inv X pins (blank X) (upd H x (Xc x CA od)) { s with heap := h6 } := Kw.Inv.adopt (fun y c z => by rw [hcell] at z; cases z) I6 n0 free hxL (fun p hp z => by
      obtain ⟨o, y⟩ := a6.pn p hp
      rw [z, a6.fly.new] at y
      cases y) (xc_ok ok)
    refine store_ok (X := sut X x) (Kw.Inv.sut I7 x) hN hj (.inl hn) (v := .ref x) rfl (fun s8 I8 => ?_) (.inl hfn)
    refine wpAny_mono (hs x pins s8 _ _ _ I8 (hq x free)) (fun f9 s9 h9 => ?_) fun _ _ z => z.elim
    cases f9 with
    | ret u =>
      obtain ⟨v, σ9, H9, I9, r9, q9⟩ := h9
      have J9 := Kw.Inv.unsut a.inv.ok I9
      obtain ⟨m, hn9, _⟩ := J9.loc
      exact wpAny_nameGoes hkn hn9 hkc fun h10 m10 hn10 sb => ⟨v, _, H9, Kw.Inv.forget pl hcell J9 hn10 sb, r9, q9⟩
    | next =>
      obtain ⟨σ9, H9, I9, q9⟩ := h9
      have J9 := Kw.Inv.unsut a.inv.ok I9
      obtain ⟨m, hn9, hl9⟩ := J9.loc
      exact wpAny_nameGoes_keeps hkn hn9 hkc fun h10 v10 hn10 sb => ⟨_, H9, Kw.Inv.unname pl hcell hN hj J9 hn9 hl9 hn10 sb, q9⟩
    | brk =>
      obtain ⟨_, _, _, z⟩ := h9
      exact False.elim z
    | cont =>
      obtain ⟨_, _, _, z⟩ := h9
      exact False.elim z
  · refine excMatches_g (K := X.K) a.inv.kIn ho5 hc5 hCK (PySem.W.looks_subIn a.inv.kIn hsub) ?_
    exact hr pins s H hc x CA od D a hq
variable {body : List Stmt} {tb : XK → TS} {th : Ends → Addr → Option Addr → Hp → Prop} {h₀ : ExceptHandler} {hs : List ExceptHandler}
noncomputable def tTryG (tb : XK → TS) (th : Ends → Addr → Option Addr → Hp → Prop) : TS := fun D σ H => tb (fun C od H2 => ∃ CA, C = .ref CA ∧ th D CA od H2) D σ H
theorem ps_tryG (pl : Plain X) (hcell : X.env.cells = []) (hb : ∀ (E : XK) (pn0 : List (Addr × Obj)) (E0 : Value → Shared → Prop), Passes (CXE X.prog X.w) (Cx.cat X pn0 E0) E → PSs (Cx.cat X pn0 E0) body (tb E)) (hh : PH X (h₀ :: hs) th) :
    PS X (.Try body (h₀ :: hs) [] [] pos) (tTryG tb th) := by
  intro pins s σ H D I h
  refine wpAny_Try_except ?_
  have pass : Passes (CXE X.prog X.w) (Cx.cat X pins fun e s' => ∃ hc x CA od H2, e = .ref x ∧ AtH X pins H2 s' hc x CA od ∧ th D CA od H2) (fun C od H2 => ∃ CA, C = .ref CA ∧ th D CA od H2) := by
    intro pins' σ' H' s1 e s2 I1 hc1
    obtain ⟨x, C, od, H2, rfl, os, bare, un, hok, fly, CA, rfl, hth⟩ := hc1
    have I2 := I1.call' (ch := []) os un hok bare (fun b hb => absurd hb (by simp))
    have I3 := Kw.Inv.uncat I2
    refine ⟨s1.heap, x, CA, od, H2, rfl, ⟨I3.weak (by rw [List.length_replicate]; exact I3.len.symm) fun i v z => ?_, fly, fun p hp => ⟨_, ((Kw.Inv.uncat I1).pin p hp).1⟩, fun b o z => (Kw.Inv.uncat I1).base.there b o z (by rw [pl.ex]; simp), fun b o z => un.there b o z (by simp)⟩, hth⟩
    rw [List.getElem?_replicate] at z
    split at z <;> cases z
  refine wpAny_mono (hb _ pins _ pass [] s σ H D (Kw.Inv.cat I) h) (fun f s' h' => ?_) fun e s' h' => ?_
  · have h2 := Kw.SP.uncat h'
    cases f with
    | next => exact wpAny_execs_nil h2
    | ret u => exact h2
    | brk => exact h2
    | cont => exact h2
  · obtain ⟨hc, x, CA, od, H2, rfl, a, hth⟩ := h'
    exact a.noted pl hcell fun h2 a2 => hh pins _ H2 hc x CA od D a2 hth
end
end Kw
set_option Elab.async false
set_option linter.all false
set_option maxRecDepth 100000
set_option maxHeartbeats 4000000
namespace Kw
open PySem PySem.Spec PyProof.Rows L2
section
variable {X : Cx}
end
section
variable {K : PySem.W.Frag} {idx : List Nat} {tt : TT} {te : TE} {σ : L2.St} {H : Hp} {Q : VK}
theorem lc_filter {a : Addr} {xs : List V} (p : V → Bool) (hl : SqL K H a xs) (hz : xs.length ≤ sizeLine) (ht : ∀ x ∈ xs, ∀ Q' : Bool → Hp → Prop, Q' (p x) H → tt (stIn (some x) idx σ) H Q') (he : ∀ x ∈ xs, ∀ Q' : VK, Q' x H → te (stIn (some x) idx σ) H Q')
    (hd : ∀ q, H q = none → Q (.ref q) (upd H q (.lst (xs.filter p)))) : LcBodyT (Itl K a) idx tt te σ Q H := by
  refine ⟨fun i m ys H' => m = xs.length - i ∧ i ≤ xs.length ∧ H' = H ∧ ys = (xs.take i).filter p, ⟨xs.length, by simp, Nat.zero_le _, rfl, by simp⟩, ?_⟩
  rintro i m ys H' ⟨rfl, hi, rfl, rfl⟩
  refine ⟨Nat.le_trans (List.length_filter_le _ _) (by rw [List.length_take]; omega), ?_⟩
  by_cases hlt : i < xs.length
  · refine .inr ⟨⟨xs, xs[i], hl, by simp [hlt]⟩, fun y H' yl => ?_⟩
    obtain ⟨e, yl⟩ := yl
    subst e
    have hy := yl xs hl
    have hm : y ∈ xs := List.mem_of_getElem? hy
    have tk := take_succ_filter p xs i y hy
    refine ht y hm _ ?_
    cases hp : p y with
    | true =>
      rw [hp] at tk
      rw [if_pos rfl]
      exact he y hm _ ⟨xs.length - (i + 1), by omega, rfl, hlt, rfl, by rw [tk]; rfl⟩
    | false =>
      rw [hp] at tk
      rw [if_neg (by decide)]
      exact ⟨xs.length - (i + 1), by omega, rfl, hlt, rfl, by rw [tk]; simp⟩
  · have e : i = xs.length := by omega
    subst e
    refine .inl ⟨⟨xs, hl, Nat.le_refl _⟩, ?_⟩
    rw [List.take_length]
    exact hd
end
end Kw
set_option Elab.async false
set_option linter.all false
set_option maxRecDepth 100000
set_option maxHeartbeats 4000000
namespace Kw
open PySem PySem.Spec PyProof.Rows L2
noncomputable abbrev Bod := Rat × Rat × Int
theorem atI_z {xs : List V} {j : Nat} {x : V} (h : xs[j]? = some x) : atI xs (0 + (j : Int)) = some x := by
  rw [Int.zero_add]
  exact atI_nat h
section
variable {K : PySem.W.Frag} {te : TE} {tt : TT} {σ : L2.St} {H : Hp} {Q : VK} {idx : List Nat} {n : Nat}
end
section
variable {K : PySem.W.Frag} {H : Hp} {m n : Nat} {x : V} {b : Bod}
theorem BdQ.mono (h : BdQ K H m x b) (l : m ≤ n) : BdQ K H n x b := by
  obtain ⟨p, a, c, e, h1, h2, h3, d1, d2, r⟩ := h
  exact ⟨p, a, c, e, h1, h2, h3, d1.mono l, d2.mono l, r⟩
theorem bds_mono {xs : List V} {bs : List Bod} (h : Al2 (BdQ K H m) xs bs) (l : m ≤ n) : Al2 (BdQ K H n) xs bs := Al2.imp (fun _ _ z => z.mono l) h
theorem Asc.of_places {as bs : List Bod} (h : Asc as) (e : bs.map (·.1) = as.map (·.1)) : Asc bs := by
  have h1 : List.Pairwise (fun a b : Rat => a < b) (as.map (·.1)) := List.pairwise_map.mpr h
  rw [← e] at h1
  exact List.pairwise_map.mp h1
end
end Kw
set_option Elab.async false
set_option linter.all false
set_option maxRecDepth 100000
set_option maxHeartbeats 4000000
namespace Kw
open PySem PySem.Spec PyProof.Rows L2
noncomputable def Six (B : Int) (x : Rat) : Prop := ∃ n : Int, x = (n : Rat) / 6 ∧ -B ≤ n ∧ n ≤ B
section
variable {B C : Int} {x y : Rat}
theorem Six.add (h : Six B x) (g : Six C y) : Six (B + C) (x + y) := by
  obtain ⟨n, rfl, a, b⟩ := h
  obtain ⟨m, rfl, c, d⟩ := g
  refine ⟨n + m, ?_, by omega, by omega⟩
  rw [Rat.intCast_add]
  grind
theorem Six.sub (h : Six B x) (g : Six C y) : Six (B + C) (x - y) := by
  obtain ⟨n, rfl, a, b⟩ := h
  obtain ⟨m, rfl, c, d⟩ := g
  refine ⟨n - m, ?_, by omega, by omega⟩
  rw [Rat.intCast_sub]
  grind
theorem Six.mono (h : Six B x) (l : B ≤ C) : Six C x := by
  obtain ⟨n, e, a, b⟩ := h
  exact ⟨n, e, by omega, by omega⟩
theorem six_dv (n : Int) : Rat.divInt n 6 = (n : Rat) / 6 := q_dv n 6
theorem Six.fb (h : Six B x) (l : B ≤ 1000000000) : FB 64 x := by
  obtain ⟨n, rfl, a, b⟩ := h
  rw [← six_dv]
  exact FB.fit (by decide) (Bd.small (by omega) (by omega)) (Bd.small (by decide) (by decide))
theorem six_fit {n d N : Int} (d1 : 1 ≤ d) (d3 : d ≤ 3) (a : -N ≤ n) (b : n ≤ N) : Six (6 * N) (Rat.divInt n d) := by
  rw [q_dv]
  rcases (show d = 1 ∨ d = 2 ∨ d = 3 by omega) with rfl | rfl | rfl
  · refine ⟨6 * n, ?_, by omega, by omega⟩
    rw [Rat.intCast_mul]
    show (n : Rat) / 1 = 6 * n / 6
    grind
  · refine ⟨3 * n, ?_, by omega, by omega⟩
    rw [Rat.intCast_mul]
    show (n : Rat) / 2 = 3 * n / 6
    grind
  · refine ⟨2 * n, ?_, by omega, by omega⟩
    rw [Rat.intCast_mul]
    show (n : Rat) / 3 = 2 * n / 6
    grind
theorem six_over {c d : Int} (h : Six B x) (l : B ≤ 1000000000) (c1 : 1 ≤ c) (c9 : c ≤ 100) (d1 : 1 ≤ d) (d9 : d ≤ 100) : FB 64 (x / Rat.divInt c d) := by
  obtain ⟨n, rfl, a, b⟩ := h
  have e : (n : Rat) / 6 / Rat.divInt c d = Rat.divInt (n * d) (6 * c) := by
    rw [q_dv, q_dv, Rat.intCast_mul, Rat.intCast_mul]
    have hc := q_wpos c1
    have hd := q_wpos d1
    show (n : Rat) / 6 / ((c : Rat) / d) = n * d / (6 * c)
    grind
  rw [e]
  have p1 : n * d ≤ 100000000000 := by
    have := Int.mul_le_mul (show n ≤ 1000000000 by omega) d9 (by omega) (by decide)
    omega
  have p2 : -100000000000 ≤ n * d := by
    have := Int.mul_le_mul (show -n ≤ 1000000000 by omega) d9 (by omega) (by decide)
    rw [Int.neg_mul] at this
    omega
  exact FB.fit (by omega) (Bd.small (by omega) (by omega)) (Bd.small (by omega) (by omega))
end
end Kw
set_option Elab.async false
set_option linter.all false
set_option maxRecDepth 100000
set_option maxHeartbeats 4000000
namespace Kw
open PySem PySem.Spec PyProof.Rows L2
end Kw
set_option maxRecDepth 100000
set_option linter.all false
namespace Kw
end Kw
namespace Kw
end Kw
set_option Elab.async false
set_option linter.all false
set_option maxRecDepth 100000
set_option maxHeartbeats 4000000
namespace Kw
open PySem PySem.Spec PyProof.Rows L2
section
variable {X : Cx}
noncomputable def rBits : V → List V → Hp → VK → Prop := fun x vs H Q => ∃ i : Int, x = .int i ∧ vs = [] ∧ Q (.int ((Builtin.Int.intBits i : Nat) : Int)) H
theorem mt_bits : MtR X "int.bit_length" rBits := by
  intro pins s σ H x vs v us Q I rx rv h
  obtain ⟨i, rfl, rfl, q⟩ := h
  obtain ⟨t, rfl⟩ := rx
  cases rv
  exact call_gives PySem.F.slot_int_bit_length (typeIs_int s i t) PySem.F.entry_int_bit_length (PySem.F.args_int_bit_length_1 _) (PySem.AutoIntG2.int_bit_length_int_0 i t) ⟨.int ((Builtin.Int.intBits i : Nat) : Int), H, I.tok _, ⟨_, rfl⟩, q⟩
end
noncomputable def spGcdB : Sp := fun vs H Q _ => ∃ a b : Int, vs = [.int a, .int b] ∧ Bd 4000 b ∧ Q (.int ((Int.gcd a b : Nat) : Int)) H
theorem short_min {a b : Int} (h : Bd 4000 b) : ¬ (((Builtin.Int.intBits (if (if b < 0 then -b else b) < (if a < 0 then -a else a) then (if b < 0 then -b else b) else (if a < 0 then -a else a)) : Nat) : Int) > 4000) := by
  have l : Bd 4000 (if (if b < 0 then -b else b) < (if a < 0 then -a else a) then (if b < 0 then -b else b) else (if a < 0 then -a else a)) := by
    refine h.of_le ?_
    split <;> split <;> (try split) <;> omega
  have := l.bits
  omega
end Kw
set_option Elab.async false
set_option linter.all false
set_option maxRecDepth 100000
set_option maxHeartbeats 4000000
namespace Kw
open PySem PySem.Spec PyProof.Rows L2
theorem q_invp {y : Rat} (h : 0 < y.num) : (y⁻¹).num = ((y.den : Nat) : Int) ∧ (((y⁻¹).den : Nat) : Int) = y.num := by
  have e : y⁻¹ = Rat.inv y := rfl
  rw [e]
  unfold Rat.inv
  rw [dif_neg (by omega), dif_pos h]
  exact ⟨rfl, by show ((y.num.natAbs : Nat) : Int) = y.num; omega⟩
theorem q_invn {y : Rat} (h : y.num < 0) : (y⁻¹).num = -((y.den : Nat) : Int) ∧ (((y⁻¹).den : Nat) : Int) = -y.num := by
  have e : y⁻¹ = Rat.inv y := rfl
  rw [e]
  unfold Rat.inv
  rw [dif_pos h]
  exact ⟨rfl, by show ((y.num.natAbs : Nat) : Int) = -y.num; omega⟩
theorem FB.inv {n : Nat} {y : Rat} (h : FB n y) (y0 : y ≠ 0) : FB n y⁻¹ := (FB.fit (q_num_ne y0) h.2 h.1).cast (q_inv y)
end Kw
namespace Kw
open PySem PySem.Spec PyProof.Rows L2
theorem cap_two {X : Cx} {scope : Scope} {cl : List (Str × Addr)} {y y' : Str} {j j' : Nat} {c c' : Addr} (h1 : X.N[j]? = some y) (h2 : X.env.kindOf y = some .cell) (h3 : X.env.cells.lookup y = some c) (h4 : cl.lookup y = some c)
    (h5 : (relabel scope X.env).names.lookup y = some .cell ∨ (relabel scope X.env).names.lookup y = some .free)
    (g1 : X.N[j']? = some y') (g2 : X.env.kindOf y' = some .cell) (g3 : X.env.cells.lookup y' = some c') (g4 : cl.lookup y' = some c')
    (g5 : (relabel scope X.env).names.lookup y' = some .cell ∨ (relabel scope X.env).names.lookup y' = some .free) : Capt X scope cl [y, y'] [j, j'] :=
  ⟨rfl, fun k z h => by
    match k with
    | 0 => cases h; exact ⟨j, c, rfl, h1, h2, h3, h4, h5⟩
    | 1 => cases h; exact ⟨j', c', rfl, g1, g2, g3, g4, g5⟩
    | k + 2 => simp at h⟩
end Kw
namespace Kw
theorem cl_two {cells : List (PySem.Str × PySem.Addr)} {y1 y2 : PySem.Str} {c1 c2 : PySem.Addr} (h1 : cells.lookup y1 = some c1) (h2 : cells.lookup y2 = some c2) : ∀ y c, List.lookup y [(y1, c1), (y2, c2)] = some c → cells.lookup y = some c := by
  intro y c e
  rw [List.lookup_cons] at e
  split at e
  · rename_i q
    have e1 : y = y1 := by simpa using q
    cases e
    rw [e1]
    exact h1
  · rw [List.lookup_cons] at e
    split at e
    · rename_i q
      have e1 : y = y2 := by simpa using q
      cases e
      rw [e1]
      exact h2
    · cases e
end Kw
set_option Elab.async false
set_option linter.all false
set_option maxRecDepth 100000
set_option maxHeartbeats 4000000
namespace Kw
open PySem PySem.Spec PyProof.Rows L2
end Kw
namespace Kw
open PySem PySem.Spec PyProof.Rows L2
end Kw
namespace Kw
open PySem PySem.Spec PyProof.Rows L2
end Kw
set_option Elab.async false
set_option linter.all false
set_option maxRecDepth 100000
set_option maxHeartbeats 4000000
namespace Kw
open PySem PySem.Spec PyProof.Rows L2
section
variable {S : V → Prop} {lt : V → V → Bool} {x y : V} {row : List V}
end
end Kw
set_option Elab.async false
set_option linter.all false
set_option maxRecDepth 100000
set_option maxHeartbeats 4000000
namespace Kw
open PySem PySem.Spec PyProof.Rows L2
section
variable {K : PySem.W.Frag} {H H' : Hp} {c : Addr} {x : V} {k k' : Int × Int} {xs ys : List V} {key : V → Int × Int}
end
end Kw
set_option Elab.async false
set_option linter.all false
set_option maxRecDepth 100000
set_option maxHeartbeats 4000000
namespace Kw
open PySem PySem.Spec PyProof.Rows L2
section
variable {K : PySem.W.Frag} {H H' : Hp} {b c : Addr} {x : V} {xs ys : List V}
end
end Kw
namespace Kw
open PySem PySem.Spec PyProof.Rows L2
end Kw
namespace Kw
open PySem PySem.Spec PyProof.Rows L2
end Kw
namespace Kw
open PySem PySem.Spec PyProof.Rows L2
end Kw
namespace Kw
open PySem PySem.Spec PyProof.Rows L2
end Kw
set_option Elab.async false
set_option linter.all false
set_option maxRecDepth 100000
set_option maxHeartbeats 4000000
namespace Kw
open PySem PySem.Spec PyProof.Rows L2
section
variable {idx : List Nat} {tt : TT} {te : TE} {σ : L2.St} {H : Hp} {Q : VK}
end
end Kw
set_option Elab.async false
set_option linter.all false
set_option maxRecDepth 100000
set_option maxHeartbeats 4000000
namespace Kw
open PySem PySem.Spec PyProof.Rows L2
theorem vals_ints : ∀ {ns : List Int} {us : List Value}, Vals (ns.map V.int) us → IntsAre us ns
  | [], [], _ => .nil
  | n :: ns, u :: us, h => by
    cases h with
    | cons r t =>
      obtain ⟨k, rfl⟩ := r
      exact .cons n k (vals_ints t)
section
variable {X : Cx}
end
end Kw
namespace Kw
open PySem PySem.Spec PyProof.Rows L2
section
variable {X : Cx} {pos : Pos}
end
end Kw
set_option Elab.async false
set_option linter.all false
set_option maxRecDepth 100000
set_option maxHeartbeats 4000000
namespace Kw
open PySem PySem.Spec PyProof.Rows L2
noncomputable def mthAt (s : Stmt) (j : Nat) : Stmt := match s with
  | .ClassDef _ _ _ b _ _ _ _ _ _ _ => b.getD j (.Pass ⟨0, 0, 0, 0⟩)
  | _ => .Pass ⟨0, 0, 0, 0⟩
noncomputable def DfM (K : PySem.W.Frag) (C : Addr) (m qual : Str) (st : Stmt) (ps : List Str) : Prop :=
  ∃ (f : Addr) (oc : Value) (od : Option Addr) (kV doc pm : Value) (an : Option Addr) (cdv ct : Value) (osl : Array (Option Value)),
    K.lookup f = some ⟨oc, od, .func (PySem.W.fnOf m qual (defArgs st) (defBody st) (defScope st) .none kV doc pm an cdv ct), osl⟩ ∧ PySem.W.codeIn K cdv qual = true ∧ Meth K C m f ∧
    Binds K (PySem.W.fnOf m qual (defArgs st) (defBody st) (defScope st) .none kV doc pm an cdv ct) ps []
noncomputable def FnM (P : Program) (w : World) (K : PySem.W.Frag) (mg : Str → Option Value) (base : Heap) (k : Nat) (C : Addr) (m : Str) (ps : List Str) (sp : Sp) : Prop :=
  ∃ f fd, FnOk P w K mg base (CXE P w) k f fd ps sp ∧ Meth K C m f ∧ Binds K fd ps []
section
variable {P : Program} {w : World} {K : PySem.W.Frag} {mg : Str → Option Value} {base : Heap} {C : Addr} {m qual : Str} {st : Stmt} {N ps : List Str} {k : Nat} {sp : Sp}
theorem DfM.ok0 (D : DfM K C m qual st ps) (S : FnScope N ps (defScope st)) (len : ∀ vs H Q E, sp vs H Q E → vs.length = ps.length)
    (hbody : ∀ (f : Addr) (cdv : Value) (A : Around) (outer : List Env) (s : Shared) (H : Hp) (vs : List V) (Q : VK) (E : XK), Room k (A.deeper (envOfC qual (defScope st) s.heap.objs.size f cdv)) → sp vs H Q E →
      ∃ t, PSs (cxOf (CXE P w) P w K mg base N qual (defScope st) f cdv A outer s H E).nox (defBody st) t ∧ t { nx := fun _ H' => Q .non H', rt := Q } (start N vs) H) : FnM P w K mg base (k + 1) C m ps sp := by
  obtain ⟨f, oc, od, kV, doc, pm, an, cdv, ct, osl, lk, hcd, M, bd⟩ := D
  refine ⟨f, _, fn_of lk hcd S len fun A outer s H vs Q E hr hsp => ?_, M, bd⟩
  obtain ⟨t, h, q⟩ := hbody f cdv A outer s H vs Q E hr hsp
  exact ⟨t, h.nox, q⟩
theorem dfm_mk {f : Addr} {od an : Option Addr} {sl : Array (Option Value)} {oc kV dc pm cd ct : Value} (i : PySem.W.findIn K (.ref C) m = some (some (.ref f)))
    (t : PySem.W.isFn K (.ref f) = true) (l : K.lookup f = some ⟨oc, od, .func (PySem.W.fnOf m qual (defArgs st) (defBody st) (defScope st) .none kV dc pm an cd ct), sl⟩) (q : PySem.W.codeIn K cd qual = true) (kp : PySem.W.keepIn K (.ref f) = true)
    (b : ∀ us : List Value, us.length = ps.length → bindArgs (PySem.W.fnOf m qual (defArgs st) (defBody st) (defScope st) .none kV dc pm an cd ct) ⟨us, []⟩ = pure (ps.zip us)) : DfM K C m qual st ps :=
  ⟨f, oc, od, kV, dc, pm, an, cd, ct, sl, l, q, ⟨i, t, kp⟩, .all b⟩
end
section
variable {X : Cx} {k k' : Nat} {C : Addr} {m x f : Str} {ps : List Str} {sp : Sp} {E : XK} {p pos apos pos' tpos : Pos} {o e value : Expr} {es : List Expr} {t : TA} {ta tv : TE}
theorem pe_mt {pl : Sem Bool} (c : Cls X.K C) (F : FnM X.prog X.w X.K X.mg X.base k C m ps sp) (hk : k ≤ k') (hr : Room k' X.A) (hx : Passes (CXE X.prog X.w) X E) (he : PE X o ta) (ha : PA X (e :: es) t)
    (hst : starEach (e :: es) X.env = (false, eval e X.env) :: starEach es X.env := by rfl) (hpl : (backTo pos (starEach es X.env)).any (·.1) = false := by rfl)
    (ht : eval (.Call (.Attribute o m apos) (e :: es) [] pos) X.env = (do
      let ov ← eval o X.env
      standAt apos.atName
      let (f, first) ← holding [ov] (getMethod ov m pl)
      callWith pos f first (backTo pos (starEach (e :: es) X.env)) (backToKw pos (keywordEach [] X.env))) := by rfl) :
    PE X (.Call (.Attribute o m apos) (e :: es) [] pos) (tMeth C m sp [] E ta t) := by
  obtain ⟨f, fd, G, hm, bd⟩ := F
  exact pe_meth he c hm G (hr.mono hk) bd .nil hx ha hst hpl ht
theorem pe_mt0 {pl : Sem Bool} (c : Cls X.K C) (F : FnM X.prog X.w X.K X.mg X.base k C m ps sp) (hk : k ≤ k') (hr : Room k' X.A) (hx : Passes (CXE X.prog X.w) X E) (he : PE X o ta)
    (ht : eval (.Call (.Attribute o m apos) [] [] pos) X.env = (do
      let ov ← eval o X.env
      standAt apos.atName
      let (f, first) ← holding [ov] (getMethod ov m pl)
      callWith pos f first (backTo pos (starEach [] X.env)) (backToKw pos (keywordEach [] X.env))) := by rfl) :
    PE X (.Call (.Attribute o m apos) [] [] pos) (tMeth C m sp [] E ta tNil) := by
  obtain ⟨f, fd, G, hm, bd⟩ := F
  exact pe_meth0 he c hm G (hr.mono hk) bd .nil hx ht
theorem pe_mko (mk : PySem.W.makesIn X.K C = true) (kp : PySem.W.keepIn X.K (.ref C) = true) (F : FnM X.prog X.w X.K X.mg X.base k C "__init__" ps sp) (hk : k + 1 ≤ k') (hr : Room k' X.A) (hg : Gl X x) (hm : X.mg x = some (.ref C)) (hx : Passes (CXE X.prog X.w) X E)
    (ha : PA X (e :: es) t) (hdb : (x == ("__debug__" : Str)) = false := by decide) (he : starEach (e :: es) X.env = (false, eval e X.env) :: starEach es X.env := by rfl) (hpl : (backTo pos (starEach es X.env)).any (·.1) = false := by rfl) :
    PE X (.Call (.Name x p) (e :: es) [] pos) (tMake C sp [] E t) := by
  obtain ⟨f, fd, G, hf, bd⟩ := F
  exact pe_make ⟨mk, hf.at_, hf.fn, kp⟩ G (hr.mono hk) hg hm bd .nil hx ha hdb he hpl
noncomputable def tFldC (C : Addr) (ta : TE) (f : Str) : TE := fun σ H Q => ta σ H fun x H1 => ∃ a dx fs v, x = .ref a ∧ H1 a = some (.ins C dx fs) ∧ fs.lookup f = some v ∧ Q v H1
theorem pe_fldC (c : Cls X.K C) (n : NoAttr X.K C f) (he : PE X e ta) (hb : attributeBase e f X.env (eval e X.env) = eval e X.env := by rfl) : PE X (.Attribute e f pos) (tFldC C ta f) := by
  intro pins s σ H Q I h
  refine attr_of hb (thn (he pins s σ H _ I h) fun u s1 zz => ?_)
  obtain ⟨x, H1, I1, rx, a, dx, fs, v, ex, ea, l, q⟩ := zz
  subst ex
  obtain rfl : u = Value.ref a := rx
  exact getattr_ok I1 ea c n l fun u' s2 I2 ru => ⟨v, H1, I2, ru, q⟩
noncomputable def sFldC (C : Addr) (ta tv : TE) (f : Str) : TS := fun D σ H => tv σ H fun y H1 => ta σ H1 fun x H2 => ∃ a dx fs, x = .ref a ∧ H2 a = some (.ins C dx fs) ∧ fs.length < 1000 ∧
  D.nx σ (upd H2 a (.ins C dx (putF f y fs)))
theorem ps_fldC (c : Cls X.K C) (n : NoAttr X.K C f) (ha : PE X o ta) (hv : PE X value tv) (hs : swapsWith value (some (.Attribute o f pos')) pos.line X.env = pure false := by rfl) : PS X (.Assign [.Attribute o f pos'] value pos) (sFldC C ta tv f) := by
  intro pins s σ H D I h
  refine plainObj_wpAny_Assign_Attribute (thn (hv pins s σ H _ I h) fun u s1 ⟨y, H1, I1, ry, q⟩ => thn (ha pins s1 σ H1 _ I1 q) fun ov s2 ⟨x, H2, I2, rx, a, dx, fs, ex, ea, l, q2⟩ => ?_) hs
  subst ex
  obtain rfl : ov = Value.ref a := rx
  exact setattr_ok I2 ea c n l ry fun s3 I3 => ⟨σ, _, I3, q2⟩
end
noncomputable def Buts (as : List Addr) (H H' : Hp) : Prop := ∀ a o, a ∉ as → H a = some o → H' a = some o
section
variable {K : PySem.W.Frag} {H H1 H2 : Hp} {as : List Addr}
theorem Buts.refl : Buts as H H := fun _ _ _ h => h
theorem Buts.trans (x : Buts as H H1) (y : Buts as H1 H2) : Buts as H H2 := fun a o n h => y a o n (x a o n h)
theorem Buts.of (x : Same H H1) : Buts as H H1 := fun a o _ h => x a o h
theorem Buts.one {b : Addr} (x : But b H H1) (h : b ∈ as) : Buts as H H1 := fun a o n q => x a o (fun e => n (e ▸ h)) q
noncomputable def NoT (as : List Addr) (H : Hp) : Prop := ∀ a ∈ as, (∀ ys, H a ≠ some (.tup ys)) ∧ ∀ o ys, H a ≠ some (.frz o (.tup ys))
theorem Buts.tup {p : Addr} {xs : List V} (x : Buts as H H1) (n : NoT as H) (h : SqT K H p xs) : SqT K H1 p xs := by
  rcases h with (h | ⟨ob, h⟩) | h
  · exact .inl (.inl (x _ _ (fun m => (n _ m).1 _ h) h))
  · exact .inl (.inr ⟨ob, x _ _ (fun m => (n _ m).2 _ _ h) h⟩)
  · exact .inr h
theorem Buts.frs {n : Nat} {xs : List V} {qs : List Rat} (x : Buts as H H1) (nt : NoT as H) (h : Al2 (FrQ K H n) xs qs) : Al2 (FrQ K H1 n) xs qs :=
  Al2.imp (fun _ _ z => by obtain ⟨p, e, g, d⟩ := z; exact ⟨p, e, x.tup nt g, d⟩) h
theorem NoT.nil : NoT [] H := fun _ h => nomatch h
theorem NoT.lst {a : Addr} {xs : List V} (h : H a = some (.lst xs)) (r : NoT as H) : NoT (a :: as) H := fun b hb => by
  rcases List.mem_cons.mp hb with rfl | hb
  · rw [h]
    exact ⟨fun _ z => (nomatch z), fun _ _ z => (nomatch z)⟩
  · exact r b hb
theorem NoT.ins {a C dx : Addr} {fs : List (Str × V)} (h : H a = some (.ins C dx fs)) (r : NoT as H) : NoT (a :: as) H := fun b hb => by
  rcases List.mem_cons.mp hb with rfl | hb
  · rw [h]
    exact ⟨fun _ z => (nomatch z), fun _ _ z => (nomatch z)⟩
  · exact r b hb
theorem NoT.dct {a : Addr} {kvs : List (List Key × V)} (h : H a = some (.dT kvs)) (r : NoT as H) : NoT (a :: as) H := fun b hb => by
  rcases List.mem_cons.mp hb with rfl | hb
  · rw [h]
    exact ⟨fun _ z => (nomatch z), fun _ _ z => (nomatch z)⟩
  · exact r b hb
end
end Kw
set_option Elab.async false
set_option linter.all false
set_option maxRecDepth 100000
set_option maxHeartbeats 4000000
namespace Kw
open PySem PySem.Spec PyProof.Rows L2
end Kw
set_option Elab.async false
set_option linter.all false
set_option maxRecDepth 100000
set_option maxHeartbeats 4000000
namespace Kw
open PySem PySem.Spec PyProof.Rows L2
end Kw
set_option Elab.async false
set_option linter.all false
set_option maxRecDepth 100000
set_option maxHeartbeats 4000000
namespace Kw
open PySem PySem.Spec PyProof.Rows L2
section
variable {β : Type} {R : V → β → Prop} {xs : List V} {bs : List β}
theorem Al2.takeR : ∀ {xs : List V} {bs : List β} (k : Nat), Al2 R xs bs → Al2 R (xs.take k) (bs.take k)
  | [], [], k, _ => by simp [Al2]
  | _ :: _, _ :: _, 0, _ => trivial
  | _ :: _, _ :: _, k + 1, z => ⟨z.1, Al2.takeR k z.2⟩
  | [], _ :: _, _, z => z.elim
  | _ :: _, [], _, z => z.elim
theorem Al2.dropR : ∀ {xs : List V} {bs : List β} (k : Nat), Al2 R xs bs → Al2 R (xs.drop k) (bs.drop k)
  | [], [], k, _ => by simp [Al2]
  | _ :: _, _ :: _, 0, z => z
  | _ :: _, _ :: _, k + 1, z => Al2.dropR k z.2
  | [], _ :: _, _, z => z.elim
  | _ :: _, [], _, z => z.elim
end
end Kw
set_option Elab.async false
set_option linter.all false
set_option maxRecDepth 100000
set_option maxHeartbeats 4000000
namespace Kw
open PySem PySem.Spec PyProof.Rows L2
noncomputable def jntQ (a b : Bod) : Option Rat := if a.2.1 - b.2.1 ≤ 0 then none else some ((b.1 - a.1) / (a.2.1 - b.2.1))
noncomputable def jnts : List Bod → List (Option Rat)
  | a :: b :: r => jntQ a b :: jnts (b :: r)
  | _ => []
theorem jnts_len : ∀ gs : List Bod, (jnts gs).length = gs.length - 1
  | [] => rfl
  | [_] => rfl
  | a :: b :: r => by
    show (jnts (b :: r)).length + 1 = _
    rw [jnts_len (b :: r)]
    simp
theorem jnts_get : ∀ {gs : List Bod} {i : Nat} {a b : Bod}, gs[i]? = some a → gs[i + 1]? = some b → (jnts gs)[i]? = some (jntQ a b)
  | [], _, _, _, h, _ => by simp at h
  | [_], i, _, _, _, h => by simp at h
  | x :: y :: r, 0, a, b, h1, h2 => by
    simp at h1 h2
    subst h1 h2
    rfl
  | x :: y :: r, i + 1, a, b, h1, h2 => by
    show (jnts (y :: r))[i]? = _
    exact jnts_get (by simpa using h1) (by simpa using h2)
noncomputable def less1 (o : Option Rat) (m : Rat) : Option Rat := match o with
  | none => some m
  | some f => if m < f then some m else some f
noncomputable def leastQ (l : List Rat) : Option Rat := l.foldl less1 none
theorem leastQ_snoc (l : List Rat) (m : Rat) : leastQ (l ++ [m]) = less1 (leastQ l) m := by
  unfold leastQ
  rw [List.foldl_append]
  rfl
noncomputable def cmng (gs : List Bod) : Option Rat := leastQ ((jnts gs).filterMap id)
noncomputable def leftsQ (gs : List Bod) : List Nat := match cmng gs with
  | none => []
  | some t => (List.range (jnts gs).length).filter fun i => decide ((jnts gs)[i]? = some (some t))
noncomputable def bodAt (gs : List Bod) (i : Nat) : Bod := gs.getD i (0, 0, 1)
theorem bodAt_of {gs : List Bod} {i : Nat} {b : Bod} (h : gs[i]? = some b) : bodAt gs i = b := by
  unfold bodAt
  rw [List.getD_eq_getElem?_getD, h]
  rfl
theorem bodAt_get {gs : List Bod} {i : Nat} (h : i < gs.length) : gs[i]? = some (bodAt gs i) := by
  rw [bodAt_of (List.getElem?_eq_getElem h)]
  exact List.getElem?_eq_getElem h
noncomputable def plcQ (b : Bod) (t : Rat) : Rat := b.1 + b.2.1 * t
noncomputable def Com (B : Nat) (gs : List Bod) : Prop := ∃ D : Nat, 1 ≤ D ∧ D < 2 ^ B ∧ ∀ b ∈ gs, ∃ n k : Int, b.1 = (n : Rat) / (D : Rat) ∧ b.2.1 = (k : Rat) / (D : Rat) ∧ n.natAbs < 2 ^ B ∧ k.natAbs < 2 ^ B
theorem rat_ne {D : Nat} (h : 1 ≤ D) : (D : Rat) ≠ 0 := by
  intro e
  have z : ((D : Nat) : Rat) = ((0 : Nat) : Rat) := e
  have z2 := Rat.natCast_inj.mp z
  omega
theorem inv_two {a b : Rat} (ha : a ≠ 0) (hb : b ≠ 0) : (a * b)⁻¹ = a⁻¹ * b⁻¹ := by
  have i1 := Rat.mul_inv_cancel a ha
  have i2 := Rat.mul_inv_cancel b hb
  have n : a * b ≠ 0 := fun z => by
    rcases Rat.mul_eq_zero.mp z with z | z
    · exact ha z
    · exact hb z
  have i3 := Rat.mul_inv_cancel (a * b) n
  grind
theorem lefts_lt {gs : List Bod} {i : Nat} (h : i ∈ leftsQ gs) : i + 1 < gs.length ∧ (jnts gs)[i]? = some (cmng gs) := by
  unfold leftsQ at h
  split at h
  · exact nomatch h
  · rename_i t e
    rw [List.mem_filter, List.mem_range, jnts_len] at h
    rw [e]
    exact ⟨by omega, of_decide_eq_true h.2⟩
end Kw
set_option Elab.async false
set_option linter.all false
set_option maxRecDepth 100000
set_option maxHeartbeats 4000000
namespace Kw
open PySem PySem.Spec PyProof.Rows L2
open AutoSeq1 (wpAny_loadPart')
section
variable {prog : Program} {w : World} {A : Around} {E : Value → Shared → Prop} {s : Shared}
end
section
variable {prog : Program} {w : World} {A : Around} {E : Value → Shared → Prop} {s : Shared}
end
section
variable {X : Cx}
end
end Kw
set_option Elab.async false
set_option linter.all false
set_option maxRecDepth 100000
namespace L2
open PySem PySem.Spec PyProof.Rows
section
variable {κ : Type} [DecidableEq κ]
noncomputable def valV (kvs : List (κ × V)) (k : κ) : Option V := (kvs.find? fun kv => decide (kv.1 = k)).map (·.2)
noncomputable def putK (kvs : List (κ × V)) (k : κ) (v : V) : List (κ × V) :=
  if (kvs.any fun kv => decide (kv.1 = k)) = true then kvs.map (fun kv => if kv.1 = k then (kv.1, v) else kv) else kvs ++ [(k, v)]
theorem valV_nil {k : κ} : valV ([] : List (κ × V)) k = none := rfl
theorem valV_pos {p : κ × V} {r : List (κ × V)} {k : κ} (e : p.1 = k) : valV (p :: r) k = some p.2 := by simp [valV, List.find?_cons, e]
theorem valV_neg {p : κ × V} {r : List (κ × V)} {k : κ} (e : ¬ p.1 = k) : valV (p :: r) k = valV r k := by simp [valV, List.find?_cons, e]
theorem valV_any (k : κ) : ∀ kvs : List (κ × V), (kvs.any fun kv => decide (kv.1 = k)) = (valV kvs k).isSome
  | [] => rfl
  | p :: r => by
    rw [List.any_cons]
    by_cases e : p.1 = k
    · simp only [valV_pos e, decide_eq_true e, Bool.true_or, Option.isSome_some]
    · rw [valV_neg e, decide_eq_false e, Bool.false_or]; exact valV_any k r
theorem valV_map (k j : κ) (y : V) : ∀ kvs : List (κ × V), valV (kvs.map fun kv => if kv.1 = k then (kv.1, y) else kv) j = (valV kvs j).map fun x => if j = k then y else x
  | [] => rfl
  | p :: r => by
    have ih := valV_map k j y r
    rw [List.map_cons]
    by_cases h : p.1 = k
    · rw [if_pos h]
      by_cases e : p.1 = j
      · rw [valV_pos (p := (p.1, y)) e, valV_pos e, Option.map_some, if_pos (e.symm.trans h)]
      · rw [valV_neg (p := (p.1, y)) e, valV_neg e, ih]
    · rw [if_neg h]
      by_cases e : p.1 = j
      · rw [valV_pos (p := p) e, valV_pos e, Option.map_some, if_neg (fun z => h (e.trans z))]
      · rw [valV_neg (p := p) e, valV_neg e, ih]
theorem valV_snoc (k j : κ) (y : V) : ∀ kvs : List (κ × V), valV kvs k = none → valV (kvs ++ [(k, y)]) j = if j = k then some y else valV kvs j
  | [], _ => by
    by_cases e : k = j
    · rw [if_pos e.symm]; exact valV_pos (p := (k, y)) e
    · rw [if_neg (fun z => e z.symm)]; exact valV_neg (p := (k, y)) e
  | p :: r, hn => by
    rw [List.cons_append]
    have hk : ¬ p.1 = k := fun z => by rw [valV_pos z] at hn; cases hn
    rw [valV_neg hk] at hn
    have ih := valV_snoc k j y r hn
    by_cases e : p.1 = j
    · rw [valV_pos e, valV_pos e, if_neg (fun z => hk (e.trans z))]
    · rw [valV_neg e, valV_neg e, ih]
theorem valV_put (kvs : List (κ × V)) (k j : κ) (y : V) : valV (putK kvs k y) j = if j = k then some y else valV kvs j := by
  unfold putK
  by_cases a : (kvs.any fun kv => decide (kv.1 = k)) = true
  · rw [if_pos a, valV_map]
    rw [valV_any] at a
    by_cases e : j = k
    · obtain ⟨x, hx⟩ := Option.isSome_iff_exists.mp a
      rw [if_pos e, e, hx, Option.map_some, if_pos rfl]
    · rw [if_neg e]
      cases valV kvs j with
      | none => rfl
      | some x => rw [Option.map_some, if_neg e]
  · rw [if_neg a]
    refine valV_snoc k j y kvs ?_
    rw [valV_any] at a
    cases q : valV kvs k with
    | none => rfl
    | some x => rw [q] at a; exact (a rfl).elim
theorem length_putK (kvs : List (κ × V)) (k : κ) (v : V) : (putK kvs k v).length ≤ kvs.length + 1 := by
  unfold putK
  split
  · rw [List.length_map]; omega
  · rw [List.length_append, List.length_cons, List.length_nil]; omega
theorem RelO.isSome_eq {o : Option V} {u : Option Value} (r : RelO o u) : o.isSome = u.isSome := by
  cases o with
  | none => cases u with
    | none => rfl
    | some _ => exact (show False from r).elim
  | some _ => cases u with
    | none => exact (show False from r).elim
    | some _ => rfl
theorem KV.val {kvs : List (κ × V)} {vs : List (κ × Value)} (r : KV kvs vs) (k : κ) : RelO (valV kvs k) (valueAt vs k) := by
  unfold KV at r
  induction r with
  | nil => exact True.intro
  | @cons p q ps qs h t ih =>
    obtain ⟨h1, h2⟩ := h
    by_cases e : p.1 = k
    · have e' : q.1 = k := h1.symm.trans e
      have b : valueAt (q :: qs) k = some q.2 := by simp [valueAt, List.find?_cons, e']
      rw [valV_pos e, b]; exact h2
    · have e' : ¬ q.1 = k := fun z => e (h1.trans z)
      have b : valueAt (q :: qs) k = valueAt qs k := by simp [valueAt, List.find?_cons, e']
      rw [valV_neg e, b]; exact ih
theorem KV.any {kvs : List (κ × V)} {vs : List (κ × Value)} (r : KV kvs vs) (k : κ) : (kvs.any fun kv => decide (kv.1 = k)) = vs.any fun kv => decide (kv.1 = k) := by
  unfold KV at r
  induction r with
  | nil => rfl
  | cons h t ih => rw [List.any_cons, List.any_cons, ih, h.1]
theorem KV.repl {kvs : List (κ × V)} {vs : List (κ × Value)} (r : KV kvs vs) (k : κ) {y : V} {u : Value} (ry : RelV y u) :
    KV (kvs.map fun kv => if kv.1 = k then (kv.1, y) else kv) (vs.map fun kv => if kv.1 = k then (kv.1, u) else kv) := by
  unfold KV at r ⊢
  induction r with
  | nil => exact .nil
  | @cons p q ps qs h t ih =>
    rw [List.map_cons, List.map_cons]
    refine .cons ?_ ih
    obtain ⟨h1, h2⟩ := h
    by_cases e : p.1 = k
    · rw [if_pos e, if_pos (h1.symm.trans e)]; exact ⟨h1, ry⟩
    · rw [if_neg e, if_neg (fun z => e (h1.trans z))]; exact ⟨h1, h2⟩
theorem KV.put {kvs : List (κ × V)} {vs : List (κ × Value)} (r : KV kvs vs) (k : κ) {y : V} {u : Value} (ry : RelV y u) : KV (putK kvs k y) (stored vs k u) := by
  unfold putK stored
  rw [r.any k]
  by_cases e : (vs.any fun kv => decide (kv.1 = k)) = true
  · rw [if_pos e, if_pos e]; exact r.repl k ry
  · rw [if_neg e, if_neg e]; exact Paired.snoc r ⟨rfl, ry⟩
theorem KV.length {kvs : List (κ × V)} {vs : List (κ × Value)} (r : KV kvs vs) : kvs.length = vs.length := Paired.length r
end
theorem kV_is {P : Program} {w : World} {k : Key} {u : Value} (r : RelV (kV k) u) : (mixKind P w).is k u = true := by
  cases k with
  | inl i => obtain ⟨t, e⟩ := (show ∃ t, u = Value.int i t from r); subst e; exact mixKind_int P w i t
  | inr x => obtain ⟨t, e⟩ := (show ∃ t, u = Value.str x t from r); subst e; exact mixKind_str P w x t
theorem items_are {P : Program} {w : World} : ∀ {ks : List Key} {us : List Value}, Vals (ks.map kV) us → ItemsAre (mixKind P w) ks us
  | [], _, r => by rw [List.map_nil] at r; cases r; exact .nil
  | k :: ks, _, r => by
    rw [List.map_cons] at r
    cases r with
    | cons h t => exact .cons (kV_is h) (items_are t)
noncomputable abbrev KT (H : Hp) : List (List Key × V) → List (List Key × Addr × Value) → Prop := Paired fun p q => p.1 = q.1 ∧ H q.2.1 = some (.tup (p.1.map kV)) ∧ RelV p.2 q.2.2
theorem KT.val {H : Hp} {kvs : List (List Key × V)} {xs : List (List Key × Addr × Value)} (r : KT H kvs xs) (k : List Key) : RelO (valV kvs k) ((atKey xs k).map (·.2)) := by
  induction r with
  | nil => exact True.intro
  | @cons p q ps qs h t ih =>
    obtain ⟨h1, _, h2⟩ := h
    by_cases e : p.1 = k
    · have e' : q.1 = k := h1.symm.trans e
      have b : atKey (q :: qs) k = some q.2 := by simp [atKey, List.find?_cons, e']
      rw [valV_pos e, b]; exact h2
    · have e' : ¬ q.1 = k := fun z => e (h1.trans z)
      have b : atKey (q :: qs) k = atKey qs k := by simp [atKey, List.find?_cons, e']
      rw [valV_neg e, b]; exact ih
theorem KT.repl {H : Hp} {kvs : List (List Key × V)} {xs : List (List Key × Addr × Value)} (r : KT H kvs xs) (k : List Key) {y : V} {u : Value} (ry : RelV y u) :
    KT H (kvs.map fun kv => if kv.1 = k then (kv.1, y) else kv) (xs.map (putAt k u)) := by
  induction r with
  | nil => exact .nil
  | @cons p q ps qs h t ih =>
    rw [List.map_cons, List.map_cons]
    refine .cons ?_ ih
    obtain ⟨h1, h2, h3⟩ := h
    unfold putAt
    by_cases e : p.1 = k
    · rw [if_pos e, if_pos (h1.symm.trans e)]; exact ⟨h1, h2, ry⟩
    · rw [if_neg e, if_neg (fun z => e (h1.trans z))]; exact ⟨h1, h2, h3⟩
theorem KT.put {H : Hp} {kvs : List (List Key × V)} {xs : List (List Key × Addr × Value)} (r : KT H kvs xs) (k : List Key) {b : Addr} {y : V} {u : Value} (hb : H b = some (.tup (k.map kV))) (ry : RelV y u) :
    KT H (putK kvs k y) (storedH xs k b u) := by
  have e : (kvs.any fun kv => decide (kv.1 = k)) = (atKey xs k).isSome := by
    rw [valV_any, (r.val k).isSome_eq, Option.isSome_map]
  unfold putK storedH
  rw [e]
  by_cases q : (atKey xs k).isSome = true
  · rw [if_pos q, if_pos q]; exact r.repl k ry
  · rw [if_neg q, if_neg q]; exact Paired.snoc r ⟨rfl, hb, ry⟩
theorem KT.keeps {H H' : Hp} {kvs : List (List Key × V)} {xs : List (List Key × Addr × Value)} (r : KT H kvs xs) (ht : ∀ b ys, H b = some (.tup ys) → H' b = some (.tup ys)) : KT H' kvs xs :=
  Paired.mapP r fun _ _ z => ⟨z.1, ht _ _ z.2.1, z.2.2⟩
section
variable {P : Program} {w : World} {H : Hp} {h : Heap} {a : Addr}
theorem rd_of {u : HO} (ok : HOk P w H h) (e : Rd H a u) : ObjOk P w H h a u := e.ok ok
theorem dk_rd {kvs : List (Key × V)} (ok : HOk P w H h) (e : Rd H a (.dK kvs)) : kvs.length ≤ sizeLine ∧ (a == sysModules) = false ∧ ∃ vs, KV kvs vs ∧ h.DictOf (mixKind P w) a vs :=
  show ObjOk P w H h a (.dK kvs) from rd_of ok e
theorem dk_of {kvs : List (Key × V)} (ok : HOk P w H h) (e : H a = some (.dK kvs)) : kvs.length ≤ sizeLine ∧ (a == sysModules) = false ∧ ∃ vs, KV kvs vs ∧ h.DictOf (mixKind P w) a vs := dk_rd ok (.inl e)
theorem key_of {ks : List Key} (ok : HOk P w H h) (e : H a = some (.tup (ks.map kV))) : (tupleKind (mixKind P w)).is h ks a := by
  obtain ⟨_, its, r, o, h1, h2, n, h3⟩ := (show ObjOk P w H h a (.tup (ks.map kV)) from ok a _ e)
  exact ⟨o, its.toArray, n, h1, h2, h3, by simpa using items_are r⟩
theorem dt_rd {kvs : List (List Key × V)} (ok : HOk P w H h) (e : Rd H a (.dT kvs)) : kvs.length ≤ sizeLine ∧ (a == sysModules) = false ∧
    ∃ xs, KT H kvs xs ∧ h.DictOfH (tupleKind (mixKind P w)) a xs := by
  obtain ⟨z, y, xs, r, o, es, ep, h1, h2, h3, h4, h5⟩ := (show ObjOk P w H h a (.dT kvs) from rd_of ok e)
  refine ⟨z, y, xs, r, o, es, ep, h1, h2, h3, h4, fun x hx => ?_, h5⟩
  have all : ∀ {l : List (List Key × V)} {m : List (List Key × Addr × Value)}, KT H l m → ∀ x ∈ m, (tupleKind (mixKind P w)).is h x.1 x.2.1 := by
    intro l m q
    induction q with
    | nil => intro x hx; exact nomatch hx
    | @cons p q ps qs hq t ih =>
      intro x hx
      rcases List.mem_cons.mp hx with e | hx
      · subst e
        exact key_of ok (by rw [← hq.1]; exact hq.2.1)
      · exact ih x hx
  exact all r x hx
theorem dt_of {kvs : List (List Key × V)} (ok : HOk P w H h) (e : H a = some (.dT kvs)) : kvs.length ≤ sizeLine ∧ (a == sysModules) = false ∧
    ∃ xs, KT H kvs xs ∧ h.DictOfH (tupleKind (mixKind P w)) a xs := dt_rd ok (.inl e)
end
noncomputable def DGet (H : Hp) (a : Addr) (y : V) (r : Option V) : Prop :=
  (∃ kvs k, Rd H a (.dK kvs) ∧ y = kV k ∧ r = valV kvs k) ∨ ∃ kvs k b, Rd H a (.dT kvs) ∧ y = .ref b ∧ H b = some (.tup (k.map kV)) ∧ r = valV kvs k
noncomputable def DPut (H : Hp) (a : Addr) (y v : V) (H' : Hp) : Prop :=
  (∃ kvs k, H a = some (.dK kvs) ∧ y = kV k ∧ kvs.length < sizeLine ∧ H' = upd H a (.dK (putK kvs k v))) ∨
  ∃ kvs k b, H a = some (.dT kvs) ∧ y = .ref b ∧ H b = some (.tup (k.map kV)) ∧ kvs.length < sizeLine ∧ H' = upd H a (.dT (putK kvs k v))
theorem DGet.t {H : Hp} {a b : Addr} {kvs : List (List Key × V)} {k : List Key} (e : H a = some (.dT kvs)) (eb : H b = some (.tup (k.map kV))) : DGet H a (.ref b) (valV kvs k) := .inr ⟨kvs, k, b, .inl e, rfl, eb, rfl⟩
theorem DPut.t {H : Hp} {a b : Addr} {kvs : List (List Key × V)} {k : List Key} {v : V} (e : H a = some (.dT kvs)) (eb : H b = some (.tup (k.map kV))) (hl : kvs.length < sizeLine) :
    DPut H a (.ref b) v (upd H a (.dT (putK kvs k v))) := .inr ⟨kvs, k, b, e, rfl, eb, hl, rfl⟩
section
variable {X : Cx} {pins : List (Addr × Obj)} {σ : St} {H : Hp} {s : Shared} {a : Addr} {y v : V} {u r : Value} {o : Option V} {A : Around} {E : Value → Shared → Prop}
theorem Inv.big (I : Inv X pins σ H s) : sysModules < s.heap.objs.size := by
  have h : mainGlobals < s.heap.objs.size := (I.mod.glob.keeps I.bk).lt
  exact Nat.lt_trans (by decide) h
theorem d_getItem {Q : Value → Shared → Prop} (hu : A.units + 1 < cLine) (I : Inv X pins σ H s) (g : DGet H a y (some v)) (ry : RelV y u) (h : ∀ w' s', Inv X pins σ H s' → RelV v w' → Q w' s') :
    wpAny (model X.prog X.w) A (getItem (.ref a) u) Q E s := by
  rcases g with ⟨kvs, k, e, ey, l⟩ | ⟨kvs, k, b, e, ey, eb, l⟩
  · subst ey
    obtain ⟨z, hd, vs, rel, dd⟩ := dk_rd I.hok e
    obtain ⟨w', hw, rw'⟩ := RelO.some_of (v := v) (o := valueAt vs k) (by rw [l]; exact rel.val k)
    exact wpAny_getItem_of (kV_is ry) dd.mapOf hw (h w' _ (I.tok _) rw')
  · subst ey
    cases (show u = Value.ref b from ry)
    obtain ⟨z, hd, xs, rel, dd⟩ := dt_rd I.hok e
    obtain ⟨w', hw, rw'⟩ := RelO.some_of (v := v) (o := (atKey xs k).map (·.2)) (by rw [l]; exact rel.val k)
    obtain ⟨p, hp, hp2⟩ := Option.map_eq_some_iff.mp hw
    refine wpAny_getItem_heap (tupleKind_room_in1 hu) (key_of I.hok eb) dd hp ?_
    rw [hp2]
    exact h w' _ (I.tok _) rw'
theorem d_notIn {Q : Value → Shared → Prop} (hu : A.units + 1 < cLine) (I : Inv X pins σ H s) (g : DGet H a y o) (ry : RelV y u) (h : ∀ s', Inv X pins σ H s' → Q (.bool (!o.isSome)) s') :
    wpAny (model X.prog X.w) A (compareOp .NotIn u (.ref a)) Q E s := by
  rcases g with ⟨kvs, k, e, ey, l⟩ | ⟨kvs, k, b, e, ey, eb, l⟩
  · subst ey
    obtain ⟨z, hd, vs, rel, dd⟩ := dk_rd I.hok e
    refine wpAny_notIn_of (kV_is ry) hd dd.mapOf ?_
    rw [← (rel.val k).isSome_eq, ← l]
    exact h _ (I.tok _)
  · subst ey
    cases (show u = Value.ref b from ry)
    obtain ⟨z, hd, xs, rel, dd⟩ := dt_rd I.hok e
    refine wpAny_notIn_heap (tupleKind_room_in1 hu) (key_of I.hok eb) hd dd ?_
    have q := (rel.val k).isSome_eq
    rw [Option.isSome_map] at q
    rw [← q, ← l]
    exact h _ (I.tok _)
theorem d_write {h' : Heap} {t' : Nat} {ob : HO} (I : Inv X pins σ H s) (mu : Mut (H a)) (hs : Heap.SameBut a s.heap h') (he : ∃ q, h'.get? a = some q) (new : ObjOk X.prog X.w (upd H a ob) h' a ob) :
    Inv X pins σ (upd H a ob) { s with heap := h', toks := t' } :=
  I.write (x := a) (e := a) mu (.inl rfl) (fun b q hb z => (hs.2 b hb).trans z) he new
theorem dk_new {P : Program} {w : World} {H' : Hp} {h' : Heap} {kvs : List (Key × V)} {vs : List (Key × Value)} (z : kvs.length ≤ sizeLine) (hd : (a == sysModules) = false) (rel : KV kvs vs) (dd : h'.DictOf (mixKind P w) a vs) :
    ObjOk P w H' h' a (.dK kvs) := ⟨z, hd, vs, rel, dd⟩
theorem d_setItem {H' : Hp} {Q : Unit → Shared → Prop} (hu : A.units + 1 < cLine) (I : Inv X pins σ H s) (g : DPut H a y v H') (ry : RelV y u) (rv : RelV v r) (h : ∀ s', Inv X pins σ H' s' → Q () s') :
    wpAny (model X.prog X.w) A (setItem (.ref a) u r) Q E s := by
  rcases g with ⟨kvs, k, e, ey, l, eH⟩ | ⟨kvs, k, b, e, ey, eb, l, eH⟩
  · subst ey eH
    obtain ⟨z, hd, vs, rel, dd⟩ := dk_of I.hok e
    have hz : vs.length ≤ sizeLine := by rw [← rel.length]; exact z
    have hl : (putK kvs k v).length ≤ sizeLine := by have := length_putK kvs k v; omega
    refine wpAny_setItem_pairs (hsz := hz) (kV_is ry) dd fun h' dd' hs => h _ ?_
    have he : ∃ q, h'.get? a = some q := let ⟨q, _, _, hq, _⟩ := dd'; ⟨q, hq⟩
    exact d_write I (by rw [e]; exact True.intro) hs he (dk_new hl hd (rel.put k rv) dd')
  · subst ey eH
    cases (show u = Value.ref b from ry)
    obtain ⟨z, hd, xs, rel, dd⟩ := dt_of I.hok e
    have hz : xs.length ≤ sizeLine := by rw [← Paired.length rel]; exact z
    have hl : (putK kvs k v).length ≤ sizeLine := by have := length_putK kvs k v; omega
    refine wpAny_setItem_heap (hsz := hz) (tupleKind_room_in1 hu) (key_of I.hok eb) dd fun h' dd' hs => h _ ?_
    obtain ⟨q, es, ep, hq, h2, h3, h4, _, h5⟩ := dd'
    refine d_write I (by rw [e]; exact True.intro) hs ⟨q, hq⟩ ⟨hl, hd, _, (rel.put k eb rv).keeps fun c ys ec => ?_, q, es, ep, hq, h2, h3, h4, h5⟩
    rw [upd_ne (ne_of ec e (fun z => nomatch z))]
    exact ec
end
section
variable {X : Cx} {pins : List (Addr × Obj)} {σ : St} {H : Hp} {s : Shared} {a : Addr} {kvs : List (Key × V)} {k : Key} {u : Value} {A : Around} {E : Value → Shared → Prop}
end
noncomputable def NoSl (i : Expr) : Prop := ∀ ov iv, subscripted i false ov iv = operate [ov, iv] (getItem ov iv)
theorem subD_of {prog : Program} {w : World} {A : Around} {E : Value → Shared → Prop} {s : Shared} {env : Env} {value slice : Expr} {pos : Pos} {T id : String} {Q : Value → Shared → Prop}
    (hl : typeLookup (.type T) "__getitem__" = pure (some (.builtin id))) (hs : NoSl slice)
    (h : wpAny (model prog w) A (eval value env) (fun o s₁ => wpAny (model prog w) A (eval slice env) (fun i s₂ => s₂.TypeIs o T ∧ wpAny (model prog w) A (getItem o i) Q E s₂) E s₁) E s) :
    wpAny (model prog w) A (eval (.Subscript value slice pos) env) Q E s := by
  refine Subscript_ (wpAny_mono h (fun o s₁ h₁ => wpAny_mono h₁ (fun i s₂ h₂ => ?_) fun _ _ x => x) fun _ _ x => x)
  obtain ⟨hT, h₂⟩ := h₂
  unfold subscriptTail
  refine wpAny_bind ?_
  rw [getitemInPython_of_ne hT.not_modules]
  refine wpAny_bind (wpAny_specialOf hT hl ?_)
  have fin : wpAny (model prog w) A (subscripted slice false o i) (fun r s₃ => wpAny (model prog w) A (letTemporaryGo value o r >>= fun _ => pure r) Q E s₃) E s₂ := by
    rw [hs o i]
    exact wpAny_operating (wpAny_mono h₂ (fun r s₃ h₃ => wpAny_bind (wpAny_letTemporaryGo (wpAny_pure h₃))) fun _ _ x => x)
  first
    | exact wpAny_pure (wpAny_bind fin)
    | exact wpAny_bind (wpAny_pure (wpAny_bind fin))
    | exact wpAny_bind fin
theorem dict_typeIs {X : Cx} {pins : List (Addr × Obj)} {σ : St} {H : Hp} {s : Shared} {a : Addr} {y : V} {o : Option V} (I : Inv X pins σ H s) (g : DGet H a y o) : s.TypeIs (.ref a) "dict" := by
  rcases g with ⟨kvs, k, e, _, _⟩ | ⟨kvs, k, b, e, _, _, _⟩
  · obtain ⟨_, _, vs, _, dd⟩ := dk_rd I.hok e
    exact dd.typeIs
  · obtain ⟨_, _, xs, _, dd⟩ := dt_rd I.hok e
    exact dd.typeIs
noncomputable def tDGet (td ty : TE) : TE := fun σ H Q => td σ H fun x H1 => ty σ H1 fun y H2 => ∃ a v, x = .ref a ∧ DGet H2 a y (some v) ∧ Q v H2
noncomputable def tDNotIn (ty td : TE) : TE := fun σ H Q => ty σ H fun y H1 => td σ H1 fun x H2 => ∃ a o, x = .ref a ∧ DGet H2 a y o ∧ Q (.bl (!o.isSome)) H2
noncomputable def sDPut (td ty tv : TE) : TS := fun D σ H => tv σ H fun v H1 => td σ H1 fun x H2 => ty σ H2 fun y H3 => ∃ a H4, x = .ref a ∧ DPut H3 a y v H4 ∧ D.nx σ H4
section
variable {X : Cx} {o i e value : Expr} {pos pos' tpos : Pos} {td ty tv : TE}
theorem pe_dget (hu : X.A.units + 1 < cLine) (ho : PE X o td) (hi : PE X i ty) (hs : NoSl i) : PE X (.Subscript o i pos) (tDGet td ty) := by
  intro pins s σ H Q I h
  refine subD_of PySem.F.slot_dict_getitem.lookup hs (thn (ho pins s σ H _ I h) fun u s1 ⟨x, H1, I1, rx, q1⟩ => thn (hi pins s1 σ H1 _ I1 q1) fun iv s2 zz => ?_)
  obtain ⟨y, H2, I2, ry, a, v, ex, g, q2⟩ := zz
  subst ex
  obtain rfl : u = Value.ref a := rx
  exact ⟨dict_typeIs I2 g, d_getItem hu I2 g ry fun w' s3 I3 rw' => ⟨v, H2, I3, rw', q2⟩⟩
theorem pc_dnotin (hu : X.A.units + 1 < cLine) (hi : PE X i ty) (ho : PE X o td) : PC X .NotIn i o (tDNotIn ty td) := by
  intro pins s σ H Q I h
  refine thn (hi pins s σ H _ I h) fun iv s1 ⟨y, H1, I1, ry, q1⟩ => thn (ho pins s1 σ H1 _ I1 q1) fun u s2 zz => ?_
  obtain ⟨x, H2, I2, rx, a, ov, ex, g, q2⟩ := zz
  subst ex
  obtain rfl : u = Value.ref a := rx
  exact d_notIn hu I2 g ry fun s3 I3 => ⟨.bl (!ov.isSome), H2, I3, rfl, q2⟩
theorem ps_dput (hu : X.A.units + 1 < cLine) (ho : PE X o td) (hi : PE X i ty) (hv : PE X value tv) (hs : swapsWith value (some (.Subscript o i pos')) pos.line X.env = pure false) :
    PS X (.Assign [.Subscript o i pos'] value pos) (sDPut td ty tv) := by
  intro pins s σ H D I h
  refine wpAny_Assign_Subscript (thn (hv pins s σ H _ I h) fun r s1 ⟨v, H1, I1, rv, q1⟩ => thn (ho pins s1 σ H1 _ I1 q1) fun u s2 ⟨x, H2, I2, rx, q2⟩ => thn (hi pins s2 σ H2 _ I2 q2) fun iv s3 ⟨y, H3, I3, ry, a, H4, ex, g, q3⟩ => ?_) hs
  subst ex
  obtain rfl : u = Value.ref a := rx
  exact d_setItem hu I3 g ry rv fun s4 I4 => ⟨σ, H4, I4, q3⟩
end
theorem dt_empty {P : Program} {w : World} {H : Hp} (h : Heap) (hb : sysModules < h.objs.size) : ObjOk P w H (h.push { cls := .type "dict", data := .dict #[] }) h.objs.size (.dT []) :=
  ⟨Nat.zero_le _, beq_eq_false_iff_ne.mpr (Ne.symm (Nat.ne_of_lt hb)), [], .nil, _, #[], 0, Heap.get?_push_size _ rfl, ⟨rfl, rfl, rfl⟩, rfl, rfl, List.nodup_nil⟩
noncomputable def tDNewT : TE := fun _ H Q => ∀ p, H p = none → Q (.ref p) (upd H p (.dT []))
section
variable {X : Cx} {pos : Pos}
theorem pe_dnewT : PE X (.Dict [] [] pos) tDNewT := fun pins s σ H Q I h =>
  wpAny_Dict_empty ⟨.ref s.heap.objs.size, _, I.laid (a := s.heap.objs.size) (o := .dT []) (t' := s.toks) (fun _ _ q => Heap.get?_push_of_some _ q) (Nat.le_refl _) (dt_empty s.heap I.big), rfl, h _ (I.hok.fresh (Nat.le_refl _))⟩
end
end L2
set_option Elab.async false
set_option linter.all false
set_option maxRecDepth 100000
set_option maxHeartbeats 4000000
namespace Kw
open PySem PySem.Spec PyProof.Rows L2
end Kw
set_option Elab.async false
set_option linter.all false
set_option maxRecDepth 100000
set_option maxHeartbeats 4000000
namespace Kw
open PySem PySem.Spec PyProof.Rows L2
end Kw
set_option Elab.async false
set_option linter.all false
set_option maxRecDepth 100000
set_option maxHeartbeats 4000000
namespace Kw
open PySem PySem.Spec PyProof.Rows L2
end Kw
set_option Elab.async false
set_option linter.all false
set_option maxRecDepth 100000
set_option maxHeartbeats 4000000
namespace Kw
open PySem PySem.Spec PyProof.Rows L2
end Kw
set_option Elab.async false
set_option linter.all false
set_option maxRecDepth 100000
set_option maxHeartbeats 4000000
namespace Kw
open PySem PySem.Spec PyProof.Rows L2
section
variable {prog : Program} {w : World} {K : Type} [DecidableEq K] {knd : HeapKind prog w K} {A : Around} {E : Value → Shared → Prop} {s : Shared}
end
theorem u1_of {n : Nat} (h : n + 100 < cLine) : n + 1 < cLine := by omega
theorem eqv_2 (a b c d : Int) : PyData.eqv (.tuple [.int a, .int b]) (.tuple [.int c, .int d]) = (decide (a = c) && decide (b = d)) := by
  show ((a == c) && ((b == d) && true)) = _
  rw [Bool.and_true]
  congr 1
end Kw
set_option Elab.async false
set_option linter.all false
set_option maxRecDepth 100000
set_option maxHeartbeats 4000000
namespace Kw
open PySem PySem.Spec PyProof.Rows L2
noncomputable def OptR (K : PySem.W.Frag) (H : Hp) (v : V) (o : Option Rat) : Prop := (o = none ∧ v = .non) ∨ ∃ (q : Rat) (p : Addr), o = some q ∧ v = .ref p ∧ FQ K H p q ∧ FB 1990 q
section
variable {K : PySem.W.Frag} {H H' : Hp} {v u : V} {o o' : Option Rat} {as : List Addr}
theorem OptR.same (h : OptR K H v o) (s : Same H H') : OptR K H' v o := by
  rcases h with h | ⟨q, p, e1, e2, g, d⟩
  · exact .inl h
  · exact .inr ⟨q, p, e1, e2, Kw.Same.tup s g, d⟩
theorem OptR.buts (h : OptR K H v o) (s : Buts as H H') (n : NoT as H) : OptR K H' v o := by
  rcases h with h | ⟨q, p, e1, e2, g, d⟩
  · exact .inl h
  · exact .inr ⟨q, p, e1, e2, s.tup n g, d⟩
theorem opts_same {vs : List V} {os : List (Option Rat)} (h : Al2 (OptR K H) vs os) (s : Same H H') : Al2 (OptR K H') vs os := Al2.imp (fun _ _ z => z.same s) h
theorem opts_buts {vs : List V} {os : List (Option Rat)} (h : Al2 (OptR K H) vs os) (s : Buts as H H') (n : NoT as H) : Al2 (OptR K H') vs os := Al2.imp (fun _ _ z => z.buts s n) h
theorem OptR.dp (h : OptR K H v o) (g : OptR K H u o') : ∃ d d', Dp K H v d ∧ Dp K H u d' ∧ d.canLay0 = true ∧ d'.canLay0 = true ∧ min d.depth d'.depth ≤ 60 ∧ PyData.eqv d d' = decide (o = o') := by
  rcases h with ⟨rfl, rfl⟩ | ⟨q, p, rfl, rfl, gq, _⟩
  · rcases g with ⟨rfl, rfl⟩ | ⟨q', p', rfl, rfl, gq', _⟩
    · exact ⟨_, _, .non, .non, rfl, rfl, Nat.zero_le _, rfl⟩
    · exact ⟨_, _, .non, gq'.dp, rfl, rfl, Nat.zero_le _, rfl⟩
  · rcases g with ⟨rfl, rfl⟩ | ⟨q', p', rfl, rfl, gq', _⟩
    · exact ⟨_, _, gq.dp, .non, rfl, rfl, Nat.le_trans (Nat.min_le_right _ _) (Nat.zero_le _), rfl⟩
    · refine ⟨_, _, gq.dp, gq'.dp, rfl, rfl, Nat.le_trans (Nat.min_le_left _ _) (show (1 : Nat) ≤ 60 by decide), ?_⟩
      rw [eqv_2, ← Bool.decide_and]
      exact decide_eq_decide.mpr ⟨fun h => by rw [Rat.ext h.1 (by omega)], fun h => by injection h with h; rw [h]; exact ⟨rfl, rfl⟩⟩
end
theorem op_eqOR {X : Cx} {K : PySem.W.Frag} (hK : X.K = K) (hu : X.A.units + 100 < cLine) : OpR X (compareOp .Eq) (fun a b H Q => ∃ o o', OptR K H a o ∧ OptR K H b o' ∧ Q (.bl (decide (o = o'))) H) := by
  intro pins s σ H a b v u Q I rx ry h
  obtain ⟨o, o', h1, h2, k⟩ := h
  obtain ⟨d, d', e1, e2, c1, c2, dep, e⟩ := h1.dp h2
  refine op_eqD hK hu pins s σ H _ _ v u Q I rx ry ⟨d, d', e1, e2, c1, c2, dep, ?_⟩
  rw [e]
  exact k
section
variable {g sh nw x : Addr} {n i : Int} {j : Addr} {co v : V}
end
end Kw
namespace Kw
open PySem PySem.Spec PyProof.Rows L2
theorem opts_filter {K : PySem.W.Frag} {H : Hp} : ∀ {vs : List V} {os : List (Option Rat)}, Al2 (OptR K H) vs os → Al2 (FrQ K H 1990) (vs.filter fun v => !decide (v = .non)) (os.filterMap id)
  | [], [], _ => trivial
  | v :: vs, o :: os, h => by
    have ih := opts_filter h.2
    rcases h.1 with ⟨rfl, rfl⟩ | ⟨q, p, rfl, rfl, g, d⟩
    · exact ih
    · exact ⟨⟨p, rfl, g, d⟩, ih⟩
  | [], _ :: _, h => h.elim
  | _ :: _, [], h => h.elim
end Kw
namespace Kw
open PySem PySem.Spec PyProof.Rows L2
section
variable {K : PySem.W.Frag} {H H' : Hp} {v : V} {m : Rat × Rat × Nat} {as : List Addr}
end
theorem jnt_none {a b : Bod} : ¬ b.2.1 < a.2.1 → jntQ a b = none := fun h => by
  unfold jntQ
  rw [if_pos (by grind)]
theorem jnt_some {a b : Bod} : b.2.1 < a.2.1 → jntQ a b = some ((b.1 - a.1) / (a.2.1 - b.2.1)) := fun h => by
  unfold jntQ
  rw [if_neg (by grind)]
end Kw
namespace Kw
open PySem PySem.Spec PyProof.Rows L2
theorem jnts_at {gs : List Bod} {k : Nat} (h : k + 1 < gs.length) : (jnts gs)[k]? = some (jntQ (bodAt gs k) (bodAt gs (k + 1))) := jnts_get (bodAt_get (by omega)) (bodAt_get h)
end Kw
namespace Kw
open PySem PySem.Spec PyProof.Rows L2
theorem bds_w {K : PySem.W.Frag} {H : Hp} {n : Nat} : ∀ {xs : List V} {bs : List Bod}, Al2 (BdQ K H n) xs bs → ∀ b ∈ bs, 1 ≤ b.2.2 ∧ b.2.2 ≤ 10000
  | [], [], _ => fun _ h => nomatch h
  | _ :: _, _ :: _, z => fun b hb => by
    rcases List.mem_cons.mp hb with rfl | hb
    · obtain ⟨_, _, _, _, _, _, _, _, _, w1, w2⟩ := z.1
      exact ⟨w1, w2⟩
    · exact bds_w z.2 b hb
  | [], _ :: _, z => z.elim
  | _ :: _, [], z => z.elim
end Kw
namespace Kw
open PySem PySem.Spec PyProof.Rows L2
end Kw
namespace Kw
theorem al_app {β : Type} {R : L2.V → β → Prop} : ∀ {xs xs' : List L2.V} {ys ys' : List β}, Al2 R xs ys → Al2 R xs' ys' → Al2 R (xs ++ xs') (ys ++ ys')
  | [], _, [], _, _, h => h
  | _ :: _, _, _ :: _, _, h, g => ⟨h.1, al_app h.2 g⟩
  | [], _, _ :: _, _, h, _ => h.elim
  | _ :: _, _, [], _, h, _ => h.elim
end Kw
set_option Elab.async false
set_option linter.all false
set_option maxRecDepth 100000
set_option maxHeartbeats 4000000
namespace Kw
open PySem PySem.Spec PyProof.Rows L2
section
variable {a d b : Rat} {c : Int}
theorem lefts_is (gs : List Bod) : leftsQ gs = if cmng gs = none then [] else (List.range (jnts gs).length).filter fun i => decide ((jnts gs)[i]? = some (cmng gs)) := by
  unfold leftsQ
  split
  · rename_i e
    rw [if_pos e]
  · rename_i t e
    rw [if_neg (by rw [e]; exact fun z => nomatch z), e]
end
end Kw
set_option Elab.async false
set_option linter.all false
set_option maxRecDepth 100000
set_option maxHeartbeats 4000000
namespace Kw
open PySem PySem.Spec PyProof.Rows L2
end Kw
set_option Elab.async false
set_option linter.all false
set_option maxRecDepth 100000
set_option maxHeartbeats 4000000
namespace Kw
open PySem PySem.Spec PyProof.Rows L2
noncomputable def Frn (N B : Int) (x : Rat) : Prop := ∃ n : Int, x = (n : Rat) / (N : Rat) ∧ -B ≤ n ∧ n ≤ B
theorem Six.frn {B : Int} {x : Rat} (h : Six B x) : Frn 72 (12 * B) x := by
  obtain ⟨n, e, a, b⟩ := h
  refine ⟨12 * n, ?_, by omega, by omega⟩
  rw [e, Rat.intCast_mul]
  show (n : Rat) / 6 = 12 * n / 72
  grind
theorem Frn.mono {N B B' : Int} {x : Rat} (h : Frn N B x) (l : B ≤ B') : Frn N B' x := by
  obtain ⟨n, e, a, b⟩ := h
  exact ⟨n, e, by omega, by omega⟩
theorem six_by {B c d : Int} {x : Rat} (h : Six B x) (c1 : 1 ≤ c) (c4 : c ≤ 4) (d1 : 1 ≤ d) (d3 : d ≤ 3) (B0 : 0 ≤ B) : Frn 72 (36 * B) (x / Rat.divInt c d) := by
  obtain ⟨n, e, a, b⟩ := h
  rw [q_dv, e]
  have key : ∀ k : Int, k * c = 12 → (n : Rat) / 6 / ((c : Rat) / (d : Rat)) = ((n * d * k : Int) : Rat) / ((72 : Int) : Rat) := fun k hk => by
    have k0 : (k : Rat) * (c : Rat) = 12 := by rw [← Rat.intCast_mul, hk]; rfl
    have c0 : (c : Rat) ≠ 0 := fun z => by rw [z] at k0; grind
    have d0 : (d : Rat) ≠ 0 := fun z => by
      have z2 : ((d : Int) : Rat) = ((0 : Int) : Rat) := z
      have := Rat.intCast_inj.mp z2
      omega
    rw [Rat.intCast_mul, Rat.intCast_mul]
    have s : ((72 : Int) : Rat) = 72 := rfl
    rw [s]
    have i1 := Rat.mul_inv_cancel _ c0
    have i2 := Rat.mul_inv_cancel _ d0
    have q0 : (c : Rat) / (d : Rat) ≠ 0 := fun z => by
      rw [Rat.div_def] at z
      rcases Rat.mul_eq_zero.mp z with z | z
      · exact c0 z
      · rw [z] at i2
        grind
    have i3 := Rat.mul_inv_cancel _ q0
    rw [Rat.div_def] at i3 ⊢
    rw [Rat.div_def, Rat.div_def]
    grind
  have bound : ∀ k : Int, 3 ≤ k → k ≤ 12 → -(36 * B) ≤ n * d * k ∧ n * d * k ≤ 36 * B := fun k k3 k12 => by
    have hdk : 0 ≤ d * k := Int.mul_nonneg (by omega) (by omega)
    have hle : d * k ≤ 36 := by
      have := Int.mul_le_mul d3 k12 (by omega) (by omega)
      omega
    rw [Int.mul_assoc]
    constructor
    · have z1 : -(B * (d * k)) ≤ n * (d * k) := by
        have := Int.mul_le_mul_of_nonneg_right a hdk
        rw [Int.neg_mul] at this
        exact this
      have z2 : B * (d * k) ≤ B * 36 := Int.mul_le_mul_of_nonneg_left hle B0
      omega
    · have z1 : n * (d * k) ≤ B * (d * k) := Int.mul_le_mul_of_nonneg_right b hdk
      have z2 : B * (d * k) ≤ B * 36 := Int.mul_le_mul_of_nonneg_left hle B0
      omega
  rcases (show c = 1 ∨ c = 2 ∨ c = 3 ∨ c = 4 by omega) with rfl | rfl | rfl | rfl
  · exact ⟨_, key 12 (by decide), bound 12 (by decide) (by decide)⟩
  · exact ⟨_, key 6 (by decide), bound 6 (by decide) (by decide)⟩
  · exact ⟨_, key 4 (by decide), bound 4 (by decide) (by decide)⟩
  · exact ⟨_, key 3 (by decide), bound 3 (by decide) (by decide)⟩
theorem Frn.up {B : Int} {x : Rat} (h : Frn 72 B x) : Frn 432 (6 * B) x := by
  obtain ⟨n, e, a, b⟩ := h
  refine ⟨6 * n, ?_, by omega, by omega⟩
  rw [e, Rat.intCast_mul]
  show (n : Rat) / 72 = 6 * n / 432
  grind
theorem frn_com {gs : List Bod} (h : ∀ b ∈ gs, Frn 432 500000000 b.1 ∧ Frn 432 500000000 b.2.1) : Com 30 gs := by
  refine ⟨432, by decide, by decide, fun b hb => ?_⟩
  obtain ⟨⟨n, e1, a1, b1⟩, ⟨k, e2, a2, b2⟩⟩ := h b hb
  have p : (2 : Nat) ^ 30 = 1073741824 := by decide
  exact ⟨n, k, e1, e2, by omega, by omega⟩
theorem all_snoc {α : Type} {P : α → Prop} {l : List α} {b : α} (h : ∀ c ∈ l, P c) (g : P b) : ∀ c ∈ l ++ [b], P c := fun c hc => by
  rcases List.mem_append.mp hc with z | z
  · exact h c z
  · rw [List.mem_singleton.mp z]
    exact g
end Kw
set_option Elab.async false
set_option linter.all false
set_option maxRecDepth 100000
set_option maxHeartbeats 4000000
namespace Kw
open PySem PySem.Spec PyProof.Rows L2
noncomputable def OrdT (gs : List Bod) (now : Rat) : Prop := ∀ k, k + 1 < gs.length → plcQ (bodAt gs k) now < plcQ (bodAt gs (k + 1)) now ∨ (plcQ (bodAt gs k) now = plcQ (bodAt gs (k + 1)) now ∧ (bodAt gs k).2.1 < (bodAt gs (k + 1)).2.1)
theorem asc_at {gs : List Bod} (h : Asc gs) {k : Nat} (hk : k + 1 < gs.length) : (bodAt gs k).1 < (bodAt gs (k + 1)).1 := by
  unfold Asc at h
  have z := List.pairwise_iff_getElem.mp h k (k + 1) (by omega) hk (by omega)
  rw [bodAt_of (List.getElem?_eq_getElem (show k < gs.length by omega)), bodAt_of (List.getElem?_eq_getElem hk)]
  exact z
theorem least_spec : ∀ (l : List Rat) (o : Option Rat), ∀ m, l.foldl less1 o = some m → ((m ∈ l ∨ o = some m) ∧ (∀ y ∈ l, m ≤ y) ∧ ∀ f, o = some f → m ≤ f)
  | [], o, m, h => ⟨.inr h, fun _ z => (nomatch z), fun f hf => by
      have z : o = some m := h
      rw [z] at hf
      cases hf
      exact Rat.le_refl⟩
  | x :: l, o, m, h => by
    rw [List.foldl_cons] at h
    obtain ⟨h1, h2, h3⟩ := least_spec l (less1 o x) m h
    cases o with
    | none =>
      have e : less1 none x = some x := rfl
      rw [e] at h1 h3
      have mx := h3 x rfl
      refine ⟨.inl ?_, fun y hy => ?_, fun f hf => nomatch hf⟩
      · rcases h1 with h1 | h1
        · exact List.mem_cons_of_mem _ h1
        · cases h1
          exact List.mem_cons_self ..
      · rcases List.mem_cons.mp hy with rfl | hy
        · exact mx
        · exact h2 y hy
    | some f =>
      by_cases c : x < f
      · have e : less1 (some f) x = some x := if_pos c
        rw [e] at h1 h3
        have mx := h3 x rfl
        refine ⟨.inl ?_, fun y hy => ?_, fun g hg => ?_⟩
        · rcases h1 with h1 | h1
          · exact List.mem_cons_of_mem _ h1
          · cases h1
            exact List.mem_cons_self ..
        · rcases List.mem_cons.mp hy with rfl | hy
          · exact mx
          · exact h2 y hy
        · cases hg
          grind
      · have e : less1 (some f) x = some f := if_neg c
        rw [e] at h1 h3
        have mf := h3 f rfl
        refine ⟨?_, fun y hy => ?_, fun g hg => ?_⟩
        · rcases h1 with h1 | h1
          · exact .inl (List.mem_cons_of_mem _ h1)
          · exact .inr h1
        · rcases List.mem_cons.mp hy with rfl | hy
          · grind
          · exact h2 y hy
        · cases hg
          exact mf
theorem least_some {l : List Rat} {m : Rat} (h : leastQ l = some m) : m ∈ l ∧ ∀ y ∈ l, m ≤ y := by
  obtain ⟨h1, h2, _⟩ := least_spec l none m h
  refine ⟨?_, h2⟩
  rcases h1 with h1 | h1
  · exact h1
  · cases h1
theorem fold_none : ∀ (l : List Rat) (f : Rat), l.foldl less1 (some f) ≠ none
  | [], f => by intro h; cases h
  | x :: l, f => by
    rw [List.foldl_cons]
    by_cases c : x < f
    · have e : less1 (some f) x = some x := if_pos c
      rw [e]
      exact fold_none l x
    · have e : less1 (some f) x = some f := if_neg c
      rw [e]
      exact fold_none l f
theorem least_none {l : List Rat} : leastQ l = none ↔ l = [] := by
  cases l with
  | nil => exact ⟨fun _ => rfl, fun _ => rfl⟩
  | cons x l =>
    constructor
    · intro h
      exact absurd h (fold_none l x)
    · intro h
      cases h
theorem mem_jn {l : List (Option Rat)} {q : Rat} : q ∈ l.filterMap id ↔ some q ∈ l := by
  rw [List.mem_filterMap]
  constructor
  · rintro ⟨o, h, e⟩
    have e' : o = some q := e
    rw [← e']
    exact h
  · intro h
    exact ⟨some q, h, rfl⟩
theorem cmng_some {gs : List Bod} {t : Rat} (h : cmng gs = some t) : (∃ k, k + 1 < gs.length ∧ jntQ (bodAt gs k) (bodAt gs (k + 1)) = some t) ∧ ∀ k q, k + 1 < gs.length → jntQ (bodAt gs k) (bodAt gs (k + 1)) = some q → t ≤ q := by
  obtain ⟨h1, h2⟩ := least_some h
  constructor
  · obtain ⟨k, hk, e⟩ := List.mem_iff_getElem.mp (mem_jn.mp h1)
    have lk : k + 1 < gs.length := by rw [jnts_len] at hk; omega
    refine ⟨k, lk, ?_⟩
    have z := jnts_at lk
    rw [List.getElem?_eq_getElem hk, e] at z
    exact (Option.some.inj z).symm
  · intro k q hk hq
    refine h2 q (mem_jn.mpr ?_)
    have z := jnts_at hk
    rw [hq] at z
    exact List.mem_of_getElem? z
theorem jnt_gap {a b : Bod} {q : Rat} (h : jntQ a b = some q) : b.2.1 < a.2.1 ∧ ∀ s, plcQ b s - plcQ a s = (a.2.1 - b.2.1) * (q - s) := by
  unfold jntQ at h
  split at h
  · cases h
  · rename_i c
    injection h with h
    have V : a.2.1 - b.2.1 ≠ 0 := by grind
    refine ⟨by grind, fun s => ?_⟩
    have i := Rat.mul_inv_cancel _ V
    rw [← h, Rat.div_def]
    unfold plcQ
    grind
theorem jnt_not {a b : Bod} (h : jntQ a b = none) : a.2.1 ≤ b.2.1 := by
  unfold jntQ at h
  split at h
  · grind
  · cases h
theorem ord_till {gs : List Bod} {now t : Rat} (o : OrdT gs now) (h : cmng gs = some t) : now < t ∧ (∀ s, now < s → s < t → ∀ k, k + 1 < gs.length → plcQ (bodAt gs k) s < plcQ (bodAt gs (k + 1)) s) ∧ ∀ k, k + 1 < gs.length → plcQ (bodAt gs k) t ≤ plcQ (bodAt gs (k + 1)) t ∧ (plcQ (bodAt gs k) t = plcQ (bodAt gs (k + 1)) t ↔ jntQ (bodAt gs k) (bodAt gs (k + 1)) = some t) := by
  obtain ⟨⟨k0, hk0, e0⟩, low⟩ := cmng_some h
  have later : ∀ k q, k + 1 < gs.length → jntQ (bodAt gs k) (bodAt gs (k + 1)) = some q → now < q := fun k q hk hq => by
    obtain ⟨v, gap⟩ := jnt_gap hq
    have g := gap now
    have pos : 0 < plcQ (bodAt gs (k + 1)) now - plcQ (bodAt gs k) now := by
      rcases o k hk with z | ⟨_, z⟩
      · grind
      · grind
    rw [g] at pos
    by_cases c : now < q
    · exact c
    · exfalso
      have z := Rat.mul_nonneg (show 0 ≤ (bodAt gs k).2.1 - (bodAt gs (k + 1)).2.1 by grind) (show 0 ≤ now - q by grind)
      grind
  have still : ∀ k s, k + 1 < gs.length → jntQ (bodAt gs k) (bodAt gs (k + 1)) = none → now < s → plcQ (bodAt gs k) s < plcQ (bodAt gs (k + 1)) s := fun k s hk hn hs => by
    have v := jnt_not hn
    have e : plcQ (bodAt gs (k + 1)) s - plcQ (bodAt gs k) s = (plcQ (bodAt gs (k + 1)) now - plcQ (bodAt gs k) now) + ((bodAt gs (k + 1)).2.1 - (bodAt gs k).2.1) * (s - now) := by
      unfold plcQ
      grind
    rcases o k hk with z | ⟨z, z2⟩
    · have z3 := Rat.mul_nonneg (show 0 ≤ (bodAt gs (k + 1)).2.1 - (bodAt gs k).2.1 by grind) (show 0 ≤ s - now by grind)
      grind
    · have z3 := Rat.mul_pos (show 0 < (bodAt gs (k + 1)).2.1 - (bodAt gs k).2.1 by grind) (show 0 < s - now by grind)
      grind
  have nt := later k0 t hk0 e0
  refine ⟨nt, fun s s1 s2 k hk => ?_, fun k hk => ?_⟩
  · cases q : jntQ (bodAt gs k) (bodAt gs (k + 1)) with
    | none => exact still k s hk q s1
    | some j =>
      obtain ⟨v, gap⟩ := jnt_gap q
      have tj := low k j hk q
      have z := Rat.mul_pos (show 0 < (bodAt gs k).2.1 - (bodAt gs (k + 1)).2.1 by grind) (show 0 < j - s by grind)
      have g := gap s
      grind
  · cases q : jntQ (bodAt gs k) (bodAt gs (k + 1)) with
    | none =>
      have z := still k t hk q nt
      exact ⟨by grind, fun e => absurd e (by grind), fun e => nomatch e⟩
    | some j =>
      obtain ⟨v, gap⟩ := jnt_gap q
      have tj := low k j hk q
      have g := gap t
      have z := Rat.mul_nonneg (show 0 ≤ (bodAt gs k).2.1 - (bodAt gs (k + 1)).2.1 by grind) (show 0 ≤ j - t by grind)
      refine ⟨by grind, fun e => ?_, fun e => ?_⟩
      · have z0 : ((bodAt gs k).2.1 - (bodAt gs (k + 1)).2.1) * (j - t) = 0 := by grind
        rcases Rat.mul_eq_zero.mp z0 with y | y
        · grind
        · rw [show j = t by grind]
      · injection e with e
        rw [e] at g
        grind
theorem mem_lefts {gs : List Bod} {t : Rat} (h : cmng gs = some t) {i : Nat} : i ∈ leftsQ gs ↔ i + 1 < gs.length ∧ jntQ (bodAt gs i) (bodAt gs (i + 1)) = some t := by
  constructor
  · intro hi
    obtain ⟨h1, h2⟩ := lefts_lt hi
    rw [jnts_at h1, h] at h2
    exact ⟨h1, Option.some.inj h2⟩
  · rintro ⟨h1, h2⟩
    rw [lefts_is, if_neg (by rw [h]; exact fun z => nomatch z), List.mem_filter, List.mem_range, jnts_len]
    refine ⟨by omega, decide_eq_true ?_⟩
    rw [jnts_at h1, h2, h]
end Kw
set_option Elab.async false
set_option linter.all false
set_option maxRecDepth 100000
set_option maxHeartbeats 4000000
namespace Kw
open PySem PySem.Spec PyProof.Rows L2
section
variable {X : Cx}
noncomputable def rCatA (K : PySem.W.Frag) : R2 := fun x y H Q => ∃ a b xs ys, x = .ref a ∧ y = .ref b ∧ SqT K H a xs ∧ SqT K H b ys ∧ xs.length + ys.length ≤ sizeLine ∧
  (xs = [] → Q (.ref b) H) ∧ (xs ≠ [] → ys = [] → Q (.ref a) H) ∧ (xs ≠ [] → ys ≠ [] → ∀ p, H p = none → Q (.ref p) (upd H p (.tup (xs ++ ys))))
theorem op_catA : OpR X (binaryOp .Add) (rCatA X.K) := by
  intro pins s σ H x y v u Q I rx ry h
  obtain ⟨a, b, xs, ys, rfl, rfl, ha, hb, hz, q0, q1, q2⟩ := h
  by_cases hx : xs = []
  · subst hx
    cases rx
    cases ry
    obtain ⟨its, r1, p1, _⟩ := I.tuple ha
    obtain ⟨its2, r2, p2, _⟩ := I.tuple hb
    cases r1
    obtain ⟨⟨cls, dd, data, sl⟩, ho, hc, n, hd⟩ := id p1
    obtain ⟨⟨cls2, dd2, data2, sl2⟩, ho2, hc2, n2, hd2⟩ := id p2
    simp only at hc hd hc2 hd2
    subst hc hd hc2 hd2
    exact concat_meets ⟨_, ho, rfl⟩ ⟨_, ho2, rfl⟩ noFill_tuple_add seq_tuple_add PySem.F.slot_tuple_add PySem.F.entry_tuple_add (PySem.F.args_tuple_add_2 _ _)
      (tuple_addW0 a b #[] its2.toArray n n2 dd dd2 sl sl2 (by simp)) ⟨ho, ho2, ⟨.ref b, H, I, rfl, q0 rfl⟩⟩
  · exact op_catT pins s σ H _ _ v u Q I rx ry ⟨a, b, xs, ys, rfl, rfl, ha, hb, hx, hz, q1 hx, q2 hx⟩
theorem op_catAK {K : PySem.W.Frag} (h : X.K = K) : OpR X (binaryOp .Add) (rCatA K) := h ▸ op_catA
theorem sl_tupK {K : PySem.W.Frag} (h : X.K = K) : SlR X (rSlT K) := h ▸ sl_tup
end
section
variable {K : PySem.W.Frag} {idx : List Nat} {te : TE} {σ : L2.St} {H : Hp} {Q : VK}
end
end Kw
set_option Elab.async false
set_option linter.all false
set_option maxRecDepth 100000
set_option maxHeartbeats 4000000
namespace Kw
open PySem PySem.Spec PyProof.Rows L2
end Kw
set_option Elab.async false
set_option linter.all false
set_option maxRecDepth 100000
set_option maxHeartbeats 4000000
namespace Kw
open PySem PySem.Spec PyProof.Rows L2
end Kw
set_option Elab.async false
set_option linter.all false
set_option maxRecDepth 100000
set_option maxHeartbeats 4000000
namespace Kw
open PySem PySem.Spec PyProof.Rows L2
section
variable {s : Rat}
end
theorem lefts_meet {gs : List Bod} {now t : Rat} (o : OrdT gs now) (h : cmng gs = some t) : leftsQ gs = (List.range (gs.length - 1)).filter fun k => decide (plcQ (bodAt gs k) t = plcQ (bodAt gs (k + 1)) t) := by
  rw [lefts_is, if_neg (by rw [h]; exact fun z => (nomatch z)), jnts_len]
  refine List.filter_congr fun k hk => ?_
  have lt : k + 1 < gs.length := by have := List.mem_range.mp hk; omega
  refine decide_eq_decide.mpr ?_
  rw [jnts_at lt, h, ((ord_till o h).2.2 k lt).2]
  exact ⟨fun z => by injection z, fun z => by rw [z]⟩
end Kw
set_option Elab.async false
set_option linter.all false
set_option maxRecDepth 100000
set_option maxHeartbeats 4000000
namespace Kw
open PySem PySem.Spec PyProof.Rows L2
variable {X : Cx} {pos : Pos}
end Kw
set_option Elab.async false
set_option linter.all false
set_option maxRecDepth 100000
set_option maxHeartbeats 4000000
namespace Kw
open PySem PySem.Spec PyProof.Rows L2
end Kw
set_option Elab.async false
set_option linter.all false
set_option maxRecDepth 100000
set_option maxHeartbeats 4000000
namespace Kw
open PySem PySem.Spec PyProof.Rows L2
end Kw
set_option Elab.async false
set_option linter.all false
set_option maxRecDepth 100000
set_option maxHeartbeats 4000000
namespace Kw
open PySem PySem.Spec PyProof.Rows L2
section
variable {K : PySem.W.Frag} {H : Hp}
end
end Kw
set_option Elab.async false
set_option linter.all false
set_option maxRecDepth 100000
set_option maxHeartbeats 4000000
namespace Kw
open PySem PySem.Spec PyProof.Rows L2
end Kw
set_option Elab.async false
set_option linter.all false
set_option maxRecDepth 100000
set_option maxHeartbeats 4000000
namespace Kw
open PySem PySem.Spec PyProof.Rows L2
section
variable {t : Rat} {gs : List Bod} {now : Rat} {n : Nat} {ms : List (Rat × Rat × Nat)} {b : Bool} {es : List Bod} {last : Rat}
end
section
variable {gs : List Bod} {now : Rat} {n : Nat} {cs : List Rat} {b : Bool}
end
end Kw
set_option Elab.async false
set_option linter.all false
set_option maxRecDepth 100000
set_option maxHeartbeats 4000000
namespace Kw
open PySem PySem.Spec PyProof.Rows L2
section
variable {X : Cx}
end
end Kw
set_option Elab.async false
set_option linter.all false
set_option maxRecDepth 100000
set_option maxHeartbeats 4000000
namespace Kw
open PySem PySem.Spec PyProof.Rows L2
section
variable {K : PySem.W.Frag} {H H' : Hp} {v : V} {m : Pm} {as : List Addr}
end
end Kw
set_option Elab.async false
set_option linter.all false
set_option maxRecDepth 100000
set_option maxHeartbeats 4000000
namespace Kw
open PySem PySem.Spec PyProof.Rows L2
theorem ord_stay {gs : List Bod} {now s : Rat} (o : OrdT gs now) (l : now ≤ s) (h : ∀ c, cmng gs = some c → s < c) : OrdT gs s := fun k hk => by
  by_cases e : now = s
  · rw [← e]
    exact o k hk
  have lt : now < s := by grind
  cases q : cmng gs with
  | some c => exact .inl ((ord_till o q).2.1 s lt (h c q) k hk)
  | none =>
    left
    have jn : jntQ (bodAt gs k) (bodAt gs (k + 1)) = none := by
      cases jq : jntQ (bodAt gs k) (bodAt gs (k + 1)) with
      | none => rfl
      | some x =>
        have z := jnts_at hk
        rw [jq] at z
        have m : x ∈ (jnts gs).filterMap id := mem_jn.mpr (List.mem_of_getElem? z)
        have e0 : (jnts gs).filterMap id = [] := least_none.mp q
        rw [e0] at m
        cases m
    have v := jnt_not jn
    have e : plcQ (bodAt gs (k + 1)) s - plcQ (bodAt gs k) s = (plcQ (bodAt gs (k + 1)) now - plcQ (bodAt gs k) now) + ((bodAt gs (k + 1)).2.1 - (bodAt gs k).2.1) * (s - now) := by
      unfold plcQ
      grind
    rcases o k hk with z | ⟨z, z2⟩
    · have z3 := Rat.mul_nonneg (show 0 ≤ (bodAt gs (k + 1)).2.1 - (bodAt gs k).2.1 by grind) (show 0 ≤ s - now by grind)
      grind
    · have z3 := Rat.mul_pos (show 0 < (bodAt gs (k + 1)).2.1 - (bodAt gs k).2.1 by grind) (show 0 < s - now by grind)
      grind
section
variable {t : Rat} {gs : List Bod} {now : Rat} {n : Nat} {ms : List (Rat × Rat × Nat)} {b : Bool} {es : List Bod} {last : Rat}
end
end Kw
set_option Elab.async false
set_option linter.all false
set_option maxRecDepth 100000
set_option maxHeartbeats 4000000
namespace Kw
open PySem PySem.Spec PyProof.Rows L2
section
variable {gs : List Bod} {now : Rat} {n : Nat} {wd : String} {ms : List (Rat × Rat × Nat)} {es : List Bod} {last : Rat}
end
section
variable {gs : List Bod} {now : Rat} {n : Nat} {wd : String} {ms : List (Rat × Rat × Nat)} {es : List Bod} {last : Rat}
end
end Kw
set_option Elab.async false
set_option linter.all false
set_option maxRecDepth 100000
set_option maxHeartbeats 4000000
namespace Kw
open PySem PySem.Spec PyProof.Rows L2
end Kw
set_option Elab.async false
set_option linter.all false
set_option maxRecDepth 100000
set_option maxHeartbeats 4000000
namespace Kw
open PySem PySem.Spec PyProof.Rows L2
end Kw
set_option Elab.async false
set_option linter.all false
set_option maxRecDepth 100000
set_option maxHeartbeats 4000000
namespace Kw
open PySem PySem.Spec PyProof.Rows L2
section
variable {t : Rat}
end
end Kw
set_option Elab.async false
set_option linter.all false
set_option maxRecDepth 100000
set_option maxHeartbeats 4000000
namespace Kw
open PySem PySem.Spec PyProof.Rows L2
end Kw
set_option Elab.async false
set_option linter.all false
set_option maxRecDepth 100000
set_option maxHeartbeats 4000000
namespace Kw
open PySem PySem.Spec PyProof.Rows L2
end Kw
set_option Elab.async false
set_option linter.all false
set_option maxRecDepth 100000
set_option maxHeartbeats 4000000
namespace Kw
open PySem PySem.Spec PyProof.Rows L2
noncomputable def sW (ps : List Bod) : Int := (ps.map fun b => b.2.2).foldr (· + ·) 0
noncomputable def sX (ps : List Bod) : Rat := (ps.map fun b => ((b.2.2 : Int) : Rat) * b.1).foldr (· + ·) 0
noncomputable def sV (ps : List Bod) : Rat := (ps.map fun b => ((b.2.2 : Int) : Rat) * b.2.1).foldr (· + ·) 0
theorem sW_cons (b : Bod) (ps : List Bod) : sW (b :: ps) = b.2.2 + sW ps := rfl
theorem sX_cons (b : Bod) (ps : List Bod) : sX (b :: ps) = ((b.2.2 : Int) : Rat) * b.1 + sX ps := rfl
theorem sV_cons (b : Bod) (ps : List Bod) : sV (b :: ps) = ((b.2.2 : Int) : Rat) * b.2.1 + sV ps := rfl
theorem sW_app (ps qs : List Bod) : sW (ps ++ qs) = sW ps + sW qs := by
  induction ps with
  | nil => show sW qs = 0 + sW qs; omega
  | cons b ps ih => rw [List.cons_append, sW_cons, sW_cons, ih]; omega
theorem sX_app (ps qs : List Bod) : sX (ps ++ qs) = sX ps + sX qs := by
  induction ps with
  | nil => show sX qs = 0 + sX qs; grind
  | cons b ps ih => rw [List.cons_append, sX_cons, sX_cons, ih]; grind
theorem sV_app (ps qs : List Bod) : sV (ps ++ qs) = sV ps + sV qs := by
  induction ps with
  | nil => show sV qs = 0 + sV qs; grind
  | cons b ps ih => rw [List.cons_append, sV_cons, sV_cons, ih]; grind
noncomputable def meanB (ps : List Bod) : Bod := (sX ps / ((sW ps : Int) : Rat), sV ps / ((sW ps : Int) : Rat), sW ps)
theorem sW_pos : ∀ {ps : List Bod}, ps ≠ [] → (∀ b ∈ ps, 1 ≤ b.2.2) → 1 ≤ sW ps
  | [], h, _ => absurd rfl h
  | [b], _, hw => by
    have := hw b (List.mem_cons_self ..)
    show 1 ≤ b.2.2 + 0
    omega
  | b :: c :: ps, _, hw => by
    have := hw b (List.mem_cons_self ..)
    have := sW_pos (ps := c :: ps) (fun z => nomatch z) fun d hd => hw d (List.mem_cons_of_mem _ hd)
    rw [sW_cons]
    omega
theorem mean_mul {ps : List Bod} (h : 1 ≤ sW ps) : ((sW ps : Int) : Rat) * (meanB ps).1 = sX ps ∧ ((sW ps : Int) : Rat) * (meanB ps).2.1 = sV ps := by
  have n : ((sW ps : Int) : Rat) ≠ 0 := fun z => by
    have z2 : ((sW ps : Int) : Rat) = ((0 : Int) : Rat) := z
    have := Rat.intCast_inj.mp z2
    omega
  have i := Rat.mul_inv_cancel _ n
  constructor
  · show _ * (sX ps / _) = _
    rw [Rat.div_def]
    grind
  · show _ * (sV ps / _) = _
    rw [Rat.div_def]
    grind
theorem mean_one {b : Bod} (h : 1 ≤ b.2.2) : meanB [b] = b := by
  have n : ((b.2.2 : Int) : Rat) ≠ 0 := fun z => by
    have z2 : ((b.2.2 : Int) : Rat) = ((0 : Int) : Rat) := z
    have := Rat.intCast_inj.mp z2
    omega
  have i := Rat.mul_inv_cancel _ n
  have e : sW [b] = b.2.2 := by show b.2.2 + 0 = _; omega
  have e1 : sX [b] = ((b.2.2 : Int) : Rat) * b.1 := by show _ + 0 = _; grind
  have e2 : sV [b] = ((b.2.2 : Int) : Rat) * b.2.1 := by show _ + 0 = _; grind
  unfold meanB
  rw [e, e1, e2, Rat.div_def, Rat.div_def]
  obtain ⟨x, v, m⟩ := b
  dsimp only at *
  rw [show (m : Rat) * x * (m : Rat)⁻¹ = x by grind, show (m : Rat) * v * (m : Rat)⁻¹ = v by grind]
theorem mean_flat : ∀ {ss : List (List Bod)}, (∀ s ∈ ss, 1 ≤ sW s) → sW (ss.map meanB) = sW ss.flatten ∧ sX (ss.map meanB) = sX ss.flatten ∧ sV (ss.map meanB) = sV ss.flatten
  | [], _ => ⟨rfl, rfl, rfl⟩
  | s :: ss, h => by
    have ih := mean_flat (ss := ss) fun t ht => h t (List.mem_cons_of_mem _ ht)
    have m := mean_mul (h s (List.mem_cons_self ..))
    rw [List.flatten_cons, List.map_cons, sW_cons, sX_cons, sV_cons, sW_app, sX_app, sV_app, ih.1, ih.2.1, ih.2.2]
    exact ⟨rfl, by show ((sW s : Int) : Rat) * (meanB s).1 + _ = _; rw [m.1], by show ((sW s : Int) : Rat) * (meanB s).2.1 + _ = _; rw [m.2]⟩
theorem mean_mean {ss : List (List Bod)} (h : ∀ s ∈ ss, 1 ≤ sW s) : meanB (ss.map meanB) = meanB ss.flatten := by
  obtain ⟨h1, h2, h3⟩ := mean_flat h
  show (sX (ss.map meanB) / ((sW (ss.map meanB) : Int) : Rat), sV (ss.map meanB) / ((sW (ss.map meanB) : Int) : Rat), sW (ss.map meanB)) = meanB ss.flatten
  rw [h1, h2, h3]
  rfl
noncomputable def stk : List Bool → List (List Bod) → List (List Bod)
  | [], ss => ss
  | j :: js, ss => match ss with
    | s :: t :: rest => if j = true then stk js ((s ++ t) :: rest) else s :: stk js (t :: rest)
    | ss => ss
theorem stk_flat : ∀ (js : List Bool) (ss : List (List Bod)), (stk js ss).flatten = ss.flatten
  | [], ss => rfl
  | j :: js, [] => rfl
  | j :: js, [s] => rfl
  | j :: js, s :: t :: rest => by
    show (if j = true then stk js ((s ++ t) :: rest) else s :: stk js (t :: rest)).flatten = _
    cases j with
    | true =>
      rw [if_pos rfl, stk_flat js]
      simp
    | false =>
      rw [if_neg (by decide), List.flatten_cons, stk_flat js, List.flatten_cons, List.flatten_cons, List.flatten_cons]
theorem stk_ne : ∀ (js : List Bool) (ss : List (List Bod)), (∀ s ∈ ss, s ≠ []) → ∀ s ∈ stk js ss, s ≠ []
  | [], ss, h => h
  | j :: js, [], h => h
  | j :: js, [s], h => h
  | j :: js, s :: t :: rest, h => by
    show ∀ s' ∈ (if j = true then stk js ((s ++ t) :: rest) else s :: stk js (t :: rest)), s' ≠ []
    have hs := h s (List.mem_cons_self ..)
    cases j with
    | true =>
      rw [if_pos rfl]
      refine stk_ne js _ fun s' hs' => ?_
      rcases List.mem_cons.mp hs' with rfl | z
      · intro e
        exact hs (List.append_eq_nil_iff.mp e).1
      · exact h s' (List.mem_cons_of_mem _ (List.mem_cons_of_mem _ z))
    | false =>
      rw [if_neg (by decide)]
      intro s' hs'
      rcases List.mem_cons.mp hs' with rfl | z
      · exact hs
      · exact stk_ne js _ (fun s'' hs'' => h s'' (List.mem_cons_of_mem _ hs'')) s' z
theorem stk_len : ∀ (js : List Bool) (ss : List (List Bod)), js.length + 1 = ss.length → (stk js ss).length = ss.length - (js.filter id).length
  | [], ss, h => by
    show ss.length = _ - 0
    omega
  | j :: js, [], h => by simp at h
  | j :: js, [s], h => by simp at h
  | j :: js, s :: t :: rest, h => by
    show (if j = true then stk js ((s ++ t) :: rest) else s :: stk js (t :: rest)).length = _
    have hl : js.length + 1 = rest.length + 1 := by simpa using h
    have fl := List.length_filter_le id js
    cases j with
    | true =>
      rw [if_pos rfl, stk_len js _ (by simpa using hl)]
      simp
    | false =>
      rw [if_neg (by decide), List.length_cons, stk_len js _ (by simpa using hl)]
      simp
      omega
theorem mean_plc {ps : List Bod} (h : 1 ≤ sW ps) (T : Rat) : ((sW ps : Int) : Rat) * plcQ (meanB ps) T = sX ps + sV ps * T := by
  obtain ⟨h1, h2⟩ := mean_mul h
  unfold plcQ
  have e : ((sW ps : Int) : Rat) * ((meanB ps).1 + (meanB ps).2.1 * T) = ((sW ps : Int) : Rat) * (meanB ps).1 + ((sW ps : Int) : Rat) * (meanB ps).2.1 * T := by grind
  rw [e, h1, h2]
theorem plc_app {s u : List Bod} {T p : Rat} (hs : 1 ≤ sW s) (hu : 1 ≤ sW u) (es : plcQ (meanB s) T = p) (eu : plcQ (meanB u) T = p) : plcQ (meanB (s ++ u)) T = p := by
  have h : 1 ≤ sW (s ++ u) := by rw [sW_app]; omega
  have m := mean_plc h T
  have ms := mean_plc hs T
  have mu := mean_plc hu T
  rw [es] at ms
  rw [eu] at mu
  rw [sX_app, sV_app, sW_app, Rat.intCast_add] at m
  have n : ((sW s : Int) : Rat) + ((sW u : Int) : Rat) ≠ 0 := fun z => by
    have z2 : ((sW s + sW u : Int) : Rat) = ((0 : Int) : Rat) := by rw [Rat.intCast_add]; exact z
    have := Rat.intCast_inj.mp z2
    omega
  have i := Rat.mul_inv_cancel _ n
  have e : (((sW s : Int) : Rat) + ((sW u : Int) : Rat)) * plcQ (meanB (s ++ u)) T = (((sW s : Int) : Rat) + ((sW u : Int) : Rat)) * p := by grind
  generalize ((sW s : Int) : Rat) + ((sW u : Int) : Rat) = c at n i e
  have e2 : c⁻¹ * (c * plcQ (meanB (s ++ u)) T) = c⁻¹ * (c * p) := by rw [e]
  grind
noncomputable def jsT (T : Rat) : List (List Bod) → List Bool
  | s :: u :: rest => decide (plcQ (meanB s) T = plcQ (meanB u) T) :: jsT T (u :: rest)
  | _ => []
theorem jsT_len (T : Rat) : ∀ (ss : List (List Bod)), (jsT T ss).length = ss.length - 1
  | [] => rfl
  | [s] => rfl
  | s :: u :: rest => by
    show (jsT T (u :: rest)).length + 1 = _
    rw [jsT_len T (u :: rest)]
    simp
theorem jsT_head {T : Rat} {s s' : List Bod} (e : plcQ (meanB s) T = plcQ (meanB s') T) : ∀ (rest : List (List Bod)), jsT T (s :: rest) = jsT T (s' :: rest)
  | [] => rfl
  | u :: rest => by
    show decide (plcQ (meanB s) T = plcQ (meanB u) T) :: jsT T (u :: rest) = decide (plcQ (meanB s') T = plcQ (meanB u) T) :: jsT T (u :: rest)
    rw [e]
theorem stk_sort (T : Rat) : ∀ (rest : List (List Bod)) (s : List Bod), (∀ u ∈ s :: rest, 1 ≤ sW u) → (s :: rest).Pairwise (fun a b => plcQ (meanB a) T ≤ plcQ (meanB b) T) → (stk (jsT T (s :: rest)) (s :: rest)).Pairwise (fun a b => plcQ (meanB a) T < plcQ (meanB b) T) ∧ ∀ u ∈ stk (jsT T (s :: rest)) (s :: rest), plcQ (meanB s) T ≤ plcQ (meanB u) T
  | [], s, _, _ => ⟨List.pairwise_singleton _ _, fun u hu => by rw [List.mem_singleton.mp hu]; exact Rat.le_refl⟩
  | u :: rest, s, hw, hp => by
    obtain ⟨p1, p2⟩ := List.pairwise_cons.mp hp
    have le := p1 u (List.mem_cons_self ..)
    have ws := hw s (List.mem_cons_self ..)
    have wu := hw u (List.mem_cons_of_mem _ (List.mem_cons_self ..))
    by_cases c : plcQ (meanB s) T = plcQ (meanB u) T
    · have e : stk (jsT T (s :: u :: rest)) (s :: u :: rest) = stk (jsT T ((s ++ u) :: rest)) ((s ++ u) :: rest) := by
        show stk (decide (plcQ (meanB s) T = plcQ (meanB u) T) :: jsT T (u :: rest)) (s :: u :: rest) = _
        rw [decide_eq_true c]
        show stk (jsT T (u :: rest)) ((s ++ u) :: rest) = _
        rw [jsT_head (s := u) (s' := s ++ u) (plc_app ws wu c rfl).symm]
      have pu := plc_app ws wu c rfl
      have z := stk_sort T rest (s ++ u) (fun x hx => by
        rcases List.mem_cons.mp hx with rfl | y
        · rw [sW_app]; omega
        · exact hw x (List.mem_cons_of_mem _ (List.mem_cons_of_mem _ y))) (List.pairwise_cons.mpr ⟨fun x hx => by
          rw [pu]
          exact (List.pairwise_cons.mp p2).1 x hx, (List.pairwise_cons.mp p2).2⟩)
      rw [e]
      refine ⟨z.1, fun x hx => ?_⟩
      have := z.2 x hx
      rw [pu] at this
      rw [c]
      exact this
    · have e : stk (jsT T (s :: u :: rest)) (s :: u :: rest) = s :: stk (jsT T (u :: rest)) (u :: rest) := by
        show stk (decide (plcQ (meanB s) T = plcQ (meanB u) T) :: jsT T (u :: rest)) (s :: u :: rest) = _
        rw [decide_eq_false c]
        rfl
      have z := stk_sort T rest u (fun x hx => hw x (List.mem_cons_of_mem _ hx)) p2
      rw [e]
      refine ⟨List.pairwise_cons.mpr ⟨fun x hx => ?_, z.1⟩, fun x hx => ?_⟩
      · have := z.2 x hx
        grind
      · rcases List.mem_cons.mp hx with rfl | y
        · exact Rat.le_refl
        · have := z.2 x y
          grind
theorem pair_of {α : Type} (f : α → Rat) : ∀ (l : List α), (∀ k x y, l[k]? = some x → l[k + 1]? = some y → f x ≤ f y) → l.Pairwise (fun a b => f a ≤ f b)
  | [], _ => List.Pairwise.nil
  | [a], _ => List.pairwise_singleton _ _
  | a :: b :: l, h => by
    have ih := pair_of f (b :: l) fun k x y hx hy => h (k + 1) x y hx hy
    have ab := h 0 a b rfl rfl
    refine List.pairwise_cons.mpr ⟨fun c hc => ?_, ih⟩
    rcases List.mem_cons.mp hc with rfl | hc
    · exact ab
    · have := (List.pairwise_cons.mp ih).1 c hc
      grind
theorem bod_map {ss : List (List Bod)} {k : Nat} {s : List Bod} (h : ss[k]? = some s) : bodAt (ss.map meanB) k = meanB s := bodAt_of (by rw [List.getElem?_map, h]; rfl)
theorem jsT_is (T : Rat) : ∀ (ss : List (List Bod)), jsT T ss = (List.range (ss.length - 1)).map fun k => decide (plcQ (bodAt (ss.map meanB) k) T = plcQ (bodAt (ss.map meanB) (k + 1)) T)
  | [] => rfl
  | [s] => rfl
  | s :: u :: rest => by
    show decide (plcQ (meanB s) T = plcQ (meanB u) T) :: jsT T (u :: rest) = _
    rw [jsT_is T (u :: rest)]
    have e : (s :: u :: rest).length - 1 = ((u :: rest).length - 1) + 1 := by simp
    rw [e, List.range_succ_eq_map]
    show _ = decide (plcQ (meanB s) T = plcQ (meanB u) T) :: ((List.range ((u :: rest).length - 1)).map Nat.succ).map (fun k => decide (plcQ (bodAt ((s :: u :: rest).map meanB) k) T = plcQ (bodAt ((s :: u :: rest).map meanB) (k + 1)) T))
    rw [List.map_map]
    rfl
theorem flags_is {ss : List (List Bod)} {now T : Rat} (o : OrdT (ss.map meanB) now) (h : cmng (ss.map meanB) = some T) : (List.range (ss.length - 1)).map (fun k => decide ((jnts (ss.map meanB))[k]? = some (some T))) = jsT T ss := by
  rw [jsT_is]
  refine List.map_congr_left fun k hk => ?_
  have lk := List.mem_range.mp hk
  have ll : (ss.map meanB).length = ss.length := List.length_map _
  have lm := lefts_meet o h
  have m1 : k ∈ leftsQ (ss.map meanB) ↔ plcQ (bodAt (ss.map meanB) k) T = plcQ (bodAt (ss.map meanB) (k + 1)) T := by
    rw [lm, List.mem_filter, List.mem_range, decide_eq_true_iff]
    exact ⟨fun z => z.2, fun z => ⟨by omega, z⟩⟩
  have m2 := mem_lefts h (i := k)
  rw [jnts_at (by omega)]
  refine decide_eq_decide.mpr ⟨fun z => m1.mp (m2.mpr ⟨by omega, Option.some.inj z⟩), fun z => ?_⟩
  rw [(m2.mp (m1.mpr z)).2]
noncomputable def stkS (T : Rat) (ss : List (List Bod)) : List (List Bod) := stk (jsT T ss) ss
theorem sum_com {D : Nat} (d1 : 1 ≤ D) (f : Bod → Rat) : ∀ (s : List Bod), (∀ b ∈ s, ∃ n : Int, f b = (n : Rat) / (D : Rat) ∧ n.natAbs < 2 ^ 30) → (∀ b ∈ s, 1 ≤ b.2.2 ∧ b.2.2 ≤ 80) → ∃ N : Int, (s.map fun b => ((b.2.2 : Int) : Rat) * f b).foldr (· + ·) 0 = (N : Rat) / (D : Rat) ∧ N.natAbs ≤ s.length * (80 * 2 ^ 30)
  | [], _, _ => ⟨0, by
      show (0 : Rat) = _
      rw [Rat.div_def]
      show (0 : Rat) = ((0 : Int) : Rat) * _
      have : ((0 : Int) : Rat) = 0 := rfl
      rw [this, Rat.zero_mul], by simp⟩
  | b :: s, h, hw => by
    obtain ⟨N, e, l⟩ := sum_com d1 f s (fun c hc => h c (List.mem_cons_of_mem _ hc)) fun c hc => hw c (List.mem_cons_of_mem _ hc)
    obtain ⟨n, en, ln⟩ := h b (List.mem_cons_self ..)
    obtain ⟨w1, w2⟩ := hw b (List.mem_cons_self ..)
    refine ⟨b.2.2 * n + N, ?_, ?_⟩
    · show ((b.2.2 : Int) : Rat) * f b + (s.map fun b => ((b.2.2 : Int) : Rat) * f b).foldr (· + ·) 0 = _
      rw [e, en, Rat.intCast_add, Rat.intCast_mul, Rat.div_def, Rat.div_def, Rat.div_def]
      grind
    · have a1 : (b.2.2 * n).natAbs ≤ 80 * 2 ^ 30 := by
        rw [Int.natAbs_mul]
        exact Nat.mul_le_mul (by omega) (by omega)
      have a2 := Int.natAbs_add_le (b.2.2 * n) N
      rw [List.length_cons, Nat.add_mul]
      omega
theorem sW_le : ∀ (s : List Bod), (∀ b ∈ s, 1 ≤ b.2.2 ∧ b.2.2 ≤ 80) → sW s ≤ s.length * 80
  | [], _ => by show (0 : Int) ≤ _; omega
  | b :: s, h => by
    have := sW_le s fun c hc => h c (List.mem_cons_of_mem _ hc)
    have := h b (List.mem_cons_self ..)
    rw [sW_cons, List.length_cons]
    omega
theorem mean_fb {bs s : List Bod} (com : Com 30 bs) (sub : ∀ b ∈ s, b ∈ bs) (hw : ∀ b ∈ s, 1 ≤ b.2.2 ∧ b.2.2 ≤ 80) (l12 : s.length ≤ 12) (ne : s ≠ []) : FB 40 (meanB s).1 ∧ FB 40 (meanB s).2.1 := by
  obtain ⟨D, d1, dB, al⟩ := com
  have wp := sW_pos ne fun b hb => (hw b hb).1
  have wl := sW_le s hw
  obtain ⟨W, eW⟩ : ∃ W : Nat, sW s = (W : Int) := ⟨(sW s).toNat, by omega⟩
  have one : ∀ {N : Int} {x : Rat}, x = (N : Rat) / (D : Rat) → N.natAbs ≤ s.length * (80 * 2 ^ 30) → FB 40 (x / ((sW s : Int) : Rat)) := fun {N x} e l => by
    have dn : ((D : Nat) : Rat) ≠ 0 := rat_ne d1
    have wn : (((W : Nat) : Int) : Rat) ≠ 0 := fun z => by
      have z2 : (((W : Nat) : Int) : Rat) = ((0 : Int) : Rat) := z
      have := Rat.intCast_inj.mp z2
      omega
    have v : x / ((sW s : Int) : Rat) = Rat.divInt N ((D : Int) * (W : Int)) := by
      rw [e, eW, q_dv, Rat.intCast_mul, Rat.div_def, Rat.div_def, Rat.div_def]
      have dc : (((D : Nat) : Int) : Rat) = ((D : Nat) : Rat) := rfl
      rw [dc, inv_two dn wn]
      grind
    rw [v]
    have dw : D * W ≤ 2 ^ 30 * 960 := Nat.mul_le_mul (by omega) (by omega)
    have dw0 : 1 ≤ D * W := Nat.mul_pos (by omega) (by omega)
    have ec : (D : Int) * (W : Int) = ((D * W : Nat) : Int) := by rw [Int.natCast_mul]
    rw [ec]
    have nl : N.natAbs ≤ 12 * (80 * 2 ^ 30) := Nat.le_trans l (Nat.mul_le_mul_right _ l12)
    refine FB.fit (by omega) ?_ ?_
    · show N.natAbs < 2 ^ 40
      omega
    · show (((D * W : Nat) : Int)).natAbs < 2 ^ 40
      rw [Int.natAbs_natCast]
      omega
  obtain ⟨N, e, l⟩ := sum_com d1 (fun b => b.1) s (fun b hb => by
    obtain ⟨n, k, e1, _, l1, _⟩ := al b (sub b hb)
    exact ⟨n, e1, l1⟩) hw
  obtain ⟨M, e', l'⟩ := sum_com d1 (fun b => b.2.1) s (fun b hb => by
    obtain ⟨n, k, _, e2, _, l2⟩ := al b (sub b hb)
    exact ⟨k, e2, l2⟩) hw
  exact ⟨one e l, one e' l'⟩
section
variable {α : Type}
noncomputable def gAdd (G : List (List α)) (j : Bool) (c : α) : List (List α) := if j = true then G.dropLast ++ [(G.getLast?.getD []) ++ [c]] else G ++ [[c]]
noncomputable def grp (c0 : α) (l : List (Bool × α)) : List (List α) := l.foldl (fun G x => gAdd G x.1 x.2) [[c0]]
theorem gAdd_app (A : List (List α)) (g : List α) (j : Bool) (c : α) : gAdd (A ++ [g]) j c = A ++ gAdd [g] j c := by
  unfold gAdd
  cases j with
  | true => simp
  | false => simp
theorem grp_app : ∀ (l : List (Bool × α)) (A : List (List α)) (g : List α), l.foldl (fun G x => gAdd G x.1 x.2) (A ++ [g]) = A ++ l.foldl (fun G x => gAdd G x.1 x.2) [g]
  | [], _, _ => rfl
  | (j, c) :: l, A, g => by
    rw [List.foldl_cons, List.foldl_cons]
    show l.foldl _ (gAdd (A ++ [g]) j c) = A ++ l.foldl _ (gAdd [g] j c)
    rw [gAdd_app]
    cases j with
    | true =>
      have e : gAdd [g] true c = [g ++ [c]] := by simp [gAdd]
      rw [e, grp_app l A (g ++ [c])]
    | false =>
      have e : gAdd [g] false c = [g] ++ [[c]] := by simp [gAdd]
      rw [e, ← List.append_assoc, grp_app l (A ++ [g]) [c], grp_app l [g] [c], List.append_assoc]
end
end Kw
set_option Elab.async false
set_option linter.all false
set_option maxRecDepth 100000
set_option maxHeartbeats 4000000
namespace Kw
open PySem PySem.Spec PyProof.Rows L2
section
variable {K : PySem.W.Frag} {H H' : Hp} {p b c : Addr} {x y : Rat} {v : V} {ys : List V}
theorem cut_lt {n : Nat} {i : Int} (h : 0 ≤ i) (l : i < (n : Int)) : ¬ (HT.sIx n 0 none = 0 ∧ HT.sIx n n (some i) = n) := fun ⟨_, z⟩ => by
  rw [show i = ((i.toNat : Nat) : Int) by omega, HT.sIx_nat] at z
  omega
theorem cut_gt {n : Nat} {i : Int} (h : 0 < i) (l : 0 < n) : ¬ (HT.sIx n 0 (some i) = 0 ∧ HT.sIx n n none = n) := fun ⟨z, _⟩ => by
  rw [show i = ((i.toNat : Nat) : Int) by omega, HT.sIx_nat] at z
  omega
end
section
variable {X : Cx}
end
section
variable {K : PySem.W.Frag} {H H' : Hp} {b c : Addr} {z : V} {k l : Bx} {ys : List V}
end
end Kw
namespace Kw
end Kw
namespace Kw
open PySem PySem.Spec PyProof.Rows L2
end Kw
namespace Kw
open PySem PySem.Spec PyProof.Rows L2
section
variable {X : Cx} {es1 es2 es3 es4 es5 es6 : List Expr} {x1 x2 x3 x4 x5 x6 : Nat} {q1 q2 q3 q4 q5 q6 q7 pos : Pos} {t1 t2 t3 t4 t5 t6 t7 : TE}
end
end Kw
set_option Elab.async false
set_option linter.all false
set_option maxRecDepth 100000
set_option maxHeartbeats 4000000
namespace Kw
open PySem PySem.Spec PyProof.Rows L2
theorem sum_ints {X : Cx} (hc : X.calm = true) : CallR X (.builtin "sum") (fun xs H Q => ∃ (p : Addr) (ns : List Int), xs = [.ref p] ∧ SqL X.K H p (ns.map V.int) ∧ Q (.int ns.sum) H) := by
  intro pins s σ H xs us Q I r h
  obtain ⟨p, ns, rfl, hq, q⟩ := h
  obtain ⟨u, rfl, rx⟩ := vals1 r
  cases rx
  obtain ⟨its, r', pl, hz⟩ := I.list hq
  have ia := vals_ints r'
  obtain ⟨ts, ets⟩ := ia.allInts.items
  have nums := ia.numsOf
  have pl' : s.heap.IsList p (intItems ts) := by rw [← ets]; exact pl.isList
  refine sum_intListG (I.ok.hd hc) pl' fun h' tk t' k => ⟨_, H, I.kept k, ?_, q⟩
  have e : preSum (numAt ts) ts.size = ns.sum := by
    rw [preSum_eq, List.take_of_length_le (by simp), ← nums_intItems, ← ets, nums]
  rw [e]
  exact ⟨t', rfl⟩
end Kw
set_option Elab.async false
set_option linter.all false
set_option maxRecDepth 100000
set_option maxHeartbeats 4000000
namespace Kw
open PySem PySem.Spec PyProof.Rows L2
noncomputable abbrev Clm := Nat × Nat × Bod
noncomputable def numB : Nat → List (List Bod) → List Clm
  | _, [] => []
  | f, s :: ss => (f, f + s.length - 1, meanB s) :: numB (f + s.length) ss
noncomputable def offB (ss : List (List Bod)) (i : Nat) : Nat := (ss.take i).flatten.length
noncomputable def segB (bs : List Bod) (f l : Nat) : List Bod := (bs.drop f).take (l + 1 - f)
theorem numB_len : ∀ (f : Nat) (ss : List (List Bod)), (numB f ss).length = ss.length
  | _, [] => rfl
  | f, s :: ss => by
    show (numB _ ss).length + 1 = _
    rw [numB_len]
    rfl
theorem numB_go : ∀ (f : Nat) (ss : List (List Bod)), (numB f ss).map (·.2.2) = ss.map meanB
  | _, [] => rfl
  | f, s :: ss => by
    show meanB s :: (numB _ ss).map _ = _
    rw [numB_go]
    rfl
theorem numB_get : ∀ (f : Nat) (ss : List (List Bod)) (i : Nat) (s : List Bod), ss[i]? = some s → (numB f ss)[i]? = some (f + offB ss i, f + offB ss i + s.length - 1, meanB s)
  | _, [], _, _, h => by simp at h
  | f, u :: ss, 0, s, h => by
    have e : u = s := by simpa using h
    subst e
    rfl
  | f, u :: ss, i + 1, s, h => by
    have h' : ss[i]? = some s := by simpa using h
    show (numB (f + u.length) ss)[i]? = _
    rw [numB_get _ ss i s h']
    have e : offB (u :: ss) (i + 1) = u.length + offB ss i := by
      unfold offB
      rw [List.take_succ_cons, List.flatten_cons, List.length_append]
    rw [e, Nat.add_assoc]
theorem off_succ {ss : List (List Bod)} {i : Nat} {s : List Bod} (h : ss[i]? = some s) : offB ss (i + 1) = offB ss i + s.length := by
  unfold offB
  rw [take_snoc h, List.flatten_append, List.length_append]
  simp
theorem off_seg {ss : List (List Bod)} {i : Nat} {s : List Bod} (h : ss[i]? = some s) (ne : s ≠ []) : segB ss.flatten (offB ss i) (offB ss i + s.length - 1) = s ∧ offB ss i + s.length ≤ ss.flatten.length := by
  have hi := (List.getElem?_eq_some_iff.mp h).1
  have e : ss = ss.take i ++ s :: ss.drop (i + 1) := by
    have z := List.take_append_drop i ss
    rw [List.drop_eq_getElem_cons hi] at z
    rw [(List.getElem?_eq_some_iff.mp h).2] at z
    exact z.symm
  have ef : ss.flatten = (ss.take i).flatten ++ (s ++ (ss.drop (i + 1)).flatten) := by
    conv => lhs; rw [e]
    rw [List.flatten_append, List.flatten_cons]
  have pos : 1 ≤ s.length := List.length_pos_iff.mpr ne
  constructor
  · unfold segB
    rw [ef]
    show List.take _ (List.drop (ss.take i).flatten.length _) = s
    rw [List.drop_left']
    · have z : offB ss i + s.length - 1 + 1 - offB ss i = s.length := by omega
      rw [z, List.take_left']
      rfl
    · rfl
  · rw [ef, List.length_append, List.length_append]
    show (ss.take i).flatten.length + _ ≤ _
    omega
theorem seg_ne {bs : List Bod} {f l : Nat} (h : f ≤ l) (hl : l < bs.length) : segB bs f l ≠ [] := fun z => by
  have e : (segB bs f l).length = 0 := by rw [z]; rfl
  unfold segB at e
  rw [List.length_take, List.length_drop] at e
  omega
theorem seg_sub {bs : List Bod} {f l : Nat} : ∀ b ∈ segB bs f l, b ∈ bs := fun b hb => List.mem_of_mem_drop (List.mem_of_mem_take hb)
theorem seg_len (bs : List Bod) (f l : Nat) : (segB bs f l).length ≤ bs.length := by
  unfold segB
  rw [List.length_take, List.length_drop]
  omega
theorem sW_nn : ∀ (ps : List Bod), (∀ b ∈ ps, 1 ≤ b.2.2) → 0 ≤ sW ps
  | [], _ => Int.le_refl 0
  | b :: ps, h => by
    have := sW_nn ps fun c hc => h c (List.mem_cons_of_mem _ hc)
    have := h b (List.mem_cons_self ..)
    rw [sW_cons]
    omega
theorem seg_w {bs : List Bod} (h : ∀ b ∈ bs, 1 ≤ b.2.2) (f l : Nat) : sW (segB bs f l) ≤ sW bs := by
  have e : bs = bs.take f ++ (segB bs f l ++ (bs.drop f).drop (l + 1 - f)) := by
    unfold segB
    rw [List.take_append_drop, List.take_append_drop]
  have a1 := sW_nn (bs.take f) fun b hb => h b (List.mem_of_mem_take hb)
  have a2 := sW_nn ((bs.drop f).drop (l + 1 - f)) fun b hb => h b (List.mem_of_mem_drop (List.mem_of_mem_drop hb))
  have z : sW bs = sW (bs.take f) + (sW (segB bs f l) + sW ((bs.drop f).drop (l + 1 - f))) := by
    conv => lhs; rw [e]
    rw [sW_app, sW_app]
  omega
noncomputable def FitM (B : Nat) (bs : List Bod) : Prop := ∀ f l, f ≤ l → l < bs.length → FB B (meanB (segB bs f l)).1 ∧ FB B (meanB (segB bs f l)).2.1
structure WdB (bs : List Bod) : Prop where
  l12 : bs.length ≤ 12
  w1 : ∀ b ∈ bs, 1 ≤ b.2.2
  wS : sW bs ≤ 10000
  fit : FitM 480 bs
structure StB (bs : List Bod) (ss : List (List Bod)) : Prop where
  flat : ss.flatten = bs
  ne : ∀ s ∈ ss, s ≠ []
theorem StB.get {bs : List Bod} {ss : List (List Bod)} (h : StB bs ss) {i : Nat} {s : List Bod} (hs : ss[i]? = some s) : segB bs (offB ss i) (offB ss i + s.length - 1) = s ∧ offB ss i + s.length ≤ bs.length ∧ 1 ≤ s.length := by
  have ne := h.ne s (List.mem_of_getElem? hs)
  have z := off_seg hs ne
  rw [h.flat] at z
  exact ⟨z.1, z.2, List.length_pos_iff.mpr ne⟩
theorem StB.len {bs : List Bod} {ss : List (List Bod)} (h : StB bs ss) : ss.length ≤ bs.length := by
  have go : ∀ (ss : List (List Bod)), (∀ s ∈ ss, s ≠ []) → ss.length ≤ ss.flatten.length := fun ss => by
    induction ss with
    | nil => intro _; exact Nat.le_refl _
    | cons s ss ih =>
      intro h
      have := ih fun u hu => h u (List.mem_cons_of_mem _ hu)
      have := List.length_pos_iff.mpr (h s (List.mem_cons_self ..))
      rw [List.flatten_cons, List.length_append, List.length_cons]
      omega
  rw [← h.flat]
  exact go ss h.ne
theorem StB.pos {bs : List Bod} {ss : List (List Bod)} (w : WdB bs) (h : StB bs ss) : ∀ s ∈ ss, 1 ≤ sW s := fun s hs => by
  refine sW_pos (h.ne s hs) fun b hb => w.w1 b ?_
  rw [← h.flat]
  exact List.mem_flatten.mpr ⟨s, hs, hb⟩
theorem StB.fits {bs : List Bod} {ss : List (List Bod)} (w : WdB bs) (h : StB bs ss) {i : Nat} {s : List Bod} (hs : ss[i]? = some s) : FB 480 (meanB s).1 ∧ FB 480 (meanB s).2.1 ∧ 1 ≤ (meanB s).2.2 ∧ (meanB s).2.2 ≤ 10000 := by
  obtain ⟨e, l, p⟩ := h.get hs
  have z := w.fit (offB ss i) (offB ss i + s.length - 1) (by omega) (by omega)
  rw [e] at z
  have y := seg_w w.w1 (offB ss i) (offB ss i + s.length - 1)
  rw [e] at y
  have := w.wS
  exact ⟨z.1, z.2, StB.pos w h s (List.mem_of_getElem? hs), show sW s ≤ 10000 by omega⟩
theorem StB.stk {bs : List Bod} {ss : List (List Bod)} (h : StB bs ss) (js : List Bool) : StB bs (stk js ss) := ⟨by rw [stk_flat, h.flat], stk_ne js ss h.ne⟩
theorem StB.one : ∀ (bs : List Bod), StB bs (bs.map fun b => [b]) := fun bs => ⟨by
  induction bs with
  | nil => rfl
  | cons b bs ih => rw [List.map_cons, List.flatten_cons, ih]; rfl, fun s hs => by
  obtain ⟨b, _, rfl⟩ := List.mem_map.mp hs
  exact fun z => nomatch z⟩
theorem off_one : ∀ (bs : List Bod) (i : Nat), i ≤ bs.length → offB (bs.map fun b => [b]) i = i := fun bs i h => by
  unfold offB
  rw [← List.map_take]
  have z : ∀ l : List Bod, (l.map fun b => [b]).flatten.length = l.length := fun l => by
    induction l with
    | nil => rfl
    | cons b l ih => rw [List.map_cons, List.flatten_cons, List.length_append, ih]; simp; omega
  rw [z, List.length_take]
  omega
noncomputable def goC (c : Clm) : Bod := c.2.2
noncomputable def joinC (g : List Clm) : Clm := ((g.headD (0, 0, 0, 0, 1)).1, (g.getLastD (0, 0, 0, 0, 1)).2.1, meanB (g.map goC))
theorem numB_app : ∀ (f : Nat) (ss : List (List Bod)) (u : List Bod), numB f (ss ++ [u]) = numB f ss ++ [(f + ss.flatten.length, f + ss.flatten.length + u.length - 1, meanB u)]
  | f, [], u => rfl
  | f, s :: ss, u => by
    show _ :: numB (f + s.length) (ss ++ [u]) = _
    rw [numB_app (f + s.length) ss u, List.flatten_cons, List.length_append, Nat.add_assoc]
    rfl
theorem numB_last {f : Nat} : ∀ {ss : List (List Bod)}, ss ≠ [] → (∀ s ∈ ss, s ≠ []) → ((numB f ss).getLastD (0, 0, 0, 0, 1)).2.1 = f + ss.flatten.length - 1 := fun {ss} h _ => by
  obtain ⟨a, u, rfl⟩ : ∃ a u, ss = a ++ [u] := ⟨ss.dropLast, ss.getLast h, (List.dropLast_concat_getLast h).symm⟩
  rw [numB_app, List.getLastD_concat, List.flatten_append, List.length_append]
  show f + a.flatten.length + u.length - 1 = f + (a.flatten.length + (u ++ []).length) - 1
  rw [List.append_nil, Nat.add_assoc]
theorem join_num {f : Nat} {gs : List (List Bod)} (h : gs ≠ []) (ne : ∀ s ∈ gs, s ≠ []) (w : ∀ s ∈ gs, 1 ≤ sW s) : joinC (numB f gs) = (f, f + gs.flatten.length - 1, meanB gs.flatten) := by
  unfold joinC
  have e1 : ((numB f gs).headD (0, 0, 0, 0, 1)).1 = f := by
    cases gs with
    | nil => exact absurd rfl h
    | cons s gs => rfl
  have e3 : (numB f gs).map goC = gs.map meanB := numB_go f gs
  rw [e1, numB_last h ne, e3, mean_mean w]
theorem joinC_one {c : Clm} (h : 1 ≤ c.2.2.2.2) : joinC [c] = c := by
  show (c.1, c.2.1, meanB [c.2.2]) = c
  rw [mean_one h]
theorem grp_num : ∀ (js : List Bool) (rest : List (List Bod)) (gs : List (List Bod)) (f : Nat), js.length = rest.length → gs ≠ [] → (∀ s ∈ gs, s ≠ []) → (∀ s ∈ gs, 1 ≤ sW s) → (∀ s ∈ rest, s ≠ []) → (∀ s ∈ rest, 1 ≤ sW s) → ((js.zip (numB (f + gs.flatten.length) rest)).foldl (fun G x => gAdd G x.1 x.2) [numB f gs]).map joinC = numB f (stk js (gs.flatten :: rest)) ∧ ∀ g ∈ (js.zip (numB (f + gs.flatten.length) rest)).foldl (fun G x => gAdd G x.1 x.2) [numB f gs], ∃ (f' : Nat) (gs' : List (List Bod)), g = numB f' gs' ∧ gs' ≠ [] ∧ (∀ s ∈ gs', s ≠ []) ∧ (∀ s ∈ gs', 1 ≤ sW s)
  | [], [], gs, f, _, h, ne, w, _, _ => by
    constructor
    · show [joinC (numB f gs)] = [(f, f + gs.flatten.length - 1, meanB gs.flatten)]
      rw [join_num h ne w]
    · intro g hg
      rw [List.mem_singleton.mp hg]
      exact ⟨f, gs, rfl, h, ne, w⟩
  | [], _ :: _, _, _, h, _, _, _, _, _ => by simp at h
  | _ :: _, [], _, _, h, _, _, _, _, _ => by simp at h
  | j :: js, u :: rest, gs, f, hl, h, ne, w, ne2, w2 => by
    have hl' : js.length = rest.length := by simpa using hl
    have nu := ne2 u (List.mem_cons_self ..)
    have wu := w2 u (List.mem_cons_self ..)
    have ne3 : ∀ s ∈ rest, s ≠ [] := fun s hs => ne2 s (List.mem_cons_of_mem _ hs)
    have w3 : ∀ s ∈ rest, 1 ≤ sW s := fun s hs => w2 s (List.mem_cons_of_mem _ hs)
    have hd : (j :: js).zip (numB (f + gs.flatten.length) (u :: rest)) = (j, (f + gs.flatten.length, f + gs.flatten.length + u.length - 1, meanB u)) :: js.zip (numB (f + gs.flatten.length + u.length) rest) := rfl
    rw [hd, List.foldl_cons]
    cases j with
    | true =>
      have e : gAdd [numB f gs] true (f + gs.flatten.length, f + gs.flatten.length + u.length - 1, meanB u) = [numB f (gs ++ [u])] := by
        rw [numB_app]
        simp [gAdd]
      have ih := grp_num js rest (gs ++ [u]) f hl' (by simp) (fun s hs => by
        rcases List.mem_append.mp hs with z | z
        · exact ne s z
        · rw [List.mem_singleton.mp z]; exact nu) (fun s hs => by
        rcases List.mem_append.mp hs with z | z
        · exact w s z
        · rw [List.mem_singleton.mp z]; exact wu) ne3 w3
      have ef : (gs ++ [u]).flatten = gs.flatten ++ u := by simp
      rw [ef, List.length_append, ← Nat.add_assoc] at ih
      show ((js.zip _).foldl _ (gAdd [numB f gs] true _)).map joinC = numB f (stk js ((gs.flatten ++ u) :: rest)) ∧ ∀ g ∈ (js.zip _).foldl _ (gAdd [numB f gs] true _), _
      rw [e]
      exact ih
    | false =>
      have e : gAdd [numB f gs] false (f + gs.flatten.length, f + gs.flatten.length + u.length - 1, meanB u) = [numB f gs] ++ [numB (f + gs.flatten.length) [u]] := by
        simp [gAdd, numB]
      have ih := grp_num js rest [u] (f + gs.flatten.length) hl' (by simp) (fun s hs => by rw [List.mem_singleton.mp hs]; exact nu) (fun s hs => by rw [List.mem_singleton.mp hs]; exact wu) ne3 w3
      have ef : [u].flatten = u := by simp
      rw [ef] at ih
      show ((js.zip _).foldl _ (gAdd [numB f gs] false _)).map joinC = (f, f + gs.flatten.length - 1, meanB gs.flatten) :: numB (f + gs.flatten.length) (stk js (u :: rest)) ∧ ∀ g ∈ (js.zip _).foldl _ (gAdd [numB f gs] false _), _
      rw [e, grp_app, List.map_append, ih.1]
      refine ⟨?_, fun g hg => ?_⟩
      · rw [List.map_cons, join_num h ne w]
        rfl
      · rcases List.mem_append.mp hg with z | z
        · rw [List.mem_singleton.mp z]
          exact ⟨f, gs, rfl, h, ne, w⟩
        · exact ih.2 g z
end Kw
set_option Elab.async false
set_option linter.all false
set_option maxRecDepth 100000
set_option maxHeartbeats 4000000
namespace Kw
open PySem PySem.Spec PyProof.Rows L2
noncomputable def ClQ (K : PySem.W.Frag) (H : Hp) (n : Nat) (v : V) (c : Clm) : Prop := ∃ p a b : Addr, v = .ref p ∧ SqT K H p [.int (c.1 : Int), .int (c.2.1 : Int), .ref a, .ref b, .int c.2.2.2.2] ∧ FQ K H a c.2.2.1 ∧ FQ K H b c.2.2.2.1 ∧ FB n c.2.2.1 ∧ FB n c.2.2.2.1 ∧ 1 ≤ c.2.2.2.2 ∧ c.2.2.2.2 ≤ 10000
section
variable {K : PySem.W.Frag} {H H' : Hp} {v : V} {c : Clm} {as : List Addr} {n m : Nat}
theorem ClQ.same (h : ClQ K H n v c) (s : Same H H') : ClQ K H' n v c := by
  obtain ⟨p, a, b, e, h1, h2, h3, d⟩ := h
  exact ⟨p, a, b, e, Kw.Same.tup s h1, Kw.Same.tup s h2, Kw.Same.tup s h3, d⟩
theorem ClQ.buts (h : ClQ K H n v c) (s : Buts as H H') (nt : NoT as H) : ClQ K H' n v c := by
  obtain ⟨p, a, b, e, h1, h2, h3, d⟩ := h
  exact ⟨p, a, b, e, s.tup nt h1, s.tup nt h2, s.tup nt h3, d⟩
theorem cls_same {vs : List V} {cs : List Clm} (h : Al2 (ClQ K H n) vs cs) (s : Same H H') : Al2 (ClQ K H' n) vs cs := Al2.imp (fun _ _ z => z.same s) h
theorem cls_buts {vs : List V} {cs : List Clm} (h : Al2 (ClQ K H n) vs cs) (s : Buts as H H') (nt : NoT as H) : Al2 (ClQ K H' n) vs cs := Al2.imp (fun _ _ z => z.buts s nt) h
noncomputable def clD (c : Clm) : PyData := .tuple [.int (c.1 : Int), .int (c.2.1 : Int), frD c.2.2.1, frD c.2.2.2.1, .int c.2.2.2.2]
theorem ClQ.dp (h : ClQ K H n v c) : Dp K H v (clD c) := by
  obtain ⟨p, a, b, rfl, h1, h2, h3, _⟩ := h
  exact .tup h1 (.cons (.int _) (.cons (.int _) (.cons h2.dp (.cons h3.dp (.cons (.int _) .nil)))))
theorem cls_dp : ∀ {vs : List V} {cs : List Clm}, Al2 (ClQ K H n) vs cs → Dps K H vs (cs.map clD)
  | [], [], _ => .nil
  | _ :: _, _ :: _, h => .cons h.1.dp (cls_dp h.2)
  | [], _ :: _, h => h.elim
  | _ :: _, [], h => h.elim
end
theorem cld_lay : ∀ cs : List Clm, PyData.canLayAll0 (cs.map clD) = true
  | [] => rfl
  | c :: cs => by
    show (PyData.canLay0 (clD c) && PyData.canLayAll0 (cs.map clD)) = true
    rw [cld_lay cs]
    rfl
theorem cld_deep : ∀ cs : List Clm, PyData.depthAll (cs.map clD) ≤ 2
  | [] => Nat.zero_le _
  | c :: cs => by
    show max (clD c).depth (PyData.depthAll (cs.map clD)) ≤ 2
    exact Nat.max_le.mpr ⟨Nat.le_refl 2, cld_deep cs⟩
theorem cls_ok (cs : List Clm) : (PyData.list (cs.map clD)).canLay0 = true ∧ Nat.ble (PyData.list (cs.map clD)).depth 60 = true := by
  constructor
  · exact cld_lay cs
  · refine Nat.ble_eq_true_of_le ?_
    show PyData.depthAll (cs.map clD) + 1 ≤ 60
    have := cld_deep cs
    omega
noncomputable def KnQ (K : PySem.W.Frag) (H : Hp) (bs : List Bod) (kvs : List (List Key × V)) : Prop := ∀ (f1 f2 l2 : Nat) (v : V), valV kvs [.inl (f1 : Int), .inl (f2 : Int), .inl (l2 : Int)] = some v → OptR K H v (jntQ (meanB (segB bs f1 (f2 - 1))) (meanB (segB bs f2 l2)))
section
variable {K : PySem.W.Frag} {H H' : Hp} {bs : List Bod} {kvs : List (List Key × V)} {as : List Addr}
theorem KnQ.same (h : KnQ K H bs kvs) (s : Same H H') : KnQ K H' bs kvs := fun f1 f2 l2 v hv => (h f1 f2 l2 v hv).same s
theorem KnQ.buts (h : KnQ K H bs kvs) (s : Buts as H H') (nt : NoT as H) : KnQ K H' bs kvs := fun f1 f2 l2 v hv => (h f1 f2 l2 v hv).buts s nt
theorem KnQ.nil : KnQ K H bs [] := fun f1 f2 l2 v hv => by rw [valV_nil] at hv; cases hv
theorem KnQ.put {f1 f2 l2 : Nat} {v : V} (h : KnQ K H bs kvs) (o : OptR K H v (jntQ (meanB (segB bs f1 (f2 - 1))) (meanB (segB bs f2 l2)))) : KnQ K H bs (putK kvs [.inl (f1 : Int), .inl (f2 : Int), .inl (l2 : Int)] v) := fun g1 g2 m2 u hu => by
  rw [valV_put] at hu
  split at hu
  · rename_i e
    injection e with e1 e
    injection e with e2 e
    injection e with e3 e
    have a1 : g1 = f1 := by injection e1 with e1; omega
    have a2 : g2 = f2 := by injection e2 with e2; omega
    have a3 : m2 = l2 := by injection e3 with e3; omega
    subst a1 a2 a3
    injection hu with hu
    subst hu
    exact o
  · exact h g1 g2 m2 u hu
end
theorem jnt_fb {a b : Bod} {n : Nat} (ha : FB n a.1 ∧ FB n a.2.1) (hb : FB n b.1 ∧ FB n b.2.1) {t : Rat} (e : jntQ a b = some t) : FB (4 * n + 2) t := by
  unfold jntQ at e
  split at e
  · cases e
  · rename_i c
    injection e with e
    rw [← e]
    exact (FB.div (FB.sub hb.1 ha.1) (FB.sub ha.2 hb.2) (by grind)).mono (by omega)
noncomputable def skF (c k j : Addr) (co : V) : List (Str × V) := [("clumps", .ref c), ("known", .ref k), ("joints", .ref j), ("coming", co)]
noncomputable def SkAt (K : PySem.W.Frag) (H : Hp) (C p : Addr) (bs : List Bod) (ss : List (List Bod)) (k : Addr) : Prop := ∃ (dx c j : Addr) (co : V) (xs : List V) (kvs : List (List Key × V)) (ys : List V), H p = some (.ins C dx (skF c k j co)) ∧ H c = some (.lst xs) ∧ Al2 (ClQ K H 480) xs (numB 0 ss) ∧ H k = some (.dT kvs) ∧ KnQ K H bs kvs ∧ kvs.length + 12 * ss.length ≤ 200 ∧ H j = some (.lst ys) ∧ Al2 (OptR K H) ys (jnts (ss.map meanB)) ∧ OptR K H co (cmng (ss.map meanB)) ∧ WdB bs ∧ StB bs ss
theorem SkAt.same {K : PySem.W.Frag} {H H' : Hp} {C p : Addr} {bs : List Bod} {ss : List (List Bod)} {k : Addr} (h : SkAt K H C p bs ss k) (s : Same H H') : SkAt K H' C p bs ss k := by
  obtain ⟨dx, c, j, co, xs, kvs, ys, h1, h2, h3, h4, h5, h6, h7, h8, h9, h10⟩ := h
  exact ⟨dx, c, j, co, xs, kvs, ys, s _ _ h1, s _ _ h2, cls_same h3 s, s _ _ h4, h5.same s, h6, s _ _ h7, opts_same h8 s, h9.same s, h10⟩
noncomputable def MdQ (K : PySem.W.Frag) (H : Hp) (v : V) (m : Rat × Rat × Nat × Nat) : Prop := ∃ p a b : Addr, v = .ref p ∧ SqT K H p [.ref a, .ref b, .int (m.2.2.1 : Int), .int (m.2.2.2 : Int)] ∧ FQ K H a m.1 ∧ FQ K H b m.2.1 ∧ FB 1990 m.1 ∧ FB 2990 m.2.1
section
variable {K : PySem.W.Frag} {H H' : Hp} {v : V} {m : Rat × Rat × Nat × Nat} {as : List Addr}
theorem MdQ.same (h : MdQ K H v m) (s : Same H H') : MdQ K H' v m := by
  obtain ⟨p, a, b, e, h1, h2, h3, d⟩ := h
  exact ⟨p, a, b, e, Kw.Same.tup s h1, Kw.Same.tup s h2, Kw.Same.tup s h3, d⟩
theorem MdQ.buts (h : MdQ K H v m) (s : Buts as H H') (nt : NoT as H) : MdQ K H' v m := by
  obtain ⟨p, a, b, e, h1, h2, h3, d⟩ := h
  exact ⟨p, a, b, e, s.tup nt h1, s.tup nt h2, s.tup nt h3, d⟩
theorem mds_same {vs : List V} {ms : List (Rat × Rat × Nat × Nat)} (h : Al2 (MdQ K H) vs ms) (s : Same H H') : Al2 (MdQ K H') vs ms := Al2.imp (fun _ _ z => z.same s) h
theorem mds_buts {vs : List V} {ms : List (Rat × Rat × Nat × Nat)} (h : Al2 (MdQ K H) vs ms) (s : Buts as H H') (nt : NoT as H) : Al2 (MdQ K H') vs ms := Al2.imp (fun _ _ z => z.buts s nt) h
noncomputable def mdD (m : Rat × Rat × Nat × Nat) : PyData := .tuple [frD m.1, frD m.2.1, .int (m.2.2.1 : Int), .int (m.2.2.2 : Int)]
theorem MdQ.dp (h : MdQ K H v m) : Dp K H v (mdD m) := by
  obtain ⟨p, a, b, rfl, h1, h2, h3, _⟩ := h
  exact .tup h1 (.cons h2.dp (.cons h3.dp (.cons (.int _) (.cons (.int _) .nil))))
theorem mds_dp : ∀ {vs : List V} {ms : List (Rat × Rat × Nat × Nat)}, Al2 (MdQ K H) vs ms → Dps K H vs (ms.map mdD)
  | [], [], _ => .nil
  | _ :: _, _ :: _, h => .cons h.1.dp (mds_dp h.2)
  | [], _ :: _, h => h.elim
  | _ :: _, [], h => h.elim
end
theorem mdd_lay : ∀ cs : List (Rat × Rat × Nat × Nat), PyData.canLayAll0 (cs.map mdD) = true
  | [] => rfl
  | c :: cs => by
    show (PyData.canLay0 (mdD c) && PyData.canLayAll0 (cs.map mdD)) = true
    rw [mdd_lay cs]
    rfl
theorem mdd_deep : ∀ cs : List (Rat × Rat × Nat × Nat), PyData.depthAll (cs.map mdD) ≤ 2
  | [] => Nat.zero_le _
  | c :: cs => by
    show max (mdD c).depth (PyData.depthAll (cs.map mdD)) ≤ 2
    exact Nat.max_le.mpr ⟨Nat.le_refl 2, mdd_deep cs⟩
theorem mds_ok (cs : List (Rat × Rat × Nat × Nat)) : (PyData.list (cs.map mdD)).canLay0 = true ∧ Nat.ble (PyData.list (cs.map mdD)).depth 60 = true := by
  constructor
  · exact mdd_lay cs
  · refine Nat.ble_eq_true_of_le ?_
    show PyData.depthAll (cs.map mdD) + 1 ≤ 60
    have := mdd_deep cs
    omega
noncomputable def jsC (ss : List (List Bod)) : List Bool := (List.range (ss.length - 1)).map fun k => decide ((jnts (ss.map meanB))[k]? = some (cmng (ss.map meanB)))
noncomputable def grpC (ss : List (List Bod)) : List (List Clm) := match numB 0 ss with
  | [] => []
  | c :: r => grp c ((jsC ss).zip r)
noncomputable def madeG (T : Rat) (G : List (List Clm)) : List (Rat × Rat × Nat × Nat) := (G.filter fun g => decide (1 < g.length)).map fun g => (T, plcQ (joinC g).2.2 T, (joinC g).1, (joinC g).2.1)
theorem jsC_is {ss : List (List Bod)} {now T : Rat} (o : OrdT (ss.map meanB) now) (h : cmng (ss.map meanB) = some T) : jsC ss = jsT T ss := by
  rw [← flags_is o h]
  unfold jsC
  rw [h]
theorem jsC_len (ss : List (List Bod)) : (jsC ss).length = ss.length - 1 := by
  unfold jsC
  rw [List.length_map, List.length_range]
theorem grpC_join {bs : List Bod} {ss : List (List Bod)} (w : WdB bs) (h : StB bs ss) : (grpC ss).map joinC = numB 0 (stk (jsC ss) ss) ∧ ∀ g ∈ grpC ss, ∃ (f' : Nat) (gs' : List (List Bod)), g = numB f' gs' ∧ gs' ≠ [] ∧ (∀ s ∈ gs', s ≠ []) ∧ (∀ s ∈ gs', 1 ≤ sW s) := by
  cases hs : ss with
  | nil => exact ⟨rfl, fun _ z => nomatch z⟩
  | cons s rest =>
    have ps := StB.pos w h
    have ne := h.ne
    rw [hs] at ps ne
    have z := grp_num (jsC (s :: rest)) rest [s] 0 (by rw [jsC_len]; simp) (by simp) (fun u hu => by rw [List.mem_singleton.mp hu]; exact ne s (List.mem_cons_self ..)) (fun u hu => by rw [List.mem_singleton.mp hu]; exact ps s (List.mem_cons_self ..)) (fun u hu => ne u (List.mem_cons_of_mem _ hu)) fun u hu => ps u (List.mem_cons_of_mem _ hu)
    have ef : [s].flatten = s := by simp
    rw [ef] at z
    exact z
theorem sumQ_fold : ∀ qs : List Rat, sumQ qs = qs.foldr (· + ·) 0
  | [] => rfl
  | q :: qs => by rw [sumQ_cons, sumQ_fold qs]; rfl
theorem at_last {xs : List V} {x : V} (h : xs[xs.length - 1]? = some x) : atI xs (-1) = some x := by
  have l := (List.getElem?_eq_some_iff.mp h).1
  unfold atI
  have e : ixN xs.length (-1) = some (xs.length - 1) := by
    unfold ixN
    simp
    omega
  rw [e]
  exact h
end Kw
set_option Elab.async false
set_option linter.all false
set_option maxRecDepth 100000
set_option maxHeartbeats 4000000
namespace Kw
open PySem PySem.Spec PyProof.Rows L2
noncomputable def comS (ss : List (List Bod)) : Option Rat := cmng (ss.map meanB)
noncomputable def stepS (ss : List (List Bod)) : List (List Bod) := stk (jsC ss) ss
theorem step_less {ss : List (List Bod)} {T : Rat} (h : comS ss = some T) : (stepS ss).length < ss.length := by
  have ll : (ss.map meanB).length = ss.length := List.length_map _
  obtain ⟨⟨k, hk, ek⟩, _⟩ := cmng_some h
  unfold stepS
  rw [stk_len _ _ (by rw [jsC_len]; omega)]
  have m : true ∈ (jsC ss).filter id := by
    refine List.mem_filter.mpr ⟨?_, rfl⟩
    unfold jsC
    refine List.mem_map.mpr ⟨k, List.mem_range.mpr (by omega), ?_⟩
    rw [jnts_at hk, ek]
    unfold comS at h
    rw [h]
    exact decide_eq_true rfl
  have l1 : 1 ≤ ((jsC ss).filter id).length := List.length_pos_iff.mpr (List.ne_nil_of_mem m)
  omega
theorem StB.step {bs : List Bod} {ss : List (List Bod)} (h : StB bs ss) : StB bs (stepS ss) := h.stk _
theorem step_ne {ss : List (List Bod)} (h : 1 ≤ ss.length) : 1 ≤ (stepS ss).length := by
  unfold stepS
  rw [stk_len _ _ (by rw [jsC_len]; omega)]
  have a1 := List.length_filter_le id (jsC ss)
  rw [jsC_len] at a1
  omega
noncomputable def runS : Nat → List (List Bod) → List (Rat × Rat × Nat × Nat)
  | 0, _ => []
  | n + 1, ss => match comS ss with
    | none => []
    | some T => madeG T (grpC ss) ++ runS n (stepS ss)
noncomputable def atS : Nat → Rat → List (List Bod) → List (List Bod)
  | 0, _, ss => ss
  | n + 1, t, ss => match comS ss with
    | none => ss
    | some T => if T ≤ t then atS n t (stepS ss) else ss
theorem run_fuel : ∀ (n m : Nat) (ss : List (List Bod)), ss.length ≤ n → ss.length ≤ m → runS n ss = runS m ss
  | 0, 0, _, _, _ => rfl
  | 0, m + 1, ss, h, _ => by
    have e : ss = [] := List.length_eq_zero_iff.mp (by omega)
    subst e
    rfl
  | n + 1, 0, ss, _, h => by
    have e : ss = [] := List.length_eq_zero_iff.mp (by omega)
    subst e
    rfl
  | n + 1, m + 1, ss, h1, h2 => by
    show (match comS ss with | none => [] | some T => madeG T (grpC ss) ++ runS n (stepS ss)) = (match comS ss with | none => [] | some T => madeG T (grpC ss) ++ runS m (stepS ss))
    cases q : comS ss with
    | none => rfl
    | some T =>
      have := step_less q
      dsimp only
      rw [run_fuel n m (stepS ss) (by omega) (by omega)]
theorem at_fuel : ∀ (n m : Nat) (t : Rat) (ss : List (List Bod)), ss.length ≤ n → ss.length ≤ m → atS n t ss = atS m t ss
  | 0, 0, _, _, _, _ => rfl
  | 0, m + 1, t, ss, h, _ => by
    have e : ss = [] := List.length_eq_zero_iff.mp (by omega)
    subst e
    rfl
  | n + 1, 0, t, ss, _, h => by
    have e : ss = [] := List.length_eq_zero_iff.mp (by omega)
    subst e
    rfl
  | n + 1, m + 1, t, ss, h1, h2 => by
    show (match comS ss with | none => ss | some T => if T ≤ t then atS n t (stepS ss) else ss) = (match comS ss with | none => ss | some T => if T ≤ t then atS m t (stepS ss) else ss)
    cases q : comS ss with
    | none => rfl
    | some T =>
      have := step_less q
      dsimp only
      rw [at_fuel n m t (stepS ss) (by omega) (by omega)]
theorem run_some {ss : List (List Bod)} {T : Rat} (h : comS ss = some T) : runS ss.length ss = madeG T (grpC ss) ++ runS (stepS ss).length (stepS ss) := by
  have l := step_less h
  rw [run_fuel ss.length (ss.length - 1 + 1) ss (Nat.le_refl _) (by omega)]
  show (match comS ss with | none => [] | some T => madeG T (grpC ss) ++ runS (ss.length - 1) (stepS ss)) = _
  rw [h]
  dsimp only
  rw [run_fuel (ss.length - 1) (stepS ss).length (stepS ss) (by omega) (Nat.le_refl _)]
theorem run_none {ss : List (List Bod)} (h : comS ss = none) : runS ss.length ss = [] := by
  rw [run_fuel ss.length (ss.length + 1) ss (Nat.le_refl _) (by omega)]
  show (match comS ss with | none => [] | some T => madeG T (grpC ss) ++ runS ss.length (stepS ss)) = _
  rw [h]
theorem at_some {ss : List (List Bod)} {T t : Rat} (h : comS ss = some T) (l : T ≤ t) : atS ss.length t ss = atS (stepS ss).length t (stepS ss) := by
  have ls := step_less h
  rw [at_fuel ss.length (ss.length - 1 + 1) t ss (Nat.le_refl _) (by omega)]
  show (match comS ss with | none => ss | some T => if T ≤ t then atS (ss.length - 1) t (stepS ss) else ss) = _
  rw [h]
  dsimp only
  rw [if_pos l, at_fuel (ss.length - 1) (stepS ss).length t (stepS ss) (by omega) (Nat.le_refl _)]
theorem at_not {ss : List (List Bod)} {T t : Rat} (h : comS ss = some T) (l : ¬ T ≤ t) : atS ss.length t ss = ss := by
  have ls := step_less h
  rw [at_fuel ss.length (ss.length - 1 + 1) t ss (Nat.le_refl _) (by omega)]
  show (match comS ss with | none => ss | some T => if T ≤ t then atS (ss.length - 1) t (stepS ss) else ss) = _
  rw [h]
  dsimp only
  rw [if_neg l]
theorem at_none {ss : List (List Bod)} {t : Rat} (h : comS ss = none) : atS ss.length t ss = ss := by
  rw [at_fuel ss.length (ss.length + 1) t ss (Nat.le_refl _) (by omega)]
  show (match comS ss with | none => ss | some T => if T ≤ t then atS ss.length t (stepS ss) else ss) = _
  rw [h]
noncomputable def oneS (bs : List Bod) : List (List Bod) := bs.map fun b => [b]
noncomputable def runB (bs : List Bod) : List (Rat × Rat × Nat × Nat) := runS (oneS bs).length (oneS bs)
noncomputable def stAt (bs : List Bod) (t : Rat) : List (List Bod) := atS (oneS bs).length t (oneS bs)
noncomputable def clT (t : Rat) (c : Clm) : Clm := (c.1, c.2.1, plcQ c.2.2 t, c.2.2.2.1, c.2.2.2.2)
theorem grp_few {α : Type} : ∀ (l : List (Bool × α)) (G : List (List α)) (n : Nat), (∀ g ∈ G, g.length ≤ n) → ∀ g ∈ l.foldl (fun G x => gAdd G x.1 x.2) G, g.length ≤ n + l.length
  | [], G, n, h => h
  | (j, c) :: l, G, n, h => by
    rw [List.foldl_cons]
    intro g hg
    have z := grp_few l (gAdd G j c) (n + 1) (fun g hg => by
      unfold gAdd at hg
      cases j with
      | true =>
        rw [if_pos rfl] at hg
        rcases List.mem_append.mp hg with y | y
        · have := h g ((List.dropLast_sublist G).subset y)
          omega
        · rw [List.mem_singleton.mp y, List.length_append]
          have : (G.getLast?.getD []).length ≤ n := by
            cases e : G.getLast? with
            | none => exact Nat.zero_le _
            | some x => exact h x (List.mem_of_getLast? e)
          simp
          exact this
      | false =>
        rw [if_neg (by decide)] at hg
        rcases List.mem_append.mp hg with y | y
        · have := h g y
          omega
        · rw [List.mem_singleton.mp y]
          simp) g hg
    rw [List.length_cons]
    omega
theorem grpC_few (ss : List (List Bod)) : ∀ g ∈ grpC ss, g.length ≤ ss.length := by
  intro g hg
  unfold grpC at hg
  have ln := numB_len 0 ss
  cases q : numB 0 ss with
  | nil => rw [q] at hg; exact nomatch hg
  | cons c r =>
    rw [q] at hg ln
    have z := grp_few ((jsC ss).zip r) [[c]] 1 (fun g hg => by rw [List.mem_singleton.mp hg]; exact Nat.le_refl 1) g hg
    have y : ((jsC ss).zip r).length ≤ r.length := by rw [List.length_zip]; omega
    rw [List.length_cons] at ln
    omega
theorem grpC_get {bs : List Bod} {ss : List (List Bod)} (w : WdB bs) (h : StB bs ss) {i : Nat} {g : List Clm} (hg : (grpC ss)[i]? = some g) : 1 ≤ g.length ∧ g.length ≤ 12 ∧ FB 480 (meanB (g.map goC)).1 ∧ FB 480 (meanB (g.map goC)).2.1 ∧ sW (g.map goC) ≤ 10000 := by
  obtain ⟨e, al⟩ := grpC_join w h
  obtain ⟨f', gs', rfl, ne, _, _⟩ := al g (List.mem_of_getElem? hg)
  have few := grpC_few ss _ (List.mem_of_getElem? hg)
  have l := h.len
  have l12 := w.l12
  have z : (numB 0 (stk (jsC ss) ss))[i]? = some (joinC (numB f' gs')) := by rw [← e, List.getElem?_map, hg]; rfl
  have st := h.stk (jsC ss)
  obtain ⟨s, hs⟩ : ∃ s, (stk (jsC ss) ss)[i]? = some s := by
    have y := (List.getElem?_eq_some_iff.mp z).1
    rw [numB_len] at y
    exact ⟨_, List.getElem?_eq_getElem y⟩
  have y := numB_get 0 _ i s hs
  rw [z] at y
  have y2 : meanB ((numB f' gs').map goC) = meanB s := congrArg (fun c : Clm => c.2.2) (Option.some.inj y)
  obtain ⟨f1, f2, _, f4⟩ := StB.fits w st hs
  rw [y2]
  have y3 : sW ((numB f' gs').map goC) = sW s := congrArg (fun b : Bod => b.2.2) y2
  refine ⟨?_, by omega, f1, f2, by rw [y3]; exact f4⟩
  rw [numB_len]
  exact List.length_pos_iff.mpr ne
noncomputable def GpQ (K : PySem.W.Frag) (H : Hp) (v : V) (g : List Clm) : Prop := ∃ (l : Addr) (zs : List V), v = .ref l ∧ H l = some (.lst zs) ∧ Al2 (ClQ K H 480) zs g
theorem GpQ.same {K : PySem.W.Frag} {H H' : Hp} {v : V} {g : List Clm} (h : GpQ K H v g) (s : Same H H') : GpQ K H' v g := by
  obtain ⟨l, zs, e, h1, h2⟩ := h
  exact ⟨l, zs, e, s _ _ h1, cls_same h2 s⟩
theorem gps_same {K : PySem.W.Frag} {H H' : Hp} {vs : List V} {G : List (List Clm)} (h : Al2 (GpQ K H) vs G) (s : Same H H') : Al2 (GpQ K H') vs G := Al2.imp (fun _ _ z => z.same s) h
theorem gps_but {K : PySem.W.Frag} {H H' : Hp} {bs : List Addr} : ∀ {as : List Addr} {G : List (List Clm)}, Al2 (GpQ K H) (as.map V.ref) G → Buts bs H H' → NoT bs H → (∀ a ∈ as, a ∉ bs) → Al2 (GpQ K H') (as.map V.ref) G
  | [], [], _, _, _, _ => trivial
  | a :: as, g :: G, h, s, n, ne => by
    obtain ⟨⟨l, zs, e, h1, h2⟩, r⟩ := h
    cases e
    exact ⟨⟨a, zs, rfl, s _ _ (ne a (List.mem_cons_self ..)) h1, cls_buts h2 s n⟩, gps_but r s n fun b hb => ne b (List.mem_cons_of_mem _ hb)⟩
  | [], _ :: _, h, _, _, _ => h.elim
  | _ :: _, [], h, _, _, _ => h.elim
theorem madeG_snoc (T : Rat) (G : List (List Clm)) (g : List Clm) : madeG T (G ++ [g]) = madeG T G ++ (if 1 < g.length then [(T, plcQ (joinC g).2.2 T, (joinC g).1, (joinC g).2.1)] else []) := by
  unfold madeG
  rw [List.filter_append, List.map_append]
  by_cases c : 1 < g.length
  · rw [if_pos c]
    simp [c]
  · rw [if_neg c]
    simp [c]
end Kw
namespace Kw
open PySem PySem.Spec PyProof.Rows L2
theorem SkAt.but {K : PySem.W.Frag} {H H' : Hp} {C p : Addr} {bs : List Bod} {ss : List (List Bod)} {k q : Addr} {qs : List V} (h : SkAt K H C p bs ss k) (s : But q H H') (hq : H q = some (.lst qs)) (n : ∀ c j : Addr, (∃ dx co, H p = some (.ins C dx (skF c k j co))) → c ≠ q ∧ j ≠ q) : SkAt K H' C p bs ss k := by
  obtain ⟨dx, c, j, co, xs, kvs, ys, h1, h2, h3, h4, h5, h6, h7, h8, h9, h10⟩ := h
  obtain ⟨nc, nj⟩ := n c j ⟨dx, co, h1⟩
  have b : Buts [q] H H' := Buts.one s (by simp)
  have nt : NoT [q] H := NoT.lst hq NoT.nil
  have pq : p ≠ q := fun z => by rw [z, hq] at h1; cases h1
  have kq : k ≠ q := fun z => by rw [z, hq] at h4; cases h4
  exact ⟨dx, c, j, co, xs, kvs, ys, s _ _ pq h1, s _ _ nc h2, cls_buts h3 b nt, s _ _ kq h4, h5.buts b nt, h6, s _ _ nj h7, opts_buts h8 b nt, h9.buts b nt, h10⟩
end Kw
set_option Elab.async false
set_option linter.all false
set_option maxRecDepth 100000
set_option maxHeartbeats 4000000
namespace Kw
open PySem PySem.Spec PyProof.Rows L2
noncomputable def SrtS (ss : List (List Bod)) (now : Rat) : Prop := ss.Pairwise fun a b => plcQ (meanB a) now < plcQ (meanB b) now
theorem pair_lt {α : Type} (f : α → Rat) : ∀ (l : List α), (∀ k x y, l[k]? = some x → l[k + 1]? = some y → f x < f y) → l.Pairwise (fun a b => f a < f b)
  | [], _ => List.Pairwise.nil
  | [a], _ => List.pairwise_singleton _ _
  | a :: b :: l, h => by
    have ih := pair_lt f (b :: l) fun k x y hx hy => h (k + 1) x y hx hy
    have ab := h 0 a b rfl rfl
    refine List.pairwise_cons.mpr ⟨fun c hc => ?_, ih⟩
    rcases List.mem_cons.mp hc with rfl | hc
    · exact ab
    · have := (List.pairwise_cons.mp ih).1 c hc
      grind
theorem SrtS.get {ss : List (List Bod)} {now : Rat} (h : SrtS ss now) {k : Nat} (hk : k + 1 < ss.length) : plcQ (bodAt (ss.map meanB) k) now < plcQ (bodAt (ss.map meanB) (k + 1)) now := by
  rw [bod_map (List.getElem?_eq_getElem (show k < ss.length by omega)), bod_map (List.getElem?_eq_getElem hk)]
  exact List.pairwise_iff_getElem.mp h k (k + 1) (by omega) hk (by omega)
theorem SrtS.ord {ss : List (List Bod)} {now : Rat} (h : SrtS ss now) : OrdT (ss.map meanB) now := fun k hk => .inl (h.get (by rwa [List.length_map] at hk))
theorem srt_of {ss : List (List Bod)} {t : Rat} (h : ∀ k, k + 1 < ss.length → plcQ (bodAt (ss.map meanB) k) t < plcQ (bodAt (ss.map meanB) (k + 1)) t) : SrtS ss t := pair_lt (fun s => plcQ (meanB s) t) ss fun k x y hx hy => by
  have z := h k (List.getElem?_eq_some_iff.mp hy).1
  rw [bod_map hx, bod_map hy] at z
  exact z
theorem SrtS.stay {ss : List (List Bod)} {now t : Rat} (h : SrtS ss now) (l : now ≤ t) (hc : ∀ T, comS ss = some T → t < T) : SrtS ss t := srt_of fun k hk => by
  have o := ord_stay h.ord l hc
  have lm : (ss.map meanB).length = ss.length := List.length_map _
  rcases o k (by omega) with z | ⟨z, z2⟩
  · exact z
  · have a := h.get hk
    have e : plcQ (bodAt (ss.map meanB) (k + 1)) t - plcQ (bodAt (ss.map meanB) k) t = (plcQ (bodAt (ss.map meanB) (k + 1)) now - plcQ (bodAt (ss.map meanB) k) now) + ((bodAt (ss.map meanB) (k + 1)).2.1 - (bodAt (ss.map meanB) k).2.1) * (t - now) := by
      unfold plcQ
      grind
    have z3 := Rat.mul_nonneg (show 0 ≤ (bodAt (ss.map meanB) (k + 1)).2.1 - (bodAt (ss.map meanB) k).2.1 by grind) (show 0 ≤ t - now by grind)
    grind
theorem com_lt {ss : List (List Bod)} {now T : Rat} (h : SrtS ss now) (hT : comS ss = some T) : now < T := (ord_till h.ord hT).1
theorem step_is {ss : List (List Bod)} {now T : Rat} (h : SrtS ss now) (hT : comS ss = some T) : stepS ss = stkS T ss := by
  unfold stepS stkS
  rw [jsC_is h.ord hT]
theorem weak_of {ss : List (List Bod)} {now T : Rat} (h : SrtS ss now) (hT : comS ss = some T) : ss.Pairwise (fun a b => plcQ (meanB a) T ≤ plcQ (meanB b) T) := pair_of (fun a => plcQ (meanB a) T) ss fun k x y hx hy => by
  have lk := (List.getElem?_eq_some_iff.mp hy).1
  have z := ((ord_till h.ord hT).2.2 k (by rw [List.length_map]; exact lk)).1
  rw [bod_map hx, bod_map hy] at z
  exact z
theorem SrtS.step {ss : List (List Bod)} {now T : Rat} (hw : ∀ s ∈ ss, 1 ≤ sW s) (h : SrtS ss now) (hT : comS ss = some T) : SrtS (stepS ss) T := by
  rw [step_is h hT]
  have weak := weak_of h hT
  cases ss with
  | nil => exact List.Pairwise.nil
  | cons s rest => exact (stk_sort T rest s hw weak).1
theorem one_srt {bs : List Bod} (h : Asc bs) (hw : ∀ b ∈ bs, 1 ≤ b.2.2) : SrtS (oneS bs) 0 := srt_of fun k hk => by
  unfold oneS at hk
  rw [List.length_map] at hk
  have e : (oneS bs).map meanB = bs := by
    unfold oneS
    rw [List.map_map]
    refine (List.map_congr_left fun b hb => ?_).trans (List.map_id bs)
    exact mean_one (hw b hb)
  rw [e]
  have z := asc_at h hk
  unfold plcQ
  grind
theorem app_lt {s u : List Bod} {t p : Rat} (hs : 1 ≤ sW s) (hu : 1 ≤ sW u) (es : plcQ (meanB s) t < p) (eu : plcQ (meanB u) t < p) : plcQ (meanB (s ++ u)) t < p := by
  have h : 1 ≤ sW (s ++ u) := by rw [sW_app]; omega
  have m := mean_plc h t
  have ms := mean_plc hs t
  have mu := mean_plc hu t
  rw [sX_app, sV_app, sW_app, Rat.intCast_add] at m
  have p1 := q_wpos hs
  have p2 := q_wpos hu
  have a1 := Rat.mul_pos p1 (show 0 < p - plcQ (meanB s) t by grind)
  have a2 := Rat.mul_pos p2 (show 0 < p - plcQ (meanB u) t by grind)
  by_cases c : plcQ (meanB (s ++ u)) t < p
  · exact c
  · exfalso
    have a3 := Rat.mul_nonneg (show 0 ≤ ((sW s : Int) : Rat) + ((sW u : Int) : Rat) by grind) (show 0 ≤ plcQ (meanB (s ++ u)) t - p by grind)
    grind
theorem might_cons (b : Bod) (bs : List Bod) : mightQ (b :: bs) = (b.2.2 : Rat) * b.2.1 * b.2.1 + mightQ bs := by
  unfold mightQ
  rw [List.map_cons, sumQ_cons]
theorem app_might {s u : List Bod} (hs : 1 ≤ sW s) (hu : 1 ≤ sW u) (ne : (meanB s).2.1 ≠ (meanB u).2.1) : ((meanB (s ++ u)).2.2 : Rat) * (meanB (s ++ u)).2.1 * (meanB (s ++ u)).2.1 < ((meanB s).2.2 : Rat) * (meanB s).2.1 * (meanB s).2.1 + ((meanB u).2.2 : Rat) * (meanB u).2.1 * (meanB u).2.1 := by
  have h : 1 ≤ sW (s ++ u) := by rw [sW_app]; omega
  have m := (mean_mul h).2
  have ms := (mean_mul hs).2
  have mu := (mean_mul hu).2
  have e1 : (meanB (s ++ u)).2.2 = sW s + sW u := by show sW (s ++ u) = _; rw [sW_app]
  have e2 : (meanB s).2.2 = sW s := rfl
  have e3 : (meanB u).2.2 = sW u := rfl
  rw [sV_app, sW_app, Rat.intCast_add] at m
  rw [e1, e2, e3, Rat.intCast_add]
  have p1 := q_wpos hs
  have p2 := q_wpos hu
  generalize (meanB (s ++ u)).2.1 = v at m
  generalize (meanB s).2.1 = a at ms ne
  generalize (meanB u).2.1 = b at mu ne
  generalize ((sW s : Int) : Rat) = x at *
  generalize ((sW u : Int) : Rat) = y at *
  rw [← ms, ← mu] at m
  have sq : 0 < (a - b) * (a - b) := by
    by_cases c : a < b
    · have := Rat.mul_pos (show 0 < b - a by grind) (show 0 < b - a by grind)
      grind
    · exact Rat.mul_pos (show 0 < a - b by grind) (show 0 < a - b by grind)
  have pos := Rat.mul_pos (Rat.mul_pos p1 p2) sq
  have key : (x + y) * (x * a * a + y * b * b - (x + y) * v * v) = x * y * ((a - b) * (a - b)) := by
    have k1 : (x + y) * ((x + y) * v * v) = ((x + y) * v) * ((x + y) * v) := by grind
    have k2 : (x + y) * (x * a * a + y * b * b - (x + y) * v * v) = (x + y) * (x * a * a + y * b * b) - (x + y) * ((x + y) * v * v) := by grind
    rw [k2, k1, m]
    grind
  by_cases c : (x + y) * v * v < x * a * a + y * b * b
  · exact c
  · exfalso
    have z := Rat.mul_nonneg (show 0 ≤ x + y by grind) (show 0 ≤ (x + y) * v * v - (x * a * a + y * b * b) by grind)
    grind
theorem stk_might {now T : Rat} : ∀ (rest : List (List Bod)) (s : List Bod), (∀ u ∈ s :: rest, 1 ≤ sW u) → SrtS (s :: rest) now → (jsT T (s :: rest) = jsT T (s :: rest) → mightQ ((stk (jsT T (s :: rest)) (s :: rest)).map meanB) ≤ mightQ ((s :: rest).map meanB) ∧ (true ∈ jsT T (s :: rest) → mightQ ((stk (jsT T (s :: rest)) (s :: rest)).map meanB) < mightQ ((s :: rest).map meanB)))
  | [], s, _, _ => fun _ => ⟨Rat.le_refl, fun z => nomatch z⟩
  | u :: rest, s, hw, hp => fun _ => by
    obtain ⟨p1, p2⟩ := List.pairwise_cons.mp hp
    have lt := p1 u (List.mem_cons_self ..)
    have ws := hw s (List.mem_cons_self ..)
    have wu := hw u (List.mem_cons_of_mem _ (List.mem_cons_self ..))
    by_cases c : plcQ (meanB s) T = plcQ (meanB u) T
    · have e : stk (jsT T (s :: u :: rest)) (s :: u :: rest) = stk (jsT T ((s ++ u) :: rest)) ((s ++ u) :: rest) := by
        show stk (decide (plcQ (meanB s) T = plcQ (meanB u) T) :: jsT T (u :: rest)) (s :: u :: rest) = _
        rw [decide_eq_true c]
        show stk (jsT T (u :: rest)) ((s ++ u) :: rest) = _
        rw [jsT_head (s := u) (s' := s ++ u) (plc_app ws wu c rfl).symm]
      have z := stk_might (now := now) (T := T) rest (s ++ u) (fun x hx => by
        rcases List.mem_cons.mp hx with rfl | y
        · rw [sW_app]; omega
        · exact hw x (List.mem_cons_of_mem _ (List.mem_cons_of_mem _ y))) (List.pairwise_cons.mpr ⟨fun x hx => app_lt ws wu (p1 x (List.mem_cons_of_mem _ hx)) ((List.pairwise_cons.mp p2).1 x hx), (List.pairwise_cons.mp p2).2⟩) rfl
      have ne : (meanB s).2.1 ≠ (meanB u).2.1 := fun y => by
        unfold plcQ at lt c
        rw [y] at lt c
        grind
      have am := app_might ws wu ne
      rw [List.map_cons, might_cons] at z
      rw [e, List.map_cons, List.map_cons, might_cons, might_cons]
      have z1 := z.1
      refine ⟨by grind, fun _ => by grind⟩
    · have e : stk (jsT T (s :: u :: rest)) (s :: u :: rest) = s :: stk (jsT T (u :: rest)) (u :: rest) := by
        show stk (decide (plcQ (meanB s) T = plcQ (meanB u) T) :: jsT T (u :: rest)) (s :: u :: rest) = _
        rw [decide_eq_false c]
        rfl
      have z := stk_might (now := now) (T := T) rest u (fun x hx => hw x (List.mem_cons_of_mem _ hx)) p2 rfl
      rw [e, List.map_cons, List.map_cons, might_cons, might_cons]
      refine ⟨by have := z.1; grind, fun ht => ?_⟩
      have ht2 : true ∈ decide (plcQ (meanB s) T = plcQ (meanB u) T) :: jsT T (u :: rest) := ht
      rw [decide_eq_false c] at ht2
      rcases List.mem_cons.mp ht2 with y | y
      · exact nomatch y
      · have := z.2 y
        grind
theorem step_might {ss : List (List Bod)} {now T : Rat} (hw : ∀ s ∈ ss, 1 ≤ sW s) (h : SrtS ss now) (hT : comS ss = some T) : mightQ ((stepS ss).map meanB) < mightQ (ss.map meanB) := by
  have less := step_less hT
  rw [step_is h hT] at less ⊢
  cases ss with
  | nil => exact absurd less (Nat.not_lt_zero _)
  | cons s rest =>
    refine (stk_might (now := now) rest s hw h rfl).2 ?_
    by_cases c : true ∈ jsT T (s :: rest)
    · exact c
    · exfalso
      have z : (jsT T (s :: rest)).filter id = [] := List.filter_eq_nil_iff.mpr fun b hb e => c (by
        have e' : b = true := e
        rw [← e']; exact hb)
      unfold stkS at less
      rw [stk_len _ _ (by rw [jsT_len]; simp), z] at less
      simp at less
noncomputable def KpS (f : Nat) (ss ss' : List (List Bod)) : Prop := ∀ c ∈ numB f ss, ∃ d ∈ numB f ss', d.1 ≤ c.1 ∧ c.2.1 ≤ d.2.1
theorem KpS.rfl {f : Nat} {ss : List (List Bod)} : KpS f ss ss := fun c hc => ⟨c, hc, Nat.le_refl _, Nat.le_refl _⟩
theorem KpS.trans {f : Nat} {a b c : List (List Bod)} (h : KpS f a b) (g : KpS f b c) : KpS f a c := fun x hx => by
  obtain ⟨y, hy, y1, y2⟩ := h x hx
  obtain ⟨z, hz, z1, z2⟩ := g y hy
  exact ⟨z, hz, by omega, by omega⟩
theorem stk_kept : ∀ (js : List Bool) (ss : List (List Bod)) (f : Nat), (∀ s ∈ ss, s ≠ []) → KpS f ss (stk js ss)
  | [], ss, f, _ => KpS.rfl
  | j :: js, [], f, _ => KpS.rfl
  | j :: js, [s], f, _ => KpS.rfl
  | j :: js, s :: t :: rest, f, h => by
    have ps := List.length_pos_iff.mpr (h s (List.mem_cons_self ..))
    have pt := List.length_pos_iff.mpr (h t (List.mem_cons_of_mem _ (List.mem_cons_self ..)))
    show KpS f (s :: t :: rest) (if j = true then stk js ((s ++ t) :: rest) else s :: stk js (t :: rest))
    cases j with
    | true =>
      rw [if_pos (Eq.refl _)]
      refine KpS.trans ?_ (stk_kept js ((s ++ t) :: rest) f (fun x hx => ?_))
      · intro c hc
        have en : numB f ((s ++ t) :: rest) = (f, f + (s ++ t).length - 1, meanB (s ++ t)) :: numB (f + (s ++ t).length) rest := Eq.refl _
        have ec : numB f (s :: t :: rest) = (f, f + s.length - 1, meanB s) :: (f + s.length, f + s.length + t.length - 1, meanB t) :: numB (f + s.length + t.length) rest := Eq.refl _
        rw [ec] at hc
        rw [en, List.length_append, ← Nat.add_assoc]
        rcases List.mem_cons.mp hc with z | hc
        · subst z
          exact ⟨_, List.mem_cons_self .., Nat.le_refl _, by show f + s.length - 1 ≤ f + s.length + t.length - 1; omega⟩
        · rcases List.mem_cons.mp hc with z | hc
          · subst z
            exact ⟨_, List.mem_cons_self .., by show f ≤ f + s.length; omega, Nat.le_refl _⟩
          · exact ⟨c, List.mem_cons_of_mem _ hc, Nat.le_refl _, Nat.le_refl _⟩
      · rcases List.mem_cons.mp hx with z | z
        · rw [z]
          intro e
          exact h s (List.mem_cons_self ..) (List.append_eq_nil_iff.mp e).1
        · exact h x (List.mem_cons_of_mem _ (List.mem_cons_of_mem _ z))
    | false =>
      rw [if_neg (by decide)]
      intro c hc
      have ih := stk_kept js (t :: rest) (f + s.length) fun x hx => h x (List.mem_cons_of_mem _ hx)
      have ec : numB f (s :: t :: rest) = (f, f + s.length - 1, meanB s) :: numB (f + s.length) (t :: rest) := Eq.refl _
      have en : numB f (s :: stk js (t :: rest)) = (f, f + s.length - 1, meanB s) :: numB (f + s.length) (stk js (t :: rest)) := Eq.refl _
      rw [ec] at hc
      rw [en]
      rcases List.mem_cons.mp hc with z | hc
      · exact ⟨c, by rw [z]; exact List.mem_cons_self .., Nat.le_refl _, Nat.le_refl _⟩
      · obtain ⟨d, hd, d1, d2⟩ := ih c hc
        exact ⟨d, List.mem_cons_of_mem _ hd, d1, d2⟩
structure AtQ (bs : List Bod) (ss ss' : List (List Bod)) (t : Rat) : Prop where
  srt : SrtS ss' t
  st : StB bs ss'
  later : ∀ T, comS ss' = some T → t < T
  kp : KpS 0 ss ss'
  les : ss'.length ≤ ss.length
  same : ss'.length = ss.length → ss' = ss
  mt : ss'.length < ss.length → mightQ (ss'.map meanB) < mightQ (ss.map meanB)
theorem at_all {bs : List Bod} (w : WdB bs) {t : Rat} : ∀ (n : Nat) (ss : List (List Bod)) (now : Rat), ss.length ≤ n → StB bs ss → SrtS ss now → now ≤ t → AtQ bs ss (atS n t ss) t
  | 0, ss, now, h, st, srt, l => by
    have e : ss = [] := List.length_eq_zero_iff.mp (by omega)
    subst e
    exact ⟨List.Pairwise.nil, st, fun T hT => (nomatch hT), KpS.rfl, Nat.le_refl _, fun _ => rfl, fun z => absurd z (Nat.lt_irrefl _)⟩
  | n + 1, ss, now, h, st, srt, l => by
    show AtQ bs ss (match comS ss with | none => ss | some T => if T ≤ t then atS n t (stepS ss) else ss) t
    have pos := StB.pos w st
    have stay : (∀ T, comS ss = some T → t < T) → AtQ bs ss ss t := fun lt => ⟨srt.stay l lt, st, lt, KpS.rfl, Nat.le_refl _, fun _ => rfl, fun z => absurd z (Nat.lt_irrefl _)⟩
    cases q : comS ss with
    | none => exact stay fun T hT => by rw [q] at hT; cases hT
    | some T =>
      dsimp only
      by_cases c : T ≤ t
      · rw [if_pos c]
        have less := step_less q
        have mt := step_might pos srt q
        obtain ⟨a1, a2, a3, a4, a5, a6, a7⟩ := at_all w n (stepS ss) T (by omega) st.step (srt.step pos q) c
        refine ⟨a1, a2, a3, (stk_kept _ _ 0 st.ne).trans a4, by omega, fun z => by omega, fun _ => ?_⟩
        by_cases e : (atS n t (stepS ss)).length = (stepS ss).length
        · rw [a6 e]
          exact mt
        · have := a7 (by omega)
          grind
      · rw [if_neg c]
        exact stay fun T' hT' => by rw [q] at hT'; cases hT'; grind
theorem stAt_all {bs : List Bod} (w : WdB bs) (asc : Asc bs) {t : Rat} (h : 0 ≤ t) : AtQ bs (oneS bs) (stAt bs t) t := at_all w _ _ 0 (Nat.le_refl _) (StB.one bs) (one_srt asc w.w1) h
theorem grp_flat {α : Type} : ∀ (l : List (Bool × α)) (G : List (List α)), G ≠ [] → (l.foldl (fun G x => gAdd G x.1 x.2) G).flatten = G.flatten ++ l.map (·.2)
  | [], G, _ => by simp
  | (j, c) :: l, G, h => by
    rw [List.foldl_cons]
    have e : (gAdd G j c).flatten = G.flatten ++ [c] ∧ gAdd G j c ≠ [] := by
      unfold gAdd
      cases j with
      | true =>
        rw [if_pos rfl]
        constructor
        · have z : G = G.dropLast ++ [G.getLast h] := (List.dropLast_concat_getLast h).symm
          have z2 : G.getLast?.getD [] = G.getLast h := by rw [List.getLast?_eq_some_getLast h]; rfl
          rw [z2, List.flatten_append]
          conv => rhs; rw [z]
          simp
        · simp
      | false =>
        rw [if_neg (by decide)]
        simp
    show (l.foldl (fun G x => gAdd G x.1 x.2) (gAdd G j c)).flatten = _
    rw [grp_flat l _ e.2, e.1]
    simp
theorem grpC_flat (ss : List (List Bod)) : (grpC ss).flatten = numB 0 ss := by
  unfold grpC
  have ln := numB_len 0 ss
  cases q : numB 0 ss with
  | nil => rfl
  | cons c r =>
    rw [q] at ln
    dsimp only
    unfold grp
    rw [grp_flat _ _ (by simp)]
    have e : ((jsC ss).zip r).map (·.2) = r := List.map_snd_zip (by rw [jsC_len]; rw [List.length_cons] at ln; omega)
    rw [e]
    rfl
theorem com_fb2 {bs : List Bod} {ss : List (List Bod)} {n : Nat} (f : FitM n bs) (st : StB bs ss) {T : Rat} (h : comS ss = some T) : FB (4 * n + 2) T := by
  obtain ⟨⟨k, hk, e⟩, _⟩ := cmng_some h
  rw [List.length_map] at hk
  have h1 : ss[k]? = some ss[k] := List.getElem?_eq_getElem (by omega)
  have h2 : ss[k + 1]? = some ss[k + 1] := List.getElem?_eq_getElem hk
  rw [bod_map h1, bod_map h2] at e
  obtain ⟨e1, l1, p1⟩ := st.get h1
  obtain ⟨e2, l2, p2⟩ := st.get h2
  have f1 := f (offB ss k) (offB ss k + ss[k].length - 1) (by omega) (by omega)
  have f2 := f (offB ss (k + 1)) (offB ss (k + 1) + ss[k + 1].length - 1) (by omega) (by omega)
  rw [e1] at f1
  rw [e2] at f2
  exact jnt_fb f1 f2 e
theorem wd_of {bs : List Bod} (com : Com 30 bs) (l12 : bs.length ≤ 12) (w1 : ∀ b ∈ bs, 1 ≤ b.2.2) (w80 : ∀ b ∈ bs, b.2.2 ≤ 80) : WdB bs ∧ FitM 40 bs := by
  have fit : FitM 40 bs := fun f l hf hl => mean_fb com seg_sub (fun b hb => ⟨w1 b (seg_sub b hb), w80 b (seg_sub b hb)⟩) (Nat.le_trans (seg_len bs f l) l12) (seg_ne hf hl)
  refine ⟨⟨l12, w1, ?_, fun f l hf hl => ⟨(fit f l hf hl).1.mono (by decide), (fit f l hf hl).2.mono (by decide)⟩⟩, fit⟩
  have := sW_le bs fun b hb => ⟨w1 b hb, w80 b hb⟩
  omega
end Kw
set_option Elab.async false
set_option linter.all false
set_option maxRecDepth 100000
set_option maxHeartbeats 4000000
namespace Kw
open PySem PySem.Spec PyProof.Rows L2
section
variable {u : Rat}
end
end Kw
set_option Elab.async false
set_option linter.all false
set_option maxRecDepth 100000
set_option maxHeartbeats 4000000
namespace Kw
open PySem PySem.Spec PyProof.Rows L2
section
variable {K : PySem.W.Frag} {tt : TT} {te : TE} {idx : List Nat} {σ : L2.St} {Q : VK} {H : Hp}
end
end Kw
set_option Elab.async false
set_option linter.all false
set_option maxRecDepth 100000
set_option maxHeartbeats 4000000
namespace Kw
open PySem PySem.Spec PyProof.Rows L2
noncomputable def FlQ (K : PySem.W.Frag) (H : Hp) (v : V) (c : Clm) : Prop := ∃ p : Addr, v = .ref p ∧ SqT K H p [.int (c.1 : Int), .int (c.2.1 : Int)]
section
variable {K : PySem.W.Frag} {H H' : Hp} {v : V} {c : Clm} {as : List Addr}
theorem FlQ.same (h : FlQ K H v c) (s : Same H H') : FlQ K H' v c := by
  obtain ⟨p, e, h1⟩ := h
  exact ⟨p, e, Kw.Same.tup s h1⟩
theorem fls_same {vs : List V} {cs : List Clm} (h : Al2 (FlQ K H) vs cs) (s : Same H H') : Al2 (FlQ K H') vs cs := Al2.imp (fun _ _ z => z.same s) h
noncomputable def flD (c : Clm) : PyData := .tuple [.int (c.1 : Int), .int (c.2.1 : Int)]
theorem fls_dp : ∀ {vs : List V} {cs : List Clm}, Al2 (FlQ K H) vs cs → Dps K H vs (cs.map flD)
  | [], [], _ => .nil
  | _ :: _, _ :: _, h => by
    obtain ⟨⟨p, rfl, h1⟩, h2⟩ := h
    exact .cons (.tup h1 (.cons (.int _) (.cons (.int _) .nil))) (fls_dp h2)
  | [], _ :: _, h => h.elim
  | _ :: _, [], h => h.elim
end
theorem fld_lay : ∀ cs : List Clm, PyData.canLayAll0 (cs.map flD) = true
  | [] => rfl
  | c :: cs => by
    show (PyData.canLay0 (flD c) && PyData.canLayAll0 (cs.map flD)) = true
    rw [fld_lay cs]
    rfl
theorem fld_deep : ∀ cs : List Clm, PyData.depthAll (cs.map flD) ≤ 1
  | [] => Nat.zero_le _
  | c :: cs => by
    show max (flD c).depth (PyData.depthAll (cs.map flD)) ≤ 1
    exact Nat.max_le.mpr ⟨Nat.le_refl 1, fld_deep cs⟩
theorem numB_mem {f : Nat} {c : Clm} : ∀ {ss : List (List Bod)}, c ∈ numB f ss → ∃ i s, ss[i]? = some s ∧ c = (f + offB ss i, f + offB ss i + s.length - 1, meanB s) := fun {ss} h => by
  obtain ⟨i, hi⟩ := List.getElem?_of_mem h
  have l := (List.getElem?_eq_some_iff.mp hi).1
  rw [numB_len] at l
  have z := numB_get f ss i ss[i] (List.getElem?_eq_getElem l)
  rw [hi] at z
  exact ⟨i, ss[i], List.getElem?_eq_getElem l, Option.some.inj z⟩
theorem clT_len (t : Rat) (ss : List (List Bod)) : ((numB 0 ss).map (clT t)).length = ss.length := by rw [List.length_map, numB_len]
end Kw
set_option Elab.async false
set_option linter.all false
set_option maxRecDepth 100000
set_option maxHeartbeats 4000000
namespace Kw
open PySem PySem.Spec PyProof.Rows L2
section
variable {s u : List Bod} {t p : Rat}
end
end Kw
set_option Elab.async false
set_option linter.all false
set_option maxRecDepth 100000
set_option maxHeartbeats 4000000
namespace Kw
open PySem PySem.Spec PyProof.Rows L2
section
variable {X : Cx}
end
noncomputable def sP (t : Rat) (s : List Bod) : Rat := sX s + sV s * t
theorem sP_app (t : Rat) (s u : List Bod) : sP t (s ++ u) = sP t s + sP t u := by
  unfold sP
  rw [sX_app, sV_app]
  grind
theorem sP_mean {s : List Bod} (h : 1 ≤ sW s) (t : Rat) : sP t s = ((sW s : Int) : Rat) * plcQ (meanB s) t := (mean_plc h t).symm
theorem sP_nil (t : Rat) : sP t [] = 0 := by
  show (0 : Rat) + 0 * t = 0
  grind
theorem sP_one (t : Rat) (b : Bod) : sP t [b] = ((b.2.2 : Int) : Rat) * (b.1 + b.2.1 * t) := by
  show (((b.2.2 : Int) : Rat) * b.1 + 0) + (((b.2.2 : Int) : Rat) * b.2.1 + 0) * t = _
  grind
theorem sW_one (b : Bod) : sW [b] = b.2.2 := by
  show b.2.2 + 0 = _
  omega
section
variable {K : PySem.W.Frag} {H H' : Hp} {v : V} {c : Int × Rat} {as : List Addr} {n : Nat}
end
theorem al_dropLast {β : Type} {R : V → β → Prop} : ∀ {xs : List V} {bs : List β} {b : β}, Al2 R xs (bs ++ [b]) → Al2 R xs.dropLast bs := fun {xs bs b} h => by
  have l := Al2.len h
  rw [List.length_append, List.length_singleton] at l
  have z := Al2.takeR (xs.length - 1) h
  rw [List.dropLast_eq_take]
  have e : (bs ++ [b]).take (xs.length - 1) = bs := by
    rw [l, Nat.add_sub_cancel]
    exact List.take_left' rfl
  rw [e] at z
  exact z
end Kw
set_option Elab.async false
set_option linter.all false
set_option maxRecDepth 100000
set_option maxHeartbeats 4000000
namespace Kw
open PySem PySem.Spec PyProof.Rows L2
section
variable {X : Cx}
noncomputable def rNotInL (K : PySem.W.Frag) : V → V → Hp → VK → Prop := fun x y H Q => ∃ (d : PyData) (ds : List PyData), Dp K H x d ∧ Dp K H y (.list ds) ∧ PyData.canLayAll0 ds = true ∧ d.canLay0 = true ∧ min (PyData.depthAll ds) d.depth ≤ 60 ∧ Q (.bl (!(ds.any fun z => PyData.eqv z d))) H
theorem op_notInL {K : PySem.W.Frag} (hK : X.K = K) (hu : X.A.units + 100 < cLine) : OpR X (compareOp .NotIn) (rNotInL K) := by
  subst hK
  intro pins s σ H x y v u Q I rx ry h
  obtain ⟨d, ds, hx, hy, cs, cd, dep, q⟩ := h
  obtain ⟨as, ra⟩ := hx.reads I rx
  obtain ⟨bs, rb⟩ := hy.reads I ry
  exact SeqAt.notIn_list_reads rb ra cs cd (by omega) ⟨.bl _, H, I, rfl, q⟩
end
section
variable {K : PySem.W.Frag} {H H' : Hp} {v : V} {c : Clm} {as : List Addr}
end
section
variable {K : PySem.W.Frag} {H H' : Hp} {v : V} {m : Rat × Nat × Nat} {as : List Addr}
end
end Kw
set_option Elab.async false
set_option linter.all false
set_option maxRecDepth 100000
set_option maxHeartbeats 4000000
namespace Kw
open PySem PySem.Spec PyProof.Rows L2
section
variable {α β : Type} (f : α → β)
end
noncomputable def shB (t : Rat) (b : Bod) : Bod := (plcQ b t, b.2.1, b.2.2)
theorem jnt_sh (t : Rat) (a b : Bod) : jntQ (shB t a) (shB t b) = (jntQ a b).map (· - t) := by
  unfold jntQ
  show (if a.2.1 - b.2.1 ≤ 0 then none else some ((b.1 + b.2.1 * t - (a.1 + a.2.1 * t)) / (a.2.1 - b.2.1))) = _
  by_cases c : a.2.1 - b.2.1 ≤ 0
  · rw [if_pos c, if_pos c]
    rfl
  · rw [if_neg c, if_neg c]
    show some _ = some _
    have i := Rat.mul_inv_cancel (a.2.1 - b.2.1) (by grind)
    rw [Rat.div_def, Rat.div_def]
    congr 1
    grind
theorem jnts_sh (t : Rat) : ∀ gs : List Bod, jnts (gs.map (shB t)) = (jnts gs).map (Option.map (· - t))
  | [] => rfl
  | [a] => rfl
  | a :: b :: gs => by
    show jntQ (shB t a) (shB t b) :: jnts ((b :: gs).map (shB t)) = (jntQ a b).map (· - t) :: (jnts (b :: gs)).map (Option.map (· - t))
    rw [jnt_sh, jnts_sh t (b :: gs)]
theorem less1_sh (t : Rat) (o : Option Rat) (m : Rat) : less1 (o.map (· - t)) (m - t) = (less1 o m).map (· - t) := by
  cases o with
  | none => rfl
  | some f =>
    by_cases c : m < f
    · have e1 : less1 (some f) m = some m := if_pos c
      have e2 : less1 (some (f - t)) (m - t) = some (m - t) := if_pos (by grind)
      show less1 (some (f - t)) (m - t) = _
      rw [e1, e2]
      rfl
    · have e1 : less1 (some f) m = some f := if_neg c
      have e2 : less1 (some (f - t)) (m - t) = some (f - t) := if_neg (by grind)
      show less1 (some (f - t)) (m - t) = _
      rw [e1, e2]
      rfl
theorem fold_sh (t : Rat) : ∀ (l : List Rat) (o : Option Rat), (l.map (· - t)).foldl less1 (o.map (· - t)) = (l.foldl less1 o).map (· - t)
  | [], o => rfl
  | m :: l, o => by
    rw [List.map_cons, List.foldl_cons, List.foldl_cons, less1_sh, fold_sh t l]
theorem filt_sh (t : Rat) : ∀ l : List (Option Rat), (l.map (Option.map (· - t))).filterMap id = (l.filterMap id).map (· - t)
  | [] => rfl
  | none :: l => by
    show ((l.map (Option.map (· - t))).filterMap id) = _
    rw [filt_sh t l]
    rfl
  | some x :: l => by
    show (x - t) :: ((l.map (Option.map (· - t))).filterMap id) = _
    rw [filt_sh t l]
    rfl
theorem cmng_sh (t : Rat) (gs : List Bod) : cmng (gs.map (shB t)) = (cmng gs).map (· - t) := by
  unfold cmng leastQ
  rw [jnts_sh, filt_sh]
  exact fold_sh t _ none
end Kw
set_option Elab.async false
set_option linter.all false
set_option maxRecDepth 100000
set_option maxHeartbeats 4000000
namespace Kw
open PySem PySem.Spec PyProof.Rows L2
noncomputable def hisS : Nat → Rat → List (List Bod) → List (Rat × List (List Bod))
  | 0, now, ss => [(now, ss)]
  | n + 1, now, ss => (now, ss) :: match comS ss with
    | none => []
    | some T => hisS n T (stepS ss)
noncomputable def hisB (bs : List Bod) : List (Rat × List (List Bod)) := hisS (oneS bs).length 0 (oneS bs)
theorem his_fuel : ∀ (n m : Nat) (now : Rat) (ss : List (List Bod)), ss.length ≤ n → ss.length ≤ m → hisS n now ss = hisS m now ss
  | 0, 0, _, _, _, _ => rfl
  | 0, m + 1, now, ss, h, _ => by
    have e : ss = [] := List.length_eq_zero_iff.mp (by omega)
    subst e
    rfl
  | n + 1, 0, now, ss, _, h => by
    have e : ss = [] := List.length_eq_zero_iff.mp (by omega)
    subst e
    rfl
  | n + 1, m + 1, now, ss, h1, h2 => by
    show (now, ss) :: (match comS ss with | none => [] | some T => hisS n T (stepS ss)) = (now, ss) :: (match comS ss with | none => [] | some T => hisS m T (stepS ss))
    cases q : comS ss with
    | none => rfl
    | some T =>
      have := step_less q
      dsimp only
      rw [his_fuel n m T (stepS ss) (by omega) (by omega)]
theorem his_some {ss : List (List Bod)} {T now : Rat} (h : comS ss = some T) : hisS ss.length now ss = (now, ss) :: hisS (stepS ss).length T (stepS ss) := by
  have l := step_less h
  rw [his_fuel ss.length (ss.length - 1 + 1) now ss (Nat.le_refl _) (by omega)]
  show (now, ss) :: (match comS ss with | none => [] | some T => hisS (ss.length - 1) T (stepS ss)) = _
  rw [h]
  dsimp only
  rw [his_fuel (ss.length - 1) (stepS ss).length T (stepS ss) (by omega) (Nat.le_refl _)]
theorem his_none {ss : List (List Bod)} {now : Rat} (h : comS ss = none) : hisS ss.length now ss = [(now, ss)] := by
  rw [his_fuel ss.length (ss.length + 1) now ss (Nat.le_refl _) (by omega)]
  show (now, ss) :: (match comS ss with | none => [] | some T => hisS ss.length T (stepS ss)) = _
  rw [h]
structure HisQ (bs : List Bod) (l : List (Rat × List (List Bod))) : Prop where
  st : ∀ h ∈ l, StB bs h.2 ∧ SrtS h.2 h.1 ∧ 0 ≤ h.1 ∧ FB 162 h.1 ∧ h.2 ≠ []
  nxt : ∀ k a b, l[k]? = some a → l[k + 1]? = some b → comS a.2 = some b.1 ∧ b.2 = stepS a.2
theorem his_all {bs : List Bod} (w : WdB bs) (fit : FitM 40 bs) : ∀ (n : Nat) (now : Rat) (ss : List (List Bod)), StB bs ss → SrtS ss now → 0 ≤ now → FB 162 now → ss ≠ [] → HisQ bs (hisS n now ss) ∧ ∀ h ∈ hisS n now ss, now ≤ h.1
  | 0, now, ss, st, srt, h0, d, ne => by
    refine ⟨⟨fun h hh => ?_, fun k a b ha hb => ?_⟩, fun h hh => ?_⟩
    · rw [List.mem_singleton.mp hh]
      exact ⟨st, srt, h0, d, ne⟩
    · have hb' : ([(now, ss)] : List (Rat × List (List Bod)))[k + 1]? = some b := hb
      simp at hb'
    · rw [List.mem_singleton.mp hh]
      exact Rat.le_refl
  | n + 1, now, ss, st, srt, h0, d, ne => by
    have pos := StB.pos w st
    cases q : comS ss with
    | none =>
      have e : hisS (n + 1) now ss = [(now, ss)] := by
        show (now, ss) :: (match comS ss with | none => [] | some T => hisS n T (stepS ss)) = _
        rw [q]
      rw [e]
      refine ⟨⟨fun h hh => ?_, fun k a b ha hb => ?_⟩, fun h hh => ?_⟩
      · rw [List.mem_singleton.mp hh]
        exact ⟨st, srt, h0, d, ne⟩
      · simp at hb
      · rw [List.mem_singleton.mp hh]
        exact Rat.le_refl
    | some T =>
      have e : hisS (n + 1) now ss = (now, ss) :: hisS n T (stepS ss) := by
        show (now, ss) :: (match comS ss with | none => [] | some T => hisS n T (stepS ss)) = _
        rw [q]
      have lt := com_lt srt q
      have nes : stepS ss ≠ [] := fun z => by
        have := step_ne (ss := ss) (List.length_pos_iff.mpr ne)
        rw [z] at this
        exact absurd this (by simp)
      obtain ⟨⟨i1, i2⟩, i3⟩ := his_all w fit n T (stepS ss) st.step (srt.step pos q) (by grind) (com_fb2 fit st q) nes
      rw [e]
      refine ⟨⟨fun h hh => ?_, fun k a b ha hb => ?_⟩, fun h hh => ?_⟩
      · rcases List.mem_cons.mp hh with rfl | z
        · exact ⟨st, srt, h0, d, ne⟩
        · exact i1 h z
      · cases k with
        | zero =>
          have ea : (now, ss) = a := by simpa using ha
          have hb' : (hisS n T (stepS ss))[0]? = some b := by simpa using hb
          have eb : (hisS n T (stepS ss))[0]? = some (T, stepS ss) := by cases n <;> rfl
          rw [eb] at hb'
          cases hb'
          rw [← ea]
          exact ⟨q, rfl⟩
        | succ k => exact i2 k a b (by simpa using ha) (by simpa using hb)
      · rcases List.mem_cons.mp hh with rfl | z
        · exact Rat.le_refl
        · have := i3 h z
          grind
theorem hisB_all {bs : List Bod} (w : WdB bs) (fit : FitM 40 bs) (asc : Asc bs) (l1 : 1 ≤ bs.length) : HisQ bs (hisB bs) := (his_all w fit _ 0 (oneS bs) (StB.one bs) (one_srt asc w.w1) Rat.le_refl ((FB.ofInt (n := 64) (i := 0) (Bd.small (by decide) (by decide)) (by decide)).mono (by decide)) (fun z => by
  have := congrArg List.length z
  unfold oneS at this
  rw [List.length_map] at this
  simp at this
  rw [this] at l1
  exact absurd l1 (by simp))).1
noncomputable def runH : List (Rat × List (List Bod)) → List (Rat × Rat × Nat × Nat)
  | a :: b :: rest => madeG b.1 (grpC a.2) ++ runH (b :: rest)
  | _ => []
theorem run_his : ∀ (n : Nat) (now : Rat) (ss : List (List Bod)), runH (hisS n now ss) = runS n ss
  | 0, _, _ => rfl
  | n + 1, now, ss => by
    show runH ((now, ss) :: match comS ss with | none => [] | some T => hisS n T (stepS ss)) = (match comS ss with | none => [] | some T => madeG T (grpC ss) ++ runS n (stepS ss))
    cases comS ss with
    | none => rfl
    | some T =>
      dsimp only
      rw [← run_his n T (stepS ss)]
      cases n with
      | zero => rfl
      | succ n => rfl
theorem runH_snoc (a b : Rat × List (List Bod)) : ∀ l : List (Rat × List (List Bod)), runH (l ++ [a, b]) = runH (l ++ [a]) ++ madeG b.1 (grpC a.2)
  | [] => by
    show madeG b.1 (grpC a.2) ++ [] = [] ++ _
    rw [List.append_nil, List.nil_append]
  | [c] => by
    show madeG a.1 (grpC c.2) ++ (madeG b.1 (grpC a.2) ++ []) = (madeG a.1 (grpC c.2) ++ []) ++ _
    rw [List.append_nil, List.append_nil]
  | c :: d :: l => by
    show madeG d.1 (grpC c.2) ++ runH ((d :: l) ++ [a, b]) = (madeG d.1 (grpC c.2) ++ runH ((d :: l) ++ [a])) ++ _
    rw [runH_snoc a b (d :: l), List.append_assoc]
noncomputable def lastH (t : Rat) (l : List (Rat × List (List Bod))) (p : List (List Bod)) : List (List Bod) := l.foldl (fun p h => if t < h.1 then p else h.2) p
theorem lastH_later {t : Rat} : ∀ (l : List (Rat × List (List Bod))) (p : List (List Bod)), (∀ h ∈ l, t < h.1) → lastH t l p = p
  | [], _, _ => rfl
  | h :: l, p, hl => by
    show lastH t l (if t < h.1 then p else h.2) = p
    rw [if_pos (hl h (List.mem_cons_self ..))]
    exact lastH_later l p fun x hx => hl x (List.mem_cons_of_mem _ hx)
theorem lastH_at {bs : List Bod} (w : WdB bs) (fit : FitM 40 bs) {t : Rat} : ∀ (n : Nat) (now : Rat) (ss p : List (List Bod)), StB bs ss → SrtS ss now → 0 ≤ now → FB 162 now → ss ≠ [] → now ≤ t → lastH t (hisS n now ss) p = atS n t ss
  | 0, now, ss, p, _, _, _, _, _, l => by
    show (if t < now then p else ss) = ss
    rw [if_neg (by grind)]
  | n + 1, now, ss, p, st, srt, h0, d, ne, l => by
    have pos := StB.pos w st
    show lastH t (match comS ss with | none => [] | some T => hisS n T (stepS ss)) (if t < now then p else ss) = (match comS ss with | none => ss | some T => if T ≤ t then atS n t (stepS ss) else ss)
    rw [if_neg (show ¬ t < now by grind)]
    cases q : comS ss with
    | none => rfl
    | some T =>
      dsimp only
      have lt := com_lt srt q
      have nes : stepS ss ≠ [] := fun z => by
        have := step_ne (ss := ss) (List.length_pos_iff.mpr ne)
        rw [z] at this
        exact absurd this (by simp)
      by_cases c : T ≤ t
      · rw [if_pos c]
        exact lastH_at w fit n T (stepS ss) ss st.step (srt.step pos q) (by grind) (com_fb2 fit st q) nes c
      · rw [if_neg c]
        refine lastH_later _ _ fun h hh => ?_
        have := (his_all w fit n T (stepS ss) st.step (srt.step pos q) (by grind) (com_fb2 fit st q) nes).2 h hh
        grind
theorem lastH_snoc (t : Rat) (l : List (Rat × List (List Bod))) (h : Rat × List (List Bod)) (p : List (List Bod)) : lastH t (l ++ [h]) p = if t < h.1 then lastH t l p else h.2 := by
  unfold lastH
  rw [List.foldl_append]
  rfl
theorem stk_snoc (T : Rat) : ∀ (rest : List (List Bod)) (s u l : List Bod), (∀ x ∈ s :: rest, 1 ≤ sW x) → (s :: rest).getLast? = some l → ∃ A m, stk (jsT T (s :: rest)) (s :: rest) = A ++ [m] ∧ (∃ f, m = f ++ l) ∧ stk (jsT T (s :: rest ++ [u])) (s :: rest ++ [u]) = if plcQ (meanB l) T = plcQ (meanB u) T then A ++ [m ++ u] else A ++ [m, u]
  | [], s, u, l, hw, hl => by
    have e : s = l := by simpa using hl
    subst e
    refine ⟨[], s, rfl, ⟨[], rfl⟩, ?_⟩
    show stk [decide (plcQ (meanB s) T = plcQ (meanB u) T)] [s, u] = _
    by_cases c : plcQ (meanB s) T = plcQ (meanB u) T
    · rw [decide_eq_true c, if_pos c]
      rfl
    · rw [decide_eq_false c, if_neg c]
      rfl
  | v :: rest, s, u, l, hw, hl => by
    have hl' : (v :: rest).getLast? = some l := by
      rw [List.getLast?_cons_cons] at hl
      exact hl
    have ws := hw s (List.mem_cons_self ..)
    have wv := hw v (List.mem_cons_of_mem _ (List.mem_cons_self ..))
    by_cases c : plcQ (meanB s) T = plcQ (meanB v) T
    · have pv := plc_app ws wv c rfl
      have e : ∀ r : List (List Bod), stk (jsT T (s :: v :: r)) (s :: v :: r) = stk (jsT T ((s ++ v) :: r)) ((s ++ v) :: r) := fun r => by
        show stk (decide (plcQ (meanB s) T = plcQ (meanB v) T) :: jsT T (v :: r)) (s :: v :: r) = _
        rw [decide_eq_true c]
        show stk (jsT T (v :: r)) ((s ++ v) :: r) = _
        rw [jsT_head (s := v) (s' := s ++ v) pv.symm]
      have hw' : ∀ x ∈ (s ++ v) :: rest, 1 ≤ sW x := fun x hx => by
        rcases List.mem_cons.mp hx with rfl | y
        · rw [sW_app]; omega
        · exact hw x (List.mem_cons_of_mem _ (List.mem_cons_of_mem _ y))
      cases rest with
      | nil =>
        have el : v = l := by simpa using hl'
        subst el
        obtain ⟨A, m, h1, ⟨f, h2⟩, h3⟩ := stk_snoc T [] (s ++ v) u (s ++ v) hw' rfl
        refine ⟨A, m, (e []).trans h1, ⟨f ++ s, by rw [h2, List.append_assoc]⟩, ?_⟩
        have e2 := e [u]
        show stk (jsT T (s :: v :: [u])) (s :: v :: [u]) = _
        rw [e2]
        rw [pv] at h3
        exact h3
      | cons y r =>
        have hl2 : ((s ++ v) :: y :: r).getLast? = some l := by
          rw [List.getLast?_cons_cons]
          rw [List.getLast?_cons_cons] at hl'
          exact hl'
        obtain ⟨A, m, h1, h2, h3⟩ := stk_snoc T (y :: r) (s ++ v) u l hw' hl2
        refine ⟨A, m, (e (y :: r)).trans h1, h2, ?_⟩
        have e2 := e (y :: r ++ [u])
        show stk (jsT T (s :: v :: (y :: r ++ [u]))) (s :: v :: (y :: r ++ [u])) = _
        rw [e2]
        exact h3
    · have e : ∀ r : List (List Bod), stk (jsT T (s :: v :: r)) (s :: v :: r) = s :: stk (jsT T (v :: r)) (v :: r) := fun r => by
        show stk (decide (plcQ (meanB s) T = plcQ (meanB v) T) :: jsT T (v :: r)) (s :: v :: r) = _
        rw [decide_eq_false c]
        rfl
      obtain ⟨A, m, h1, h2, h3⟩ := stk_snoc T rest v u l (fun x hx => hw x (List.mem_cons_of_mem _ hx)) hl'
      refine ⟨s :: A, m, by rw [e, h1]; rfl, h2, ?_⟩
      have e2 := e (rest ++ [u])
      show stk (jsT T (s :: v :: (rest ++ [u]))) (s :: v :: (rest ++ [u])) = _
      rw [e2]
      have h3' : stk (jsT T (v :: (rest ++ [u]))) (v :: (rest ++ [u])) = _ := h3
      rw [h3']
      by_cases c2 : plcQ (meanB l) T = plcQ (meanB u) T
      · rw [if_pos c2, if_pos c2]
        rfl
      · rw [if_neg c2, if_neg c2]
        rfl
theorem off_lt {ss : List (List Bod)} (ne : ∀ s ∈ ss, s ≠ []) {i j : Nat} (h : i < j) (hj : j < ss.length) : offB ss i < offB ss j := by
  have hi : ss[i]? = some ss[i] := List.getElem?_eq_getElem (by omega)
  have os := off_succ hi
  have p := List.length_pos_iff.mpr (ne _ (List.mem_of_getElem? hi))
  have le : offB ss (i + 1) ≤ offB ss j := by
    unfold offB
    have z := List.take_take (i := i + 1) (j := j) (l := ss)
    rw [Nat.min_eq_left (by omega)] at z
    have y := List.take_append_drop (i + 1) (ss.take j)
    rw [z] at y
    rw [← y, List.flatten_append, List.length_append]
    omega
  omega
theorem numB_first {f : Nat} {ss : List (List Bod)} (ne : ∀ s ∈ ss, s ≠ []) {c d : Clm} (hc : c ∈ numB f ss) (hd : d ∈ numB f ss) (e : c.1 = d.1) : c = d := by
  obtain ⟨i, s, hs, rfl⟩ := numB_mem hc
  obtain ⟨j, u, hu, rfl⟩ := numB_mem hd
  have li := (List.getElem?_eq_some_iff.mp hs).1
  have lj := (List.getElem?_eq_some_iff.mp hu).1
  have e' : f + offB ss i = f + offB ss j := e
  by_cases h : i = j
  · subst h
    rw [hs] at hu
    cases hu
    rfl
  · exfalso
    by_cases h2 : i < j
    · have := off_lt ne h2 lj
      omega
    · have := off_lt ne (show j < i by omega) li
      omega
theorem grp_new {bs : List Bod} {ss : List (List Bod)} (w : WdB bs) (st : StB bs ss) {g : List Clm} (hg : g ∈ grpC ss) : (∃ c ∈ numB 0 ss, c.1 = (joinC g).1 ∧ c.2.1 = (joinC g).2.1) ↔ ¬ 1 < g.length := by
  have fl := grpC_flat ss
  have sub : ∀ c ∈ g, c ∈ numB 0 ss := fun c hc => by
    rw [← fl]
    exact List.mem_flatten.mpr ⟨g, hg, hc⟩
  obtain ⟨f', gs', rfl, ne, ne2, ps⟩ := (grpC_join w st).2 g hg
  rw [join_num ne ne2 ps, numB_len]
  obtain ⟨a, r, rfl⟩ : ∃ a r, gs' = a :: r := by
    cases gs' with
    | nil => exact absurd rfl ne
    | cons a r => exact ⟨a, r, rfl⟩
  have hd : (f', f' + a.length - 1, meanB a) ∈ numB 0 ss := sub _ (List.mem_cons_self ..)
  have pa := List.length_pos_iff.mpr (ne2 a (List.mem_cons_self ..))
  constructor
  · rintro ⟨c, hc, e1, e2⟩ l
    have ec := numB_first st.ne hc hd e1
    rw [ec] at e2
    have e2' : f' + a.length - 1 = f' + (a :: r).flatten.length - 1 := e2
    rw [List.flatten_cons, List.length_append] at e2'
    obtain ⟨b, r', rfl⟩ : ∃ b r', r = b :: r' := by
      cases r with
      | nil => simp at l
      | cons b r' => exact ⟨b, r', rfl⟩
    have pb := List.length_pos_iff.mpr (ne2 b (List.mem_cons_of_mem _ (List.mem_cons_self ..)))
    rw [List.flatten_cons, List.length_append] at e2'
    omega
  · intro l
    have er : r = [] := by
      cases r with
      | nil => rfl
      | cons b r' => simp at l
    subst er
    refine ⟨_, hd, rfl, ?_⟩
    show f' + a.length - 1 = f' + [a].flatten.length - 1
    simp
theorem fl_any (c : Clm) : ∀ cs : List Clm, ((cs.map flD).any fun z => PyData.eqv z (flD c)) = decide (∃ d ∈ cs, d.1 = c.1 ∧ d.2.1 = c.2.1)
  | [] => by simp
  | d :: cs => by
    rw [List.map_cons, List.any_cons, fl_any c cs]
    have e : PyData.eqv (flD d) (flD c) = decide (d.1 = c.1 ∧ d.2.1 = c.2.1) := by
      unfold flD
      rw [eqv_2]
      by_cases h1 : d.1 = c.1
      · by_cases h2 : d.2.1 = c.2.1
        · simp [h1, h2]
        · have : ¬ ((d.2.1 : Int) = (c.2.1 : Int)) := by omega
          simp [h1, h2, this]
      · have : ¬ ((d.1 : Int) = (c.1 : Int)) := by omega
        simp [h1, this]
    rw [e]
    by_cases h : d.1 = c.1 ∧ d.2.1 = c.2.1
    · rw [decide_eq_true h]
      simp [h.1, h.2]
    · rw [decide_eq_false h, Bool.false_or]
      refine decide_eq_decide.mpr ⟨fun ⟨x, hx, hh⟩ => ⟨x, List.mem_cons_of_mem _ hx, hh⟩, fun ⟨x, hx, hh⟩ => ?_⟩
      rcases List.mem_cons.mp hx with rfl | z
      · exact absurd hh h
      · exact ⟨x, z, hh⟩
noncomputable def HiQ (K : PySem.W.Frag) (H : Hp) (pf : Addr) (v : V) (h : Rat × List (List Bod)) : Prop := ∃ (p a b : Addr) (ys : List V), v = .ref p ∧ SqT K H p [.ref a, .ref b] ∧ FQ K H a h.1 ∧ H b = some (.lst ys) ∧ Al2 (FlQ K H) ys (numB 0 h.2) ∧ b ≠ pf
section
variable {K : PySem.W.Frag} {H H' : Hp} {v : V} {h : Rat × List (List Bod)} {pf : Addr} {as : List Addr}
theorem HiQ.same (q : HiQ K H pf v h) (s : Same H H') : HiQ K H' pf v h := by
  obtain ⟨p, a, b, ys, e, h1, h2, h3, h4, h5⟩ := q
  exact ⟨p, a, b, ys, e, Kw.Same.tup s h1, Kw.Same.tup s h2, s _ _ h3, fls_same h4 s, h5⟩
theorem FlQ.buts {c : Clm} (q : FlQ K H v c) (s : Buts as H H') (nt : NoT as H) : FlQ K H' v c := by
  obtain ⟨p, e, h1⟩ := q
  exact ⟨p, e, s.tup nt h1⟩
theorem fls_buts {vs : List V} {cs : List Clm} (q : Al2 (FlQ K H) vs cs) (s : Buts as H H') (nt : NoT as H) : Al2 (FlQ K H') vs cs := Al2.imp (fun _ _ z => z.buts s nt) q
theorem HiQ.but {xs : List V} (q : HiQ K H pf v h) (s : But pf H H') (hp : H pf = some (.lst xs)) : HiQ K H' pf v h := by
  obtain ⟨p, a, b, ys, e, h1, h2, h3, h4, h5⟩ := q
  have b' : Buts [pf] H H' := Buts.one s (List.mem_singleton.mpr rfl)
  have nt : NoT [pf] H := NoT.lst hp NoT.nil
  exact ⟨p, a, b, ys, e, b'.tup nt h1, b'.tup nt h2, s _ _ h5 h3, fls_buts h4 b' nt, h5⟩
theorem his_same {vs : List V} {hs : List (Rat × List (List Bod))} (q : Al2 (HiQ K H pf) vs hs) (s : Same H H') : Al2 (HiQ K H' pf) vs hs := Al2.imp (fun _ _ z => z.same s) q
theorem his_but {vs : List V} {hs : List (Rat × List (List Bod))} {xs : List V} (q : Al2 (HiQ K H pf) vs hs) (s : But pf H H') (hp : H pf = some (.lst xs)) : Al2 (HiQ K H' pf) vs hs := Al2.imp (fun _ _ z => z.but s hp) q
end
theorem pre_fb {bs : List Bod} (w : WdB bs) (fit : FitM 40 bs) {f l i : Nat} (hl : l < bs.length) (hi : i ≤ (segB bs f l).length) {t : Rat} {m : Nat} (dt : FB m t) : FB 104 (sV ((segB bs f l).take i)) ∧ FB (m + 145) (sP t ((segB bs f l).take i)) ∧ 0 ≤ sW ((segB bs f l).take i) ∧ sW ((segB bs f l).take i) ≤ 10000 := by
  by_cases e : i = 0
  · subst e
    rw [List.take_zero, sP_nil]
    have z : FB 64 (0 : Rat) := FB.ofInt (n := 64) (i := 0) (Bd.small (by decide) (by decide)) (by decide)
    exact ⟨z.mono (by decide), z.mono (by omega), Int.le_refl 0, by decide⟩
  · have ls : (segB bs f l).length = min (l + 1 - f) (bs.length - f) := by
      unfold segB
      rw [List.length_take, List.length_drop]
    have es : (segB bs f l).take i = segB bs f (f + i - 1) := by
      unfold segB
      rw [List.take_take, show f + i - 1 + 1 - f = i by omega, Nat.min_eq_left (by omega)]
    rw [es]
    have z := fit f (f + i - 1) (by omega) (by omega)
    have ne := seg_ne (bs := bs) (f := f) (l := f + i - 1) (by omega) (by omega)
    have wp : 1 ≤ sW (segB bs f (f + i - 1)) := sW_pos ne fun b hb => w.w1 b (seg_sub b hb)
    have wl := seg_w w.w1 f (f + i - 1)
    have ws := w.wS
    have dW : FB 64 ((sW (segB bs f (f + i - 1)) : Int) : Rat) := FB.ofInt (Bd.small (by omega) (by omega)) (by decide)
    refine ⟨?_, ?_, by omega, by omega⟩
    · rw [← (mean_mul wp).2]
      exact (FB.mul dW z.2).mono (by decide)
    · rw [sP_mean wp]
      unfold plcQ
      exact (FB.mul dW (FB.add z.1 (FB.mul z.2 dt))).mono (by omega)
theorem cut_seg {xs : List V} {f l : Nat} (hf : f ≤ l) (hl : l < xs.length) : cutV xs (some (f : Int)) (some ((l : Int) + 1)) = (xs.drop f).take (l + 1 - f) := by
  unfold cutV
  have e : ((l : Int) + 1) = ((l + 1 : Nat) : Int) := by omega
  rw [e, HT.sIx_nat, HT.sIx_nat, Nat.min_eq_left (by omega), Nat.min_eq_left (by omega)]
theorem set_last {ws : List V} (x : V) (h : ws ≠ []) : ws.set (ws.length - 1) x = ws.dropLast ++ [x] := by
  obtain ⟨A, b, rfl⟩ : ∃ A b, ws = A ++ [b] := ⟨ws.dropLast, ws.getLast h, (List.dropLast_concat_getLast h).symm⟩
  rw [List.length_append, List.length_singleton, Nat.add_sub_cancel, List.set_append_right _ _ (Nat.le_refl _), Nat.sub_self, List.dropLast_concat]
  rfl
end Kw
set_option Elab.async false
set_option linter.all false
set_option maxRecDepth 100000
set_option maxHeartbeats 4000000
namespace Prf
open PySem PySem.Spec PyProof.Rows L2 Kw
noncomputable def top (i : Nat) : Stmt := PySem.Challenge.pw_knockwright_k81_what_sticks.main.body.getD i (.Pass ⟨0, 0, 0, 0⟩)
structure Tx (K : PySem.W.Frag) (mg : Str → Option Value) (CK : Addr) (C : Nat → Addr) : Prop where
  b_isinstance : mg "isinstance" = none
  b_list : mg "list" = none
  b_abs : mg "abs" = none
  b_len : mg "len" = none
  b_divmod : mg "divmod" = none
  b_range : mg "range" = none
  b_max : mg "max" = none
  b_min : mg "min" = none
  b_ValueError : mg "ValueError" = none
  b_enumerate : mg "enumerate" = none
  b_sum : mg "sum" = none
  c_KnockError : mg "KnockError" = some (.ref CK)
  c_NoMoment : mg "NoMoment" = some (.ref (C 0))
  R : Refs K CK C 1 1
  rd : PySem.W.readsIn K CK (.type "type") = true
  fc : PySem.W.findCls K (.ref CK) (.type "type") "__init__" = some (.val (.builtin "ValueError.__init__"))
  gs : PySem.W.specialIn K (.ref CK) "__getattribute__" = some (some (.builtin "type.__getattribute__"))
  s_NoMoment_NoMoment : PySem.W.subIn K (.ref (C 0)) (.ref (C 0)) = some true
  c_Sticking : mg "Sticking" = some (.ref (C 1))
  cl_Sticking : Cls K (C 1)
  mk_Sticking : PySem.W.makesIn K (C 1) = true
  kp_Sticking : PySem.W.keepIn K (.ref (C 1)) = true
  n_Sticking_clumps : NoAttr K (C 1) "clumps"
  n_Sticking_known : NoAttr K (C 1) "known"
  n_Sticking_joints : NoAttr K (C 1) "joints"
  n_Sticking_coming : NoAttr K (C 1) "coming"
  k_LONG_BITS : ∃ t, mg "LONG_BITS" = some (.int 4000 t)
  k_NOUGHT : ∃ N, mg "NOUGHT" = some (.ref N) ∧ ∀ H, SqT K H N [.int 0, .int 1]
section
variable {P : Program} {w : World} {K : PySem.W.Frag} {mg : Str → Option Value} {base : Heap} {CK : Addr} {C : Nat → Addr}
theorem Tx.x_NoMoment (T : Tx K mg CK C) : ExcC K (C 0) := T.R.x 0 (by decide) (by decide)
theorem Tx.g_NoMoment (T : Tx K mg CK C) : ClsX K (C 0) := clsx_c T.x_NoMoment
theorem sc_common_divisor : FnScope ["one", "other", "great", "small", "steps", "rest"] ["one", "other"] (defScope (top 8)) := ⟨rfl, rfl, rfl, by decide +kernel, rfl, by decide +kernel, by decide +kernel⟩
theorem ok_common_divisor (D : Df K mg "common_divisor" (top 8) ["one", "other"]) (T : Tx K mg CK C) : Fn P w K mg base 1 "common_divisor" ["one", "other"] spGcdB := by
  refine D.ok0 sc_common_divisor (fun vs H Q E h => ?_) (fun f cdv A outer s H vs Q E hr h => ?_)
  · obtain ⟨a, b, rfl, _⟩ := h
    rfl
  obtain ⟨a, b, rfl, hb, q⟩ := h
  refine ⟨_, (pss_cons (ps_set (i := 2) sc_common_divisor.nd rfl (Or.inl rfl) (pe_callB call_abs (by rfl) T.b_abs PyProof.Rows.Boot.«abs» (pa_cons (pv 0) pa_nil)))
      (pss_cons (ps_set (i := 3) sc_common_divisor.nd rfl (Or.inl rfl) (pe_callB call_abs (by rfl) T.b_abs PyProof.Rows.Boot.«abs» (pa_cons (pv 1) pa_nil)))
      (pss_cons (ps_while PassesOwn.never (pt_cmpR op_gt (pe_bm0 PySem.F.plainAttrs_int PySem.F.slot_int_bit_length PySem.F.type_int_bit_length mt_bits (pe_callB (call_min2 rfl) (by rfl) T.b_min PyProof.Rows.Boot.«min» (pa_cons (pv 2) (pa_cons (pv 3) pa_nil)))) (pe_globI (by rfl) T.k_LONG_BITS) (nomark _)) pss_never)
      (pss_cons (ps_while PassesOwn.never (pt_cmpR op_gt (pv 3) pe_int (nomark _)) (pss_cons (ps_set (i := 5) sc_common_divisor.nd rfl (Or.inl rfl) (pe_op op_mod (pv 2) (pv 3)))
      (pss_cons (ps_set (i := 2) sc_common_divisor.nd rfl (Or.inl rfl) (pv 3))
      (pss_one (ps_set (i := 3) sc_common_divisor.nd rfl (Or.inl rfl) (pv 5))))))
      (pss_one (ps_ret (pv 2))))))), ?_⟩
  refine ⟨_, rfl, _, rfl, _, rfl, _, rfl, ?_⟩
  refine ⟨fun m σ' H' => ∃ r1 r2 : Option V, σ' = [some (.int a), some (.int b), some (.int (if a < 0 then -a else a)), some (.int (if b < 0 then -b else b)), r1, r2] ∧ H' = H, ⟨0, _, _, rfl, rfl⟩, ?_⟩
  rintro m σ' H' ⟨r1, r2, rfl, rfl⟩
  refine ⟨_, rfl, _, rfl, _, _, rfl, rfl, _, rfl, rfl, _, _, rfl, rfl, _, rfl, ?_⟩
  refine if_dec (fun c => absurd c (short_min hb)) (fun _ => ?_)
  refine ⟨fun m σ' H2 => ∃ g s : Int, ∃ r1 r2 : Option V, σ' = [some (.int a), some (.int b), some (.int g), some (.int s), r1, r2] ∧ H2 = H' ∧ 0 ≤ g ∧ 0 ≤ s ∧ m = s.toNat ∧ Int.gcd g s = Int.gcd a b, ⟨_, _, _, _, _, rfl, rfl, abs_nn a, abs_nn b, rfl, gcd_abs a b⟩, ?_⟩
  rintro m σ' H2 ⟨g, s, r1, r2, rfl, rfl, hg, hs, rfl, e⟩
  refine ⟨_, rfl, _, _, rfl, rfl, _, rfl, ?_⟩
  refine if_dec (fun c => ?_) (fun c => ?_)
  · refine ⟨_, fun _ _ n => n, ?_⟩
    refine ⟨_, rfl, _, rfl, _, _, rfl, rfl, c, _, rfl, _, rfl, ?_⟩
    have l := Int.emod_lt_of_pos g c
    have l0 := Int.emod_nonneg g (show s ≠ 0 by omega)
    exact ⟨_, by omega, s, g % s, _, _, rfl, rfl, by omega, l0, rfl, (gcd_step g s hg c).trans e⟩
  · refine ⟨_, rfl, ?_⟩
    have s0 : s = 0 := by omega
    subst s0
    have z := gcd_end g hg
    rw [e] at z
    rw [← z]
    exact q
noncomputable def sp_plus (K : PySem.W.Frag) : Sp := fun vs H Q _ => ∃ (p_x : Addr) (x : Rat) (p_y : Addr) (y : Rat), vs = [.ref p_x, .ref p_y] ∧ FQ K H p_x x ∧ FB 8900 x ∧ FQ K H p_y y ∧ FB 4000 y ∧ (∀ (p_r : Addr) (H1 : Hp), Same H H1 → FQ K H1 p_r (x + y) → Q (.ref p_r) H1)
theorem sc_plus : FnScope ["one", "other", "shared", "top", "divisor"] ["one", "other"] (defScope (top 9)) := ⟨rfl, rfl, rfl, by decide +kernel, rfl, by decide +kernel, by decide +kernel⟩
theorem ok_plus (D : Df K mg "plus" (top 9) ["one", "other"]) (T : Tx K mg CK C) (F_common_divisor : Fn P w K mg base 1 "common_divisor" ["one", "other"] spGcdB) : Fn P w K mg base 2 "plus" ["one", "other"] (sp_plus K) := by
  refine D.ok0 sc_plus (fun vs H Q E h => ?_) (fun f cdv A outer s H vs Q E hr h => ?_)
  · obtain ⟨p, x, q, y, rfl, _⟩ := h
    rfl
  obtain ⟨p, x, q, y, rfl, hp, ⟨ha, hb⟩, hq, ⟨hc, hd⟩, k⟩ := h
  refine ⟨_, (pss_cons (ps_set (i := 2) sc_plus.nd rfl (Or.inl rfl) (pe_fn F_common_divisor (by decide) hr (by rfl) passE0 (pa_cons (pe_ix ix_tup (pv 0) pe_int (fun _ _ => rfl)) (pa_cons (pe_ix ix_tup (pv 1) pe_int (fun _ _ => rfl)) pa_nil))))
      (pss_cons (ps_set (i := 3) sc_plus.nd rfl (Or.inl rfl) (pe_op op_add (pe_op op_mulB (pe_ix ix_tup (pv 0) pe_int (fun _ _ => rfl)) (pe_op op_fdivB (pe_ix ix_tup (pv 1) pe_int (fun _ _ => rfl)) (pv 2))) (pe_op op_mulB (pe_ix ix_tup (pv 1) pe_int (fun _ _ => rfl)) (pe_op op_fdivB (pe_ix ix_tup (pv 0) pe_int (fun _ _ => rfl)) (pv 2)))))
      (pss_cons (ps_set (i := 4) sc_plus.nd rfl (Or.inl rfl) (pe_fn F_common_divisor (by decide) hr (by rfl) passE0 (pa_cons (pv 3) (pa_cons (pv 2) pa_nil))))
      (pss_one (ps_ret (pe_tup (pa_cons (pe_op op_fdivB (pv 3) (pv 4)) (pa_cons (pe_op op_mulB (pe_op op_fdivB (pe_ix ix_tup (pv 0) pe_int (fun _ _ => rfl)) (pv 2)) (pe_op op_fdivB (pe_ix ix_tup (pv 1) pe_int (fun _ _ => rfl)) (pv 4))) pa_nil)))))))), ?_⟩
  refine ⟨_, rfl, p, _, _, _, rfl, rfl, hp, rfl, _, rfl, q, _, _, _, rfl, rfl, hq, rfl, _, _, rfl, hd, ?_⟩
  have g0 := gpos (a := ((x.den : Nat) : Int)) (q_ne y)
  have bg := bd_gcdR (a := ((x.den : Nat) : Int)) (q_ne y) hd
  have dg1 : (((Int.gcd ((x.den : Nat) : Int) ((y.den : Nat) : Int) : Nat) : Int)) ∣ ((x.den : Nat) : Int) := Int.gcd_dvd_left ..
  have dg2 : (((Int.gcd ((x.den : Nat) : Int) ((y.den : Nat) : Int) : Nat) : Int)) ∣ ((y.den : Nat) : Int) := Int.gcd_dvd_right ..
  generalize hg : ((Int.gcd ((x.den : Nat) : Int) ((y.den : Nat) : Int) : Nat) : Int) = g at g0 bg dg1 dg2 ⊢
  have g1 : g ≠ 0 := by omega
  have lg := (bg.mono (n := 9000) (by decide)).log
  have b1 := bd_quot hd dg2 g1
  have b2 := bd_quot hb dg1 g1
  refine ⟨_, rfl, p, _, _, _, rfl, rfl, hp, rfl, _, rfl, q, _, _, _, rfl, rfl, hq, rfl, _, rfl, _, _, rfl, rfl, ⟨g1, lg⟩, _, _, rfl, rfl, ha.ok b1 (by decide), _, rfl, q, _, _, _, rfl, rfl, hq, rfl, _, rfl, p, _, _, _, rfl, rfl, hp, rfl, _, rfl, _, _, rfl, rfl, ⟨g1, lg⟩, _, _, rfl, rfl, hc.ok b2 (by decide), _, _, rfl, rfl, ?_⟩
  dsimp only
  have bt := (ha.mul b1).add (hc.mul b2)
  generalize ht : x.num * ((y.den : Nat) : Int).fdiv g + y.num * ((x.den : Nat) : Int).fdiv g = t at bt ⊢
  refine ⟨_, rfl, _, rfl, _, _, rfl, bg, ?_⟩
  have h0 := gpos (a := t) g1
  have bh := bd_gcdR (a := t) g1 bg
  have dh : ((Int.gcd t g : Nat) : Int) ∣ g := Int.gcd_dvd_right ..
  generalize hh : ((Int.gcd t g : Nat) : Int) = h at h0 bh dh ⊢
  have h1 : h ≠ 0 := by omega
  have lh := (bh.mono (n := 9000) (by decide)).log
  have b3 := bd_quot hd (Int.dvd_trans dh dg2) h1
  refine ⟨_, rfl, _, rfl, _, _, rfl, rfl, ⟨h1, lh⟩, _, rfl, p, _, _, _, rfl, rfl, hp, rfl, _, rfl, _, _, rfl, rfl, ⟨g1, lg⟩, _, rfl, q, _, _, _, rfl, rfl, hq, rfl, _, rfl, _, _, rfl, rfl, ⟨h1, lh⟩, _, _, rfl, rfl, b2.ok b3 (by decide), by show 2 ≤ sizeLine; decide, ?_⟩
  refine rd_new fun r H1 sm hr1 => k r H1 sm ?_
  obtain ⟨e1, e2⟩ := q_plus x y g t h hg.symm ht.symm hh.symm
  have z := SqT.of (K := K) hr1
  dsimp only at z
  rw [e1, e2] at z
  exact z
noncomputable def sp_minus (K : PySem.W.Frag) : Sp := fun vs H Q _ => ∃ (p_x : Addr) (x : Rat) (p_y : Addr) (y : Rat), vs = [.ref p_x, .ref p_y] ∧ FQ K H p_x x ∧ FB 8900 x ∧ FQ K H p_y y ∧ FB 4000 y ∧ (∀ (p_r : Addr) (H1 : Hp), Same H H1 → FQ K H1 p_r (x - y) → Q (.ref p_r) H1)
theorem sc_minus : FnScope ["one", "other"] ["one", "other"] (defScope (top 10)) := ⟨rfl, rfl, rfl, by decide +kernel, rfl, by decide +kernel, by decide +kernel⟩
theorem ok_minus (D : Df K mg "minus" (top 10) ["one", "other"]) (T : Tx K mg CK C) (F_plus : Fn P w K mg base 2 "plus" ["one", "other"] (sp_plus K)) : Fn P w K mg base 3 "minus" ["one", "other"] (sp_minus K) := by
  refine D.ok0 sc_minus (fun vs H Q E h => ?_) (fun f cdv A outer s H vs Q E hr h => ?_)
  · obtain ⟨p_x, x, p_y, y, rfl, _⟩ := h
    rfl
  obtain ⟨p_x, x, p_y, y, rfl, g_x, d_x, g_y, d_y, k0⟩ := h
  refine ⟨_, (pss_one (ps_ret (pe_fn F_plus (by decide) hr (by rfl) passE0 (pa_cons (pv 0) (pa_cons (pe_tup (pa_cons (pe_un un_neg (pe_ix ix_tup (pv 1) pe_int (fun _ _ => rfl))) (pa_cons (pe_ix ix_tup (pv 1) pe_int (fun _ _ => rfl)) pa_nil))) pa_nil))))), ?_⟩
  refine ⟨_, rfl, _, rfl, p_y, _, _, _, rfl, rfl, g_y, rfl, _, rfl, _, rfl, p_y, _, _, _, rfl, rfl, g_y, rfl, by show 2 ≤ sizeLine; decide, ?_⟩
  intro p1 n1
  obtain ⟨H1, q1, s1, e1⟩ := newO n1 (.tup [.int ((-(y).num)), .int ((((y).den : Nat) : Int))])
  rw [q1]
  clear q1
  have h1 := SqT.of (K := K) e1
  have g1 : FQ K H1 p1 (-(y)) := by exact FQ.ofNeg h1 (by omega)
  replace g_x := (Kw.Same.tup s1 g_x)
  refine ⟨_, _, _, _, rfl, g_x, (FB.mono d_x (by decide)), g1, (FB.mono (FB.neg d_y) (by decide)), fun p_r2 H2 s2 g_r2 => ?_⟩
  have d_r2 : FB 12901 (x + ((-(y)))) := (FB.mono (FB.add d_x (FB.neg d_y)) (by decide))
  have e3 : ((x + ((-(y)))) : Rat) = x - y := by grind
  exact k0 _ _ (s1.trans s2) (FQ.cast g_r2 e3)
noncomputable def sp_times (K : PySem.W.Frag) : Sp := fun vs H Q _ => ∃ (p_x : Addr) (x : Rat) (p_y : Addr) (y : Rat), vs = [.ref p_x, .ref p_y] ∧ FQ K H p_x x ∧ FB 4000 x ∧ FQ K H p_y y ∧ FB 4000 y ∧ (∀ (p_r : Addr) (H1 : Hp), Same H H1 → FQ K H1 p_r (x * y) → Q (.ref p_r) H1)
theorem sc_times : FnScope ["one", "other", "first", "second"] ["one", "other"] (defScope (top 11)) := ⟨rfl, rfl, rfl, by decide +kernel, rfl, by decide +kernel, by decide +kernel⟩
theorem ok_times (D : Df K mg "times" (top 11) ["one", "other"]) (T : Tx K mg CK C) (F_common_divisor : Fn P w K mg base 1 "common_divisor" ["one", "other"] spGcdB) : Fn P w K mg base 2 "times" ["one", "other"] (sp_times K) := by
  refine D.ok0 sc_times (fun vs H Q E h => ?_) (fun f cdv A outer s H vs Q E hr h => ?_)
  · obtain ⟨p, x, q, y, rfl, _⟩ := h
    rfl
  obtain ⟨p, x, q, y, rfl, hp, ⟨ha, hb⟩, hq, ⟨hc, hd⟩, k⟩ := h
  refine ⟨_, (pss_cons (ps_set (i := 2) sc_times.nd rfl (Or.inl rfl) (pe_fn F_common_divisor (by decide) hr (by rfl) passE0 (pa_cons (pe_ix ix_tup (pv 0) pe_int (fun _ _ => rfl)) (pa_cons (pe_ix ix_tup (pv 1) pe_int (fun _ _ => rfl)) pa_nil))))
      (pss_cons (ps_set (i := 3) sc_times.nd rfl (Or.inl rfl) (pe_fn F_common_divisor (by decide) hr (by rfl) passE0 (pa_cons (pe_ix ix_tup (pv 1) pe_int (fun _ _ => rfl)) (pa_cons (pe_ix ix_tup (pv 0) pe_int (fun _ _ => rfl)) pa_nil))))
      (pss_one (ps_ret (pe_tup (pa_cons (pe_op op_mulB (pe_op op_fdivB (pe_ix ix_tup (pv 0) pe_int (fun _ _ => rfl)) (pv 2)) (pe_op op_fdivB (pe_ix ix_tup (pv 1) pe_int (fun _ _ => rfl)) (pv 3))) (pa_cons (pe_op op_mulB (pe_op op_fdivB (pe_ix ix_tup (pv 0) pe_int (fun _ _ => rfl)) (pv 3)) (pe_op op_fdivB (pe_ix ix_tup (pv 1) pe_int (fun _ _ => rfl)) (pv 2))) pa_nil))))))), ?_⟩
  refine ⟨_, rfl, p, _, _, _, rfl, rfl, hp, rfl, _, rfl, q, _, _, _, rfl, rfl, hq, rfl, _, _, rfl, hd, ?_⟩
  have f0 := gpos (a := x.num) (q_ne y)
  have bf := bd_gcdR (a := x.num) (q_ne y) hd
  have df1 : ((Int.gcd x.num ((y.den : Nat) : Int) : Nat) : Int) ∣ x.num := Int.gcd_dvd_left ..
  have df2 : ((Int.gcd x.num ((y.den : Nat) : Int) : Nat) : Int) ∣ ((y.den : Nat) : Int) := Int.gcd_dvd_right ..
  generalize hf : ((Int.gcd x.num ((y.den : Nat) : Int) : Nat) : Int) = f1 at f0 bf df1 df2 ⊢
  refine ⟨_, rfl, q, _, _, _, rfl, rfl, hq, rfl, _, rfl, p, _, _, _, rfl, rfl, hp, rfl, _, _, rfl, hb, ?_⟩
  have s0 := gpos (a := y.num) (q_ne x)
  have bs := bd_gcdR (a := y.num) (q_ne x) hb
  have ds1 : ((Int.gcd y.num ((x.den : Nat) : Int) : Nat) : Int) ∣ y.num := Int.gcd_dvd_left ..
  have ds2 : ((Int.gcd y.num ((x.den : Nat) : Int) : Nat) : Int) ∣ ((x.den : Nat) : Int) := Int.gcd_dvd_right ..
  generalize hs : ((Int.gcd y.num ((x.den : Nat) : Int) : Nat) : Int) = s1 at s0 bs ds1 ds2 ⊢
  have f1' : f1 ≠ 0 := by omega
  have s1' : s1 ≠ 0 := by omega
  have lf := (bf.mono (n := 9000) (by decide)).log
  have ls := (bs.mono (n := 9000) (by decide)).log
  refine ⟨_, rfl, p, _, _, _, rfl, rfl, hp, rfl, _, rfl, _, _, rfl, rfl, ⟨f1', lf⟩, _, rfl, q, _, _, _, rfl, rfl, hq, rfl, _, rfl, _, _, rfl, rfl, ⟨s1', ls⟩, _, _, rfl, rfl, (bd_quot ha df1 f1').ok (bd_quot hc ds1 s1') (by decide), _, rfl, p, _, _, _, rfl, rfl, hp, rfl, _, rfl, _, _, rfl, rfl, ⟨s1', ls⟩, _, rfl, q, _, _, _, rfl, rfl, hq, rfl, _, rfl, _, _, rfl, rfl, ⟨f1', lf⟩, _, _, rfl, rfl, (bd_quot hb ds2 s1').ok (bd_quot hd df2 f1') (by decide), by show 2 ≤ sizeLine; decide, ?_⟩
  refine rd_new fun r H1 sm hr1 => k r H1 sm ?_
  obtain ⟨e1, e2⟩ := q_times x y f1 s1 hf.symm hs.symm
  have z := SqT.of (K := K) hr1
  dsimp only at z
  rw [e1, e2] at z
  exact z
noncomputable def sp_over (K : PySem.W.Frag) : Sp := fun vs H Q _ => ∃ (p_x : Addr) (x : Rat) (p_y : Addr) (y : Rat), vs = [.ref p_x, .ref p_y] ∧ FQ K H p_x x ∧ FB 4000 x ∧ FQ K H p_y y ∧ FB 4000 y ∧ y ≠ 0 ∧ (∀ (p_r : Addr) (H1 : Hp), Same H H1 → FQ K H1 p_r (x / y) → Q (.ref p_r) H1)
theorem sc_over : FnScope ["one", "other", "flipped"] ["one", "other"] (defScope (top 12)) := ⟨rfl, rfl, rfl, by decide +kernel, rfl, by decide +kernel, by decide +kernel⟩
theorem ok_over (D : Df K mg "over" (top 12) ["one", "other"]) (T : Tx K mg CK C) (F_times : Fn P w K mg base 2 "times" ["one", "other"] (sp_times K)) : Fn P w K mg base 3 "over" ["one", "other"] (sp_over K) := by
  refine D.ok0 sc_over (fun vs H Q E h => ?_) (fun f cdv A outer s H vs Q E hr h => ?_)
  · obtain ⟨p, x, q, y, rfl, _⟩ := h
    rfl
  obtain ⟨p, x, q, y, rfl, hp, dx, hq, dy, y0, k⟩ := h
  refine ⟨_, (pss_cons (ps_if (pt_cmpR op_eq (pe_ix ix_tup (pv 1) pe_int (fun _ _ => rfl)) pe_int (nomark _)) (pss_one ps_never) pss_nil)
      (pss_cons (ps_set (i := 2) sc_over.nd rfl (Or.inl rfl) (pe_ifExp (pt_cmpR op_gt (pe_ix ix_tup (pv 1) pe_int (fun _ _ => rfl)) pe_int (nomark _)) (pe_tup (pa_cons (pe_ix ix_tup (pv 1) pe_int (fun _ _ => rfl)) (pa_cons (pe_ix ix_tup (pv 1) pe_int (fun _ _ => rfl)) pa_nil))) (pe_tup (pa_cons (pe_un un_neg (pe_ix ix_tup (pv 1) pe_int (fun _ _ => rfl))) (pa_cons (pe_un un_neg (pe_ix ix_tup (pv 1) pe_int (fun _ _ => rfl))) pa_nil)))))
      (pss_one (ps_ret (pe_fn F_times (by decide) hr (by rfl) passE0 (pa_cons (pv 0) (pa_cons (pv 2) pa_nil))))))), ?_⟩
  have n0 := q_num_ne y0
  refine ⟨_, rfl, q, _, _, _, rfl, rfl, hq, rfl, rfl, _, rfl, ?_⟩
  refine if_decI (fun z => absurd z n0) (fun _ => ?_)
  refine ⟨_, rfl, q, _, _, _, rfl, rfl, hq, rfl, _, _, rfl, rfl, _, rfl, ?_⟩
  refine if_dec (fun c => ?_) (fun c => ?_)
  · refine ⟨_, rfl, q, _, _, _, rfl, rfl, hq, rfl, _, rfl, q, _, _, _, rfl, rfl, hq, rfl, by show 2 ≤ sizeLine; decide, ?_⟩
    intro p1 n1
    obtain ⟨H1, q1, s1, e1⟩ := newO n1 (.tup [.int ((y.den : Nat) : Int), .int y.num])
    rw [q1]
    clear q1
    have g1 : FQ K H1 p1 y⁻¹ := by
      have z := SqT.of (K := K) e1
      rw [← (q_invp c).1, ← (q_invp c).2] at z
      exact z
    refine ⟨_, rfl, _, rfl, p, x, p1, y⁻¹, rfl, Kw.Same.tup s1 hp, dx, g1, FB.inv dy y0, fun r H3 s3 g3 => ?_⟩
    exact k r H3 (s1.trans s3) (g3.cast (Rat.div_def x y).symm)
  · have c' : y.num < 0 := by omega
    refine ⟨_, rfl, q, _, _, _, rfl, rfl, hq, rfl, _, rfl, _, rfl, q, _, _, _, rfl, rfl, hq, rfl, _, rfl, by show 2 ≤ sizeLine; decide, ?_⟩
    intro p2 n2
    obtain ⟨H2, q2, s2, e2⟩ := newO n2 (.tup [.int (-((y.den : Nat) : Int)), .int (-y.num)])
    rw [q2]
    clear q2
    have g1 : FQ K H2 p2 y⁻¹ := by
      have z := SqT.of (K := K) e2
      rw [← (q_invn c').1, ← (q_invn c').2] at z
      exact z
    refine ⟨_, rfl, _, rfl, p, x, p2, y⁻¹, rfl, Kw.Same.tup s2 hp, dx, g1, FB.inv dy y0, fun r H3 s3 g3 => ?_⟩
    exact k r H3 (s2.trans s3) (g3.cast (Rat.div_def x y).symm)
noncomputable def sp_under (K : PySem.W.Frag) : Sp := fun vs H Q _ => ∃ (p_x : Addr) (x : Rat) (p_y : Addr) (y : Rat), vs = [.ref p_x, .ref p_y] ∧ FQ K H p_x x ∧ FB 8900 x ∧ FQ K H p_y y ∧ FB 8900 y ∧ (∀  (H1 : Hp), Same H H1 → Q (.bl (decide (x < y))) H1)
theorem sc_under : FnScope ["one", "other"] ["one", "other"] (defScope (top 13)) := ⟨rfl, rfl, rfl, by decide +kernel, rfl, by decide +kernel, by decide +kernel⟩
theorem ok_under (D : Df K mg "under" (top 13) ["one", "other"]) (T : Tx K mg CK C) : Fn P w K mg base 1 "under" ["one", "other"] (sp_under K) := by
  refine D.ok0 sc_under (fun vs H Q E h => ?_) (fun f cdv A outer s H vs Q E hr h => ?_)
  · obtain ⟨p_x, x, p_y, y, rfl, _⟩ := h
    rfl
  obtain ⟨p_x, x, p_y, y, rfl, g_x, d_x, g_y, d_y, k0⟩ := h
  refine ⟨_, (pss_one (ps_ret (pe_cmpR op_lt (pe_op op_mulB (pe_ix ix_tup (pv 0) pe_int (fun _ _ => rfl)) (pe_ix ix_tup (pv 1) pe_int (fun _ _ => rfl))) (pe_op op_mulB (pe_ix ix_tup (pv 1) pe_int (fun _ _ => rfl)) (pe_ix ix_tup (pv 0) pe_int (fun _ _ => rfl))) (nomark _)))), ?_⟩
  refine ⟨_, rfl, p_x, _, _, _, rfl, rfl, g_x, rfl, _, rfl, p_y, _, _, _, rfl, rfl, g_y, rfl, _, _, rfl, rfl, (d_x.1.ok d_y.2 (by decide)), _, rfl, p_y, _, _, _, rfl, rfl, g_y, rfl, _, rfl, p_x, _, _, _, rfl, rfl, g_x, rfl, _, _, rfl, rfl, (d_y.1.ok d_x.2 (by decide)), _, _, rfl, rfl, ?_⟩
  try dsimp only
  rw [show decide (((x).num * (((y).den : Nat) : Int)) < ((y).num * (((x).den : Nat) : Int))) = decide (x < y) from decide_eq_decide.mpr (by exact (q_lt x y).symm)]
  exact k0 _ (Same.refl _)
noncomputable def sp_push_of (K : PySem.W.Frag) : Sp := fun vs H Q _ => ∃ (p_i a_i b_i : Addr) (x_i v_i : Rat) (m_i : Int), vs = [.ref p_i] ∧ SqT K H p_i [.ref a_i, .ref b_i, .int m_i] ∧ FQ K H a_i x_i ∧ FQ K H b_i v_i ∧ FB 1400 x_i ∧ FB 1400 v_i ∧ 1 ≤ m_i ∧ m_i ≤ 10000 ∧ (∀ (p_r : Addr) (H1 : Hp), Same H H1 → FQ K H1 p_r (((m_i : Int) : Rat) * v_i) → Q (.ref p_r) H1)
theorem sc_push_of : FnScope ["body"] ["body"] (defScope (top 21)) := ⟨rfl, rfl, rfl, by decide +kernel, rfl, by decide +kernel, by decide +kernel⟩
theorem ok_push_of (D : Df K mg "push_of" (top 21) ["body"]) (T : Tx K mg CK C) (F_times : Fn P w K mg base 2 "times" ["one", "other"] (sp_times K)) : Fn P w K mg base 3 "push_of" ["body"] (sp_push_of K) := by
  refine D.ok0 sc_push_of (fun vs H Q E h => ?_) (fun f cdv A outer s H vs Q E hr h => ?_)
  · obtain ⟨p_i, a_i, b_i, x_i, v_i, m_i, rfl, _⟩ := h
    rfl
  obtain ⟨p_i, a_i, b_i, x_i, v_i, m_i, rfl, h_i, gx_i, gv_i, dx_i, dv_i, lo_i, hi_i, k0⟩ := h
  refine ⟨_, (pss_one (ps_ret (pe_fn F_times (by decide) hr (by rfl) passE0 (pa_cons (pe_tup (pa_cons (pe_ix ix_tup (pv 0) pe_int (fun _ _ => rfl)) (pa_cons pe_int pa_nil))) (pa_cons (pe_ix ix_tup (pv 0) pe_int (fun _ _ => rfl)) pa_nil))))), ?_⟩
  refine ⟨_, rfl, p_i, _, _, _, rfl, rfl, h_i, rfl, by show 2 ≤ sizeLine; decide, ?_⟩
  intro p4 n4
  obtain ⟨H4, q4, s4, e4⟩ := newO n4 (.tup [.int (m_i), .int ((1 : Int))])
  rw [q4]
  clear q4
  have h4 := SqT.of (K := K) e4
  have g4 : FQ K H4 p4 (((m_i : Int) : Rat)) := by exact FQ.ofInt h4
  replace h_i := (Kw.Same.tup s4 h_i)
  replace gv_i := (Kw.Same.tup s4 gv_i)
  refine ⟨_, rfl, p_i, _, _, _, rfl, rfl, h_i, rfl, _, _, _, _, rfl, g4, (FB.mono (FB.ofInt (Bd.small (i := m_i) (by omega) (by omega)) (by decide)) (by decide)), gv_i, (FB.mono dv_i (by decide)), fun p_r5 H5 s5 g_r5 => ?_⟩
  have d_r5 : FB 1464 (((((m_i : Int) : Rat))) * v_i) := (FB.mono (FB.mul (FB.ofInt (Bd.small (i := m_i) (by omega) (by omega)) (by decide)) dv_i) (by decide))
  exact k0 _ _ (s4.trans s5) g_r5
noncomputable def sp_total (K : PySem.W.Frag) : Sp := fun vs H Q _ => ∃ (p : Addr) (xs : List V) (qs : List Rat) (n : Nat), vs = [.ref p] ∧ SqL K H p xs ∧ Al2 (FrQ K H n) xs qs ∧ (xs.length * (n + 1) + 64 ≤ 8900 ∧ n ≤ 4000) ∧ ∀ (r : Addr) (H1 : Hp), Same H H1 → FQ K H1 r (sumQ qs) → Q (.ref r) H1
theorem sc_total : FnScope ["numbers", "whole", "number"] ["numbers"] (defScope (top 22)) := ⟨rfl, rfl, rfl, by decide +kernel, rfl, by decide +kernel, by decide +kernel⟩
theorem ok_total (D : Df K mg "total" (top 22) ["numbers"]) (T : Tx K mg CK C) (F_plus : Fn P w K mg base 2 "plus" ["one", "other"] (sp_plus K)) : Fn P w K mg base 3 "total" ["numbers"] (sp_total K) := by
  refine D.ok0 sc_total (fun vs H Q E h => ?_) (fun f cdv A outer s H vs Q E hr h => ?_)
  · obtain ⟨p, xs, qs, n, rfl, _⟩ := h
    rfl
  obtain ⟨p, xs, qs, n, rfl, hp, hf, ⟨hn, hn4⟩, k⟩ := h
  refine ⟨_, (pss_cons (ps_set (i := 1) sc_total.nd rfl (Or.inl rfl) (pe_globT (K := K) rfl (by rfl) T.k_NOUGHT))
      (pss_cons (ps_for PassesOwn.never rfl (pi_list (pv 0)) (pg_name (i := 2) sc_total.nd rfl (Or.inl rfl)) (pss_one (ps_set (i := 1) sc_total.nd rfl (Or.inl rfl) (pe_fn F_plus (by decide) hr (by rfl) passE0 (pa_cons (pv 1) (pa_cons (pv 2) pa_nil))))))
      (pss_one (ps_ret (pv 1))))), ?_⟩
  refine fun N hN => ?_
  have g0 : FQ K H N (sumQ (qs.take 0)) := hN _
  have d0 : FB (0 * (n + 1) + 64) (sumQ (qs.take 0)) := (FB.ofInt (n := 64) (i := 0) (Bd.small (by decide) (by decide)) (by decide)).mono (by omega)
  refine ⟨_, rfl, p, rfl, ⟨_, hp⟩, for_list (K := K) (a := p) (xs := xs) (fun i σ1 H1 => ∃ (r : Addr) (nx : Option V), σ1 = [some (.ref p), some (.ref r), nx] ∧ Same H H1 ∧ FQ K H1 r (sumQ (qs.take i)) ∧ FB (i * (n + 1) + 64) (sumQ (qs.take i)))
    ⟨N, _, rfl, Same.refl H, g0, d0⟩ (fun i σ1 H1 _ ⟨_, _, _, g, _⟩ => g.seq hp) ?_ ?_⟩
  · rintro i x σ1 H1 hx ⟨r, nx, rfl, sm, g, d⟩
    obtain ⟨q, hq, p2, rfl, g2, d2⟩ := Al2.get hf hx
    have hi : i < xs.length := (List.getElem?_eq_some_iff.mp hx).1
    have l1 : (i + 1) * (n + 1) ≤ xs.length * (n + 1) := Nat.mul_le_mul_right _ hi
    have l2 : (i + 1) * (n + 1) = i * (n + 1) + n + 1 := by rw [Nat.add_mul]; omega
    have e : sumQ (qs.take i) + q = sumQ (qs.take (i + 1)) := by rw [take_snoc hq, sumQ_snoc]
    refine ⟨_, rfl, _, rfl, _, _, _, _, rfl, g, d.mono (by omega), Kw.Same.tup sm g2, d2.mono (by omega), fun r2 H2 s2 g3 => ?_⟩
    exact ⟨r2, _, rfl, sm.trans s2, g3.cast e, ((d.add d2).mono (by omega)).cast e⟩
  · rintro σ1 H1 ⟨r, nx, rfl, sm, g, _⟩
    have e : qs.take xs.length = qs := by rw [Al2.len hf, List.take_length]
    rw [e] at g
    exact ⟨_, rfl, k r H1 sm g⟩
noncomputable def sp_push (K : PySem.W.Frag) : Sp := fun vs H Q _ => ∃ (p : Addr) (xs : List V) (bs : List (Rat × Rat × Int)) (n : Nat), vs = [.ref p] ∧ SqL K H p xs ∧ Al2 (BdQ K H n) xs bs ∧ (n ≤ 1400 ∧ bs.length ≤ 100 ∧ bs.length * (64 + n + 1) + 64 ≤ 8900) ∧ ∀ (r : Addr) (H1 : Hp), Same H H1 → FQ K H1 r (pushQ bs) → Q (.ref r) H1
theorem sc_push : FnScope ["bodies"] ["bodies"] (defScope (top 23)) := ⟨rfl, rfl, rfl, by decide +kernel, rfl, by decide +kernel, by decide +kernel⟩
theorem ok_push (D : Df K mg "push" (top 23) ["bodies"]) (T : Tx K mg CK C) (F_push_of : Fn P w K mg base 3 "push_of" ["body"] (sp_push_of K)) (F_total : Fn P w K mg base 3 "total" ["numbers"] (sp_total K)) : Fn P w K mg base 4 "push" ["bodies"] (sp_push K) := by
  refine D.ok0 sc_push (fun vs H Q E h => ?_) (fun f cdv A outer s H vs Q E hr h => ?_)
  · obtain ⟨p, xs, bs, n, rfl, _⟩ := h
    rfl
  obtain ⟨p, xs, bs, n, rfl, hp, hf, ⟨hn, h1, h2⟩, k⟩ := h
  refine ⟨_, (pss_one (ps_ret (pe_fn F_total (by decide) hr (by rfl) passE0 (pa_cons (@pe_lc _ _ _ _ _ _ _ _ _ _ [] [] rfl (pi_list (pv 0)) rfl (by decide) rfl (by decide) rfl (by decide) cap_none (fun _ _ h => nomatch h) (no_free rfl) (fun C z Hc fp => (pe_fn F_push_of (by decide) hr (by rfl) passE0 (pa_cons (pv 0) pa_nil))) (fun _ => rfl)) pa_nil)))), ?_⟩
  have hz := Al2.len hf
  refine ⟨_, rfl, p, rfl, ⟨_, hp⟩, lc_list (K := K) (xs := xs) (fun i ys H1 => i ≤ xs.length ∧ Same H H1 ∧ Al2 (FrQ K H1 (64 + n)) ys ((bs.take i).map fun b => (b.2.2 : Rat) * b.2.1)) ⟨Nat.zero_le _, Same.refl H, trivial⟩ (by rw [hz]; exact Nat.le_trans h1 (by decide)) (fun i ys H1 ⟨l, _, e⟩ => by have := Al2.len e; simp at this; omega) (fun i ys H1 ⟨_, g, _⟩ => g.seq hp) ?_ ?_⟩
  · rintro i x ys H1 Q1 hx ⟨hl, sm, hy⟩ kq
    obtain ⟨b, hb, p2, a2, c2, rfl, e1, e2, e3, d1, d2, w1, w2⟩ := Al2.get hf hx
    have hi : i < xs.length := (List.getElem?_eq_some_iff.mp hx).1
    refine ⟨_, rfl, _, _, _, _, _, _, rfl, Kw.Same.tup sm e1, Kw.Same.tup sm e2, Kw.Same.tup sm e3, d1.mono hn, d2.mono hn, w1, w2, fun r H2 s2 g => ?_⟩
    refine kq _ _ ⟨by omega, sm.trans s2, ?_⟩
    rw [take_snoc hb, List.map_append]
    exact Al2.snoc (frs_same hy s2) ⟨r, rfl, g, (FB.mul (FB.ofInt (Bd.small (i := b.2.2) (by omega) (by omega)) (by decide)) d2).mono (by omega)⟩
  · rintro ys H1 ⟨_, sm, hy⟩ pl hpl
    have s2 := same_new hpl (.lst ys)
    have en : bs.take xs.length = bs := by rw [hz, List.take_length]
    rw [en] at hy
    have hl := Al2.len hy
    rw [List.length_map] at hl
    refine ⟨_, _, _, _, rfl, SqL.of upd_same, frs_same hy s2, ⟨by rw [hl]; exact h2, by omega⟩, fun r H2 s3 g => ?_⟩
    exact k r H2 (sm.trans (s2.trans s3)) g
noncomputable def sp_joint_moment (K : PySem.W.Frag) : Sp := fun vs H Q _ => ∃ (p_i a_i b_i : Addr) (x_i v_i : Rat) (m_i : Int) (p_j a_j b_j : Addr) (x_j v_j : Rat) (m_j : Int), vs = [.ref p_i, .ref p_j] ∧ SqT K H p_i [.ref a_i, .ref b_i, .int m_i] ∧ FQ K H a_i x_i ∧ FQ K H b_i v_i ∧ FB 1990 x_i ∧ FB 1990 v_i ∧ 1 ≤ m_i ∧ m_i ≤ 10000 ∧ SqT K H p_j [.ref a_j, .ref b_j, .int m_j] ∧ FQ K H a_j x_j ∧ FQ K H b_j v_j ∧ FB 1990 x_j ∧ FB 1990 v_j ∧ 1 ≤ m_j ∧ m_j ≤ 10000 ∧ (¬ v_j < v_i → ∀  (H1 : Hp), Same H H1 → Q (.non) H1) ∧ (v_j < v_i → ∀ (p_r : Addr) (H1 : Hp), Same H H1 → FQ K H1 p_r ((x_j - x_i) / (v_i - v_j)) → Q (.ref p_r) H1)
theorem sc_joint_moment : FnScope ["one", "other", "gain"] ["one", "other"] (defScope (top 18)) := ⟨rfl, rfl, rfl, by decide +kernel, rfl, by decide +kernel, by decide +kernel⟩
theorem ok_joint_moment (D : Df K mg "joint_moment" (top 18) ["one", "other"]) (T : Tx K mg CK C) (F_minus : Fn P w K mg base 3 "minus" ["one", "other"] (sp_minus K)) (F_over : Fn P w K mg base 3 "over" ["one", "other"] (sp_over K)) : Fn P w K mg base 4 "joint_moment" ["one", "other"] (sp_joint_moment K) := by
  refine D.ok0 sc_joint_moment (fun vs H Q E h => ?_) (fun f cdv A outer s H vs Q E hr h => ?_)
  · obtain ⟨p_i, a_i, b_i, x_i, v_i, m_i, p_j, a_j, b_j, x_j, v_j, m_j, rfl, _⟩ := h
    rfl
  obtain ⟨p_i, a_i, b_i, x_i, v_i, m_i, p_j, a_j, b_j, x_j, v_j, m_j, rfl, h_i, gx_i, gv_i, dx_i, dv_i, lo_i, hi_i, h_j, gx_j, gv_j, dx_j, dv_j, lo_j, hi_j, k0, k1⟩ := h
  refine ⟨_, (pss_cons (ps_set (i := 2) sc_joint_moment.nd rfl (Or.inl rfl) (pe_fn F_minus (by decide) hr (by rfl) passE0 (pa_cons (pe_ix ix_tup (pv 0) pe_int (fun _ _ => rfl)) (pa_cons (pe_ix ix_tup (pv 1) pe_int (fun _ _ => rfl)) pa_nil))))
      (pss_cons (ps_if (pt_cmpR op_le (pe_ix ix_tup (pv 2) pe_int (fun _ _ => rfl)) pe_int (nomark _)) (pss_one (ps_ret pe_non)) pss_nil)
      (pss_one (ps_ret (pe_fn F_over (by decide) hr (by rfl) passE0 (pa_cons (pe_fn F_minus (by decide) hr (by rfl) passE0 (pa_cons (pe_ix ix_tup (pv 1) pe_int (fun _ _ => rfl)) (pa_cons (pe_ix ix_tup (pv 0) pe_int (fun _ _ => rfl)) pa_nil))) (pa_cons (pv 2) pa_nil))))))), ?_⟩
  refine ⟨_, rfl, p_i, _, _, _, rfl, rfl, h_i, rfl, _, rfl, p_j, _, _, _, rfl, rfl, h_j, rfl, _, _, _, _, rfl, gv_i, (FB.mono dv_i (by decide)), gv_j, (FB.mono dv_j (by decide)), fun p_r6 H6 s6 g_r6 => ?_⟩
  have d_r6 : FB 3981 (v_i - v_j) := (FB.mono (FB.sub dv_i dv_j) (by decide))
  refine ⟨_, rfl, p_r6, _, _, _, rfl, rfl, g_r6, rfl, _, _, rfl, rfl, _, rfl, ?_⟩
  refine if_dec (fun c7 => ?_) (fun c7 => ?_)
  · skip
    exact k0 (by have := (q_le0 (v_i - v_j)).mp ‹_›; grind) _ s6
  · skip
    replace h_j := (Kw.Same.tup s6 h_j)
    replace h_i := (Kw.Same.tup s6 h_i)
    replace gx_j := (Kw.Same.tup s6 gx_j)
    replace gx_i := (Kw.Same.tup s6 gx_i)
    refine ⟨_, rfl, p_j, _, _, _, rfl, rfl, h_j, rfl, _, rfl, p_i, _, _, _, rfl, rfl, h_i, rfl, _, _, _, _, rfl, gx_j, (FB.mono dx_j (by decide)), gx_i, (FB.mono dx_i (by decide)), fun p_r8 H8 s8 g_r8 => ?_⟩
    have d_r8 : FB 3981 (x_j - x_i) := (FB.mono (FB.sub dx_j dx_i) (by decide))
    replace g_r6 := (Kw.Same.tup s8 g_r6)
    refine ⟨_, rfl, _, _, _, _, rfl, g_r8, (FB.mono d_r8 (by decide)), g_r6, (FB.mono d_r6 (by decide)), (by have := mt (q_le0 (v_i - v_j)).mpr ‹_›; grind), fun p_r9 H9 s9 g_r9 => ?_⟩
    have d_r9 : FB 7962 (((x_j - x_i)) / ((v_i - v_j))) := (FB.mono (FB.div d_r8 d_r6 (by have := mt (q_le0 (v_i - v_j)).mpr ‹_›; grind)) (by decide))
    exact k1 (by have := mt (q_le0 (v_i - v_j)).mpr ‹_›; grind) _ _ (s6.trans (s8.trans s9)) g_r9
noncomputable def sp_least (K : PySem.W.Frag) : Sp := fun vs H Q _ => ∃ (p : Addr) (zs : List V) (qs : List Rat), vs = [.ref p] ∧ H p = some (.lst zs) ∧ Al2 (FrQ K H 1990) zs qs ∧ qs.length ≤ 100 ∧ ∀ (v : V) (H1 : Hp), Same H H1 → OptR K H1 v (leastQ qs) → Q v H1
theorem sc_least : FnScope ["moments", "found", "moment"] ["moments"] (defScope (top 19)) := ⟨rfl, rfl, rfl, by decide +kernel, rfl, by decide +kernel, by decide +kernel⟩
theorem ok_least (D : Df K mg "least" (top 19) ["moments"]) (T : Tx K mg CK C) (F_under : Fn P w K mg base 1 "under" ["one", "other"] (sp_under K)) : Fn P w K mg base 2 "least" ["moments"] (sp_least K) := by
  refine D.ok0 sc_least (fun vs H Q E h => ?_) (fun f cdv A outer s H vs Q E hr h => ?_)
  · obtain ⟨p, zs, qs, rfl, _⟩ := h
    rfl
  obtain ⟨p, zs, qs, rfl, hp, al, l100, k⟩ := h
  refine ⟨_, (pss_cons (ps_set (i := 1) sc_least.nd rfl (Or.inl rfl) pe_non)
      (pss_cons (ps_for PassesOwn.never rfl (pi_list (pv 0)) (pg_name (i := 2) sc_least.nd rfl (Or.inl rfl)) (pss_one (ps_if (pw_or (pt_cmpR op_isN (pv 1) pe_non (nomark _)) (pw_or1 (pt_val (pe_fn F_under (by decide) hr (by rfl) passE0 (pa_cons (pv 2) (pa_cons (pv 1) pa_nil))) (fun _ => rfl)))).pt (pss_one (ps_set (i := 1) sc_least.nd rfl (Or.inl rfl) (pv 2))) pss_nil)))
      (pss_one (ps_ret (pv 1))))), ?_⟩
  have hz := Al2.len al
  refine ⟨_, rfl, p, rfl, ⟨_, SqL.of hp⟩, for_list (K := K) (a := p) (xs := zs) (fun i σ1 H1 => ∃ (v : V) (u2 : Option V), σ1 = [some (.ref p), some v, u2] ∧ Same H H1 ∧ OptR K H1 v (leastQ (qs.take i))) ⟨.non, _, rfl, Same.refl _, .inl ⟨rfl, rfl⟩⟩ (by rintro _ _ _ _ ⟨_, _, _, g, _⟩; exact SqL.of (g _ _ hp)) ?_ ?_⟩
  · rintro i x σ1 H3 hx ⟨v, u2, rfl, s3, ov⟩
    obtain ⟨q, hq, pq, rfl, gq, dq⟩ := Al2.get (frs_same al s3) hx
    have nx := leastQ_snoc (qs.take i) q
    rw [← take_snoc hq] at nx
    rcases ov with ⟨e0, rfl⟩ | ⟨l, pl, e0, rfl, gl, dl⟩
    · refine ⟨_, rfl, rfl, _, rfl, iteT ?_⟩
      refine iteT ?_
      rw [e0] at nx
      exact ⟨_, rfl, .ref pq, _, rfl, s3, .inr ⟨q, pq, nx, rfl, gq, dq⟩⟩
    · refine ⟨_, rfl, rfl, _, rfl, iteF ?_⟩
      refine ⟨_, rfl, _, rfl, _, _, _, _, rfl, gq, dq.mono (by decide), gl, dl.mono (by decide), fun H4 s4 => ⟨_, rfl, ?_⟩⟩
      rw [e0] at nx
      refine if_dec (fun c => ?_) (fun c => ?_)
      · have e1 : less1 (some l) q = some q := if_pos c
        rw [e1] at nx
        exact ⟨_, rfl, .ref pq, _, rfl, s3.trans s4, .inr ⟨q, pq, nx, rfl, Kw.Same.tup s4 gq, dq⟩⟩
      · have e1 : less1 (some l) q = some l := if_neg c
        rw [e1] at nx
        exact ⟨.ref pl, _, rfl, s3.trans s4, .inr ⟨l, pl, nx, rfl, Kw.Same.tup s4 gl, dl⟩⟩
  · rintro σ1 H3 ⟨v, u2, rfl, s3, ov⟩
    rw [hz, List.take_length] at ov
    exact ⟨_, rfl, k v H3 s3 ov⟩
noncomputable def sp_place_at (K : PySem.W.Frag) : Sp := fun vs H Q _ => ∃ (p_i a_i b_i : Addr) (x_i v_i : Rat) (m_i : Int) (p_t : Addr) (t : Rat), vs = [.ref p_i, .ref p_t] ∧ SqT K H p_i [.ref a_i, .ref b_i, .int m_i] ∧ FQ K H a_i x_i ∧ FQ K H b_i v_i ∧ FB 1990 x_i ∧ FB 1990 v_i ∧ 1 ≤ m_i ∧ m_i ≤ 10000 ∧ FQ K H p_t t ∧ FB 1990 t ∧ (∀ (p_r : Addr) (H1 : Hp), Same H H1 → FQ K H1 p_r (x_i + v_i * t) → Q (.ref p_r) H1)
theorem sc_place_at : FnScope ["body", "moment"] ["body", "moment"] (defScope (top 17)) := ⟨rfl, rfl, rfl, by decide +kernel, rfl, by decide +kernel, by decide +kernel⟩
theorem ok_place_at (D : Df K mg "place_at" (top 17) ["body", "moment"]) (T : Tx K mg CK C) (F_times : Fn P w K mg base 2 "times" ["one", "other"] (sp_times K)) (F_plus : Fn P w K mg base 2 "plus" ["one", "other"] (sp_plus K)) : Fn P w K mg base 3 "place_at" ["body", "moment"] (sp_place_at K) := by
  refine D.ok0 sc_place_at (fun vs H Q E h => ?_) (fun f cdv A outer s H vs Q E hr h => ?_)
  · obtain ⟨p_i, a_i, b_i, x_i, v_i, m_i, p_t, t, rfl, _⟩ := h
    rfl
  obtain ⟨p_i, a_i, b_i, x_i, v_i, m_i, p_t, t, rfl, h_i, gx_i, gv_i, dx_i, dv_i, lo_i, hi_i, g_t, d_t, k0⟩ := h
  refine ⟨_, (pss_one (ps_ret (pe_fn F_plus (by decide) hr (by rfl) passE0 (pa_cons (pe_ix ix_tup (pv 0) pe_int (fun _ _ => rfl)) (pa_cons (pe_fn F_times (by decide) hr (by rfl) passE0 (pa_cons (pe_ix ix_tup (pv 0) pe_int (fun _ _ => rfl)) (pa_cons (pv 1) pa_nil))) pa_nil))))), ?_⟩
  refine ⟨_, rfl, p_i, _, _, _, rfl, rfl, h_i, rfl, _, rfl, p_i, _, _, _, rfl, rfl, h_i, rfl, _, rfl, _, _, _, _, rfl, gv_i, (FB.mono dv_i (by decide)), g_t, (FB.mono d_t (by decide)), fun p_r10 H10 s10 g_r10 => ?_⟩
  have d_r10 : FB 3980 (v_i * t) := (FB.mono (FB.mul dv_i d_t) (by decide))
  replace gx_i := (Kw.Same.tup s10 gx_i)
  refine ⟨_, _, _, _, rfl, gx_i, (FB.mono dx_i (by decide)), g_r10, (FB.mono d_r10 (by decide)), fun p_r11 H11 s11 g_r11 => ?_⟩
  have d_r11 : FB 5971 (x_i + ((v_i * t))) := (FB.mono (FB.add dx_i d_r10) (by decide))
  exact k0 _ _ (s10.trans s11) g_r11
noncomputable def sp_going_of (K : PySem.W.Frag) : Sp := fun vs H Q _ => ∃ (v : V) (n : Nat) (c : Clm), vs = [v] ∧ ClQ K H n v c ∧ ∀ (r : Addr) (H1 : Hp), Same H H1 → BdQ K H1 n (.ref r) c.2.2 → Q (.ref r) H1
theorem sc_going_of : FnScope ["clump"] ["clump"] (defScope (top 25)) := ⟨rfl, rfl, rfl, by decide +kernel, rfl, by decide +kernel, by decide +kernel⟩
theorem ok_going_of (D : Df K mg "going_of" (top 25) ["clump"]) (T : Tx K mg CK C)  : Fn P w K mg base 1 "going_of" ["clump"] (sp_going_of K) := by
  refine D.ok0 sc_going_of (fun vs H Q E h => ?_) (fun f cdv A outer s H vs Q E hr h => ?_)
  · obtain ⟨v, n, c, rfl, _⟩ := h
    rfl
  obtain ⟨v, n, c, rfl, ⟨p, a, b, rfl, h1, h2, h3, d1, d2, w1, w2⟩, k⟩ := h
  refine ⟨_, (pss_one (ps_ret (pe_slice (sl_tupK (K := K) rfl) (pv 0) (po_some pe_int) po_none))), ?_⟩
  refine ⟨_, rfl, _, rfl, p, _, rfl, h1, cut_gt (n := 5) (by decide) (by decide), ?_⟩
  intro p2 n2
  obtain ⟨H2, q2, s2, e2⟩ := newO n2 (.tup (cutV [.int (c.1 : Int), .int (c.2.1 : Int), .ref a, .ref b, .int c.2.2.2.2] (some 2) none))
  rw [q2]
  clear q2
  exact k p2 H2 s2 ⟨p2, a, b, rfl, SqT.of e2, Kw.Same.tup s2 h2, Kw.Same.tup s2 h3, d1, d2, w1, w2⟩
theorem sX_sum (cs : List Bod) : sumQ (cs.map fun b => ((b.2.2 : Int) : Rat) * b.1) = sX cs := sumQ_fold _
theorem sV_sum (cs : List Bod) : pushQ cs = sV cs := sumQ_fold _
theorem sW_sum (cs : List Bod) : (cs.map fun b => b.2.2).sum = sW cs := rfl
noncomputable def sp_stuck (K : PySem.W.Frag) : Sp := fun vs H Q _ => ∃ (p : Addr) (xs : List V) (cs : List Clm), vs = [.ref p] ∧ H p = some (.lst xs) ∧ Al2 (ClQ K H 480) xs cs ∧ 1 ≤ cs.length ∧ cs.length ≤ 12 ∧ sW (cs.map goC) ≤ 10000 ∧ FB 480 (meanB (cs.map goC)).1 ∧ FB 480 (meanB (cs.map goC)).2.1 ∧ ∀ (r : Addr) (H1 : Hp), Same H H1 → ClQ K H1 480 (.ref r) (joinC cs) → Q (.ref r) H1
theorem sc_stuck : FnScope ["parts", "weight", "place", "speed"] ["parts"] (defScope (top 26)) := ⟨rfl, rfl, rfl, by decide +kernel, rfl, by decide +kernel, by decide +kernel⟩
theorem ok_stuck (D : Df K mg "stuck" (top 26) ["parts"]) (T : Tx K mg CK C) (F_times : Fn P w K mg base 2 "times" ["one", "other"] (sp_times K)) (F_total : Fn P w K mg base 3 "total" ["numbers"] (sp_total K)) (F_going_of : Fn P w K mg base 1 "going_of" ["clump"] (sp_going_of K)) (F_push : Fn P w K mg base 4 "push" ["bodies"] (sp_push K)) (F_over : Fn P w K mg base 3 "over" ["one", "other"] (sp_over K)) : Fn P w K mg base 5 "stuck" ["parts"] (sp_stuck K) := by
  refine D.ok0 sc_stuck (fun vs H Q E h => ?_) (fun f cdv A outer s H vs Q E hr h => ?_)
  · obtain ⟨p, xs, cs, rfl, _⟩ := h
    rfl
  obtain ⟨p, xs, cs, rfl, hp, al, l1, l12, hW, fx, fv, k⟩ := h
  refine ⟨_, (pss_cons (ps_set (i := 1) sc_stuck.nd rfl (Or.inl rfl) (pe_callB (sum_ints rfl) (by rfl) T.b_sum PyProof.Rows.Boot.«sum» (pa_cons (@pe_lc _ _ _ _ _ _ _ _ _ _ [] [] rfl (pi_list (pv 0)) rfl (by decide) rfl (by decide) rfl (by decide) cap_none (fun _ _ h => nomatch h) (no_free rfl) (fun C z Hc fp => (pe_ix (ixT (K := K) rfl) (pv 0) pe_int (fun _ _ => rfl))) (fun _ => rfl)) pa_nil)))
      (pss_cons (ps_set (i := 2) sc_stuck.nd rfl (Or.inl rfl) (pe_fn F_total (by decide) hr (by rfl) passE0 (pa_cons (@pe_lc _ _ _ _ _ _ _ _ _ _ [] [] rfl (pi_list (pv 0)) rfl (by decide) rfl (by decide) rfl (by decide) cap_none (fun _ _ h => nomatch h) (no_free rfl) (fun C z Hc fp => (pe_fn F_times (by decide) hr (by rfl) passE0 (pa_cons (pe_tup (pa_cons (pe_ix (ixT (K := K) rfl) (pv 0) pe_int (fun _ _ => rfl)) (pa_cons pe_int pa_nil))) (pa_cons (pe_ix (ixT (K := K) rfl) (pv 0) pe_int (fun _ _ => rfl)) pa_nil)))) (fun _ => rfl)) pa_nil)))
      (pss_cons (ps_set (i := 3) sc_stuck.nd rfl (Or.inl rfl) (pe_fn F_push (by decide) hr (by rfl) passE0 (pa_cons (@pe_lc _ _ _ _ _ _ _ _ _ _ [] [] rfl (pi_list (pv 0)) rfl (by decide) rfl (by decide) rfl (by decide) cap_none (fun _ _ h => nomatch h) (no_free rfl) (fun C z Hc fp => (pe_fn F_going_of (by decide) hr (by rfl) passE0 (pa_cons (pv 0) pa_nil))) (fun _ => rfl)) pa_nil)))
      (pss_one (ps_ret (pe_tup (pa_cons (pe_ix ix_tup (pe_ix ix_list (pv 0) pe_int (fun _ _ => rfl)) pe_int (fun _ _ => rfl)) (pa_cons (pe_ix ix_tup (pe_ix ix_list (pv 0) (pe_un un_neg pe_int) (fun _ _ => rfl)) pe_int (fun _ _ => rfl)) (pa_cons (pe_fn F_over (by decide) hr (by rfl) passE0 (pa_cons (pv 2) (pa_cons (pe_tup (pa_cons (pv 1) (pa_cons pe_int pa_nil))) pa_nil))) (pa_cons (pe_fn F_over (by decide) hr (by rfl) passE0 (pa_cons (pv 3) (pa_cons (pe_tup (pa_cons (pv 1) (pa_cons pe_int pa_nil))) pa_nil))) (pa_cons (pv 1) pa_nil))))))))))), ?_⟩
  have hz := Al2.len al
  have z12 : xs.length ≤ sizeLine := by rw [hz]; exact Nat.le_trans l12 (by decide)
  have lm : (cs.map goC).length = cs.length := List.length_map _
  have wpos : 1 ≤ sW (cs.map goC) := by
    refine sW_pos (fun z => ?_) fun b hb => ?_
    · have z2 := congrArg List.length z
      rw [lm] at z2
      have z3 : cs.length = 0 := z2
      omega
    · obtain ⟨c, hc, rfl⟩ := List.mem_map.mp hb
      obtain ⟨i, hi⟩ := List.getElem?_of_mem hc
      obtain ⟨x, hx⟩ : ∃ x, xs[i]? = some x := ⟨_, List.getElem?_eq_getElem (by rw [hz]; exact (List.getElem?_eq_some_iff.mp hi).1)⟩
      obtain ⟨c', hc', _, _, _, _, _, _, _, _, _, w1, _⟩ := Al2.get al hx
      rw [hi] at hc'
      cases hc'
      exact w1
  obtain ⟨mX, mV⟩ := mean_mul wpos
  have dW : FB 64 ((sW (cs.map goC) : Int) : Rat) := FB.ofInt (Bd.small (by omega) (by omega)) (by decide)
  have wn : ((sW (cs.map goC) : Int) : Rat) ≠ 0 := fun z => by
    have z2 : ((sW (cs.map goC) : Int) : Rat) = ((0 : Int) : Rat) := z
    have := Rat.intCast_inj.mp z2
    omega
  have dX : FB 544 (sX (cs.map goC)) := ((FB.mul dW fx).mono (by decide)).cast mX
  have dV : FB 544 (sV (cs.map goC)) := ((FB.mul dW fv).mono (by decide)).cast mV
  refine ⟨_, rfl, p, rfl, ⟨_, SqL.of hp⟩, lc_list (K := K) (xs := xs) (fun i ys H1 => i ≤ xs.length ∧ Same H H1 ∧ ys = (((cs.take i).map goC).map fun b => b.2.2).map V.int) ⟨Nat.zero_le _, Same.refl H, rfl⟩ z12 (fun i ys H1 z => by obtain ⟨l, _, e⟩ := z; rw [e]; simp; omega) (fun i ys H1 z => by obtain ⟨_, g, _⟩ := z; exact SqL.of (g _ _ hp)) ?_ ?_⟩
  · rintro i x ys H1 Q1 hx ⟨hl, s1, rfl⟩ kq
    have hi : i < xs.length := (List.getElem?_eq_some_iff.mp hx).1
    obtain ⟨c, hc, pb, pa, pc, rfl, x1, x2, x3, x4, x5, x6, x7⟩ := Al2.get (cls_same al s1) hx
    refine ⟨_, rfl, pb, _, _, _, rfl, rfl, x1, rfl, ?_⟩
    refine kq _ _ ⟨hi, s1, ?_⟩
    rw [take_snoc hc, List.map_append, List.map_append, List.map_append]
    rfl
  rintro ys H1 ⟨_, s1, rfl⟩ pl hpl
  rw [hz, List.take_length]
  obtain ⟨H2, q2, s2, e2⟩ := newO hpl (.lst (((cs.map goC).map fun b => b.2.2).map V.int))
  rw [q2]
  clear q2
  refine ⟨pl, _, rfl, SqL.of e2, ?_⟩
  rw [sW_sum]
  have s02 := s1.trans s2
  have hp2 := s02 _ _ hp
  have al2 := cls_same al s02
  refine ⟨_, rfl, p, rfl, ⟨_, SqL.of hp2⟩, lc_list (K := K) (xs := xs) (fun i ys H3 => i ≤ xs.length ∧ Same H2 H3 ∧ Al2 (FrQ K H3 544) ys (((cs.take i).map goC).map fun b => ((b.2.2 : Int) : Rat) * b.1)) ⟨Nat.zero_le _, Same.refl _, trivial⟩ z12 (fun i ys H3 z => by obtain ⟨l, _, e⟩ := z; have := Al2.len e; simp at this; omega) (fun i ys H3 z => by obtain ⟨_, g, _⟩ := z; exact SqL.of (g _ _ hp2)) ?_ ?_⟩
  · rintro i x ys H3 Q3 hx ⟨hl, s3, hy⟩ kq
    have hi : i < xs.length := (List.getElem?_eq_some_iff.mp hx).1
    obtain ⟨c, hc, pb, pa, pc, rfl, x1, x2, x3, x4, x5, x6, x7⟩ := Al2.get (cls_same al2 s3) hx
    refine ⟨_, rfl, pb, _, _, _, rfl, rfl, x1, rfl, by show 2 ≤ sizeLine; decide, ?_⟩
    intro p4 n4
    obtain ⟨H4, q4, s4, e4⟩ := newO n4 (.tup [.int c.2.2.2.2, .int 1])
    rw [q4]
    clear q4
    have g4 : FQ K H4 p4 ((c.2.2.2.2 : Int) : Rat) := FQ.ofInt (SqT.of e4)
    have d4 : FB 64 ((c.2.2.2.2 : Int) : Rat) := FB.ofInt (Bd.small (by omega) (by omega)) (by decide)
    refine ⟨_, rfl, pb, _, _, _, rfl, rfl, Kw.Same.tup s4 x1, rfl, _, _, _, _, rfl, g4, d4.mono (by decide), Kw.Same.tup s4 x2, x4.mono (by decide), fun r5 H5 s5 g5 => ?_⟩
    refine kq _ _ ⟨hi, s3.trans (s4.trans s5), ?_⟩
    rw [take_snoc hc, List.map_append, List.map_append]
    exact Al2.snoc (frs_same hy (s4.trans s5)) ⟨r5, rfl, g5, (FB.mul d4 x4).mono (by decide)⟩
  rintro ys H3 ⟨_, s3, hy⟩ pl3 hpl3
  rw [hz, List.take_length] at hy
  obtain ⟨H4, q4, s4, e4⟩ := newO hpl3 (.lst ys)
  rw [q4]
  clear q4
  have ly := Al2.len hy
  rw [List.length_map, lm] at ly
  refine ⟨pl3, ys, _, 544, rfl, SqL.of e4, frs_same hy s4, ⟨by omega, by decide⟩, fun r5 H5 s5 g5 => ?_⟩
  rw [sX_sum] at g5
  have s25 := s3.trans (s4.trans s5)
  have hp5 := s25 _ _ hp2
  have al5 := cls_same al2 s25
  refine ⟨_, rfl, p, rfl, ⟨_, SqL.of hp5⟩, lc_list (K := K) (xs := xs) (fun i ys H6 => i ≤ xs.length ∧ Same H5 H6 ∧ Al2 (BdQ K H6 480) ys ((cs.take i).map goC)) ⟨Nat.zero_le _, Same.refl _, trivial⟩ z12 (fun i ys H6 z => by obtain ⟨l, _, e⟩ := z; have := Al2.len e; simp at this; omega) (fun i ys H6 z => by obtain ⟨_, g, _⟩ := z; exact SqL.of (g _ _ hp5)) ?_ ?_⟩
  · rintro i x ys H6 Q6 hx ⟨hl, s6, hy6⟩ kq
    have hi : i < xs.length := (List.getElem?_eq_some_iff.mp hx).1
    obtain ⟨c, hc, hq⟩ := Al2.get (cls_same al5 s6) hx
    refine ⟨_, rfl, x, 480, c, rfl, hq, fun r7 H7 s7 g7 => ?_⟩
    refine kq _ _ ⟨hi, s6.trans s7, ?_⟩
    rw [take_snoc hc, List.map_append]
    exact Al2.snoc (bds_same hy6 s7) g7
  rintro ys6 H6 ⟨_, s6, hy6⟩ pl6 hpl6
  rw [hz, List.take_length] at hy6
  obtain ⟨H7, q7, s7, e7⟩ := newO hpl6 (.lst ys6)
  rw [q7]
  clear q7
  refine ⟨pl6, ys6, _, 480, rfl, SqL.of e7, bds_same hy6 s7, ⟨by decide, by rw [lm]; omega, by rw [lm]; omega⟩, fun r8 H8 s8 g8 => ?_⟩
  rw [sV_sum] at g8
  have s58 := s6.trans (s7.trans s8)
  have hp8 := s58 _ _ hp5
  have al8 := cls_same al5 s58
  obtain ⟨x0, hx0⟩ : ∃ x, xs[0]? = some x := ⟨_, List.getElem?_eq_getElem (by omega)⟩
  obtain ⟨xl, hxl⟩ : ∃ x, xs[xs.length - 1]? = some x := ⟨_, List.getElem?_eq_getElem (by omega)⟩
  obtain ⟨c0, hc0, p0, _, _, rfl, u1, _⟩ := Al2.get al8 hx0
  obtain ⟨cl, hcl, pL, _, _, rfl, v1, _⟩ := Al2.get al8 hxl
  have j1 : (joinC cs).1 = c0.1 := by
    show (cs.headD _).1 = _
    cases cs with
    | nil => simp at hc0
    | cons c r => simp at hc0; rw [← hc0]; rfl
  have j2 : (joinC cs).2.1 = cl.2.1 := by
    show (cs.getLastD _).2.1 = _
    rw [List.getLastD_eq_getLast?, List.getLast?_eq_getElem?, ← hz, hcl]
    rfl
  have atl : atI xs (-1) = some (.ref pL) := at_last hxl
  refine ⟨_, rfl, p, _, _, _, rfl, rfl, SqL.of hp8, atI_nat (j := 0) hx0, p0, _, _, _, rfl, rfl, u1, rfl, _, rfl, 1, rfl, p, _, _, _, rfl, rfl, SqL.of hp8, atl, pL, _, _, _, rfl, rfl, v1, rfl, _, rfl, _, rfl, by show 2 ≤ sizeLine; decide, ?_⟩
  intro p9 n9
  obtain ⟨H9, q9, s9, e9⟩ := newO n9 (.tup [.int (sW (cs.map goC)), .int 1])
  rw [q9]
  clear q9
  have g9 : FQ K H9 p9 ((sW (cs.map goC) : Int) : Rat) := FQ.ofInt (SqT.of e9)
  have s59 := s58.trans s9
  refine ⟨r5, _, p9, _, rfl, Kw.Same.tup s59 g5, dX.mono (by decide), g9, dW.mono (by decide), wn, fun r10 H10 s10 g10 => ?_⟩
  refine ⟨_, rfl, _, rfl, by show 2 ≤ sizeLine; decide, ?_⟩
  intro p11 n11
  obtain ⟨H11, q11, s11, e11⟩ := newO n11 (.tup [.int (sW (cs.map goC)), .int 1])
  rw [q11]
  clear q11
  have g11 : FQ K H11 p11 ((sW (cs.map goC) : Int) : Rat) := FQ.ofInt (SqT.of e11)
  have s911 := s9.trans (s10.trans s11)
  refine ⟨r8, _, p11, _, rfl, Kw.Same.tup s911 g8, dV.mono (by decide), g11, dW.mono (by decide), wn, fun r12 H12 s12 g12 => ?_⟩
  refine ⟨_, rfl, by show 5 ≤ sizeLine; decide, ?_⟩
  intro p13 n13
  obtain ⟨H13, q13, s13, e13⟩ := newO n13 (.tup [.int (c0.1 : Int), .int (cl.2.1 : Int), .ref r10, .ref r12, .int (sW (cs.map goC))])
  rw [q13]
  clear q13
  have s813 := s911.trans (s12.trans s13)
  refine k p13 H13 (s02.trans (s25.trans (s58.trans s813))) ⟨p13, r10, r12, rfl, ?_, Kw.Same.tup (s11.trans (s12.trans s13)) g10, Kw.Same.tup s13 g12, fx, fv, wpos, hW⟩
  rw [j1, j2]
  exact SqT.of e13
theorem none_of_sm {H H1 : Hp} {a : Addr} (s : Same H H1) (n : H1 a = none) : H a = none := by
  cases e : H a with
  | none => rfl
  | some o => have := s _ _ e; rw [n] at this; cases this
noncomputable def spC_joint_of (K : PySem.W.Frag) (C : Addr) : Sp := fun vs H Q _ => ∃ (p dx : Addr) (fs : List (Str × V)) (c k : Addr) (xs : List V) (kvs : List (List Key × V)) (bs : List Bod) (ss : List (List Bod)) (i : Nat), vs = [.ref p, .int (i : Int)] ∧ H p = some (.ins C dx fs) ∧ fs.lookup ("clumps" : Str) = some (V.ref c) ∧ fs.lookup ("known" : Str) = some (V.ref k) ∧ H c = some (.lst xs) ∧ Al2 (ClQ K H 480) xs (numB 0 ss) ∧ H k = some (.dT kvs) ∧ KnQ K H bs kvs ∧ kvs.length ≤ 300 ∧ WdB bs ∧ StB bs ss ∧ i + 1 < ss.length ∧ ∀ (v : V) (o : Option Rat) (kvs' : List (List Key × V)) (H1 : Hp), Buts [k] H H1 → H1 k = some (.dT kvs') → KnQ K H1 bs kvs' → kvs'.length ≤ kvs.length + 1 → (jnts (ss.map meanB))[i]? = some o → OptR K H1 v o → Q v H1
theorem sc_Sticking_joint_of : FnScope ["self", "left", "one", "other", "bodies"] ["self", "left"] (defScope (mthAt (top 27) 1)) := ⟨rfl, rfl, rfl, by decide +kernel, rfl, by decide +kernel, by decide +kernel⟩
theorem ok_Sticking_joint_of (D : DfM K (C 1) "joint_of" "Sticking.joint_of" (mthAt (top 27) 1) ["self", "left"]) (T : Tx K mg CK C) (F_going_of : Fn P w K mg base 1 "going_of" ["clump"] (sp_going_of K)) (F_joint_moment : Fn P w K mg base 4 "joint_moment" ["one", "other"] (sp_joint_moment K)) : FnM P w K mg base 5 (C 1) "joint_of" ["self", "left"] (spC_joint_of K (C 1)) := by
  refine D.ok0 sc_Sticking_joint_of (fun vs H Q E h => ?_) (fun f cdv A outer s H vs Q E hr h => ?_)
  · obtain ⟨p, dx, fs, c, k, xs, kvs, bs, ss, i, rfl, _⟩ := h
    rfl
  obtain ⟨p, dx, fs, c, k, xs, kvs, bs, ss, i, rfl, hp, lc, lk, hc, al, hk, kn, l300, wd, st, i1, fin⟩ := h
  refine ⟨_, (pss_cons (ps_set (i := 2) sc_Sticking_joint_of.nd rfl (Or.inl rfl) (pe_ix ix_list (pe_fldC T.cl_Sticking T.n_Sticking_clumps (pv 0)) (pv 1) (fun _ _ => rfl)))
      (pss_cons (ps_set (i := 3) sc_Sticking_joint_of.nd rfl (Or.inl rfl) (pe_ix ix_list (pe_fldC T.cl_Sticking T.n_Sticking_clumps (pv 0)) (pe_op op_add (pv 1) pe_int) (fun _ _ => rfl)))
      (pss_cons (ps_set (i := 4) sc_Sticking_joint_of.nd rfl (Or.inl rfl) (pe_tup (pa_cons (pe_ix ix_tup (pv 2) pe_int (fun _ _ => rfl)) (pa_cons (pe_ix ix_tup (pv 3) pe_int (fun _ _ => rfl)) (pa_cons (pe_ix ix_tup (pv 3) pe_int (fun _ _ => rfl)) pa_nil)))))
      (pss_cons (ps_if (pt_cmp (pc_dnotin (u1_of (u100 hr)) (pv 4) (pe_fldC T.cl_Sticking T.n_Sticking_known (pv 0))) (by first | rfl | with_unfolding_all rfl)) (pss_one (ps_dput (u1_of (u100 hr)) (pe_fldC T.cl_Sticking T.n_Sticking_known (pv 0)) (pv 4) (pe_fn F_joint_moment (by decide) hr (by rfl) passE0 (pa_cons (pe_fn F_going_of (by decide) hr (by rfl) passE0 (pa_cons (pv 2) pa_nil)) (pa_cons (pe_fn F_going_of (by decide) hr (by rfl) passE0 (pa_cons (pv 3) pa_nil)) pa_nil))) (by rfl))) pss_nil)
      (pss_one (ps_ret (pe_dget (u1_of (u100 hr)) (pe_fldC T.cl_Sticking T.n_Sticking_known (pv 0)) (pv 4) (fun _ _ => rfl)))))))), ?_⟩
  have hz := Al2.len al
  rw [numB_len] at hz
  obtain ⟨s1, es1⟩ : ∃ s, ss[i]? = some s := ⟨_, List.getElem?_eq_getElem (by omega)⟩
  obtain ⟨s2, es2⟩ : ∃ s, ss[i + 1]? = some s := ⟨_, List.getElem?_eq_getElem i1⟩
  obtain ⟨va, hva⟩ : ∃ va, xs[i]? = some va := ⟨_, List.getElem?_eq_getElem (by omega)⟩
  obtain ⟨vb, hvb⟩ : ∃ vb, xs[i + 1]? = some vb := ⟨_, List.getElem?_eq_getElem (by omega)⟩
  obtain ⟨ca, hca, qa⟩ := Al2.get al hva
  obtain ⟨cb, hcb, qb⟩ := Al2.get al hvb
  have na := numB_get 0 ss i s1 es1
  have nb := numB_get 0 ss (i + 1) s2 es2
  have eca : ca = (offB ss i, offB ss i + s1.length - 1, meanB s1) := by rw [hca] at na; rw [Nat.zero_add] at na; exact Option.some.inj na
  have ecb : cb = (offB ss (i + 1), offB ss (i + 1) + s2.length - 1, meanB s2) := by rw [hcb] at nb; rw [Nat.zero_add] at nb; exact Option.some.inj nb
  obtain ⟨g1, l1, n1⟩ := st.get es1
  obtain ⟨g2, l2, n2⟩ := st.get es2
  have os := off_succ es1
  have jn : (jnts (ss.map meanB))[i]? = some (jntQ (meanB s1) (meanB s2)) := jnts_get (by rw [List.getElem?_map, es1]; rfl) (by rw [List.getElem?_map, es2]; rfl)
  have fa := StB.fits wd st es1
  have fb := StB.fits wd st es2
  have kj : jntQ (meanB (segB bs ca.1 (cb.1 - 1))) (meanB (segB bs cb.1 cb.2.1)) = jntQ (meanB s1) (meanB s2) := by
    rw [eca, ecb]
    dsimp only
    rw [os, g1, ← os, g2]
  obtain ⟨p1, a1, b1, rfl, x1, x2, x3, x4, x5, x6, x7⟩ := id qa
  obtain ⟨p2, a2, b2, rfl, y1, y2, y3, y4, y5, y6, y7⟩ := id qb
  have atb : atI xs ((i : Int) + 1) = some (.ref p2) := by
    have z := atI_nat hvb
    rwa [show (((i + 1 : Nat)) : Int) = (i : Int) + 1 by omega] at z
  refine ⟨_, rfl, p, _, _, _, rfl, hp, lc, _, rfl, c, _, _, _, rfl, rfl, SqL.of hc, atI_nat hva, ?_⟩
  refine ⟨_, rfl, p, _, _, _, rfl, hp, lc, _, rfl, _, _, rfl, rfl, c, _, _, _, rfl, rfl, SqL.of hc, atb, ?_⟩
  refine ⟨_, rfl, p1, _, _, _, rfl, rfl, x1, rfl, _, rfl, p2, _, _, _, rfl, rfl, y1, rfl, _, rfl, p2, _, _, _, rfl, rfl, y1, rfl, by show 3 ≤ sizeLine; decide, ?_⟩
  intro p3 n3
  obtain ⟨H3, q3, s3, e3⟩ := newO n3 (.tup [.int (ca.1 : Int), .int (cb.1 : Int), .int (cb.2.1 : Int)])
  rw [q3]
  clear q3
  have hp3 := s3 _ _ hp
  have hk3 := s3 _ _ hk
  have kn3 := kn.same s3
  have key : H3 p3 = some (.tup (([.inl (ca.1 : Int), .inl (cb.1 : Int), .inl (cb.2.1 : Int)] : List Key).map kV)) := e3
  refine ⟨_, rfl, _, rfl, p, _, _, _, rfl, hp3, lk, k, _, rfl, DGet.t hk3 key, _, rfl, ?_⟩
  cases hv : valV kvs [.inl (ca.1 : Int), .inl (cb.1 : Int), .inl (cb.2.1 : Int)] with
  | some v =>
    refine iteF ?_
    refine ⟨_, rfl, p, _, _, _, rfl, hp3, lk, _, rfl, k, v, rfl, by have z := DGet.t hk3 key; rw [hv] at z; exact z, ?_⟩
    have ov := kn3 _ _ _ v hv
    rw [kj] at ov
    exact fin v _ kvs H3 (Buts.of s3) hk3 kn3 (Nat.le_succ _) jn ov
  | none =>
    refine iteT ?_
    refine ⟨_, rfl, .ref p1, 480, ca, rfl, qa.same s3, fun r4 H4 s4 q4 => ?_⟩
    refine ⟨_, rfl, .ref p2, 480, cb, rfl, qb.same (s3.trans s4), fun r5 H5 s5 q5 => ?_⟩
    obtain ⟨pa, aa, ac, ea, u1, u2, u3, u4, u5, u6, u7⟩ := q4.same s5
    obtain ⟨pb, ba, bc, eb, v1, v2, v3, v4, v5, v6, v7⟩ := q5
    cases ea
    cases eb
    have ga : ca.2.2 = meanB s1 := by rw [eca]
    have gb : cb.2.2 = meanB s2 := by rw [ecb]
    refine ⟨r4, aa, ac, _, _, _, r5, ba, bc, _, _, _, rfl, u1, u2, u3, u4.mono (by decide), u5.mono (by decide), u6, u7, v1, v2, v3, v4.mono (by decide), v5.mono (by decide), v6, v7, fun c H6 s6 => ?_, fun c r H6 s6 g6 => ?_⟩
    · have ov : OptR K H6 .non (jntQ (meanB s1) (meanB s2)) := by
        rw [← ga, ← gb, jnt_none c]
        exact .inl ⟨rfl, rfl⟩
      have s36 := s4.trans (s5.trans s6)
      refine ⟨_, rfl, p, _, _, _, rfl, s36 _ _ hp3, lk, _, rfl, k, _, rfl, DPut.t (s36 _ _ hk3) (s36 _ _ key) (Nat.lt_of_le_of_lt l300 (by decide)), ?_⟩
      obtain ⟨H7, q7, s7, e7⟩ := newB (H := H6) (p := k) (.dT (putK kvs [.inl (ca.1 : Int), .inl (cb.1 : Int), .inl (cb.2.1 : Int)] .non))
      rw [q7]
      clear q7
      have pk : p ≠ k := ne_of hp hk (by intro z; cases z)
      have p3k : p3 ≠ k := Ne.symm (ne_of_none hk n3)
      have bs7 : Buts [k] H6 H7 := Buts.one s7 (List.mem_singleton.mpr rfl)
      have nt6 : NoT [k] H6 := NoT.dct (s36 _ _ hk3) NoT.nil
      have kn7 : KnQ K H7 bs (putK kvs [.inl (ca.1 : Int), .inl (cb.1 : Int), .inl (cb.2.1 : Int)] .non) := (KnQ.put (kn3.same s36) (by rw [kj]; exact ov)).buts bs7 nt6
      refine ⟨_, rfl, p, _, _, _, rfl, s7 _ _ pk (s36 _ _ hp3), lk, _, rfl, k, .non, rfl, by have z := DGet.t e7 (s7 _ _ p3k (s36 _ _ key)); rw [valV_put, if_pos rfl] at z; exact z, ?_⟩
      exact fin .non _ _ H7 ((Buts.of (s3.trans s36)).trans bs7) e7 kn7 (length_putK _ _ _) jn (ov.buts bs7 nt6)
    · have ov : OptR K H6 (.ref r) (jntQ (meanB s1) (meanB s2)) := by
        rw [← ga, ← gb, jnt_some c]
        exact .inr ⟨_, r, rfl, rfl, g6, (jnt_fb ⟨u4, u5⟩ ⟨v4, v5⟩ (jnt_some c)).mono (by decide)⟩
      have s36 := s4.trans (s5.trans s6)
      refine ⟨_, rfl, p, _, _, _, rfl, s36 _ _ hp3, lk, _, rfl, k, _, rfl, DPut.t (s36 _ _ hk3) (s36 _ _ key) (Nat.lt_of_le_of_lt l300 (by decide)), ?_⟩
      obtain ⟨H7, q7, s7, e7⟩ := newB (H := H6) (p := k) (.dT (putK kvs [.inl (ca.1 : Int), .inl (cb.1 : Int), .inl (cb.2.1 : Int)] (.ref r)))
      rw [q7]
      clear q7
      have pk : p ≠ k := ne_of hp hk (by intro z; cases z)
      have p3k : p3 ≠ k := Ne.symm (ne_of_none hk n3)
      have bs7 : Buts [k] H6 H7 := Buts.one s7 (List.mem_singleton.mpr rfl)
      have nt6 : NoT [k] H6 := NoT.dct (s36 _ _ hk3) NoT.nil
      have kn7 : KnQ K H7 bs (putK kvs [.inl (ca.1 : Int), .inl (cb.1 : Int), .inl (cb.2.1 : Int)] (.ref r)) := (KnQ.put (kn3.same s36) (by rw [kj]; exact ov)).buts bs7 nt6
      refine ⟨_, rfl, p, _, _, _, rfl, s7 _ _ pk (s36 _ _ hp3), lk, _, rfl, k, (.ref r), rfl, by have z := DGet.t e7 (s7 _ _ p3k (s36 _ _ key)); rw [valV_put, if_pos rfl] at z; exact z, ?_⟩
      exact fin (.ref r) _ _ H7 ((Buts.of (s3.trans s36)).trans bs7) e7 kn7 (length_putK _ _ _) jn (ov.buts bs7 nt6)
noncomputable def spC_look_ahead (K : PySem.W.Frag) (C : Addr) : Sp := fun vs H Q _ => ∃ (p dx : Addr) (fs : List (Str × V)) (c k : Addr) (xs : List V) (kvs : List (List Key × V)) (bs : List Bod) (ss : List (List Bod)), vs = [.ref p] ∧ H p = some (.ins C dx fs) ∧ fs.lookup ("clumps" : Str) = some (V.ref c) ∧ fs.lookup ("known" : Str) = some (V.ref k) ∧ fs.lookup ("joint_of" : Str) = none ∧ fs.length < 900 ∧ H c = some (.lst xs) ∧ Al2 (ClQ K H 480) xs (numB 0 ss) ∧ H k = some (.dT kvs) ∧ KnQ K H bs kvs ∧ kvs.length ≤ 200 ∧ WdB bs ∧ StB bs ss ∧ 1 ≤ ss.length ∧ ∀ (j : Addr) (co : V) (ys : List V) (kvs' : List (List Key × V)) (H1 : Hp), Buts [p, k] H H1 → H1 p = some (.ins C dx (putF ("coming" : Str) co (putF ("joints" : Str) (V.ref j) fs))) → H j = none → H1 j = some (.lst ys) → Al2 (OptR K H1) ys (jnts (ss.map meanB)) → OptR K H1 co (cmng (ss.map meanB)) → H1 k = some (.dT kvs') → KnQ K H1 bs kvs' → kvs'.length ≤ kvs.length + 11 → Q .non H1
theorem sc_Sticking_look_ahead : FnScope ["self"] ["self"] (defScope (mthAt (top 27) 2)) := ⟨rfl, rfl, rfl, by decide +kernel, rfl, by decide +kernel, by decide +kernel⟩
theorem ok_Sticking_look_ahead (D : DfM K (C 1) "look_ahead" "Sticking.look_ahead" (mthAt (top 27) 2) ["self"]) (T : Tx K mg CK C) (F_Sticking_joint_of : FnM P w K mg base 5 (C 1) "joint_of" ["self", "left"] (spC_joint_of K (C 1))) (F_least : Fn P w K mg base 2 "least" ["moments"] (sp_least K)) : FnM P w K mg base 6 (C 1) "look_ahead" ["self"] (spC_look_ahead K (C 1)) := by
  refine D.ok0 sc_Sticking_look_ahead (fun vs H Q E h => ?_) (fun f cdv A outer s H vs Q E hr h => ?_)
  · obtain ⟨p, dx, fs, c, k, xs, kvs, bs, ss, rfl, _⟩ := h
    rfl
  obtain ⟨p, dx, fs, c, k, xs, kvs, bs, ss, rfl, hp, lc, lk, lno, lf, hc, al, hk, kn, l200, wd, st, l1, fin⟩ := h
  refine ⟨_, (pss_cons (ps_fldC T.cl_Sticking T.n_Sticking_joints (pv 0) (@pe_lc _ _ _ _ _ _ _ _ _ _ ["self"] [0] rfl (pi_range1 (by rfl) T.b_range (pa_cons (pe_op op_sub (pe_callB call_len (by rfl) T.b_len PyProof.Rows.Boot.«len» (pa_cons (pe_fldC T.cl_Sticking T.n_Sticking_clumps (pv 0)) pa_nil)) pe_int) pa_nil)) rfl (by decide) rfl (by decide) rfl (by decide) (cap_one (j := 0) rfl rfl rfl rfl (.inl rfl)) (fun y c h => h) (cap_fr rfl) (fun C z Hc fp => (pe_mt T.cl_Sticking F_Sticking_joint_of (by decide) hr passE0 (pv 1) (pa_cons (pv 0) pa_nil))) (fun _ => rfl)))
      (pss_one (ps_fldC T.cl_Sticking T.n_Sticking_coming (pv 0) (pe_fn F_least (by decide) hr (by rfl) passE0 (pa_cons (@pe_lcT _ _ _ _ _ _ _ _ _ _ _ _ [] [] rfl (pi_list (pe_fldC T.cl_Sticking T.n_Sticking_joints (pv 0))) rfl (by decide) rfl (by decide) rfl (by decide) cap_none (fun _ _ h => nomatch h) (no_free rfl) (fun C z Hc fp => pts_one (pt_cmpR op_notN (pv 0) pe_non (nomark _))) (fun C z Hc fp => (pv 0)) (fun _ => rfl)) pa_nil))))), ?_⟩
  have hz := Al2.len al
  rw [numB_len] at hz
  have sl := st.len
  have w12 := wd.l12
  have pk : p ≠ k := ne_of hp hk (by intro z; cases z)
  have ck : c ≠ k := ne_of hc hk (by intro z; cases z)
  have nt : NoT [k] H := NoT.dct hk NoT.nil
  have lj : (jnts (ss.map meanB)).length = ss.length - 1 := by rw [jnts_len, List.length_map]
  refine ⟨_, rfl, p, _, _, _, rfl, hp, lc, _, _, rfl, .inl ⟨_, SqL.of hc, rfl⟩, _, _, rfl, rfl, _, rfl, by omega, by omega, lc_range (lo := 0) (n := (((xs.length : Nat) : Int) - 1).toNat) (fun i ys H' => i ≤ ss.length - 1 ∧ Buts [k] H H' ∧ (∃ kvs', H' k = some (.dT kvs') ∧ KnQ K H' bs kvs' ∧ kvs'.length ≤ kvs.length + i) ∧ Al2 (OptR K H') ys ((jnts (ss.map meanB)).take i)) ⟨Nat.zero_le _, Buts.refl, ⟨kvs, hk, kn, Nat.le_refl _⟩, trivial⟩ (Nat.le_trans (show (((xs.length : Nat) : Int) - 1).toNat ≤ 12 by omega) (by decide)) (fun i ys H' z => by obtain ⟨l, _, _, e⟩ := z; have := Al2.len e; rw [List.length_take, lj] at this; omega) ?_ ?_⟩
  · rintro i ys H7 Q7 hi ⟨hl, s7, ⟨kv7, hk7, kn7, l7⟩, hy⟩ kq
    have i1 : i + 1 < ss.length := by omega
    have hp7 := s7 _ _ (by simp [pk]) hp
    refine ⟨_, rfl, p, _, _, rfl, hp7, lno, _, rfl, p, dx, fs, c, k, xs, kv7, bs, ss, i, congrArg (fun z => [V.ref p, V.int z]) (Int.zero_add _), hp7, lc, lk, s7 _ _ (by simp [ck]) hc, cls_buts al s7 nt, hk7, kn7, by omega, wd, st, i1, fun v o kv8 H8 s8 hk8 kn8 l8 jn ov => ?_⟩
    refine kq _ _ ⟨by omega, s7.trans s8, ⟨kv8, hk8, kn8, by omega⟩, ?_⟩
    rw [take_snoc jn]
    exact Al2.snoc (opts_buts hy s8 (NoT.dct hk7 NoT.nil)) ov
  · rintro ys H7 ⟨_, s7, ⟨kv7, hk7, kn7, l7⟩, hy⟩ pl hpl
    have en : (jnts (ss.map meanB)).take (((xs.length : Nat) : Int) - 1).toNat = jnts (ss.map meanB) := List.take_of_length_le (by rw [lj]; omega)
    rw [en] at hy
    obtain ⟨H8, q8, s8, e8⟩ := newO hpl (.lst ys)
    rw [q8]
    clear q8
    have hp7 := s7 _ _ (by simp [pk]) hp
    have hp8 := s8 _ _ hp7
    refine ⟨_, rfl, p, dx, _, rfl, hp8, by omega, ?_⟩
    obtain ⟨H9, q9, s9, e9⟩ := newB (H := H8) (p := p) (.ins (C 1) dx (putF ("joints" : Str) (V.ref pl) fs))
    dsimp only
    rw [q9]
    clear q9
    have plp : pl ≠ p := fun z => by rw [z, hp7] at hpl; cases hpl
    have bs9 : Buts [p] H8 H9 := Buts.one s9 (List.mem_singleton.mpr rfl)
    have nt8 : NoT [p] H8 := NoT.ins hp8 NoT.nil
    have hj9 := s9 _ _ plp e8
    have hy9 := opts_buts (opts_same hy s8) bs9 nt8
    have lk9 : (putF ("joints" : Str) (V.ref pl) fs).lookup ("joints" : Str) = some (V.ref pl) := by rw [lookup_putF, if_pos rfl]
    have lf9 := length_putF ("joints" : Str) (V.ref pl) fs
    have lys := Al2.len hy
    refine ⟨_, rfl, p, _, _, _, rfl, e9, lk9, pl, rfl, ⟨_, SqL.of hj9⟩, lc_filter (K := K) (fun v => !decide (v = .non)) (SqL.of hj9) (Nat.le_trans (show ys.length ≤ 12 by omega) (by decide)) ?_ ?_ ?_⟩
    · intro x hx Q1 q1
      exact ⟨_, rfl, rfl, _, rfl, q1⟩
    · intro x hx Q1 q1
      exact ⟨_, rfl, q1⟩
    · intro l hln
      obtain ⟨H10, q10, s10, e10⟩ := newO hln (.lst (ys.filter fun v => !decide (v = .non)))
      rw [q10]
      clear q10
      have l100 : ((jnts (ss.map meanB)).filterMap id).length ≤ 100 := Nat.le_trans (List.length_filterMap_le _ _) (by omega)
      refine ⟨l, _, _, rfl, e10, frs_same (opts_filter hy9) s10, l100, fun v H11 s11 ov => ?_⟩
      have s911 := s10.trans s11
      have hp11 := s911 _ _ e9
      refine ⟨_, rfl, p, dx, _, rfl, hp11, by omega, ?_⟩
      obtain ⟨H12, q12, s12, e12⟩ := newB (H := H11) (p := p) (.ins (C 1) dx (putF ("coming" : Str) v (putF ("joints" : Str) (V.ref pl) fs)))
      dsimp only
      rw [q12]
      clear q12
      have bs12 : Buts [p] H11 H12 := Buts.one s12 (List.mem_singleton.mpr rfl)
      have nt11 : NoT [p] H11 := NoT.ins hp11 NoT.nil
      have plk : pl ≠ k := fun z => by rw [z, hk7] at hpl; cases hpl
      have up : ∀ {a : Addr} {o : HO}, a ≠ p → H8 a = some o → H12 a = some o := fun na ha => s12 _ _ na (s911 _ _ (s9 _ _ na ha))
      have npl : H pl = none := by
        cases q : H pl with
        | none => rfl
        | some o =>
          have z := s7 _ _ (by simp [plk]) q
          rw [hpl] at z
          cases z
      have B12 : Buts [p, k] H H12 := fun a o na ha => by
        simp only [List.mem_cons, List.not_mem_nil, or_false, not_or] at na
        exact up na.1 (s8 _ _ (s7 _ _ (by simp [na.2]) ha))
      exact fin pl v ys kv7 H12 B12 e12 npl (up plp e8) (opts_buts (opts_same hy9 s911) bs12 nt11) (ov.buts bs12 nt11) (up (Ne.symm pk) (s8 _ _ hk7)) ((((kn7.same s8).buts bs9 nt8).same s911).buts bs12 nt11) (by omega)
noncomputable def spC_init (K : PySem.W.Frag) (C : Addr) : Sp := fun vs H Q _ => ∃ (x dx p : Addr) (xs : List V) (bs : List Bod), vs = [.ref x, .ref p] ∧ H x = some (.ins C dx []) ∧ H p = some (.lst xs) ∧ Al2 (BdQ K H 480) xs bs ∧ 1 ≤ bs.length ∧ WdB bs ∧ ∀ (k : Addr) (H1 : Hp), But x H H1 → H k = none → SkAt K H1 C x bs (bs.map fun b => [b]) k → Q .non H1
theorem sc_Sticking___init__ : FnScope ["self", "world"] ["self", "world"] (defScope (mthAt (top 27) 0)) := ⟨rfl, rfl, rfl, by decide +kernel, rfl, by decide +kernel, by decide +kernel⟩
theorem ok_Sticking___init__ (D : DfM K (C 1) "__init__" "Sticking.__init__" (mthAt (top 27) 0) ["self", "world"]) (T : Tx K mg CK C) (F_Sticking_look_ahead : FnM P w K mg base 6 (C 1) "look_ahead" ["self"] (spC_look_ahead K (C 1))) : FnM P w K mg base 7 (C 1) "__init__" ["self", "world"] (spC_init K (C 1)) := by
  refine D.ok0 sc_Sticking___init__ (fun vs H Q E h => ?_) (fun f cdv A outer s H vs Q E hr h => ?_)
  · obtain ⟨x, dx, p, xs, bs, rfl, _⟩ := h
    rfl
  obtain ⟨x, dx, p, xs, bs, rfl, hx, hp, al, l1, wd, fin⟩ := h
  refine ⟨_, (pss_cons (ps_fldC T.cl_Sticking T.n_Sticking_clumps (pv 0) (@pe_lc _ _ _ _ _ _ _ _ _ _ ["world"] [1] rfl (pi_range1 (by rfl) T.b_range (pa_cons (pe_callB call_len (by rfl) T.b_len PyProof.Rows.Boot.«len» (pa_cons (pv 1) pa_nil)) pa_nil)) rfl (by decide) rfl (by decide) rfl (by decide) (cap_one (j := 1) rfl rfl rfl rfl (.inl rfl)) (fun y c h => h) (cap_fr rfl) (fun C z Hc fp => (pe_op (op_catAK (K := K) rfl) (pe_tup (pa_cons (pv 0) (pa_cons (pv 0) pa_nil))) (pe_ix (ixL (K := K) rfl) (pv 1) (pv 0) (fun _ _ => rfl)))) (fun _ => rfl)))
      (pss_cons (ps_fldC T.cl_Sticking T.n_Sticking_known (pv 0) pe_dnewT)
      (pss_one (ps_expr (pe_mt0 T.cl_Sticking F_Sticking_look_ahead (by decide) hr passE0 (pv 0)))))), ?_⟩
  have hz := Al2.len al
  have w12 := wd.l12
  have ln : (numB 0 (bs.map fun b => [b])).length = bs.length := by rw [numB_len, List.length_map]
  refine ⟨_, rfl, _, _, rfl, .inl ⟨_, SqL.of hp, rfl⟩, _, rfl, by omega, by omega, lc_range (lo := 0) (n := ((xs.length : Nat) : Int).toNat) (fun i ys H' => i ≤ bs.length ∧ Same H H' ∧ Al2 (ClQ K H' 480) ys ((numB 0 (bs.map fun b => [b])).take i)) ⟨Nat.zero_le _, Same.refl _, trivial⟩ (Nat.le_trans (show ((xs.length : Nat) : Int).toNat ≤ 12 by omega) (by decide)) (fun i ys H' z => by obtain ⟨l, _, e⟩ := z; have := Al2.len e; rw [List.length_take, ln] at this; omega) ?_ ?_⟩
  · rintro i ys H2 Q2 hi ⟨hl, s2, hy⟩ kq
    obtain ⟨va, hva⟩ : ∃ va, xs[i]? = some va := ⟨_, List.getElem?_eq_getElem (by omega)⟩
    obtain ⟨b, hb, pb, pa, pc, rfl, x1, x2, x3, x4, x5, x6, x7⟩ := Al2.get (bds_same al s2) hva
    refine ⟨_, rfl, _, rfl, by show 2 ≤ sizeLine; decide, ?_⟩
    intro p3 n3
    obtain ⟨H3, q3, s3, e3⟩ := newO n3 (.tup [.int ((0 : Int) + (i : Int)), .int ((0 : Int) + (i : Int))])
    rw [q3]
    clear q3
    refine ⟨_, rfl, _, rfl, p, _, _, _, rfl, rfl, SqL.of (s3 _ _ (s2 _ _ hp)), atI_z hva, p3, pb, _, _, rfl, rfl, SqT.of e3, Kw.Same.tup s3 x1, by show 5 ≤ sizeLine; decide, (fun z => by cases z), (fun _ z => by cases z), fun _ _ => ?_⟩
    intro p4 n4
    obtain ⟨H4, q4, s4, e4⟩ := newO n4 (.tup ([.int ((0 : Int) + (i : Int)), .int ((0 : Int) + (i : Int))] ++ [.ref pa, .ref pc, .int b.2.2]))
    rw [q4]
    clear q4
    refine kq _ _ ⟨by omega, s2.trans (s3.trans s4), ?_⟩
    have nx := numB_get 0 (bs.map fun b => [b]) i [b] (by rw [List.getElem?_map, hb]; rfl)
    rw [off_one bs i (by omega), Nat.zero_add, mean_one x6] at nx
    have e5 : i + [b].length - 1 = i := by show i + 1 - 1 = i; omega
    rw [e5] at nx
    rw [take_snoc nx]
    have s24 := s3.trans s4
    refine Al2.snoc (cls_same hy s24) ⟨p4, pa, pc, rfl, ?_, Kw.Same.tup s24 x2, Kw.Same.tup s24 x3, x4, x5, x6, x7⟩
    rw [Int.zero_add] at e4
    exact SqT.of e4
  · rintro ys H2 ⟨_, s2, hy⟩ pl hpl
    have en : (numB 0 (bs.map fun b => [b])).take ((xs.length : Nat) : Int).toNat = numB 0 (bs.map fun b => [b]) := List.take_of_length_le (by rw [ln]; omega)
    rw [en] at hy
    obtain ⟨H3, q3, s3, e3⟩ := newO hpl (.lst ys)
    rw [q3]
    clear q3
    have hx3 := s3 _ _ (s2 _ _ hx)
    have plx : pl ≠ x := fun z => by rw [z, s2 _ _ hx] at hpl; cases hpl
    refine ⟨_, rfl, x, dx, [], rfl, hx3, by decide, ?_⟩
    obtain ⟨H4, q4, s4, e4⟩ := newB (H := H3) (p := x) (.ins (C 1) dx (putF ("clumps" : Str) (V.ref pl) []))
    dsimp only
    rw [q4]
    clear q4
    replace e4 : H4 x = some (.ins (C 1) dx [("clumps", .ref pl)]) := e4
    refine fun k nk => ?_
    obtain ⟨H5, q5, s5, e5⟩ := newO nk (.dT [])
    rw [q5]
    clear q5
    have hx5 := s5 _ _ e4
    have kx : k ≠ x := fun z => by rw [z, e4] at nk; cases nk
    refine ⟨_, rfl, x, dx, _, rfl, hx5, by show (1 : Nat) < 1000; decide, ?_⟩
    obtain ⟨H6, q6, s6, e6⟩ := newB (H := H5) (p := x) (.ins (C 1) dx (putF ("known" : Str) (V.ref k) [("clumps", .ref pl)]))
    dsimp only
    rw [q6]
    clear q6
    replace e6 : H6 x = some (.ins (C 1) dx [("clumps", .ref pl), ("known", .ref k)]) := e6
    have b34 : Buts [x] H3 H4 := Buts.one s4 (List.mem_singleton.mpr rfl)
    have b56 : Buts [x] H5 H6 := Buts.one s6 (List.mem_singleton.mpr rfl)
    have nt3 : NoT [x] H3 := NoT.ins hx3 NoT.nil
    have nt5 : NoT [x] H5 := NoT.ins hx5 NoT.nil
    have al6 := cls_buts (cls_same (cls_buts (cls_same hy s3) b34 nt3) s5) b56 nt5
    have hc6 := s6 _ _ plx (s5 _ _ (s4 _ _ plx e3))
    have hk6 := s6 _ _ kx e5
    refine ⟨_, rfl, x, dx, _, rfl, e6, rfl, x, dx, _, pl, k, ys, [], bs, bs.map (fun b => [b]), rfl, e6, rfl, rfl, rfl, by show (2 : Nat) < 900; decide, hc6, al6, hk6, KnQ.nil, by decide, wd, StB.one bs, by rw [List.length_map]; exact l1, fun j co yj kv7 H7 s7 e7 nj hj7 oj oc hk7 kn7 l7 => ?_⟩
    have plk : pl ≠ k := fun z => by rw [← z, s4 _ _ plx e3] at nk; cases nk
    have nt6 : NoT [x, k] H6 := NoT.ins e6 (NoT.dct hk6 NoT.nil)
    have nk0 : H k = none := by
      cases q : H k with
      | none => rfl
      | some o =>
        have z := s4 _ _ kx (s3 _ _ (s2 _ _ q))
        rw [nk] at z
        cases z
    refine fin k H7 (fun a o na ha => ?_) nk0 ⟨dx, pl, j, co, ys, kv7, yj, e7, s7 _ _ (by simp [plx, plk]) hc6, cls_buts al6 s7 nt6, hk7, kn7, ?_, hj7, oj, oc, wd, StB.one bs⟩
    · exact s7 _ _ (by simp only [List.mem_cons, List.not_mem_nil, or_false, not_or]; exact ⟨na, ne_of_none ha nk0⟩) (s6 _ _ na (s5 _ _ (s4 _ _ na (s3 _ _ (s2 _ _ ha)))))
    · rw [List.length_map]
      have z : kv7.length ≤ 0 + 11 := l7
      omega
noncomputable def comesQ (ss : List (List Bod)) (t : Rat) : Bool := match comS ss with
  | none => false
  | some T => decide (T ≤ t)
noncomputable def spC_comes_by (K : PySem.W.Frag) (C : Addr) : Sp := fun vs H Q _ => ∃ (p : Addr) (bs : List Bod) (ss : List (List Bod)) (k u : Addr) (t : Rat), vs = [.ref p, .ref u] ∧ SkAt K H C p bs ss k ∧ FQ K H u t ∧ FB 1990 t ∧ ∀ H1 : Hp, Same H H1 → Q (.bl (comesQ ss t)) H1
theorem sc_Sticking_comes_by : FnScope ["self", "moment"] ["self", "moment"] (defScope (mthAt (top 27) 3)) := ⟨rfl, rfl, rfl, by decide +kernel, rfl, by decide +kernel, by decide +kernel⟩
theorem ok_Sticking_comes_by (D : DfM K (C 1) "comes_by" "Sticking.comes_by" (mthAt (top 27) 3) ["self", "moment"]) (T : Tx K mg CK C) (F_under : Fn P w K mg base 1 "under" ["one", "other"] (sp_under K)) : FnM P w K mg base 2 (C 1) "comes_by" ["self", "moment"] (spC_comes_by K (C 1)) := by
  refine D.ok0 sc_Sticking_comes_by (fun vs H Q E h => ?_) (fun f cdv A outer s H vs Q E hr h => ?_)
  · obtain ⟨p, bs, ss, k, u, t, rfl, _⟩ := h
    rfl
  obtain ⟨p, bs, ss, k, u, t, rfl, ⟨dx, c, j, co, xs, kvs, ys, hp, hc, al, hk, kn, lk, hj, aj, oc, wd, st⟩, gt, dt, fin⟩ := h
  refine ⟨_, (pss_one (ps_ret (pe_and (pe_cmpR op_notN (pe_fldC T.cl_Sticking T.n_Sticking_coming (pv 0)) pe_non (nomark _)) (pe_one (pe_not (pe_fn F_under (by decide) hr (by rfl) passE0 (pa_cons (pv 1) (pa_cons (pe_fldC T.cl_Sticking T.n_Sticking_coming (pv 0)) pa_nil)))))))), ?_⟩
  rcases oc with ⟨e, rfl⟩ | ⟨T0, pt, e, rfl, gT, dT⟩
  · have cq : comesQ ss t = false := by unfold comesQ comS; rw [e]
    rw [cq] at fin
    refine ⟨_, rfl, p, _, _, _, rfl, hp, rfl, rfl, _, rfl, iteF ?_⟩
    exact fin H (Same.refl _)
  · have cq : comesQ ss t = decide (T0 ≤ t) := by unfold comesQ comS; rw [e]
    rw [cq] at fin
    refine ⟨_, rfl, p, _, _, _, rfl, hp, rfl, rfl, _, rfl, iteT ?_⟩
    refine ⟨_, rfl, _, rfl, p, _, _, _, rfl, hp, rfl, u, t, pt, T0, rfl, gt, dt.mono (by decide), gT, dT.mono (by decide), fun H1 s1 => ?_⟩
    have z : decide (T0 ≤ t) = !decide (t < T0) := by
      by_cases c : t < T0
      · rw [decide_eq_true c, decide_eq_false (by grind)]; rfl
      · rw [decide_eq_false c, decide_eq_true (by grind)]; rfl
    rw [z] at fin
    exact ⟨_, rfl, fin H1 s1⟩
noncomputable def spC_groups (K : PySem.W.Frag) (C : Addr) : Sp := fun vs H Q _ => ∃ (p : Addr) (bs : List Bod) (ss : List (List Bod)) (k : Addr), vs = [.ref p] ∧ SkAt K H C p bs ss k ∧ 1 ≤ ss.length ∧ ∀ (r : Addr) (zs : List V) (H1 : Hp), Same H H1 → H r = none → H1 r = some (.lst zs) → Al2 (GpQ K H1) zs (grpC ss) → (∀ z ∈ zs, ∃ l, z = .ref l ∧ H l = none) → Q (.ref r) H1
theorem sc_Sticking_groups : FnScope ["self", "groups", "left"] ["self"] (defScope (mthAt (top 27) 4)) := ⟨rfl, rfl, rfl, by decide +kernel, rfl, by decide +kernel, by decide +kernel⟩
theorem ok_Sticking_groups (D : DfM K (C 1) "groups" "Sticking.groups" (mthAt (top 27) 4) ["self"]) (T : Tx K mg CK C) : FnM P w K mg base 1 (C 1) "groups" ["self"] (spC_groups K (C 1)) := by
  refine D.ok0 sc_Sticking_groups (fun vs H Q E h => ?_) (fun f cdv A outer s H vs Q E hr h => ?_)
  · obtain ⟨p, bs, ss, k, rfl, _⟩ := h
    rfl
  obtain ⟨p, bs, ss, k, rfl, ⟨dx, c, j, co, xs, kvs, ys, hp, hc, al, hk, kn, lk, hj, aj, oc, wd, st⟩, l1, fin⟩ := h
  refine ⟨_, (pss_cons (ps_set (i := 1) sc_Sticking_groups.nd rfl (Or.inl rfl) (pe_lst (pa_cons (pe_lst (pa_cons (pe_ix ix_list (pe_fldC T.cl_Sticking T.n_Sticking_clumps (pv 0)) pe_int (fun _ _ => rfl)) pa_nil)) pa_nil)))
      (pss_cons (ps_for PassesOwn.never rfl (pi_range1 (by rfl) T.b_range (pa_cons (pe_callB call_len (by rfl) T.b_len PyProof.Rows.Boot.«len» (pa_cons (pe_fldC T.cl_Sticking T.n_Sticking_joints (pv 0)) pa_nil)) pa_nil)) (pg_name (i := 2) sc_Sticking_groups.nd rfl (Or.inl rfl)) (pss_one (ps_if (pt_cmpR (op_eqOR (K := K) rfl (u100 hr)) (pe_ix ix_list (pe_fldC T.cl_Sticking T.n_Sticking_joints (pv 0)) (pv 2) (fun _ _ => rfl)) (pe_fldC T.cl_Sticking T.n_Sticking_coming (pv 0)) (nomark _)) (pss_one (ps_expr (pe_bm PySem.F.plainAttrs_list PySem.F.slot_list_append PySem.F.type_list_append mt_append (pe_ix ix_list (pv 1) (pe_un un_neg pe_int) (fun _ _ => rfl)) (pa_cons (pe_ix ix_list (pe_fldC T.cl_Sticking T.n_Sticking_clumps (pv 0)) (pe_op op_add (pv 2) pe_int) (fun _ _ => rfl)) pa_nil)))) (pss_one (ps_expr (pe_bm PySem.F.plainAttrs_list PySem.F.slot_list_append PySem.F.type_list_append mt_append (pv 1) (pa_cons (pe_lst (pa_cons (pe_ix ix_list (pe_fldC T.cl_Sticking T.n_Sticking_clumps (pv 0)) (pe_op op_add (pv 2) pe_int) (fun _ _ => rfl)) pa_nil)) pa_nil)))))))
      (pss_one (ps_ret (pv 1))))), ?_⟩
  have hz := Al2.len al
  have hy := Al2.len aj
  have ln := numB_len 0 ss
  rw [jnts_len, List.length_map] at hy
  have sl := st.len
  have w12 := wd.l12
  obtain ⟨c0, cr, ecs⟩ : ∃ c0 cr, numB 0 ss = c0 :: cr := by
    cases q : numB 0 ss with
    | nil => rw [q] at ln; simp at ln; omega
    | cons c0 cr => exact ⟨c0, cr, rfl⟩
  have lcr : cr.length = ss.length - 1 := by rw [ecs] at ln; simp at ln; omega
  obtain ⟨x0, hx0⟩ : ∃ x, xs[0]? = some x := ⟨_, List.getElem?_eq_getElem (by omega)⟩
  obtain ⟨c0', hc0, q0⟩ := Al2.get al hx0
  have e00 : c0' = c0 := by rw [ecs] at hc0; simp at hc0; exact hc0.symm
  subst e00
  have eG : grpC ss = grp c0' ((jsC ss).zip cr) := by unfold grpC; rw [ecs]
  have lz : ((jsC ss).zip cr).length = ss.length - 1 := by rw [List.length_zip, jsC_len, lcr]; omega
  refine ⟨_, rfl, p, _, _, _, rfl, hp, rfl, c, _, _, _, rfl, rfl, SqL.of hc, atI_nat (j := 0) hx0, by show 1 ≤ sizeLine; decide, ?_⟩
  intro p2 n2
  obtain ⟨H2, q2, s2, e2⟩ := newO n2 (.lst [x0])
  rw [q2]
  clear q2
  refine ⟨by show 1 ≤ sizeLine; decide, ?_⟩
  intro p3 n3
  obtain ⟨H3, q3, s3, e3⟩ := newO n3 (.lst [.ref p2])
  rw [q3]
  clear q3
  have s03 := s2.trans s3
  have n30 : H p3 = none := none_of_sm s2 n3
  have p23 : p2 ≠ p3 := ne_of_none e2 n3
  refine ⟨_, rfl, p, _, _, _, rfl, s03 _ _ hp, rfl, _, _, rfl, .inl ⟨_, SqL.of (s03 _ _ hj), rfl⟩, _, rfl, by omega, by omega, for_range (n := ((ys.length : Nat) : Int).toNat) (fun i σ' H' => ∃ (u : Option V) (as0 : List Addr) (l : Addr) (zs : List V) (G0 : List (List Clm)) (g : List Clm), σ' = [some (.ref p), some (.ref p3), u] ∧ Same H H' ∧ H' p3 = some (.lst ((as0 ++ [l]).map V.ref)) ∧ Al2 (GpQ K H') (as0.map V.ref) G0 ∧ H' l = some (.lst zs) ∧ Al2 (ClQ K H' 480) zs g ∧ (((jsC ss).zip cr).take i).foldl (fun G x => gAdd G x.1 x.2) [[c0']] = G0 ++ [g] ∧ l ∉ as0 ∧ (∀ a ∈ as0 ++ [l], a ≠ p3 ∧ H a = none) ∧ as0.length ≤ i ∧ g.length ≤ i + 1) ⟨_, [], p2, [x0], [], [c0'], rfl, s03, e3, trivial, s3 _ _ e2, ⟨q0.same s03, trivial⟩, rfl, (fun z => nomatch z), (fun a ha => by rw [List.mem_singleton.mp ha]; exact ⟨p23, n2⟩), Nat.le_refl _, Nat.le_refl _⟩ ?_ ?_⟩
  · rintro i σ1 H4 hi ⟨u, as0, l, zs, G0, g, rfl, s4, e4, al4, hl4, az4, eg, nl, fr, la, lg⟩
    have i1 : i < ss.length - 1 := by omega
    obtain ⟨vj, hvj⟩ : ∃ v, ys[i]? = some v := ⟨_, List.getElem?_eq_getElem (by omega)⟩
    obtain ⟨o, ho, ro⟩ := Al2.get aj hvj
    obtain ⟨vc, hvc⟩ : ∃ v, xs[i + 1]? = some v := ⟨_, List.getElem?_eq_getElem (by omega)⟩
    obtain ⟨cc, hcc, qc⟩ := Al2.get al hvc
    have hp4 := s4 _ _ hp
    have hc4 := s4 _ _ hc
    have hj4 := s4 _ _ hj
    have cri : cr[i]? = some cc := by rw [ecs] at hcc; simpa using hcc
    have jsi : (jsC ss)[i]? = some (decide (o = cmng (ss.map meanB))) := by
      unfold jsC
      rw [List.getElem?_map, List.getElem?_range i1]
      show some (decide ((jnts (ss.map meanB))[i]? = some (cmng (ss.map meanB)))) = _
      rw [ho]
      exact congrArg some (decide_eq_decide.mpr ⟨fun h => Option.some.inj h, fun h => by rw [h]⟩)
    have zi : ((jsC ss).zip cr)[i]? = some (decide (o = cmng (ss.map meanB)), cc) := by rw [List.getElem?_zip_eq_some]; exact ⟨jsi, cri⟩
    have nx : (((jsC ss).zip cr).take (i + 1)).foldl (fun G x => gAdd G x.1 x.2) [[c0']] = G0 ++ gAdd [g] (decide (o = cmng (ss.map meanB))) cc := by
      rw [take_snoc zi, List.foldl_append, eg]
      exact gAdd_app G0 g _ cc
    have atc : atI xs ((0 : Int) + (i : Int) + 1) = some vc := by
      have z := atI_nat hvc
      rwa [show (((i + 1 : Nat)) : Int) = 0 + (i : Int) + 1 by omega] at z
    have lfr := fr l (List.mem_append.mpr (.inr (List.mem_singleton.mpr rfl)))
    refine ⟨_, rfl, p, _, _, _, rfl, hp4, rfl, _, rfl, j, _, _, _, rfl, rfl, SqL.of hj4, atI_z hvj, _, rfl, p, _, _, _, rfl, hp4, rfl, o, _, ro.same s4, oc.same s4, _, rfl, ?_⟩
    refine if_dec (fun cq => ?_) (fun cq => ?_)
    · rw [decide_eq_true cq] at nx
      have atl : atI ((as0 ++ [l]).map V.ref) (-1) = some (.ref l) := at_last (by rw [List.length_map, List.length_append, List.getElem?_map]; simp)
      refine ⟨_, rfl, 1, rfl, p3, _, _, _, rfl, rfl, SqL.of e4, atl, .inl ⟨rfl, _, SqL.of hl4⟩, _, rfl, p, _, _, _, rfl, hp4, rfl, _, rfl, _, _, rfl, rfl, c, _, _, _, rfl, rfl, SqL.of hc4, atc, l, _, _, rfl, rfl, hl4, by have := Al2.len az4; exact Nat.lt_of_le_of_lt (show zs.length ≤ 12 by omega) (by decide), ?_⟩
      obtain ⟨H5, q5, s5, e5⟩ := newB (H := H4) (p := l) (.lst (zs ++ [vc]))
      dsimp only
      rw [q5]
      clear q5
      have b5 : Buts [l] H4 H5 := Buts.one s5 (List.mem_singleton.mpr rfl)
      have nt4 : NoT [l] H4 := NoT.lst hl4 NoT.nil
      refine ⟨_, as0, l, zs ++ [vc], G0, g ++ [cc], rfl, same_then_but lfr.2 s4 s5, s5 _ _ (Ne.symm lfr.1) e4, gps_but al4 b5 nt4 (fun a ha => by intro z; rw [List.mem_singleton.mp z] at ha; exact nl ha), e5, Al2.snoc (cls_buts az4 b5 nt4) ((qc.same s4).buts b5 nt4), ?_, nl, fr, by omega, by rw [List.length_append]; simp; omega⟩
      rw [nx]
      have z : gAdd [g] true cc = [g ++ [cc]] := by simp [gAdd]
      rw [z]
    · rw [decide_eq_false cq] at nx
      refine ⟨_, rfl, .inl ⟨rfl, _, SqL.of e4⟩, _, rfl, p, _, _, _, rfl, hp4, rfl, _, rfl, _, _, rfl, rfl, c, _, _, _, rfl, rfl, SqL.of hc4, atc, by show 1 ≤ sizeLine; decide, ?_⟩
      intro p5 n5
      obtain ⟨H5, q5, s5, e5⟩ := newO n5 (.lst [vc])
      rw [q5]
      clear q5
      refine ⟨p3, _, _, rfl, rfl, s5 _ _ e4, by rw [List.length_map, List.length_append]; exact Nat.lt_of_le_of_lt (show as0.length + [l].length ≤ 13 by simp; omega) (by decide), ?_⟩
      obtain ⟨H6, q6, s6, e6⟩ := newB (H := H5) (p := p3) (.lst ((as0 ++ [l]).map V.ref ++ [.ref p5]))
      dsimp only
      rw [q6]
      clear q6
      have b6 : Buts [p3] H5 H6 := Buts.one s6 (List.mem_singleton.mpr rfl)
      have nt5 : NoT [p3] H5 := NoT.lst (s5 _ _ e4) NoT.nil
      have p53 : p5 ≠ p3 := Ne.symm (ne_of_none e4 n5)
      have n50 : H p5 = none := none_of_sm s4 n5
      have al6 := gps_but (gps_same al4 s5) b6 nt5 fun a ha => by intro z; rw [List.mem_singleton.mp z] at ha; exact (fr p3 (List.mem_append.mpr (.inl ha))).1 rfl
      have az6 := cls_buts (cls_same az4 s5) b6 nt5
      have hl6 := s6 _ _ lfr.1 (s5 _ _ hl4)
      refine ⟨_, as0 ++ [l], p5, [vc], G0 ++ [g], [cc], rfl, same_then_but n30 (s4.trans s5) s6, ?_, ?_, s6 _ _ p53 e5, ⟨(qc.same (s4.trans s5)).buts b6 nt5, trivial⟩, ?_, ?_, ?_, ?_, by simp⟩
      · rw [List.map_append]
        exact e6
      · rw [List.map_append]
        exact Al2.snoc al6 ⟨l, zs, rfl, hl6, az6⟩
      · rw [nx]
        have z : gAdd [g] false cc = [g] ++ [[cc]] := by simp [gAdd]
        rw [z, List.append_assoc]
      · intro z
        rcases List.mem_append.mp z with z | z
        · obtain ⟨m, hm⟩ := List.getElem?_of_mem z
          have y := Al2.get al4 (show (as0.map V.ref)[m]? = some (V.ref p5) by rw [List.getElem?_map, hm]; rfl)
          obtain ⟨_, _, l', zs', e', h', _⟩ := y
          cases e'
          rw [n5] at h'
          cases h'
        · rw [List.mem_singleton.mp z, hl4] at n5
          cases n5
      · intro a ha
        rcases List.mem_append.mp ha with z | z
        · exact fr a z
        · rw [List.mem_singleton.mp z]
          exact ⟨p53, n50⟩
      · rw [List.length_append]
        simp
        omega
  · rintro σ1 H4 ⟨u, as0, l, zs, G0, g, rfl, s4, e4, al4, hl4, az4, eg, nl, fr, la, lg⟩
    have en : ((jsC ss).zip cr).take ((ys.length : Nat) : Int).toNat = (jsC ss).zip cr := List.take_of_length_le (by omega)
    rw [en] at eg
    have eg2 : grpC ss = G0 ++ [g] := by rw [eG]; exact eg
    refine ⟨_, rfl, fin p3 _ H4 s4 n30 e4 ?_ fun z hz => ?_⟩
    · rw [eg2, List.map_append]
      exact Al2.snoc al4 ⟨l, zs, rfl, hl4, az4⟩
    · obtain ⟨a, ha, rfl⟩ := List.mem_map.mp hz
      exact ⟨a, rfl, (fr a ha).2⟩
noncomputable def spC_stick (K : PySem.W.Frag) (C : Addr) : Sp := fun vs H Q _ => ∃ (p : Addr) (bs : List Bod) (ss : List (List Bod)) (k : Addr) (t : Rat), vs = [.ref p] ∧ SkAt K H C p bs ss k ∧ 1 ≤ ss.length ∧ comS ss = some t ∧ ∀ (r : Addr) (zs : List V) (H1 : Hp), Buts [p, k] H H1 → H r = none → H1 r = some (.lst zs) → Al2 (MdQ K H1) zs (madeG t (grpC ss)) → SkAt K H1 C p bs (stepS ss) k → (∀ c j : Addr, (∃ dx co, H1 p = some (.ins C dx (skF c k j co))) → H c = none ∧ H j = none) → Q (.ref r) H1
theorem sc_Sticking_stick : FnScope ["self", "moment", "made", "clumps", "group", "clump"] ["self"] (defScope (mthAt (top 27) 5)) := ⟨rfl, rfl, rfl, by decide +kernel, rfl, by decide +kernel, by decide +kernel⟩
theorem ok_Sticking_stick (D : DfM K (C 1) "stick" "Sticking.stick" (mthAt (top 27) 5) ["self"]) (T : Tx K mg CK C) (F_Sticking_groups : FnM P w K mg base 1 (C 1) "groups" ["self"] (spC_groups K (C 1))) (F_stuck : Fn P w K mg base 5 "stuck" ["parts"] (sp_stuck K)) (F_place_at : Fn P w K mg base 3 "place_at" ["body", "moment"] (sp_place_at K)) (F_going_of : Fn P w K mg base 1 "going_of" ["clump"] (sp_going_of K)) (F_Sticking_look_ahead : FnM P w K mg base 6 (C 1) "look_ahead" ["self"] (spC_look_ahead K (C 1))) : FnM P w K mg base 7 (C 1) "stick" ["self"] (spC_stick K (C 1)) := by
  refine D.ok0 sc_Sticking_stick (fun vs H Q E h => ?_) (fun f cdv A outer s H vs Q E hr h => ?_)
  · obtain ⟨p, bs, ss, k, t, rfl, _⟩ := h
    rfl
  obtain ⟨p, bs, ss, k, t, rfl, sk, l1, ct, fin⟩ := h
  refine ⟨_, (pss_cons (ps_set (i := 1) sc_Sticking_stick.nd rfl (Or.inl rfl) (pe_fldC T.cl_Sticking T.n_Sticking_coming (pv 0)))
      (pss_cons (ps_set (i := 2) sc_Sticking_stick.nd rfl (Or.inl rfl) (pe_lst pa_nil))
      (pss_cons (ps_set (i := 3) sc_Sticking_stick.nd rfl (Or.inl rfl) (pe_lst pa_nil))
      (pss_cons (ps_for PassesOwn.never rfl (pi_list (pe_mt0 T.cl_Sticking F_Sticking_groups (by decide) hr passE0 (pv 0))) (pg_name (i := 4) sc_Sticking_stick.nd rfl (Or.inl rfl)) (pss_one (ps_if (pt_cmpR op_eq (pe_callB call_len (by rfl) T.b_len PyProof.Rows.Boot.«len» (pa_cons (pv 4) pa_nil)) pe_int (nomark _)) (pss_one (ps_expr (pe_bm PySem.F.plainAttrs_list PySem.F.slot_list_append PySem.F.type_list_append mt_append (pv 3) (pa_cons (pe_ix ix_list (pv 4) pe_int (fun _ _ => rfl)) pa_nil)))) (pss_cons (ps_set (i := 5) sc_Sticking_stick.nd rfl (Or.inl rfl) (pe_fn F_stuck (by decide) hr (by rfl) passE0 (pa_cons (pv 4) pa_nil)))
      (pss_cons (ps_expr (pe_bm PySem.F.plainAttrs_list PySem.F.slot_list_append PySem.F.type_list_append mt_append (pv 3) (pa_cons (pv 5) pa_nil)))
      (pss_one (ps_expr (pe_bm PySem.F.plainAttrs_list PySem.F.slot_list_append PySem.F.type_list_append mt_append (pv 2) (pa_cons (pe_tup (pa_cons (pv 1) (pa_cons (pe_fn F_place_at (by decide) hr (by rfl) passE0 (pa_cons (pe_fn F_going_of (by decide) hr (by rfl) passE0 (pa_cons (pv 5) pa_nil)) (pa_cons (pv 1) pa_nil))) (pa_cons (pe_ix ix_tup (pv 5) pe_int (fun _ _ => rfl)) (pa_cons (pe_ix ix_tup (pv 5) pe_int (fun _ _ => rfl)) pa_nil))))) pa_nil)))))))))
      (pss_cons (ps_fldC T.cl_Sticking T.n_Sticking_clumps (pv 0) (pv 3))
      (pss_cons (ps_expr (pe_mt0 T.cl_Sticking F_Sticking_look_ahead (by decide) hr passE0 (pv 0)))
      (pss_one (ps_ret (pv 2))))))))), ?_⟩
  obtain ⟨dx, c, j, co, xs, kvs, ys, hp, hc, al, hk, kn, lkv, hj, aj, oc, wd, st⟩ := id sk
  obtain ⟨pt, rfl, gt, dt⟩ : ∃ pt : Addr, co = .ref pt ∧ FQ K H pt t ∧ FB 1990 t := by
    rcases oc with ⟨e, _⟩ | ⟨q, pt, e, e', g', d'⟩
    · unfold comS at ct
      rw [ct] at e
      cases e
    · unfold comS at ct
      rw [ct] at e
      injection e with e
      subst e
      exact ⟨pt, e', g', d'⟩
  have pk : p ≠ k := ne_of hp hk (by intro z; cases z)
  obtain ⟨jn, _⟩ := grpC_join wd st
  have lG : (grpC ss).length = (stepS ss).length := by
    have z := congrArg List.length jn
    rw [List.length_map, numB_len] at z
    exact z
  have less := step_less ct
  have sl := st.len
  have w12 := wd.l12
  refine ⟨_, rfl, p, _, _, _, rfl, hp, rfl, by show 0 ≤ sizeLine; decide, ?_⟩
  intro p2 n2
  obtain ⟨H2, q2, s2, e2⟩ := newO n2 (.lst [])
  rw [q2]
  clear q2
  refine ⟨by show 0 ≤ sizeLine; decide, ?_⟩
  intro p3 n3
  obtain ⟨H3, q3, s3, e3⟩ := newO n3 (.lst [])
  rw [q3]
  clear q3
  have s03 := s2.trans s3
  refine ⟨_, rfl, p, _, _, rfl, s03 _ _ hp, rfl, p, bs, ss, k, rfl, sk.same s03, l1, fun r4 gz H4 s4 n4 e4 al4 fr4 => ?_⟩
  have s04 := s03.trans s4
  have lgz := Al2.len al4
  have n30 : H p3 = none := none_of_sm s2 n3
  have p23 : p2 ≠ p3 := ne_of_none e2 n3
  have h24 := s4 _ _ (s3 _ _ e2)
  have h34 := s4 _ _ e3
  have r42 : r4 ≠ p2 := fun z => by rw [z, s3 _ _ e2] at n4; cases n4
  have r43 : r4 ≠ p3 := fun z => by rw [z, e3] at n4; cases n4
  have nt4 : NoT [p2, p3] H4 := NoT.lst h24 (NoT.lst h34 NoT.nil)
  have gt4 := Kw.Same.tup s04 gt
  refine ⟨r4, rfl, ⟨_, SqL.of e4⟩, for_list (K := K) (a := r4) (xs := gz) (fun i σ' H' => ∃ (u4 u5 : Option V) (zm zc : List V), σ' = [some (.ref p), some (.ref pt), some (.ref p2), some (.ref p3), u4, u5] ∧ Buts [p2, p3] H4 H' ∧ H' p2 = some (.lst zm) ∧ Al2 (MdQ K H') zm (madeG t ((grpC ss).take i)) ∧ H' p3 = some (.lst zc) ∧ Al2 (ClQ K H' 480) zc (((grpC ss).take i).map joinC) ∧ zm.length ≤ i) ⟨_, _, [], [], rfl, Buts.refl, h24, trivial, h34, trivial, Nat.le_refl _⟩ (by rintro _ _ _ _ ⟨_, _, _, _, _, g5, _⟩; exact SqL.of (g5 _ _ (by simp [r42, r43]) e4)) ?_ ?_⟩
  · rintro i x σ' H5 hx ⟨u4, u5, zm, zc, rfl, s5, h25, am5, h35, ac5, lzm⟩
    have hi : i < gz.length := (List.getElem?_eq_some_iff.mp hx).1
    obtain ⟨g, hg, l, zs, rfl, hl4, az4⟩ := Al2.get al4 hx
    obtain ⟨l', el', nl'⟩ := fr4 _ (List.mem_of_getElem? hx)
    cases el'
    have l2 : l ≠ p2 := fun z => by rw [z, s3 _ _ e2] at nl'; cases nl'
    have l3 : l ≠ p3 := fun z => by rw [z, e3] at nl'; cases nl'
    have hl5 := s5 _ _ (by simp [l2, l3]) hl4
    have az5 := cls_buts az4 s5 nt4
    have lzs := Al2.len az5
    have lzc := Al2.len ac5
    rw [List.length_map, List.length_take] at lzc
    obtain ⟨g1, g12, gx, gv, gW⟩ := grpC_get wd st hg
    have tk : (grpC ss).take (i + 1) = (grpC ss).take i ++ [g] := take_snoc hg
    have mk : madeG t ((grpC ss).take (i + 1)) = madeG t ((grpC ss).take i) ++ (if 1 < g.length then [(t, plcQ (joinC g).2.2 t, (joinC g).1, (joinC g).2.1)] else []) := by rw [tk, madeG_snoc]
    have jk : ((grpC ss).take (i + 1)).map joinC = ((grpC ss).take i).map joinC ++ [joinC g] := by rw [tk, List.map_append]; rfl
    have zcl : zc.length < sizeLine := Nat.lt_of_le_of_lt (show zc.length ≤ 12 by omega) (by decide)
    have zml : zm.length < sizeLine := Nat.lt_of_le_of_lt (show zm.length ≤ 12 by omega) (by decide)
    refine ⟨_, rfl, _, _, rfl, .inl ⟨_, SqL.of hl5, rfl⟩, rfl, _, rfl, ?_⟩
    refine if_decI (fun q => ?_) (fun q => ?_)
    · have one : zs.length = 1 := by omega
      obtain ⟨v0, rfl⟩ : ∃ v0, zs = [v0] := List.length_eq_one_iff.mp one
      obtain ⟨c0, rfl⟩ : ∃ c0, g = [c0] := List.length_eq_one_iff.mp (by omega)
      refine ⟨_, rfl, .inl ⟨rfl, _, SqL.of h35⟩, _, rfl, l, _, _, _, rfl, rfl, SqL.of hl5, rfl, p3, _, _, rfl, rfl, h35, zcl, ?_⟩
      obtain ⟨H6, q6, s6, e6⟩ := newB (H := H5) (p := p3) (.lst (zc ++ [v0]))
      dsimp only
      rw [q6]
      clear q6
      have b6 : Buts [p2, p3] H5 H6 := Buts.one s6 (by simp)
      have b6' : Buts [p3] H5 H6 := Buts.one s6 (by simp)
      have nt5 : NoT [p3] H5 := NoT.lst h35 NoT.nil
      refine ⟨_, _, zm, zc ++ [v0], rfl, s5.trans b6, s6 _ _ p23 h25, ?_, e6, ?_, by omega⟩
      · rw [mk, if_neg (by simp), List.append_nil]
        exact mds_buts am5 b6' nt5
      · have w1 : 1 ≤ c0.2.2.2.2 := by
          obtain ⟨_, _, _, _, _, _, _, _, _, w, _⟩ := az5.1
          exact w
        rw [jk, joinC_one w1]
        exact Al2.snoc (cls_buts ac5 b6' nt5) (az5.1.buts b6' nt5)
    · refine ⟨_, rfl, l, zs, g, rfl, hl5, az5, g1, g12, gW, gx, gv, fun r6 H6 s6 q6 => ?_⟩
      refine ⟨_, rfl, .inl ⟨rfl, _, SqL.of (s6 _ _ h35)⟩, _, rfl, p3, _, _, rfl, rfl, s6 _ _ h35, zcl, ?_⟩
      obtain ⟨H7, q7, s7, e7⟩ := newB (H := H6) (p := p3) (.lst (zc ++ [.ref r6]))
      dsimp only
      rw [q7]
      clear q7
      have b7 : Buts [p3] H6 H7 := Buts.one s7 (by simp)
      have nt6 : NoT [p3] H6 := NoT.lst (s6 _ _ h35) NoT.nil
      have q6' := q6.buts b7 nt6
      have h27 := s7 _ _ p23 (s6 _ _ h25)
      have gt7 := b7.tup nt6 (Kw.Same.tup s6 (s5.tup nt4 gt4))
      refine ⟨_, rfl, .inl ⟨rfl, _, SqL.of h27⟩, _, rfl, _, rfl, _, 480, _, rfl, q6', fun r8 H8 s8 q8 => ?_⟩
      obtain ⟨a8, b8, c8, ee8, z1, z2, z3, z4, z5, z6, z7⟩ := id q8
      cases ee8
      refine ⟨_, rfl, r8, b8, c8, _, _, _, pt, t, rfl, z1, z2, z3, z4.mono (by decide), z5.mono (by decide), z6, z7, Kw.Same.tup s8 gt7, dt, fun r9 H9 s9 g9 => ?_⟩
      obtain ⟨pc, pca, pcb, ec, y1, y2, y3, y4, y5, y6, y7⟩ := (q6'.same s8).same s9
      cases ec
      refine ⟨_, rfl, r6, _, _, _, rfl, rfl, y1, rfl, _, rfl, r6, _, _, _, rfl, rfl, y1, rfl, by show 4 ≤ sizeLine; decide, ?_⟩
      intro p10 n10
      obtain ⟨H10, q10, s10, e10⟩ := newO n10 (.tup [.ref pt, .ref r9, .int ((joinC g).1 : Int), .int ((joinC g).2.1 : Int)])
      rw [q10]
      clear q10
      have s710 := s8.trans (s9.trans s10)
      refine ⟨p2, _, _, rfl, rfl, s710 _ _ h27, zml, ?_⟩
      obtain ⟨H11, q11, s11, e11⟩ := newB (H := H10) (p := p2) (.lst (zm ++ [.ref p10]))
      dsimp only
      rw [q11]
      clear q11
      have b11 : Buts [p2] H10 H11 := Buts.one s11 (by simp)
      have nt10 : NoT [p2] H10 := NoT.lst (s710 _ _ h27) NoT.nil
      have B : Buts [p2, p3] H5 H11 := fun a o na ha => by
        simp only [List.mem_cons, List.not_mem_nil, or_false, not_or] at na
        exact s11 _ _ na.1 (s710 _ _ (s7 _ _ na.2 (s6 _ _ ha)))
      refine ⟨_, _, zm ++ [.ref p10], zc ++ [.ref r6], rfl, s5.trans B, e11, ?_, s11 _ _ (Ne.symm p23) (s710 _ _ e7), ?_, by rw [List.length_append]; simp; omega⟩
      · rw [mk, if_pos (by omega)]
        refine Al2.snoc (mds_buts (mds_same (mds_buts (mds_same am5 s6) b7 nt6) s710) b11 nt10) ?_
        have md : MdQ K H10 (.ref p10) (t, plcQ (joinC g).2.2 t, (joinC g).1, (joinC g).2.1) := ⟨p10, pt, r9, rfl, SqT.of e10, Kw.Same.tup s710 gt7, Kw.Same.tup s10 g9, dt, (FB.add z4 (FB.mul z5 dt)).mono (by decide)⟩
        exact md.buts b11 nt10
      · rw [jk]
        exact Al2.snoc (cls_buts (cls_same (cls_buts (cls_same ac5 s6) b7 nt6) s710) b11 nt10) ((q6'.same s710).buts b11 nt10)
  · rintro σ' H5 ⟨u4, u5, zm, zc, rfl, s5, h25, am5, h35, ac5, lzm⟩
    have en : (grpC ss).take gz.length = grpC ss := by rw [lgz, List.take_length]
    rw [en] at am5 ac5
    rw [jn] at ac5
    have B5 : Same H H5 := fun a o ha => s5 _ _ (by
      simp only [List.mem_cons, List.not_mem_nil, or_false, not_or]
      exact ⟨ne_of_none ha n2, ne_of_none ha n30⟩) (s04 _ _ ha)
    have hp5 := B5 _ _ hp
    refine ⟨_, rfl, _, rfl, p, dx, _, rfl, hp5, by show (4 : Nat) < 1000; decide, ?_⟩
    obtain ⟨H6, q6, s6, e6⟩ := newB (H := H5) (p := p) (.ins (C 1) dx (putF ("clumps" : Str) (V.ref p3) (skF c k j (.ref pt))))
    dsimp only
    rw [q6]
    clear q6
    replace e6 : H6 p = some (.ins (C 1) dx (skF p3 k j (.ref pt))) := e6
    have b6 : Buts [p] H5 H6 := Buts.one s6 (by simp)
    have nt5 : NoT [p] H5 := NoT.ins hp5 NoT.nil
    have p3p : p3 ≠ p := Ne.symm (ne_of_none hp n30)
    have p2p : p2 ≠ p := Ne.symm (ne_of_none hp n2)
    have p2k : p2 ≠ k := Ne.symm (ne_of_none hk n2)
    have p3k : p3 ≠ k := Ne.symm (ne_of_none hk n30)
    have ac6 := cls_buts ac5 b6 nt5
    have hk6 := s6 _ _ (Ne.symm pk) (B5 _ _ hk)
    have h36 := s6 _ _ p3p h35
    refine ⟨_, rfl, p, _, _, rfl, e6, rfl, p, dx, _, p3, k, zc, kvs, bs, stepS ss, rfl, e6, rfl, rfl, rfl, by show (4 : Nat) < 900; decide, h36, ac6, hk6, (kn.same B5).buts b6 nt5, by omega, wd, st.step, step_ne l1, fun j7 co7 yj7 kv7 H7 s7 e7 nj7 hj7 oj7 oc7 hk7 kn7 l7 => ?_⟩
    replace e7 : H7 p = some (.ins (C 1) dx (skF p3 k j7 co7)) := e7
    have nt6 : NoT [p, k] H6 := NoT.ins e6 (NoT.dct hk6 NoT.nil)
    refine ⟨_, rfl, fin p2 zm H7 (fun a o na ha => s7 _ _ na (s6 _ _ (fun z => na (by rw [z]; simp)) (B5 _ _ ha))) n2 (s7 _ _ (by simp [p2p, p2k]) (s6 _ _ p2p h25)) (mds_buts (mds_buts am5 b6 nt5) s7 nt6) ⟨dx, p3, j7, co7, zc, kv7, yj7, e7, s7 _ _ (by simp [p3p, p3k]) h36, cls_buts ac6 s7 nt6, hk7, kn7, by omega, hj7, oj7, oc7, wd, st.step⟩ ?_⟩
    rintro c' j' ⟨dx', co', z⟩
    rw [e7] at z
    injection z with z
    injection z with _ _ z
    injection z with z1 z
    injection z1 with _ z1
    injection z1 with z1
    injection z with _ z
    injection z with z3 _
    injection z3 with _ z3
    injection z3 with z3
    subst z1 z3
    refine ⟨n30, ?_⟩
    cases q : H j7 with
    | none => rfl
    | some o =>
      exfalso
      by_cases jp : j7 = p
      · rw [jp, e6] at nj7
        cases nj7
      · rw [s6 _ _ jp (B5 _ _ q)] at nj7
        cases nj7
noncomputable def spX_below (K : PySem.W.Frag) (C : Nat → Addr) : Sp := fun vs H Q E => ∃ (p : Addr) (x : Rat), vs = [.ref p] ∧ FQ K H p x ∧ FB 8900 x ∧ (0 ≤ x → ∀ H1, Same H H1 → Q .non H1) ∧ (¬ 0 ≤ x → ∀ H1, Same H H1 → E (.ref (C 0)) none H1)
theorem sc_refuse_below_nought : FnScope ["moment"] ["moment"] (defScope (top 16)) := ⟨rfl, rfl, rfl, by decide +kernel, rfl, by decide +kernel, by decide +kernel⟩
theorem ok_refuse_below_nought (D : Df K mg "refuse_below_nought" (top 16) ["moment"]) (T : Tx K mg CK C) (F_under : Fn P w K mg base 1 "under" ["one", "other"] (sp_under K)) : Fn P w K mg base 2 "refuse_below_nought" ["moment"] (spX_below K C) := by
  refine D.okX sc_refuse_below_nought (fun vs H Q E h => ?_) (fun f cdv A outer s H vs Q E hr h => ?_)
  · obtain ⟨p, q, rfl, _⟩ := h
    rfl
  obtain ⟨p, q, rfl, hp, dq, k, kx⟩ := h
  refine ⟨_, (pss_one (ps_if (pt_val (pe_fn F_under (by decide) hr (by rfl) passE0 (pa_cons (pv 0) (pa_cons (pe_globT (K := K) rfl (by rfl) T.k_NOUGHT) pa_nil))) (fun _ => rfl)) (pss_one (ps_raise plain_cxOf leaves_cxOf rfl rfl T.c_NoMoment T.x_NoMoment (pa_cons pe_str pa_nil))) pss_nil)), ?_⟩
  refine ⟨_, rfl, fun N hN => ?_⟩
  have gN : FQ K H N (((0 : Int)) : Rat) := hN _
  have dN : FB 64 (((0 : Int)) : Rat) := FB.ofInt (Bd.small (i := 0) (by decide) (by decide)) (by decide)
  have eN : (((0 : Int)) : Rat) = 0 := rfl
  refine ⟨_, _, _, _, rfl, hp, dq.mono (by decide), gN, dN.mono (by decide), fun H1 s1 => ⟨_, rfl, ?_⟩⟩
  refine if_dec (fun c => ?_) (fun c => ?_)
  · exact ⟨by show 1 ≤ sizeLine; decide, kx (by rw [eN] at c; grind) H1 s1⟩
  · exact k (by rw [eN] at c; grind) H1 s1
theorem madeG_few {bs : List Bod} {ss : List (List Bod)} (w : WdB bs) (h : StB bs ss) (t : Rat) : (madeG t (grpC ss)).length ≤ 12 := by
  unfold madeG
  rw [List.length_map]
  have z := congrArg List.length (grpC_join w h).1
  rw [List.length_map, numB_len] at z
  have y := (h.stk (jsC ss)).len
  have := w.l12
  have := List.length_filter_le (fun g => decide (1 < g.length)) (grpC ss)
  omega
noncomputable def sp_stuck_run (K : PySem.W.Frag) : Sp := fun vs H Q _ => ∃ (p : Addr) (xs : List V) (bs : List Bod), vs = [.ref p] ∧ H p = some (.lst xs) ∧ Al2 (BdQ K H 480) xs bs ∧ 1 ≤ bs.length ∧ WdB bs ∧ ∀ (r : Addr) (zs : List V) (H1 : Hp), Same H H1 → H r = none → H1 r = some (.lst zs) → Al2 (MdQ K H1) zs (runB bs) → zs.length ≤ 400 → Q (.ref r) H1
theorem sc_stuck_run : FnScope ["world", "sticking", "run"] ["world"] (defScope (top 28)) := ⟨rfl, rfl, rfl, by decide +kernel, rfl, by decide +kernel, by decide +kernel⟩
theorem ok_stuck_run (D : Df K mg "stuck_run" (top 28) ["world"]) (T : Tx K mg CK C) (F_Sticking___init__ : FnM P w K mg base 7 (C 1) "__init__" ["self", "world"] (spC_init K (C 1))) (F_Sticking_stick : FnM P w K mg base 7 (C 1) "stick" ["self"] (spC_stick K (C 1))) : Fn P w K mg base 9 "stuck_run" ["world"] (sp_stuck_run K) := by
  refine D.ok0 sc_stuck_run (fun vs H Q E h => ?_) (fun f cdv A outer s H vs Q E hr h => ?_)
  · obtain ⟨p, xs, bs, rfl, _⟩ := h
    rfl
  obtain ⟨p, xs, bs, rfl, hp, al, l1, wd, fin⟩ := h
  refine ⟨_, (pss_cons (ps_set (i := 1) sc_stuck_run.nd rfl (Or.inl rfl) (pe_mko T.mk_Sticking T.kp_Sticking F_Sticking___init__ (by decide) hr (by rfl) T.c_Sticking passE0 (pa_cons (pv 0) pa_nil)))
      (pss_cons (ps_set (i := 2) sc_stuck_run.nd rfl (Or.inl rfl) (pe_lst pa_nil))
      (pss_cons (ps_while PassesOwn.never (pt_cmpR op_notN (pe_fldC T.cl_Sticking T.n_Sticking_coming (pv 1)) pe_non (nomark _)) (pss_one (ps_expr (pe_bm PySem.F.plainAttrs_list PySem.F.slot_list_extend PySem.F.type_list_extend mt_extend (pv 2) (pa_cons (pe_mt0 T.cl_Sticking F_Sticking_stick (by decide) hr passE0 (pv 1)) pa_nil)))))
      (pss_one (ps_ret (pv 2)))))), ?_⟩
  refine ⟨_, rfl, ?_⟩
  intro x dx nx ndx nex
  obtain ⟨H1, q1⟩ : ∃ H1, upd (upd H dx (.own x)) x (.ins (C 1) dx []) = H1 := ⟨_, rfl⟩
  have s1 : Same H H1 := by
    rw [← q1]
    intro a o ha
    rw [upd_ne (ne_of_none ha nx), upd_ne (ne_of_none ha ndx)]
    exact ha
  have e1 : H1 x = some (.ins (C 1) dx []) := by rw [← q1]; exact upd_same
  dsimp only
  rw [q1]
  clear q1
  refine ⟨x, dx, p, xs, bs, rfl, e1, s1 _ _ hp, bds_same al s1, l1, wd, fun k H2 s2 nk sk => ⟨rfl, ?_⟩⟩
  refine ⟨by show 0 ≤ sizeLine; decide, ?_⟩
  intro p3 n3
  obtain ⟨H3, q3, s3, e3⟩ := newO n3 (.lst [])
  rw [q3]
  clear q3
  have S02 : ∀ {a : Addr} {o : HO}, H a = some o → H2 a = some o := fun {a o} ha => s2 a o (ne_of_none ha nx) (s1 a o ha)
  have n30 : H p3 = none := by
    cases q : H p3 with
    | none => rfl
    | some o => rw [S02 q] at n3; cases n3
  have nk0 : H k = none := none_of_sm s1 nk
  have l12 := wd.l12
  have sk3 := sk.same s3
  refine ⟨fun m σ' H' => ∃ (ss : List (List Bod)) (zs : List V) (ms : List (Rat × Rat × Nat × Nat)), σ' = [some (.ref p), some (.ref x), some (.ref p3)] ∧ Same H H' ∧ SkAt K H' (C 1) x bs ss k ∧ 1 ≤ ss.length ∧ H' p3 = some (.lst zs) ∧ Al2 (MdQ K H') zs ms ∧ ms ++ runS ss.length ss = runB bs ∧ m = ss.length ∧ zs.length + 12 * ss.length ≤ 200, ⟨_, oneS bs, [], [], rfl, fun a o ha => s3 _ _ (S02 ha), sk3, (by unfold oneS; rw [List.length_map]; exact l1), e3, trivial, rfl, rfl, (by show (0 : Nat) + 12 * _ ≤ 200; unfold oneS; rw [List.length_map]; omega)⟩, ?_⟩
  rintro m σ' H4 ⟨ss, zs, ms, rfl, s4, sk4, ls, h4, am4, er, rfl, lz⟩
  obtain ⟨dx4, c4, j4, co4, xs4, kv4, ys4, a1, a2, a3, a4, a5, a6, a7, a8, a9, wd4, st4⟩ := id sk4
  refine ⟨_, rfl, x, _, _, _, rfl, a1, rfl, rfl, _, rfl, ?_⟩
  rcases a9 with ⟨e, rfl⟩ | ⟨T0, pt, e, rfl, gT, dT⟩
  · refine iteF ?_
    rw [run_none e, List.append_nil] at er
    rw [er] at am4
    exact ⟨_, rfl, fin p3 zs H4 s4 n30 h4 am4 (by omega)⟩
  · refine iteT ?_
    refine ⟨_, fun _ _ n => n, ?_⟩
    refine ⟨_, rfl, .inl ⟨rfl, _, SqL.of h4⟩, _, rfl, x, _, _, rfl, a1, rfl, x, bs, ss, k, T0, rfl, sk4, ls, e, fun r5 z5 H5 s5 n5 e5 am5 sk5 nw5 => ?_⟩
    have p3x : p3 ≠ x := fun z => by rw [z, a1] at h4; cases h4
    have p3k : p3 ≠ k := fun z => by rw [z, a4] at h4; cases h4
    have h5 := s5 _ _ (by simp [p3x, p3k]) h4
    have few := madeG_few wd st4 T0
    have lz5 := Al2.len am5
    have less := step_less e
    refine ⟨p3, r5, zs, z5, rfl, rfl, h5, e5, Nat.le_trans (show zs.length + z5.length ≤ 300 by omega) (by decide), ?_⟩
    obtain ⟨H6, q6, s6, e6⟩ := newB (H := H5) (p := p3) (.lst (zs ++ z5))
    dsimp only
    rw [q6]
    clear q6
    have b6 : Buts [p3] H5 H6 := Buts.one s6 (by simp)
    have nt5 : NoT [p3] H5 := NoT.lst h5 NoT.nil
    have nt4 : NoT [x, k] H4 := NoT.ins a1 (NoT.dct a4 NoT.nil)
    refine ⟨_, less, stepS ss, zs ++ z5, ms ++ madeG T0 (grpC ss), rfl, fun a o ha => s6 _ _ (ne_of_none ha n30) (s5 _ _ (by simp only [List.mem_cons, List.not_mem_nil, or_false, not_or]; exact ⟨ne_of_none ha nx, ne_of_none ha nk0⟩) (s4 _ _ ha)), sk5.but s6 h5 (fun c j z => ⟨(fun y => by have := (nw5 c j z).1; rw [y, h4] at this; cases this), (fun y => by have := (nw5 c j z).2; rw [y, h4] at this; cases this)⟩), step_ne ls, e6, al_app (mds_buts (mds_buts am4 s5 nt4) b6 nt5) (mds_buts am5 b6 nt5), ?_, rfl, by rw [List.length_append]; omega⟩
    rw [List.append_assoc, ← run_some e]
    exact er
noncomputable def sp_clump_at (K : PySem.W.Frag) : Sp := fun vs H Q _ => ∃ (v : V) (c : Clm) (u : Addr) (t : Rat), vs = [v, .ref u] ∧ ClQ K H 480 v c ∧ FQ K H u t ∧ FB 1990 t ∧ ∀ (r : Addr) (H1 : Hp), Same H H1 → ClQ K H1 2990 (.ref r) (clT t c) → Q (.ref r) H1
theorem sc_clump_at : FnScope ["clump", "moment"] ["clump", "moment"] (defScope (top 29)) := ⟨rfl, rfl, rfl, by decide +kernel, rfl, by decide +kernel, by decide +kernel⟩
theorem ok_clump_at (D : Df K mg "clump_at" (top 29) ["clump", "moment"]) (T : Tx K mg CK C) (F_place_at : Fn P w K mg base 3 "place_at" ["body", "moment"] (sp_place_at K)) (F_going_of : Fn P w K mg base 1 "going_of" ["clump"] (sp_going_of K)) : Fn P w K mg base 4 "clump_at" ["clump", "moment"] (sp_clump_at K) := by
  refine D.ok0 sc_clump_at (fun vs H Q E h => ?_) (fun f cdv A outer s H vs Q E hr h => ?_)
  · obtain ⟨v, c, u, t, rfl, _⟩ := h
    rfl
  obtain ⟨v, c, u, t, rfl, q, gt, dt, fin⟩ := h
  refine ⟨_, (pss_one (ps_ret (pe_op (op_catAK (K := K) rfl) (pe_op (op_catAK (K := K) rfl) (pe_slice (sl_tupK (K := K) rfl) (pv 0) po_none (po_some pe_int)) (pe_tup (pa_cons (pe_fn F_place_at (by decide) hr (by rfl) passE0 (pa_cons (pe_fn F_going_of (by decide) hr (by rfl) passE0 (pa_cons (pv 0) pa_nil)) (pa_cons (pv 1) pa_nil))) pa_nil))) (pe_slice (sl_tupK (K := K) rfl) (pv 0) (po_some pe_int) po_none)))), ?_⟩
  obtain ⟨p, a, b, rfl, h1, h2, h3, d1, d2, w1, w2⟩ := id q
  refine ⟨_, rfl, _, rfl, p, _, rfl, h1, cut_lt (n := 5) (by decide) (by decide), ?_⟩
  intro p2 n2
  obtain ⟨H2, q2, s2, e2⟩ := newO n2 (.tup (cutV [.int (c.1 : Int), .int (c.2.1 : Int), .ref a, .ref b, .int c.2.2.2.2] none (some 2)))
  rw [q2]
  clear q2
  refine ⟨_, rfl, _, 480, c, rfl, q.same s2, fun r3 H3 s3 q3 => ?_⟩
  obtain ⟨b3, ba, bc, e3, u1, u2, u3, u4, u5, u6, u7⟩ := q3
  cases e3
  refine ⟨_, rfl, r3, ba, bc, _, _, _, u, t, rfl, u1, u2, u3, u4.mono (by decide), u5.mono (by decide), u6, u7, Kw.Same.tup (s2.trans s3) gt, dt, fun r4 H4 s4 g4 => ?_⟩
  refine ⟨by show 1 ≤ sizeLine; decide, ?_⟩
  intro p5 n5
  obtain ⟨H5, q5, s5, e5⟩ := newO n5 (.tup [.ref r4])
  rw [q5]
  clear q5
  have s25 := s3.trans (s4.trans s5)
  refine ⟨p2, p5, [.int (c.1 : Int), .int (c.2.1 : Int)], [.ref r4], rfl, rfl, SqT.of (s25 _ _ e2), SqT.of e5, by show 3 ≤ sizeLine; decide, (fun z => by cases z), (fun _ z => by cases z), fun _ _ => ?_⟩
  intro p6 n6
  obtain ⟨H6, q6, s6, e6⟩ := newO n6 (.tup ([.int (c.1 : Int), .int (c.2.1 : Int)] ++ [.ref r4]))
  rw [q6]
  clear q6
  have s06 := s2.trans (s25.trans s6)
  refine ⟨_, rfl, _, rfl, p, _, rfl, Kw.Same.tup s06 h1, cut_gt (n := 5) (by decide) (by decide), ?_⟩
  intro p7 n7
  obtain ⟨H7, q7, s7, e7⟩ := newO n7 (.tup (cutV [.int (c.1 : Int), .int (c.2.1 : Int), .ref a, .ref b, .int c.2.2.2.2] (some 3) none))
  rw [q7]
  clear q7
  refine ⟨p6, p7, [.int (c.1 : Int), .int (c.2.1 : Int), .ref r4], [.ref b, .int c.2.2.2.2], rfl, rfl, SqT.of (s7 _ _ e6), SqT.of e7, by show 5 ≤ sizeLine; decide, (fun z => by cases z), (fun _ z => by cases z), fun _ _ => ?_⟩
  intro p8 n8
  obtain ⟨H8, q8, s8, e8⟩ := newO n8 (.tup ([.int (c.1 : Int), .int (c.2.1 : Int), .ref r4] ++ [.ref b, .int c.2.2.2.2]))
  rw [q8]
  clear q8
  have s48 := s5.trans (s6.trans (s7.trans s8))
  exact fin p8 H8 (s06.trans (s7.trans s8)) ⟨p8, r4, b, rfl, SqT.of e8, Kw.Same.tup s48 g4, Kw.Same.tup (s06.trans (s7.trans s8)) h3, (FB.add u4 (FB.mul u5 dt)).mono (by decide), d2.mono (by decide), w1, w2⟩
noncomputable def spX_clumps_at (K : PySem.W.Frag) (C : Nat → Addr) : Sp := fun vs H Q E => ∃ (p : Addr) (xs : List V) (bs : List Bod) (u : Addr) (t : Rat), vs = [.ref p, .ref u] ∧ H p = some (.lst xs) ∧ Al2 (BdQ K H 480) xs bs ∧ 1 ≤ bs.length ∧ WdB bs ∧ FQ K H u t ∧ FB 1990 t ∧ (0 ≤ t → ∀ (r : Addr) (zs : List V) (H1 : Hp), Same H H1 → H r = none → H1 r = some (.lst zs) → Al2 (ClQ K H1 2990) zs ((numB 0 (stAt bs t)).map (clT t)) → Q (.ref r) H1) ∧ (¬ 0 ≤ t → ∀ H1, Same H H1 → E (.ref (C 0)) none H1)
theorem sc_clumps_at : FnScope ["world", "moment", "sticking"] ["world", "moment"] (defScope (top 30)) := ⟨rfl, rfl, rfl, by decide +kernel, rfl, by decide +kernel, by decide +kernel⟩
theorem ok_clumps_at (D : Df K mg "clumps_at" (top 30) ["world", "moment"]) (T : Tx K mg CK C) (F_refuse_below_nought : Fn P w K mg base 2 "refuse_below_nought" ["moment"] (spX_below K C)) (F_Sticking___init__ : FnM P w K mg base 7 (C 1) "__init__" ["self", "world"] (spC_init K (C 1))) (F_Sticking_comes_by : FnM P w K mg base 2 (C 1) "comes_by" ["self", "moment"] (spC_comes_by K (C 1))) (F_Sticking_stick : FnM P w K mg base 7 (C 1) "stick" ["self"] (spC_stick K (C 1))) (F_clump_at : Fn P w K mg base 4 "clump_at" ["clump", "moment"] (sp_clump_at K)) : Fn P w K mg base 9 "clumps_at" ["world", "moment"] (spX_clumps_at K C) := by
  refine D.okX sc_clumps_at (fun vs H Q E h => ?_) (fun f cdv A outer s H vs Q E hr h => ?_)
  · obtain ⟨p, xs, bs, u, t, rfl, _⟩ := h
    rfl
  obtain ⟨p, xs, bs, u, t, rfl, hp, al, l1, wd, gt, dt, fin, kx⟩ := h
  refine ⟨_, (pss_cons (ps_expr (pe_fn F_refuse_below_nought (by decide) hr (by rfl) (passL plain_cxOf leaves_cxOf) (pa_cons (pv 1) pa_nil)))
      (pss_cons (ps_set (i := 2) sc_clumps_at.nd rfl (Or.inl rfl) (pe_mko T.mk_Sticking T.kp_Sticking F_Sticking___init__ (by decide) hr (by rfl) T.c_Sticking (passL plain_cxOf leaves_cxOf) (pa_cons (pv 0) pa_nil)))
      (pss_cons (ps_while PassesOwn.leaving (pt_val (pe_mt T.cl_Sticking F_Sticking_comes_by (by decide) hr (passL plain_cxOf leaves_cxOf) (pv 2) (pa_cons (pv 1) pa_nil)) (fun _ => rfl)) (pss_one (ps_expr (pe_mt0 T.cl_Sticking F_Sticking_stick (by decide) hr (passL plain_cxOf leaves_cxOf) (pv 2)))))
      (pss_one (ps_ret (@pe_lc _ _ _ _ _ _ _ _ _ _ ["moment"] [1] rfl (pi_list (pe_fldC T.cl_Sticking T.n_Sticking_clumps (pv 2))) rfl (by decide) rfl (by decide) rfl (by decide) (cap_one (j := 1) rfl rfl rfl rfl (.inl rfl)) (fun y c h => h) (cap_fr rfl) (fun C z Hc fp => (pe_fn F_clump_at (by decide) hr (by rfl) passE0 (pa_cons (pv 0) (pa_cons (pv 1) pa_nil)))) (fun _ => rfl))))))), ?_⟩
  refine ⟨_, rfl, u, t, rfl, gt, dt.mono (by decide), fun t0 H0 s0 => ?_, fun t0 H0 s0 => kx t0 H0 s0⟩
  refine ⟨_, rfl, ?_⟩
  intro x dx nx ndx nex
  obtain ⟨H1, q1⟩ : ∃ H1, upd (upd H0 dx (.own x)) x (.ins (C 1) dx []) = H1 := ⟨_, rfl⟩
  have s1 : Same H0 H1 := by
    rw [← q1]
    intro a o ha
    rw [upd_ne (ne_of_none ha nx), upd_ne (ne_of_none ha ndx)]
    exact ha
  have e1 : H1 x = some (.ins (C 1) dx []) := by rw [← q1]; exact upd_same
  dsimp only
  rw [q1]
  clear q1
  have nx0 : H x = none := none_of_sm s0 nx
  have s01 := s0.trans s1
  refine ⟨x, dx, p, xs, bs, rfl, e1, s01 _ _ hp, bds_same al s01, l1, wd, fun k H2 s2 nk sk => ⟨rfl, ?_⟩⟩
  have nk0 : H k = none := none_of_sm s01 nk
  have S02 : Same H H2 := fun a o ha => s2 a o (ne_of_none ha nx0) (s01 a o ha)
  refine ⟨fun m σ' H' => ∃ (ss : List (List Bod)), σ' = [some (.ref p), some (.ref u), some (.ref x)] ∧ Same H H' ∧ SkAt K H' (C 1) x bs ss k ∧ 1 ≤ ss.length ∧ atS ss.length t ss = stAt bs t ∧ m = ss.length, ⟨_, oneS bs, rfl, S02, sk, (by unfold oneS; rw [List.length_map]; exact l1), rfl, rfl⟩, ?_⟩
  rintro m σ' H4 ⟨ss, rfl, s4, sk4, ls, ea, rfl⟩
  obtain ⟨dx4, c4, j4, co4, xs4, kv4, ys4, a1, a2, a3, a4, a5, a6, a7, a8, a9, wd4, st4⟩ := id sk4
  refine ⟨_, rfl, x, _, _, rfl, a1, rfl, _, rfl, x, bs, ss, k, u, t, rfl, sk4, Kw.Same.tup s4 gt, dt, fun H5 s5 => ⟨_, rfl, ?_⟩⟩
  have sk5 := sk4.same s5
  have s05 := s4.trans s5
  have dec : (∃ T0, comS ss = some T0 ∧ T0 ≤ t ∧ comesQ ss t = true) ∨ (comesQ ss t = false ∧ atS ss.length t ss = ss) := by
    have cq : comesQ ss t = match comS ss with | none => false | some T => decide (T ≤ t) := rfl
    cases ct : comS ss with
    | none => exact .inr ⟨by rw [cq, ct], at_none ct⟩
    | some T0 =>
      by_cases c : T0 ≤ t
      · exact .inl ⟨T0, rfl, c, by rw [cq, ct]; exact decide_eq_true c⟩
      · exact .inr ⟨by rw [cq, ct]; exact decide_eq_false c, at_not ct c⟩
  rcases dec with ⟨T0, ct, c, e0⟩ | ⟨e0, es⟩
  · rw [e0]
    refine iteT ?_
    refine ⟨_, fun _ _ n => n, ?_⟩
    obtain ⟨dx5, c5, j5, co5, xs5, kv5, ys5, b1, b2, b3, b4, b5, b6, b7, b8, b9, wd5, st5⟩ := id sk5
    refine ⟨_, rfl, x, _, _, rfl, b1, rfl, x, bs, ss, k, T0, rfl, sk5, ls, ct, fun r6 z6 H6 s6 n6 e6 am6 sk6 _ => ?_⟩
    refine ⟨_, step_less ct, stepS ss, rfl, fun a o ha => s6 _ _ (by simp only [List.mem_cons, List.not_mem_nil, or_false, not_or]; exact ⟨ne_of_none ha nx0, ne_of_none ha nk0⟩) (s05 _ _ ha), sk6, step_ne ls, ?_, rfl⟩
    rw [← at_some ct c]
    exact ea
  · rw [e0]
    refine iteF ?_
    rw [ea] at es
    obtain ⟨dx5, c5, j5, co5, xs5, kv5, ys5, b1, b2, b3, b4, b5, b6, b7, b8, b9, wd5, st5⟩ := id sk5
    have lx := Al2.len b3
    rw [numB_len] at lx
    have sl := st4.len
    have w12 := wd.l12
    refine ⟨_, rfl, x, _, _, _, rfl, b1, rfl, c5, rfl, ⟨_, SqL.of b2⟩, lc_list (K := K) (xs := xs5) (fun i zs H' => i ≤ xs5.length ∧ Same H5 H' ∧ Al2 (ClQ K H' 2990) zs (((numB 0 ss).take i).map (clT t))) ⟨Nat.zero_le _, Same.refl _, trivial⟩ (Nat.le_trans (show xs5.length ≤ 12 by omega) (by decide)) (fun i zs H1 z => by obtain ⟨l, _, e⟩ := z; have := Al2.len e; rw [List.length_map, List.length_take, numB_len] at this; omega) (fun i zs H1 z => by obtain ⟨_, g, _⟩ := z; exact SqL.of (g _ _ b2)) ?_ ?_⟩
    · rintro i y zs H6 Q6 hy ⟨hl, s6, hz6⟩ kq
      have hi : i < xs5.length := (List.getElem?_eq_some_iff.mp hy).1
      obtain ⟨cc, hcc, qc⟩ := Al2.get (cls_same b3 s6) hy
      refine ⟨_, rfl, _, rfl, y, cc, u, t, rfl, qc, Kw.Same.tup (s05.trans s6) gt, dt, fun r7 H7 s7 q7 => ?_⟩
      refine kq _ _ ⟨hi, s6.trans s7, ?_⟩
      rw [take_snoc hcc, List.map_append]
      exact Al2.snoc (cls_same hz6 s7) q7
    · rintro zs H6 ⟨_, s6, hz6⟩ pl hpl
      have en : (numB 0 ss).take xs5.length = numB 0 ss := List.take_of_length_le (by rw [numB_len]; omega)
      rw [en] at hz6
      obtain ⟨H7, q7, s7, e7⟩ := newO hpl (.lst zs)
      rw [q7]
      clear q7
      rw [← es] at hz6
      exact fin t0 pl zs H7 (s05.trans (s6.trans s7)) (none_of_sm (s05.trans s6) hpl) e7 (cls_same hz6 s7)
theorem sc_law_cell : FnScope ["_law_script", "_law_k"] ["_law_script", "_law_k"] (defScope (top 32)) := ⟨rfl, rfl, rfl, by decide +kernel, rfl, by decide +kernel, by decide +kernel⟩
theorem ok_law_cell (D : Df K mg "_law_cell" (top 32) ["_law_script", "_law_k"]) (T : Tx K mg CK C) : Fn P w K mg base 1 "_law_cell" ["_law_script", "_law_k"] (spCell K) := by
  refine D.ok0 sc_law_cell (fun vs H Q E h => ?_) (fun f cdv A outer s H vs Q E hr h => ?_)
  · obtain ⟨a, k, rfl, _⟩ := h
    rfl
  obtain ⟨a, k, rfl, ⟨ns, hS, h63, hbd⟩, k0, k1, q⟩ := h
  refine ⟨_, (pss_cons (ps_if (pt_cmpR op_lt (pv 1) (pe_callB call_len (by rfl) T.b_len PyProof.Rows.Boot.«len» (pa_cons (pv 0) pa_nil)) (nomark _)) (pss_one (ps_ret (pe_ix ix_list (pv 0) (pv 1) (fun _ _ => rfl)))) pss_nil)
      (pss_one (ps_ret (pe_op op_add (pe_op op_mulB pe_int (pv 1)) pe_int)))), ?_⟩
  refine ⟨_, rfl, _, rfl, _, _, rfl, .inl ⟨_, hS, rfl⟩, _, _, rfl, rfl, _, rfl, ?_⟩
  refine if_dec (fun c => ?_) (fun c => ?_)
  · rw [List.length_map] at c
    have hk : k.toNat < ns.length := by omega
    have ek : k = ((k.toNat : Nat) : Int) := by omega
    have z : atI (ns.map V.int) ((k.toNat : Nat) : Int) = some (.int ns[k.toNat]) := atI_nat (by rw [List.getElem?_map, List.getElem?_eq_getElem hk] <;> rfl)
    rw [← ek] at z
    exact ⟨_, rfl, _, rfl, a, _, _, _, rfl, rfl, hS, z, q _ (hbd _ (List.getElem_mem hk))⟩
  · refine ⟨_, rfl, _, _, rfl, rfl, mulOk_smallL (by decide) (by decide), _, _, rfl, rfl, q _ ?_⟩
    exact (Bd.small (by omega) (by omega)).mono (by decide)
theorem sc_law_mix : FnScope ["_law_cell_here", "_law_k", "_law_number"] ["_law_cell_here", "_law_k"] (defScope (top 33)) := ⟨rfl, rfl, rfl, by decide +kernel, rfl, by decide +kernel, by decide +kernel⟩
theorem ok_law_mix (D : Df K mg "_law_mix" (top 33) ["_law_cell_here", "_law_k"]) (T : Tx K mg CK C) : Fn P w K mg base 1 "_law_mix" ["_law_cell_here", "_law_k"] spMix := by
  refine D.ok0 sc_law_mix (fun vs H Q E h => ?_) (fun f cdv A outer s H vs Q E hr h => ?_)
  · obtain ⟨c, k, rfl, _⟩ := h
    rfl
  obtain ⟨c, k, rfl, hc, k0, k1, q⟩ := h
  refine ⟨_, (pss_cons (ps_set (i := 2) sc_law_mix.nd rfl (Or.inl rfl) (pe_op op_add (pe_op op_mulB (pe_op op_add (pv 0) pe_int) pe_int) (pe_op op_mulB pe_int (pv 1))))
      (pss_cons (ps_set (i := 2) sc_law_mix.nd rfl (Or.inl rfl) (pe_op op_add (pe_op op_mod (pe_op op_mulB (pv 2) (pv 2)) pe_int) (pv 1)))
      (pss_one (ps_ret (pe_op op_mod (pe_op op_mulB (pv 2) (pe_op op_add (pv 2) pe_int)) pe_int))))), ?_⟩
  have s1 : ∀ i : Int, -(2 ^ 64) < i → i < 2 ^ 64 → Bd 1048576 i := fun i h1 h2 => (Bd.small h1 h2).mono (by decide)
  have b1 : Bd 1048641 ((c + 1) * 40692) := ((hc.add (s1 1 (by decide) (by decide))).mul (Bd.small (i := 40692) (by decide) (by decide))).mono (by decide)
  have b2 : Bd 1048642 ((c + 1) * 40692 + 104729 * k) := (b1.add ((Bd.small (by omega) (by omega)).mono (by decide))).mono (by decide)
  refine ⟨_, rfl, _, _, rfl, rfl, _, _, rfl, rfl, mulOk_small (by decide) (by decide), _, rfl, _, _, rfl, rfl, mulOk_smallL (by decide) (by decide), _, _, rfl, rfl, ?_⟩
  refine ⟨_, rfl, _, rfl, _, _, rfl, rfl, b2.ok b2 (by decide), _, _, rfl, rfl, (by show (0 : Int) < 2147483399; decide), _, rfl, _, _, rfl, rfl, ?_⟩
  have e0 := Int.emod_nonneg (((c + 1) * 40692 + 104729 * k) * ((c + 1) * 40692 + 104729 * k)) (show (2147483399 : Int) ≠ 0 by decide)
  have e1 := Int.emod_lt_of_pos (((c + 1) * 40692 + 104729 * k) * ((c + 1) * 40692 + 104729 * k)) (show (0 : Int) < 2147483399 by decide)
  exact ⟨_, rfl, _, rfl, _, _, rfl, rfl, _, _, rfl, rfl, mulOk_smallL (by omega) (by omega), _, _, rfl, rfl, (by show (0 : Int) < 2147483563; decide), q _⟩
theorem sc_law_box : FnScope ["_law_script", "_law_k", "_law_here", "_law_number", "_law_j"] ["_law_script", "_law_k"] (defScope (top 34)) := ⟨rfl, rfl, rfl, by decide +kernel, rfl, by decide +kernel, by decide +kernel⟩
theorem ok_law_box (D : Df K mg "_law_box" (top 34) ["_law_script", "_law_k"]) (T : Tx K mg CK C) (F_law_cell : Fn P w K mg base 1 "_law_cell" ["_law_script", "_law_k"] (spCell K)) (F_law_mix : Fn P w K mg base 1 "_law_mix" ["_law_cell_here", "_law_k"] spMix) :
    Fn P w K mg base 2 "_law_box" ["_law_script", "_law_k"] (spBox K) := by
  refine D.ok0 sc_law_box (fun vs H Q E h => ?_) (fun f cdv A outer s H vs Q E hr h => ?_)
  · obtain ⟨a, k, rfl, _⟩ := h
    rfl
  obtain ⟨a, k, rfl, hS, k0, k1, q⟩ := h
  refine ⟨_, (pss_cons (ps_set (i := 2) sc_law_box.nd rfl (Or.inl rfl) (pe_fn F_law_cell (by decide) hr (by rfl) passE0 (pa_cons (pv 0) (pa_cons (pv 1) pa_nil))))
      (pss_cons (ps_if (pt_cmpR op_eq (pe_op op_mod (pv 2) pe_int) pe_int (nomark _)) (pss_one (ps_ret (pe_lst (pa_cons (pe_op op_fdivB (pv 2) pe_int) pa_nil)))) pss_nil)
      (pss_cons (ps_set (i := 3) sc_law_box.nd rfl (Or.inl rfl) pe_int)
      (pss_cons (ps_for PassesOwn.never rfl (pi_range1 (by rfl) T.b_range (pa_cons pe_int pa_nil)) (pg_name (i := 4) sc_law_box.nd rfl (Or.inl rfl)) (pss_one (ps_set (i := 3) sc_law_box.nd rfl (Or.inl rfl) (pe_op op_add (pe_op op_mulB (pv 3) pe_int) (pe_fn F_law_mix (by decide) hr (by rfl) passE0 (pa_cons (pv 2) (pa_cons (pv 4) pa_nil)))))))
      (pss_one (ps_ret (pe_lst (pa_cons (pv 3) pa_nil)))))))), ?_⟩
  refine ⟨_, rfl, _, rfl, a, k, rfl, hS, k0, k1, fun c hc => ?_⟩
  refine ⟨_, rfl, _, _, rfl, rfl, (by show (0 : Int) < 2; decide), rfl, _, rfl, ?_⟩
  refine if_decI (fun z => ?_) (fun z => ?_)
  · refine ⟨_, rfl, _, _, rfl, rfl, ⟨by decide, by decide +kernel⟩, (by show 1 ≤ sizeLine; decide), fun p hp => ?_⟩
    exact q p _ _ hp (same_new hp _) upd_same
  refine ⟨_, rfl, by decide, by decide, for_range (n := 16) (fun i σ' H' => ∃ (n : Int) (r : Option V), σ' = [some (.ref a), some (.int k), some (.int c), some (.int n), r] ∧ H' = H) ⟨_, _, rfl, rfl⟩ ?_ ?_⟩
  · rintro i σ' H' hi ⟨n, r, rfl, rfl⟩
    refine ⟨_, rfl, _, _, rfl, rfl, mulOk_small (by decide) (by decide), _, rfl, _, rfl, c, _, rfl, hc, by omega, by omega, fun m => ?_⟩
    exact ⟨_, _, rfl, rfl, _, _, rfl, rfl⟩
  · rintro σ' H' ⟨n, r, rfl, rfl⟩
    refine ⟨_, rfl, (by show 1 ≤ sizeLine; decide), fun p hp => ?_⟩
    exact q p _ _ hp (same_new hp _) upd_same
theorem sc_law_take : FnScope ["_law_box_here", "_law_many", "_law_left", "_law_digit"] ["_law_box_here", "_law_many"] (defScope (top 35)) := ⟨rfl, rfl, rfl, by decide +kernel, rfl, by decide +kernel, by decide +kernel⟩
theorem ok_law_take (D : Df K mg "_law_take" (top 35) ["_law_box_here", "_law_many"]) (T : Tx K mg CK C) : Fn P w K mg base 1 "_law_take" ["_law_box_here", "_law_many"] spTake := by
  refine D.ok0 sc_law_take (fun vs H Q E h => ?_) (fun f cdv A outer s H vs Q E hr h => ?_)
  · obtain ⟨b, m, n, rfl, _⟩ := h
    rfl
  obtain ⟨b, m, n, rfl, hb, m0, hm, q⟩ := h
  refine ⟨_, (pss_cons (ps_asg (pe_callB call_divmodB (by rfl) T.b_divmod PyProof.Rows.Boot.«divmod» (pa_cons (pe_ix ix_list (pv 0) pe_int (fun _ _ => rfl)) (pa_cons (pv 1) pa_nil))) (pg_tup rfl (pgs_cons (pg_name (i := 2) sc_law_take.nd rfl (Or.inl rfl)) (pgs_cons (pg_name (i := 3) sc_law_take.nd rfl (Or.inl rfl)) pgs_nil))))
      (pss_cons (ps_asg (pv 2) (pg_sub (pv 0) pe_int set_list))
      (pss_one (ps_ret (pv 3))))), ?_⟩
  refine ⟨_, rfl, b, _, _, _, rfl, rfl, SqL.of hb, rfl, _, rfl, n, m, rfl, ⟨m0, hm.log⟩, ?_⟩
  intro p hp0
  have sm := same_new hp0 (.tup [.int (n / m), .int (n % m)])
  have hp : upd H p (.tup [.int (n / m), .int (n % m)]) p = some (.tup [.int (n / m), .int (n % m)]) := upd_same
  refine ⟨p, _, rfl, SqT.of hp, rfl, _, _, rfl, _, _, rfl, rfl, ?_⟩
  refine ⟨_, rfl, _, rfl, b, _, _, 0, rfl, rfl, sm _ _ hb, rfl, _, rfl, ?_⟩
  have d0 := Int.emod_nonneg n (show m ≠ 0 by omega)
  have d1 := Int.emod_lt_of_pos n m0
  exact q (n % m) (n / m) _ d0 d1 ((But.of sm).trans (but_upd _)) upd_same
theorem sc_law_fit : FnScope ["_law_top", "_law_bottom", "_law_one", "_law_other"] ["_law_top", "_law_bottom"] (defScope (top 36)) := ⟨rfl, rfl, rfl, by decide +kernel, rfl, by decide +kernel, by decide +kernel⟩
theorem ok_law_fit0 (D : Df K mg "_law_fit" (top 36) ["_law_top", "_law_bottom"]) (T : Tx K mg CK C) : Fn P w K mg base 1 "_law_fit" ["_law_top", "_law_bottom"] spFit := by
  refine D.ok0 sc_law_fit (fun vs H Q E h => ?_) (fun f cdv A outer s H vs Q E hr h => ?_)
  · obtain ⟨a, b, rfl, _⟩ := h
    rfl
  obtain ⟨a, b, rfl, c, hb, hq⟩ := h
  refine ⟨_, (pss_cons (ps_par (i := 2) (j := 3) rfl sc_law_fit.nd rfl rfl (by decide) rfl rfl (pa_cons (pe_callB call_abs (by rfl) T.b_abs PyProof.Rows.Boot.«abs» (pa_cons (pv 0) pa_nil)) (pa_cons (pe_callB call_abs (by rfl) T.b_abs PyProof.Rows.Boot.«abs» (pa_cons (pv 1) pa_nil)) pa_nil)) rfl)
      (pss_cons (ps_while PassesOwn.never (pt_cmpR op_gt (pv 3) pe_int (nomark _)) (pss_one (ps_par (i := 2) (j := 3) rfl sc_law_fit.nd rfl rfl (by decide) rfl rfl (pa_cons (pv 3) (pa_cons (pe_op op_mod (pv 2) (pv 3)) pa_nil)) rfl)))
      (pss_cons (ps_if (pt_cmpR op_lt (pv 1) pe_int (nomark _)) (pss_one (ps_set (i := 2) sc_law_fit.nd rfl (Or.inl rfl) (pe_op op_sub pe_int (pv 2)))) pss_nil)
      (pss_one (ps_ret (pe_tup (pa_cons (pe_op op_fdivB (pv 0) (pv 2)) (pa_cons (pe_op op_fdivB (pv 1) (pv 2)) pa_nil)))))))), ?_⟩
  refine ⟨_, rfl, _, rfl, _, rfl, _, rfl, _, _, rfl, ?_⟩
  refine ⟨fun m σ' H' => ∃ g s : Int, σ' = [some (.int a), some (.int b), some (.int g), some (.int s)] ∧ H' = H ∧ 0 ≤ g ∧ 0 ≤ s ∧ m = s.toNat ∧ Int.gcd g s = Int.gcd a b, ⟨_, _, _, rfl, rfl, abs_nn a, abs_nn b, rfl, gcd_abs a b⟩, ?_⟩
  rintro m σ' H' ⟨g, s, rfl, rfl, hg, hs, rfl, e⟩
  refine ⟨_, rfl, _, _, rfl, rfl, _, rfl, ?_⟩
  refine if_dec (fun c => ?_) (fun z => ?_)
  · refine ⟨_, fun _ _ n => n, ?_⟩
    refine ⟨_, rfl, _, rfl, _, rfl, _, _, rfl, rfl, c, _, _, rfl, ?_⟩
    have l := Int.emod_lt_of_pos g c
    have l0 := Int.emod_nonneg g (show s ≠ 0 by omega)
    exact ⟨_, by omega, s, g % s, rfl, rfl, by omega, l0, rfl, (gcd_step g s hg c).trans e⟩
  · have s0 : s = 0 := by omega
    subst s0
    have z := gcd_end g hg
    rw [e] at z
    subst z
    have hd : (if b < 0 then -((Int.gcd a b : Nat) : Int) else ((Int.gcd a b : Nat) : Int)) = dv a b := rfl
    have lg := (bd_dv (t := a) c hb).log
    refine ⟨_, rfl, _, _, rfl, rfl, _, rfl, ?_⟩
    refine if_dec (fun n => ?_) (fun n => ?_)
    · rw [if_pos n] at hd
      refine ⟨_, rfl, _, _, rfl, rfl, ?_⟩
      dsimp only
      rw [show (0 : Int) - ((Int.gcd a b : Nat) : Int) = dv a b by rw [← hd]; omega]
      refine ⟨_, rfl, _, rfl, _, _, rfl, rfl, ⟨dv_ne c, lg⟩, _, rfl, _, rfl, _, _, rfl, rfl, ⟨dv_ne c, lg⟩, by show 2 ≤ sizeLine; decide, ?_⟩
      exact rd_new fun p H' sm hp => hq p H' sm hp
    · rw [if_neg n] at hd
      rw [hd]
      refine ⟨_, rfl, _, rfl, _, _, rfl, rfl, ⟨dv_ne c, lg⟩, _, rfl, _, rfl, _, _, rfl, rfl, ⟨dv_ne c, lg⟩, by show 2 ≤ sizeLine; decide, ?_⟩
      exact rd_new fun p H' sm hp => hq p H' sm hp
noncomputable def sp_law_fit (K : PySem.W.Frag) : Sp := fun vs H Q _ => ∃ (a : Int) (b : Int), vs = [.int a, .int b] ∧ Bd 9000 b ∧ b ≠ 0 ∧ (∀ (p_r : Addr) (H1 : Hp), Same H H1 → FQ K H1 p_r (Rat.divInt a b) → Q (.ref p_r) H1)
theorem ok_law_fit (D : Df K mg "_law_fit" (top 36) ["_law_top", "_law_bottom"]) (T : Tx K mg CK C) : Fn P w K mg base 1 "_law_fit" ["_law_top", "_law_bottom"] (sp_law_fit K) :=
  (ok_law_fit0 D T).imp fun vs H Q E h => by
    obtain ⟨a, b, rfl, hb, b0, k⟩ := h
    exact ⟨a, b, rfl, b0, hb, fun p H' s e => k p H' s (FQ.fit b0 (SqT.of e))⟩
noncomputable def sp_law_plus (K : PySem.W.Frag) : Sp := fun vs H Q _ => ∃ (p_x : Addr) (x : Rat) (n_x : Nat) (p_y : Addr) (y : Rat) (n_y : Nat), vs = [.ref p_x, .ref p_y] ∧ FQ K H p_x x ∧ FB n_x x ∧ FQ K H p_y y ∧ FB n_y y ∧ n_x + n_y ≤ 8950 ∧ (∀ (p_r : Addr) (H1 : Hp), Same H H1 → FQ K H1 p_r (x + y) → Q (.ref p_r) H1)
theorem sc_law_plus : FnScope ["_law_one", "_law_other"] ["_law_one", "_law_other"] (defScope (top 37)) := ⟨rfl, rfl, rfl, by decide +kernel, rfl, by decide +kernel, by decide +kernel⟩
theorem ok_law_plus (D : Df K mg "_law_plus" (top 37) ["_law_one", "_law_other"]) (T : Tx K mg CK C) (F_law_fit : Fn P w K mg base 1 "_law_fit" ["_law_top", "_law_bottom"] (sp_law_fit K)) : Fn P w K mg base 2 "_law_plus" ["_law_one", "_law_other"] (sp_law_plus K) := by
  refine D.ok0 sc_law_plus (fun vs H Q E h => ?_) (fun f cdv A outer s H vs Q E hr h => ?_)
  · obtain ⟨p, x, n, q, y, m, rfl, _⟩ := h
    rfl
  obtain ⟨p, x, n, q, y, m, rfl, hp, dx, hq, dy, hn, k⟩ := h
  refine ⟨_, (pss_one (ps_ret (pe_fn F_law_fit (by decide) hr (by rfl) passE0 (pa_cons (pe_op op_add (pe_op op_mulB (pe_ix ix_tup (pv 0) pe_int (fun _ _ => rfl)) (pe_ix ix_tup (pv 1) pe_int (fun _ _ => rfl))) (pe_op op_mulB (pe_ix ix_tup (pv 1) pe_int (fun _ _ => rfl)) (pe_ix ix_tup (pv 0) pe_int (fun _ _ => rfl)))) (pa_cons (pe_op op_mulB (pe_ix ix_tup (pv 0) pe_int (fun _ _ => rfl)) (pe_ix ix_tup (pv 1) pe_int (fun _ _ => rfl))) pa_nil))))), ?_⟩
  refine ⟨_, rfl, p, _, _, _, rfl, rfl, hp, rfl, _, rfl, q, _, _, _, rfl, rfl, hq, rfl, _, _, rfl, rfl, dx.1.ok dy.2 (by omega), _, rfl, q, _, _, _, rfl, rfl, hq, rfl, _, rfl, p, _, _, _, rfl, rfl, hp, rfl, _, _, rfl, rfl, dy.1.ok dx.2 (by omega), _, _, rfl, rfl, _, rfl, p, _, _, _, rfl, rfl, hp, rfl, _, rfl, q, _, _, _, rfl, rfl, hq, rfl, _, _, rfl, rfl, dx.2.ok dy.2 (by omega), _, _, rfl, (dx.2.mul dy.2).mono (by omega), Int.mul_ne_zero (q_ne _) (q_ne _), fun r H1 s1 g1 => k r H1 s1 (FQ.cast g1 (q_add x y))⟩
noncomputable def sp_law_minus (K : PySem.W.Frag) : Sp := fun vs H Q _ => ∃ (p_x : Addr) (x : Rat) (n_x : Nat) (p_y : Addr) (y : Rat) (n_y : Nat), vs = [.ref p_x, .ref p_y] ∧ FQ K H p_x x ∧ FB n_x x ∧ FQ K H p_y y ∧ FB n_y y ∧ n_x + n_y ≤ 8950 ∧ (∀ (p_r : Addr) (H1 : Hp), Same H H1 → FQ K H1 p_r (x - y) → Q (.ref p_r) H1)
theorem sc_law_minus : FnScope ["_law_one", "_law_other"] ["_law_one", "_law_other"] (defScope (top 38)) := ⟨rfl, rfl, rfl, by decide +kernel, rfl, by decide +kernel, by decide +kernel⟩
theorem ok_law_minus (D : Df K mg "_law_minus" (top 38) ["_law_one", "_law_other"]) (T : Tx K mg CK C) (F_law_fit : Fn P w K mg base 1 "_law_fit" ["_law_top", "_law_bottom"] (sp_law_fit K)) : Fn P w K mg base 2 "_law_minus" ["_law_one", "_law_other"] (sp_law_minus K) := by
  refine D.ok0 sc_law_minus (fun vs H Q E h => ?_) (fun f cdv A outer s H vs Q E hr h => ?_)
  · obtain ⟨p, x, n, q, y, m, rfl, _⟩ := h
    rfl
  obtain ⟨p, x, n, q, y, m, rfl, hp, dx, hq, dy, hn, k⟩ := h
  refine ⟨_, (pss_one (ps_ret (pe_fn F_law_fit (by decide) hr (by rfl) passE0 (pa_cons (pe_op op_sub (pe_op op_mulB (pe_ix ix_tup (pv 0) pe_int (fun _ _ => rfl)) (pe_ix ix_tup (pv 1) pe_int (fun _ _ => rfl))) (pe_op op_mulB (pe_ix ix_tup (pv 1) pe_int (fun _ _ => rfl)) (pe_ix ix_tup (pv 0) pe_int (fun _ _ => rfl)))) (pa_cons (pe_op op_mulB (pe_ix ix_tup (pv 0) pe_int (fun _ _ => rfl)) (pe_ix ix_tup (pv 1) pe_int (fun _ _ => rfl))) pa_nil))))), ?_⟩
  refine ⟨_, rfl, p, _, _, _, rfl, rfl, hp, rfl, _, rfl, q, _, _, _, rfl, rfl, hq, rfl, _, _, rfl, rfl, dx.1.ok dy.2 (by omega), _, rfl, q, _, _, _, rfl, rfl, hq, rfl, _, rfl, p, _, _, _, rfl, rfl, hp, rfl, _, _, rfl, rfl, dy.1.ok dx.2 (by omega), _, _, rfl, rfl, _, rfl, p, _, _, _, rfl, rfl, hp, rfl, _, rfl, q, _, _, _, rfl, rfl, hq, rfl, _, _, rfl, rfl, dx.2.ok dy.2 (by omega), _, _, rfl, (dx.2.mul dy.2).mono (by omega), Int.mul_ne_zero (q_ne _) (q_ne _), fun r H1 s1 g1 => k r H1 s1 (FQ.cast g1 (q_sub x y))⟩
noncomputable def sp_law_times (K : PySem.W.Frag) : Sp := fun vs H Q _ => ∃ (p_x : Addr) (x : Rat) (n_x : Nat) (p_y : Addr) (y : Rat) (n_y : Nat), vs = [.ref p_x, .ref p_y] ∧ FQ K H p_x x ∧ FB n_x x ∧ FQ K H p_y y ∧ FB n_y y ∧ n_x + n_y ≤ 8950 ∧ (∀ (p_r : Addr) (H1 : Hp), Same H H1 → FQ K H1 p_r (x * y) → Q (.ref p_r) H1)
theorem sc_law_times : FnScope ["_law_one", "_law_other"] ["_law_one", "_law_other"] (defScope (top 39)) := ⟨rfl, rfl, rfl, by decide +kernel, rfl, by decide +kernel, by decide +kernel⟩
theorem ok_law_times (D : Df K mg "_law_times" (top 39) ["_law_one", "_law_other"]) (T : Tx K mg CK C) (F_law_fit : Fn P w K mg base 1 "_law_fit" ["_law_top", "_law_bottom"] (sp_law_fit K)) : Fn P w K mg base 2 "_law_times" ["_law_one", "_law_other"] (sp_law_times K) := by
  refine D.ok0 sc_law_times (fun vs H Q E h => ?_) (fun f cdv A outer s H vs Q E hr h => ?_)
  · obtain ⟨p, x, n, q, y, m, rfl, _⟩ := h
    rfl
  obtain ⟨p, x, n, q, y, m, rfl, hp, dx, hq, dy, hn, k⟩ := h
  refine ⟨_, (pss_one (ps_ret (pe_fn F_law_fit (by decide) hr (by rfl) passE0 (pa_cons (pe_op op_mulB (pe_ix ix_tup (pv 0) pe_int (fun _ _ => rfl)) (pe_ix ix_tup (pv 1) pe_int (fun _ _ => rfl))) (pa_cons (pe_op op_mulB (pe_ix ix_tup (pv 0) pe_int (fun _ _ => rfl)) (pe_ix ix_tup (pv 1) pe_int (fun _ _ => rfl))) pa_nil))))), ?_⟩
  refine ⟨_, rfl, p, _, _, _, rfl, rfl, hp, rfl, _, rfl, q, _, _, _, rfl, rfl, hq, rfl, _, _, rfl, rfl, dx.1.ok dy.1 (by omega), _, rfl, p, _, _, _, rfl, rfl, hp, rfl, _, rfl, q, _, _, _, rfl, rfl, hq, rfl, _, _, rfl, rfl, dx.2.ok dy.2 (by omega), _, _, rfl, (dx.2.mul dy.2).mono (by omega), Int.mul_ne_zero (q_ne _) (q_ne _), fun r H1 s1 g1 => k r H1 s1 (FQ.cast g1 (q_mul x y))⟩
noncomputable def sp_law_over (K : PySem.W.Frag) : Sp := fun vs H Q _ => ∃ (p_x : Addr) (x : Rat) (n_x : Nat) (p_y : Addr) (y : Rat) (n_y : Nat), vs = [.ref p_x, .ref p_y] ∧ FQ K H p_x x ∧ FB n_x x ∧ FQ K H p_y y ∧ FB n_y y ∧ n_x + n_y ≤ 8950 ∧ y ≠ 0 ∧ (∀ (p_r : Addr) (H1 : Hp), Same H H1 → FQ K H1 p_r (x / y) → Q (.ref p_r) H1)
theorem sc_law_over : FnScope ["_law_one", "_law_other"] ["_law_one", "_law_other"] (defScope (top 40)) := ⟨rfl, rfl, rfl, by decide +kernel, rfl, by decide +kernel, by decide +kernel⟩
theorem ok_law_over (D : Df K mg "_law_over" (top 40) ["_law_one", "_law_other"]) (T : Tx K mg CK C) (F_law_fit : Fn P w K mg base 1 "_law_fit" ["_law_top", "_law_bottom"] (sp_law_fit K)) : Fn P w K mg base 2 "_law_over" ["_law_one", "_law_other"] (sp_law_over K) := by
  refine D.ok0 sc_law_over (fun vs H Q E h => ?_) (fun f cdv A outer s H vs Q E hr h => ?_)
  · obtain ⟨p, x, n, q, y, m, rfl, _⟩ := h
    rfl
  obtain ⟨p, x, n, q, y, m, rfl, hp, dx, hq, dy, hn, y0, k⟩ := h
  refine ⟨_, (pss_one (ps_ret (pe_fn F_law_fit (by decide) hr (by rfl) passE0 (pa_cons (pe_op op_mulB (pe_ix ix_tup (pv 0) pe_int (fun _ _ => rfl)) (pe_ix ix_tup (pv 1) pe_int (fun _ _ => rfl))) (pa_cons (pe_op op_mulB (pe_ix ix_tup (pv 0) pe_int (fun _ _ => rfl)) (pe_ix ix_tup (pv 1) pe_int (fun _ _ => rfl))) pa_nil))))), ?_⟩
  refine ⟨_, rfl, p, _, _, _, rfl, rfl, hp, rfl, _, rfl, q, _, _, _, rfl, rfl, hq, rfl, _, _, rfl, rfl, dx.1.ok dy.2 (by omega), _, rfl, p, _, _, _, rfl, rfl, hp, rfl, _, rfl, q, _, _, _, rfl, rfl, hq, rfl, _, _, rfl, rfl, dx.2.ok dy.1 (by omega), _, _, rfl, (dx.2.mul dy.1).mono (by omega), Int.mul_ne_zero (q_ne _) (q_num_ne y0), fun r H1 s1 g1 => k r H1 s1 (FQ.cast g1 (q_div x y))⟩
noncomputable def sp_law_less (K : PySem.W.Frag) : Sp := fun vs H Q _ => ∃ (p_x : Addr) (x : Rat) (p_y : Addr) (y : Rat), vs = [.ref p_x, .ref p_y] ∧ FQ K H p_x x ∧ FB 60000 x ∧ FQ K H p_y y ∧ FB 60000 y ∧ (∀  (H1 : Hp), Same H H1 → Q (.bl (decide (x < y))) H1)
theorem sc_law_less : FnScope ["_law_one", "_law_other"] ["_law_one", "_law_other"] (defScope (top 41)) := ⟨rfl, rfl, rfl, by decide +kernel, rfl, by decide +kernel, by decide +kernel⟩
theorem ok_law_less (D : Df K mg "_law_less" (top 41) ["_law_one", "_law_other"]) (T : Tx K mg CK C) : Fn P w K mg base 1 "_law_less" ["_law_one", "_law_other"] (sp_law_less K) := by
  refine D.ok0 sc_law_less (fun vs H Q E h => ?_) (fun f cdv A outer s H vs Q E hr h => ?_)
  · obtain ⟨p_x, x, p_y, y, rfl, _⟩ := h
    rfl
  obtain ⟨p_x, x, p_y, y, rfl, g_x, d_x, g_y, d_y, k0⟩ := h
  refine ⟨_, (pss_one (ps_ret (pe_cmpR op_lt (pe_op op_mulB (pe_ix ix_tup (pv 0) pe_int (fun _ _ => rfl)) (pe_ix ix_tup (pv 1) pe_int (fun _ _ => rfl))) (pe_op op_mulB (pe_ix ix_tup (pv 1) pe_int (fun _ _ => rfl)) (pe_ix ix_tup (pv 0) pe_int (fun _ _ => rfl))) (nomark _)))), ?_⟩
  refine ⟨_, rfl, p_x, _, _, _, rfl, rfl, g_x, rfl, _, rfl, p_y, _, _, _, rfl, rfl, g_y, rfl, _, _, rfl, rfl, (d_x.1.ok d_y.2 (by decide)), _, rfl, p_y, _, _, _, rfl, rfl, g_y, rfl, _, rfl, p_x, _, _, _, rfl, rfl, g_x, rfl, _, _, rfl, rfl, (d_y.1.ok d_x.2 (by decide)), _, _, rfl, rfl, ?_⟩
  try dsimp only
  rw [show decide (((x).num * (((y).den : Nat) : Int)) < ((y).num * (((x).den : Nat) : Int))) = decide (x < y) from decide_eq_decide.mpr (by exact (q_lt x y).symm)]
  exact k0 _ (Same.refl _)
noncomputable def sp_law_small (K : PySem.W.Frag) : Sp := fun vs H Q _ => ∃ (bx : Addr) (n_bx : Int), vs = [.ref bx] ∧ H bx = some (.lst [.int n_bx]) ∧ (∀ (p_r : Addr) (r : Rat) (H1 : Hp) (n1 : Int), But bx H H1 → H1 bx = some (.lst [.int n1]) → FQ K H1 p_r (r) → FB 70 r → Six 72 r → Q (.ref p_r) H1)
theorem sc_law_small : FnScope ["_law_box_here"] ["_law_box_here"] (defScope (top 42)) := ⟨rfl, rfl, rfl, by decide +kernel, rfl, by decide +kernel, by decide +kernel⟩
theorem ok_law_small (D : Df K mg "_law_small" (top 42) ["_law_box_here"]) (T : Tx K mg CK C) (F_law_take : Fn P w K mg base 1 "_law_take" ["_law_box_here", "_law_many"] spTake) (F_law_fit : Fn P w K mg base 1 "_law_fit" ["_law_top", "_law_bottom"] (sp_law_fit K)) : Fn P w K mg base 2 "_law_small" ["_law_box_here"] (sp_law_small K) := by
  refine D.ok0 sc_law_small (fun vs H Q E h => ?_) (fun f cdv A outer s H vs Q E hr h => ?_)
  · obtain ⟨bx, n_bx, rfl, _⟩ := h
    rfl
  obtain ⟨bx, n_bx, rfl, hb_bx, k0⟩ := h
  refine ⟨_, (pss_one (ps_ret (pe_fn F_law_fit (by decide) hr (by rfl) passE0 (pa_cons (pe_op op_sub (pe_fn F_law_take (by decide) hr (by rfl) passE0 (pa_cons (pv 0) (pa_cons pe_int pa_nil))) pe_int) (pa_cons (pe_ix ix_list (pe_lst (pa_cons pe_int (pa_cons pe_int (pa_cons pe_int (pa_cons pe_int pa_nil))))) (pe_fn F_law_take (by decide) hr (by rfl) passE0 (pa_cons (pv 0) (pa_cons pe_int pa_nil))) (fun _ _ => rfl)) pa_nil))))), ?_⟩
  refine ⟨_, rfl, _, _, _, rfl, hb_bx, (by decide +kernel), ((Bd.small (i := (25 : Int)) (by decide) (by decide)).mono (by decide)), fun d12 n12 H12 lo12 hi12 s12 hb12 => ?_⟩
  refine ⟨_, _, rfl, rfl, by show 4 ≤ sizeLine; decide, ?_⟩
  intro p13 n13
  obtain ⟨H13, q13, s13, e13⟩ := newO n13 (.lst [.int ((1 : Int)), .int ((1 : Int)), .int ((2 : Int)), .int ((3 : Int))])
  rw [q13]
  clear q13
  have hB14 := s13 _ _ hb12
  have h13 := SqL.of (K := K) e13
  have ap13 : p13 ≠ bx := fun z => by rw [z, hb12] at n13; cases n13
  refine ⟨_, rfl, _, _, _, rfl, hB14, (by decide +kernel), ((Bd.small (i := (4 : Int)) (by decide) (by decide)).mono (by decide)), fun d15 n15 H15 lo15 hi15 s15 hb15 => ?_⟩
  obtain ⟨v16, ev16, m17⟩ := atI_mem ([(1 : Int), (1 : Int), (2 : Int), (3 : Int)] : List Int) d15 (by omega) (by show _ < (4 : Int); omega)
  have bv16 : 1 ≤ v16 ∧ v16 ≤ 3 := (show ∀ z ∈ ([(1 : Int), (1 : Int), (2 : Int), (3 : Int)] : List Int), 1 ≤ z ∧ z ≤ 3 by decide +kernel) v16 m17
  replace h13 := (But.seq s15 ap13 h13)
  refine ⟨p13, _, _, _, rfl, rfl, h13, ev16, _, _, rfl, ((Bd.small (i := v16) (by omega) (by omega)).mono (by decide)), (by omega), fun p_r18 H18 s18 g_r18 => ?_⟩
  have hB19 := s18 _ _ hb15
  have d_r18 : FB 65 (Rat.divInt ((d12 - (12 : Int))) v16) := (FB.mono (FB.fit (by omega) ((Bd.sub ((Bd.small (i := d12) (by omega) (by omega)).mono (n := 64) (by decide)) ((Bd.small (i := (12 : Int)) (by decide) (by decide)).mono (n := 64) (by decide))).mono (n := 65) (by decide)) ((Bd.small (i := v16) (by omega) (by omega)).mono (n := 65) (by decide))) (by decide))
  exact k0 _ _ _ _ (s12.trans ((But.of s13).trans (s15.trans (But.of s18)))) hB19 g_r18 (FB.mono d_r18 (by decide)) (by exact (six_fit (N := 12) (by omega) (by omega) (by omega) (by omega)).mono (by decide))
noncomputable def sp_law_led_together (K : PySem.W.Frag) : Sp := fun vs H Q _ => ∃ (b : Addr) (n : Int) (f : Addr) (xs : List V) (bs : List Bod) (W : Int), vs = [.ref b, .ref f] ∧ H b = some (.lst [.int n]) ∧ f ≠ b ∧ H f = some (.lst xs) ∧ Al2 (BdQ K H 64) xs bs ∧ 1 ≤ bs.length ∧ bs.length ≤ 12 ∧ Asc bs ∧ (∀ a ∈ bs, a.2.2 ≤ W) ∧ (∀ a ∈ bs, Six 720 a.1) ∧ (∀ a ∈ bs, Frn 72 100000 a.2.1) ∧
  ∀ (f1 : Addr) (xs1 : List V) (bs1 : List Bod) (n1 : Int) (H1 : Hp), But b H H1 → H f1 = none → f1 ≠ b → H1 b = some (.lst [.int n1]) → H1 f1 = some (.lst xs1) → Al2 (BdQ K H1 64) xs1 bs1 → bs1.length = bs.length → Asc bs1 → (∀ a ∈ bs1, a.2.2 ≤ W) → (∀ a ∈ bs1, Six 720 a.1) → (∀ a ∈ bs1, Frn 72 100000 a.2.1) → Q (.ref f1) H1
theorem sc_law_led_together : FnScope ["_law_box_here", "_law_world_here", "_law_at", "_law_many", "_law_moment", "_law_meet", "_law_found", "_law_number", "_law_body", "_law_way"] ["_law_box_here", "_law_world_here"] (defScope (top 44)) := ⟨rfl, rfl, rfl, by decide +kernel, rfl, by decide +kernel, by decide +kernel⟩
theorem ok_law_led_together (D : Df K mg "_law_led_together" (top 44) ["_law_box_here", "_law_world_here"]) (T : Tx K mg CK C) (F_law_take : Fn P w K mg base 1 "_law_take" ["_law_box_here", "_law_many"] spTake) (F_law_fit : Fn P w K mg base 1 "_law_fit" ["_law_top", "_law_bottom"] (sp_law_fit K)) (F_law_small : Fn P w K mg base 2 "_law_small" ["_law_box_here"] (sp_law_small K)) (F_law_plus : Fn P w K mg base 2 "_law_plus" ["_law_one", "_law_other"] (sp_law_plus K)) (F_law_minus : Fn P w K mg base 2 "_law_minus" ["_law_one", "_law_other"] (sp_law_minus K)) (F_law_over : Fn P w K mg base 2 "_law_over" ["_law_one", "_law_other"] (sp_law_over K)) : Fn P w K mg base 3 "_law_led_together" ["_law_box_here", "_law_world_here"] (sp_law_led_together K) := by
  refine D.ok0 sc_law_led_together (fun vs H Q E h => ?_) (fun f cdv A outer s H vs Q E hr h => ?_)
  · obtain ⟨b, n, f, xs, bs, W, rfl, _⟩ := h
    rfl
  obtain ⟨b, n, f, xs, bs, W, rfl, hb, nfb, hf, al, l1, l12, asc, hw, six, s72, k⟩ := h
  refine ⟨_, (pss_cons (ps_set (i := 2) sc_law_led_together.nd rfl (Or.inl rfl) (pe_fn F_law_take (by decide) hr (by rfl) passE0 (pa_cons (pv 0) (pa_cons (pe_callB call_len (by rfl) T.b_len PyProof.Rows.Boot.«len» (pa_cons (pv 1) pa_nil)) pa_nil))))
      (pss_cons (ps_set (i := 3) sc_law_led_together.nd rfl (Or.inl rfl) (pe_op op_add pe_int (pe_fn F_law_take (by decide) hr (by rfl) passE0 (pa_cons (pv 0) (pa_cons pe_int pa_nil)))))
      (pss_cons (ps_set (i := 4) sc_law_led_together.nd rfl (Or.inl rfl) (pe_fn F_law_fit (by decide) hr (by rfl) passE0 (pa_cons (pe_op op_add pe_int (pe_fn F_law_take (by decide) hr (by rfl) passE0 (pa_cons (pv 0) (pa_cons pe_int pa_nil)))) (pa_cons (pe_op op_add pe_int (pe_fn F_law_take (by decide) hr (by rfl) passE0 (pa_cons (pv 0) (pa_cons pe_int pa_nil)))) pa_nil))))
      (pss_cons (ps_set (i := 5) sc_law_led_together.nd rfl (Or.inl rfl) (pe_fn F_law_plus (by decide) hr (by rfl) passE0 (pa_cons (pe_ix ix_tup (pe_ix ix_list (pv 1) (pv 2) (fun _ _ => rfl)) pe_int (fun _ _ => rfl)) (pa_cons (pe_fn F_law_small (by decide) hr (by rfl) passE0 (pa_cons (pv 0) pa_nil)) pa_nil))))
      (pss_cons (ps_set (i := 6) sc_law_led_together.nd rfl (Or.inl rfl) (pe_lst pa_nil))
      (pss_cons (ps_for PassesOwn.never rfl (pi_enum (by rfl) T.b_enumerate (pa_cons (pv 1) pa_nil)) (pg_tup rfl (pgs_cons (pg_name (i := 7) sc_law_led_together.nd rfl (Or.inl rfl)) (pgs_cons (pg_name (i := 8) sc_law_led_together.nd rfl (Or.inl rfl)) pgs_nil))) (pss_cons (ps_if (pt_chain op_le op_lt (pv 2) (pv 7) (pe_op op_add (pv 2) (pv 3))) (pss_cons (ps_set (i := 9) sc_law_led_together.nd rfl (Or.inl rfl) (pe_fn F_law_minus (by decide) hr (by rfl) passE0 (pa_cons (pv 5) (pa_cons (pe_ix ix_tup (pv 8) pe_int (fun _ _ => rfl)) pa_nil))))
      (pss_one (ps_set (i := 8) sc_law_led_together.nd rfl (Or.inl rfl) (pe_tup (pa_cons (pe_ix ix_tup (pv 8) pe_int (fun _ _ => rfl)) (pa_cons (pe_fn F_law_over (by decide) hr (by rfl) passE0 (pa_cons (pv 9) (pa_cons (pv 4) pa_nil))) (pa_cons (pe_ix ix_tup (pv 8) pe_int (fun _ _ => rfl)) pa_nil))))))) pss_nil)
      (pss_one (ps_expr (pe_bm PySem.F.plainAttrs_list PySem.F.slot_list_append PySem.F.type_list_append mt_append (pv 6) (pa_cons (pv 8) pa_nil))))))
      (pss_one (ps_ret (pv 6))))))))), ?_⟩
  have sm9 : ∀ i : Int, -(2 ^ 64) < i → i < 2 ^ 64 → Bd 9000 i := fun i h1 h2 => (Bd.small h1 h2).mono (by decide)
  have hz := Al2.len al
  refine ⟨_, rfl, _, rfl, _, _, rfl, .inl ⟨_, SqL.of hf, rfl⟩, b, _, _, rfl, hb, by omega, sm9 _ (by omega) (by omega), fun d1 n1 H1 lo1 hi1 s1 hb1 => ?_⟩
  refine ⟨_, rfl, b, 5, _, rfl, hb1, by decide, sm9 _ (by decide) (by decide), fun d2 n2 H2 lo2 hi2 s2 hb2 => ?_⟩
  refine ⟨_, _, rfl, rfl, ?_⟩
  refine ⟨_, rfl, b, 4, _, rfl, hb2, by decide, sm9 _ (by decide) (by decide), fun d3 n3 H3 lo3 hi3 s3 hb3 => ?_⟩
  refine ⟨_, _, rfl, rfl, _, rfl, b, 3, _, rfl, hb3, by decide, sm9 _ (by decide) (by decide), fun d4 n4 H4 lo4 hi4 s4 hb4 => ?_⟩
  refine ⟨_, _, rfl, rfl, _, _, rfl, sm9 _ (by omega) (by omega), by omega, fun pm H5 s5 gm => ?_⟩
  have dm : FB 64 (Rat.divInt (1 + d3) (1 + d4)) := FB.fit (by omega) (Bd.small (by omega) (by omega)) (Bd.small (by omega) (by omega))
  have mpos : (0 : Rat) < Rat.divInt (1 + d3) (1 + d4) := q_divpos (by omega) (by omega)
  have hb5 := s5 _ _ hb4
  have s05 := s1.trans (s2.trans (s3.trans (s4.trans (But.of s5))))
  have hf5 := s05 _ _ nfb hf
  have al5 := bds_but al s05 hb
  obtain ⟨y, hy⟩ : ∃ y, xs[d1.toNat]? = some y := ⟨_, List.getElem?_eq_getElem (by omega)⟩
  obtain ⟨by', hby, py, ay, cy, rfl, y1, y2, _, y4, _⟩ := Al2.get al5 hy
  have aty : atI xs d1 = some (.ref py) := by
    have z := atI_nat hy
    rwa [show ((d1.toNat : Nat) : Int) = d1 by omega] at z
  refine ⟨_, rfl, _, rfl, f, _, _, _, rfl, rfl, SqL.of hf5, aty, py, _, _, _, rfl, rfl, y1, rfl, _, rfl, b, n4, rfl, hb5, fun ps xs' H6 n6 s6 hb6 gs ds ss => ?_⟩
  refine ⟨_, _, 64, _, _, 70, rfl, s6.tup hb5 y2, y4, gs, ds, by decide, fun pe H7 s7 ge => ?_⟩
  have sixm : Six 792 (by'.1 + xs') := ((six by' (List.mem_of_getElem? hby)).add ss).mono (by decide)
  have de : FB 64 (by'.1 + xs') := sixm.fb (by decide)
  generalize by'.1 + xs' = meet at ge de sixm
  have ovr : ∀ x : Rat, Six 1512 x → FB 64 (x / Rat.divInt (1 + d3) (1 + d4)) := fun x h => six_over h (by decide) (by omega) (by omega) (by omega) (by omega)
  have ovs : ∀ x : Rat, Six 1512 x → Frn 72 100000 (x / Rat.divInt (1 + d3) (1 + d4)) := fun x h => (six_by h (by omega) (by omega) (by omega) (by omega) (by decide)).mono (by decide)
  generalize Rat.divInt (1 + d3) (1 + d4) = tm at gm dm mpos ovr ovs
  refine ⟨by show 0 ≤ sizeLine; decide, ?_⟩
  intro p8 n8
  obtain ⟨H8, q8, s8, e8⟩ := newO n8 (.lst [])
  rw [q8]
  clear q8
  have hb7 := s7 _ _ hb6
  have s07 := s05.trans (s6.trans (But.of s7))
  have nf0 : H p8 = none := by
    by_cases z : p8 = b
    · rw [z, hb7] at n8; cases n8
    · exact none_of_but s07 n8 z
  have nfb8 : p8 ≠ b := fun z => by rw [z, hb7] at n8; cases n8
  have s08 := s07.trans (But.of s8)
  have hf8 := s08 _ _ nfb hf
  have nf8 : f ≠ p8 := ne_of_none hf nf0
  have gm8 := Kw.Same.tup s8 (Kw.Same.tup s7 (s6.tup hb5 gm))
  have ge8 := Kw.Same.tup s8 ge
  have al8 := bds_but al s08 hb
  have hb8 := s8 _ _ hb7
  refine ⟨_, rfl, f, xs, rfl, SqL.of hf8, for_enum (K := K) (a := f) (xs := xs) (fun i σ1 H' => ∃ (u7 u8 u9 : Option V) (ys : List V) (cs : List Bod), σ1 = [some (.ref b), some (.ref f), some (.int d1), some (.int (2 + d2)), some (.ref pm), some (.ref pe), some (.ref p8), u7, u8, u9] ∧ But p8 H8 H' ∧ H' p8 = some (.lst ys) ∧ Al2 (BdQ K H' 64) ys cs ∧ cs.map (·.1) = (bs.take i).map (·.1) ∧ cs.map (·.2.2) = (bs.take i).map (·.2.2) ∧ ∀ c ∈ cs, Frn 72 100000 c.2.1) ⟨_, _, _, [], [], rfl, But.refl _, e8, trivial, rfl, rfl, fun _ z => (nomatch z)⟩ (fun _ _ _ ⟨_, _, _, _, _, _, g, _⟩ => SqL.of (g _ _ nf8 hf8)) ?_ ?_⟩
  · rintro i x σ1 H9 hx ⟨u7, u8, u9, ys, cs, rfl, s9, hl9, ac9, pc9, wc9, sc9⟩ pp H10 s10 npp epp
    obtain ⟨bd, hbd, p, pa, pc, rfl, x1, x2, x3, x4, x5, x6, x7⟩ := Al2.get (bds_same (bds_but al8 s9 e8) s10) hx
    have hi : i < xs.length := (List.getElem?_eq_some_iff.mp hx).1
    have ly : ys.length < sizeLine := by
      have q1 := Al2.len ac9
      have q2 := congrArg List.length pc9
      simp at q2
      exact Nat.lt_of_le_of_lt (show ys.length ≤ 12 by omega) (by decide)
    have tk := take_snoc hbd
    have ext : ∀ (v : Rat) (cb : Bod), cb = (bd.1, v, bd.2.2) → (cs ++ [cb]).map (·.1) = (bs.take (i + 1)).map (·.1) ∧ (cs ++ [cb]).map (·.2.2) = (bs.take (i + 1)).map (·.2.2) := fun v cb e => by
      subst e
      rw [tk, List.map_append, List.map_append, List.map_append, List.map_append, pc9, wc9]
      exact ⟨rfl, rfl⟩
    refine ⟨pp, _, rfl, SqT.of epp, rfl, _, _, rfl, _, _, rfl, rfl, ?_⟩
    refine ⟨_, rfl, _, rfl, _, _, rfl, rfl, _, rfl, ?_⟩
    refine if_dec (fun c1 => ?_) (fun c1 => ?_)
    · refine ⟨_, rfl, _, rfl, _, _, rfl, rfl, _, _, rfl, rfl, _, rfl, ?_⟩
      refine if_dec (fun c2 => ?_) (fun c2 => ?_)
      · have gm10 := Kw.Same.tup s10 (s9.tup e8 gm8)
        have ge10 := Kw.Same.tup s10 (s9.tup e8 ge8)
        refine ⟨_, rfl, _, rfl, p, _, _, _, rfl, rfl, x1, rfl, _, _, 64, _, _, 64, rfl, ge10, de, x2, x4, by decide, fun pw H11 s11 gw => ?_⟩
        have sixw : Six 1512 (meet - bd.1) := (sixm.sub (six bd (List.mem_of_getElem? hbd))).mono (by decide)
        have dw : FB 64 (meet - bd.1) := sixw.fb (by decide)
        have x1' := Kw.Same.tup s11 x1
        refine ⟨_, rfl, p, _, _, _, rfl, rfl, x1', rfl, _, rfl, _, rfl, _, _, 64, _, _, 64, rfl, gw, dw, Kw.Same.tup s11 gm10, dm, by decide, by grind, fun pv H12 s12 gv => ?_⟩
        have dv : FB 64 ((meet - bd.1) / tm) := ovr _ sixw
        have s1012 := s11.trans s12
        refine ⟨_, rfl, p, _, _, _, rfl, rfl, Kw.Same.tup s12 x1', rfl, by show 3 ≤ sizeLine; decide, ?_⟩
        intro p13 n13
        obtain ⟨H13, q13, s13, e13⟩ := newO n13 (.tup [.ref pa, .ref pv, .int bd.2.2])
        rw [q13]
        clear q13
        have s1013 := s1012.trans s13
        have s913 := s10.trans s1013
        have hl13 := s913 _ _ hl9
        have one : BdQ K H13 64 (.ref p13) (bd.1, (meet - bd.1) / tm, bd.2.2) := ⟨p13, pa, pv, rfl, SqT.of e13, Kw.Same.tup s1013 x2, Kw.Same.tup s13 gv, x4, dv, x6, x7⟩
        refine ⟨_, rfl, .inl ⟨rfl, _, SqL.of hl13⟩, _, rfl, p8, _, _, rfl, rfl, hl13, ly, ?_⟩
        obtain ⟨H14, q14, s14, e14⟩ := newB (H := H13) (p := p8) (.lst (ys ++ [.ref p13]))
        dsimp only
        rw [q14]
        clear q14
        exact ⟨_, _, _, ys ++ [.ref p13], cs ++ [_], rfl, s9.trans ((But.of s913).trans s14), e14, bds_but (Al2.snoc (bds_same ac9 s913) one) s14 hl13, (ext ((meet - bd.1) / tm) _ rfl).1, (ext ((meet - bd.1) / tm) _ rfl).2, all_snoc sc9 (ovs _ sixw)⟩
      · skip
        have hl10 := s10 _ _ hl9
        have one : BdQ K H10 64 (.ref p) bd := ⟨p, pa, pc, rfl, x1, x2, x3, x4, x5, x6, x7⟩
        refine ⟨_, rfl, .inl ⟨rfl, _, SqL.of hl10⟩, _, rfl, p8, _, _, rfl, rfl, hl10, ly, ?_⟩
        obtain ⟨H14, q14, s14, e14⟩ := newB (H := H10) (p := p8) (.lst (ys ++ [.ref p]))
        dsimp only
        rw [q14]
        clear q14
        exact ⟨_, _, _, ys ++ [.ref p], cs ++ [bd], rfl, s9.trans ((But.of s10).trans s14), e14, bds_but (Al2.snoc (bds_same ac9 s10) one) s14 hl10, (ext bd.2.1 bd rfl).1, (ext bd.2.1 bd rfl).2, all_snoc sc9 (s72 bd (List.mem_of_getElem? hbd))⟩
    · refine ⟨_, rfl, iteF ?_⟩
      have hl10 := s10 _ _ hl9
      have one : BdQ K H10 64 (.ref p) bd := ⟨p, pa, pc, rfl, x1, x2, x3, x4, x5, x6, x7⟩
      refine ⟨_, rfl, .inl ⟨rfl, _, SqL.of hl10⟩, _, rfl, p8, _, _, rfl, rfl, hl10, ly, ?_⟩
      obtain ⟨H14, q14, s14, e14⟩ := newB (H := H10) (p := p8) (.lst (ys ++ [.ref p]))
      dsimp only
      rw [q14]
      clear q14
      exact ⟨_, _, _, ys ++ [.ref p], cs ++ [bd], rfl, s9.trans ((But.of s10).trans s14), e14, bds_but (Al2.snoc (bds_same ac9 s10) one) s14 hl10, (ext bd.2.1 bd rfl).1, (ext bd.2.1 bd rfl).2, all_snoc sc9 (s72 bd (List.mem_of_getElem? hbd))⟩
  · rintro σ1 H9 ⟨u7, u8, u9, ys, cs, rfl, s9, hl9, ac9, pc9, wc9, sc9⟩
    rw [hz, List.take_length] at pc9 wc9
    have lc := congrArg List.length pc9
    simp at lc
    refine ⟨_, rfl, k p8 ys cs n6 H9 ?_ nf0 nfb8 (s9 _ _ (Ne.symm nfb8) hb8) hl9 ac9 lc (asc.of_places pc9) (fun a ha => ?_) (fun a ha => ?_) sc9⟩
    · intro a o na ho
      exact s9 a o (ne_of_none ho nf0) (s08 a o na ho)
    · have z : a.2.2 ∈ cs.map (·.2.2) := List.mem_map_of_mem ha
      rw [wc9] at z
      obtain ⟨a', ha', e'⟩ := List.mem_map.mp z
      rw [← e']
      exact hw a' ha'
    · have z : a.1 ∈ cs.map (·.1) := List.mem_map_of_mem ha
      rw [pc9] at z
      obtain ⟨a', ha', e'⟩ := List.mem_map.mp z
      rw [← e']
      exact six a' ha'
noncomputable def sp_law_world (K : PySem.W.Frag) : Sp := fun vs H Q _ => ∃ (b : Addr) (n : Int), vs = [.ref b] ∧ H b = some (.lst [.int n]) ∧ ∀ (f : Addr) (xs : List V) (bs : List Bod) (n1 : Int) (H1 : Hp), But b H H1 → H f = none → f ≠ b → H1 b = some (.lst [.int n1]) → H1 f = some (.lst xs) → Al2 (BdQ K H1 64) xs bs → 1 ≤ bs.length → bs.length ≤ 12 → Asc bs → (∀ a ∈ bs, a.2.2 ≤ 80) → Com 30 bs → Q (.ref f) H1
theorem sc_law_world : FnScope ["_law_box_here", "_law_place", "_law_found", "_law_k", "_law_weight"] ["_law_box_here"] (defScope (top 43)) := ⟨rfl, rfl, rfl, by decide +kernel, rfl, by decide +kernel, by decide +kernel⟩
theorem ok_law_world (D : Df K mg "_law_world" (top 43) ["_law_box_here"]) (T : Tx K mg CK C) (F_law_take : Fn P w K mg base 1 "_law_take" ["_law_box_here", "_law_many"] spTake) (F_law_small : Fn P w K mg base 2 "_law_small" ["_law_box_here"] (sp_law_small K)) (F_law_fit : Fn P w K mg base 1 "_law_fit" ["_law_top", "_law_bottom"] (sp_law_fit K)) (F_law_plus : Fn P w K mg base 2 "_law_plus" ["_law_one", "_law_other"] (sp_law_plus K)) (F_law_led_together : Fn P w K mg base 3 "_law_led_together" ["_law_box_here", "_law_world_here"] (sp_law_led_together K)) : Fn P w K mg base 4 "_law_world" ["_law_box_here"] (sp_law_world K) := by
  refine D.ok0 sc_law_world (fun vs H Q E h => ?_) (fun f cdv A outer s H vs Q E hr h => ?_)
  · obtain ⟨bx, n, rfl, _⟩ := h
    rfl
  obtain ⟨bx, n, rfl, hb_bx, k⟩ := h
  refine ⟨_, (pss_cons (ps_set (i := 1) sc_law_world.nd rfl (Or.inl rfl) (pe_fn F_law_small (by decide) hr (by rfl) passE0 (pa_cons (pv 0) pa_nil)))
      (pss_cons (ps_set (i := 2) sc_law_world.nd rfl (Or.inl rfl) (pe_lst pa_nil))
      (pss_cons (ps_for PassesOwn.never rfl (pi_range1 (by rfl) T.b_range (pa_cons (pe_op op_add pe_int (pe_fn F_law_take (by decide) hr (by rfl) passE0 (pa_cons (pv 0) (pa_cons (pe_ix ix_list (pe_lst (pa_cons pe_int (pa_cons pe_int (pa_cons pe_int (pa_cons pe_int pa_nil))))) (pe_fn F_law_take (by decide) hr (by rfl) passE0 (pa_cons (pv 0) (pa_cons pe_int pa_nil))) (fun _ _ => rfl)) pa_nil)))) pa_nil)) (pg_name (i := 3) sc_law_world.nd rfl (Or.inl rfl)) (pss_cons (ps_set (i := 4) sc_law_world.nd rfl (Or.inl rfl) (pe_op op_add pe_int (pe_fn F_law_take (by decide) hr (by rfl) passE0 (pa_cons (pv 0) (pa_cons (pe_ix ix_list (pe_lst (pa_cons pe_int (pa_cons pe_int (pa_cons pe_int (pa_cons pe_int pa_nil))))) (pe_fn F_law_take (by decide) hr (by rfl) passE0 (pa_cons (pv 0) (pa_cons pe_int pa_nil))) (fun _ _ => rfl)) pa_nil)))))
      (pss_cons (ps_expr (pe_bm PySem.F.plainAttrs_list PySem.F.slot_list_append PySem.F.type_list_append mt_append (pv 2) (pa_cons (pe_tup (pa_cons (pv 1) (pa_cons (pe_fn F_law_small (by decide) hr (by rfl) passE0 (pa_cons (pv 0) pa_nil)) (pa_cons (pv 4) pa_nil)))) pa_nil)))
      (pss_one (ps_set (i := 1) sc_law_world.nd rfl (Or.inl rfl) (pe_fn F_law_plus (by decide) hr (by rfl) passE0 (pa_cons (pv 1) (pa_cons (pe_fn F_law_fit (by decide) hr (by rfl) passE0 (pa_cons (pe_op op_add pe_int (pe_fn F_law_take (by decide) hr (by rfl) passE0 (pa_cons (pv 0) (pa_cons pe_int pa_nil)))) (pa_cons (pe_op op_add pe_int (pe_fn F_law_take (by decide) hr (by rfl) passE0 (pa_cons (pv 0) (pa_cons pe_int pa_nil)))) pa_nil))) pa_nil))))))))
      (pss_cons (ps_if (pt_cmpR op_eq (pe_fn F_law_take (by decide) hr (by rfl) passE0 (pa_cons (pv 0) (pa_cons pe_int pa_nil))) pe_int (nomark _)) (pss_one (ps_set (i := 2) sc_law_world.nd rfl (Or.inl rfl) (pe_fn F_law_led_together (by decide) hr (by rfl) passE0 (pa_cons (pv 0) (pa_cons (pv 2) pa_nil))))) pss_nil)
      (pss_one (ps_ret (pv 2))))))), ?_⟩
  have sm9 : ∀ i : Int, -(2 ^ 64) < i → i < 2 ^ 64 → Bd 9000 i := fun i h1 h2 => (Bd.small h1 h2).mono (by decide)
  have com : ∀ bs : List Bod, (∀ a ∈ bs, Six 720 a.1) → (∀ a ∈ bs, Frn 72 100000 a.2.1) → Com 30 bs := fun bs six s72 => frn_com fun q hq => ⟨(((six q hq).frn).up).mono (by decide), ((s72 q hq).up).mono (by decide)⟩
  refine ⟨_, rfl, bx, _, rfl, hb_bx, fun q1 v1 H12 n12 s12 hb12 g12 dv1 sv1 => ?_⟩
  refine ⟨by show 0 ≤ sizeLine; decide, ?_⟩
  intro p15 n15
  obtain ⟨H15, q15, s15, e15⟩ := newO n15 (.lst [])
  rw [q15]
  clear q15
  have hb15 := s15 _ _ hb12
  have ap15 : p15 ≠ bx := Ne.symm (ne_of_none hb12 n15)
  have nf0 : H p15 = none := none_of_but s12 n15 ap15
  refine ⟨_, rfl, by show 4 ≤ sizeLine; decide, ?_⟩
  intro p2 n2
  obtain ⟨H2, q2, s2, e2⟩ := newO n2 (.lst [.int (4 : Int), .int (4 : Int), .int (6 : Int), .int (12 : Int)])
  rw [q2]
  clear q2
  have hb2 := s2 _ _ hb15
  have ap2 : p2 ≠ bx := Ne.symm (ne_of_none hb15 n2)
  refine ⟨_, rfl, bx, 4, _, rfl, hb2, by decide, sm9 _ (by decide) (by decide), fun d3 n3 H3 lo3 hi3 s3 hb3 => ?_⟩
  obtain ⟨v3, ev3, mv3⟩ := atI_mem ([(4 : Int), (4 : Int), (6 : Int), (12 : Int)] : List Int) d3 (by omega) (by show _ < (4 : Int); omega)
  have bv3 : 4 ≤ v3 ∧ v3 ≤ 12 := (show ∀ z ∈ ([(4 : Int), (4 : Int), (6 : Int), (12 : Int)] : List Int), 4 ≤ z ∧ z ≤ 12 by decide +kernel) v3 mv3
  refine ⟨p2, _, _, _, rfl, rfl, SqL.of (s3 _ _ ap2 e2), ev3, bx, v3, _, rfl, hb3, by omega, sm9 _ (by omega) (by omega), fun d4 n4 H4 lo4 hi4 s4 hb4 => ?_⟩
  have B12 : But bx H H4 := s12.trans ((But.of s15).trans ((But.of s2).trans (s3.trans s4)))
  have B15 : But bx H15 H4 := (But.of s2).trans (s3.trans s4)
  refine ⟨_, _, rfl, rfl, _, rfl, by omega, by omega, for_range (n := (1 + d4).toNat) (fun i σ1 H' => ∃ (pp : Addr) (x : Rat) (rk rs : Option V) (xs : List V) (bs : List Bod) (nb : Int), σ1 = [some (.ref bx), some (.ref pp), some (.ref p15), rk, rs] ∧ But bx H H' ∧ H' bx = some (.lst [.int nb]) ∧ H' p15 = some (.lst xs) ∧ Al2 (BdQ K H' 64) xs bs ∧ FQ K H' pp x ∧ Six (72 + 54 * (i : Int)) x ∧ bs.length = i ∧ Asc bs ∧ (∀ a ∈ bs, a.1 < x) ∧ (∀ a ∈ bs, a.2.2 ≤ 80) ∧ (∀ a ∈ bs, Six 720 a.1) ∧ (∀ a ∈ bs, Frn 72 100000 a.2.1))
    ⟨q1, _, _, _, [], [], n4, rfl, B12, hb4, B15 _ _ ap15 e15, trivial, B15.tup hb15 (Kw.Same.tup s15 g12), sv1.mono (by omega), rfl, List.Pairwise.nil, (fun _ z => nomatch z), (fun _ z => nomatch z), (fun _ z => nomatch z), fun _ z => nomatch z⟩ ?_ ?_⟩
  · rintro i σ1 K4 hi4 ⟨pp, x, rk, rs, xs, bs, nb, rfl, B4, hc4, hF, al, gx, x6, len, asc, pos, hw, six, s72⟩
    have hi12 : i < 12 := by omega
    have lx := Al2.len al
    refine ⟨_, rfl, by show 4 ≤ sizeLine; decide, ?_⟩
    intro p21 n21
    obtain ⟨H21, q21, s21, e21⟩ := newO n21 (.lst [.int (3 : Int), .int (3 : Int), .int (5 : Int), .int (80 : Int)])
    rw [q21]
    clear q21
    have hc21 := s21 _ _ hc4
    have ap21 : p21 ≠ bx := Ne.symm (ne_of_none hc4 n21)
    refine ⟨_, rfl, bx, 4, _, rfl, hc21, by decide, sm9 _ (by decide) (by decide), fun d22 n22 H22 lo22 hi22 s22 hb22 => ?_⟩
    obtain ⟨v22, ev22, mv22⟩ := atI_mem ([(3 : Int), (3 : Int), (5 : Int), (80 : Int)] : List Int) d22 (by omega) (by show _ < (4 : Int); omega)
    have bv22 : 3 ≤ v22 ∧ v22 ≤ 80 := (show ∀ z ∈ ([(3 : Int), (3 : Int), (5 : Int), (80 : Int)] : List Int), 3 ≤ z ∧ z ≤ 80 by decide +kernel) v22 mv22
    refine ⟨p21, _, _, _, rfl, rfl, SqL.of (s22 _ _ ap21 e21), ev22, bx, v22, _, rfl, hb22, by omega, sm9 _ (by omega) (by omega), fun d23 n23 H23 lo23 hi23 s23 hb23 => ?_⟩
    refine ⟨_, _, rfl, rfl, ?_⟩
    have t25 : But bx K4 H23 := (But.of s21).trans (s22.trans s23)
    have hF25 := t25 _ _ ap15 hF
    have dx : FB 64 x := x6.fb (by omega)
    refine ⟨_, rfl, .inl ⟨rfl, _, SqL.of hF25⟩, _, rfl, _, rfl, bx, _, rfl, hb23, fun qs vs H26 n26 t26 hb26 gq dq sq => ?_⟩
    have t426 := t25.trans t26
    have hF26 := t426 _ _ ap15 hF
    refine ⟨_, rfl, by show 3 ≤ sizeLine; decide, ?_⟩
    intro p27 n27
    obtain ⟨H27, q27, s27, e27⟩ := newO n27 (.tup [.ref pp, .ref qs, .int (1 + d23)])
    rw [q27]
    clear q27
    have hF27 := s27 _ _ hF26
    refine ⟨p15, _, _, rfl, rfl, hF27, by rw [lx, len]; exact Nat.lt_of_lt_of_le hi12 (by decide), ?_⟩
    have t427 := t426.trans (But.of s27)
    have al27 := bds_but al t427 hc4
    have gx27 := t427.tup hc4 gx
    have one : BdQ K H27 64 (.ref p27) (x, vs, 1 + d23) := ⟨p27, pp, qs, rfl, SqT.of e27, gx27, Kw.Same.tup s27 gq, dx, sq.fb (by decide), (by show (1 : Int) ≤ 1 + d23; omega), (by show 1 + d23 ≤ (10000 : Int); omega)⟩
    obtain ⟨H28, q28, s28, e28⟩ := newB (H := H27) (p := p15) (.lst (xs ++ [.ref p27]))
    dsimp only
    rw [q28]
    clear q28
    have hc28 := s28 _ _ (Ne.symm ap15) (s27 _ _ hb26)
    have al28 := bds_but (Al2.snoc al27 one) s28 hF27
    have gx28 := s28.tup hF27 gx27
    refine ⟨_, rfl, _, rfl, bx, 9, _, rfl, hc28, by decide, sm9 _ (by decide) (by decide), fun d29 n29 H29 lo29 hi29 s29 hb29 => ?_⟩
    refine ⟨_, _, rfl, rfl, _, rfl, bx, 3, _, rfl, hb29, by decide, sm9 _ (by decide) (by decide), fun d30 n30 H30 lo30 hi30 s30 hb30 => ?_⟩
    refine ⟨_, _, rfl, rfl, _, _, rfl, sm9 _ (by omega) (by omega), by omega, fun p31 H31 s31 g31 => ?_⟩
    have sf : Six 54 (Rat.divInt (1 + d29) (1 + d30)) := (six_fit (N := 9) (by omega) (by omega) (by omega) (by omega)).mono (by decide)
    have pf : (0 : Rat) < Rat.divInt (1 + d29) (1 + d30) := q_divpos (by omega) (by omega)
    have s2831 : But bx H28 H31 := s29.trans (s30.trans (But.of s31))
    refine ⟨pp, x, 64, p31, _, 64, rfl, s2831.tup hc28 gx28, dx, g31, sf.fb (by decide), by decide, fun p32 H32 s32 g32 => ?_⟩
    have BF : But bx H H32 := fun a o na ho => s32 a o (s2831 a o na (s28 a o (ne_of_none ho nf0) ((B4.trans t427) a o na ho)))
    have hF32 := s32 _ _ (s2831 _ _ ap15 e28)
    refine ⟨p32, _, _, _, _, _, n30, rfl, BF, s32 _ _ (s31 _ _ hb30), hF32, bds_same (bds_but al28 s2831 hc28) s32, g32, (x6.add sf).mono (by omega), by simp [len], asc.snoc pos, (fun a ha => ?_), all_snoc hw (by show 1 + d23 ≤ 80; omega), all_snoc six (x6.mono (by omega)), all_snoc s72 (sq.frn.mono (by decide))⟩
    rcases List.mem_append.mp ha with z | z
    · have := pos a z
      grind
    · rw [List.mem_singleton.mp z]
      show x < x + _
      grind
  · rintro σ1 K4 ⟨pp, x, rk, rs, xs, bs, nb, rfl, B4, hc4, hF, al, gx, x6, len, asc, pos, hw, six, s72⟩
    refine ⟨_, rfl, bx, 3, _, rfl, hc4, by decide, sm9 _ (by decide) (by decide), fun d5 m5 K5 lo5 hi5 t5 hc5 => ?_⟩
    have hF5 := t5 _ _ ap15 hF
    have al5 := bds_but al t5 hc4
    refine ⟨rfl, _, rfl, ?_⟩
    refine if_decI (fun z => ?_) (fun z => ?_)
    · refine ⟨_, rfl, _, rfl, bx, m5, p15, xs, bs, 80, rfl, hc5, ap15, hF5, al5, by omega, by omega, asc, hw, six, s72, fun f1 xs1 bs1 n1 H1 s1 nf1 nfb hb1 hf1 al1 ln asc1 hw1 six1 s721 => ?_⟩
      have nf10 : H f1 = none := none_of_but (B4.trans t5) nf1 nfb
      exact ⟨_, rfl, k f1 xs1 bs1 n1 H1 (B4.trans (t5.trans s1)) nf10 nfb hb1 hf1 al1 (by omega) (by omega) asc1 hw1 (com _ six1 s721)⟩
    · exact ⟨_, rfl, k p15 xs bs m5 K5 (B4.trans t5) nf0 ap15 hc5 hF5 al5 (by omega) (by omega) asc hw (com _ six s72)⟩
noncomputable def sp_law_joined (K : PySem.W.Frag) : Sp := fun vs H Q _ => ∃ (p : Addr) (xs : List V) (bs : List Bod) (f l : Nat) (u : Addr) (t : Rat), vs = [.ref p, .int (f : Int), .int (l : Int), .ref u] ∧ H p = some (.lst xs) ∧ Al2 (BdQ K H 64) xs bs ∧ WdB bs ∧ FitM 40 bs ∧ f ≤ l ∧ l < bs.length ∧ FQ K H u t ∧ FB 200 t ∧ ∀ (r : Addr) (H1 : Hp), Same H H1 → ClQ K H1 300 (.ref r) (clT t (f, l, meanB (segB bs f l))) → Q (.ref r) H1
theorem sc_law_joined : FnScope ["_law_world_here", "_law_first", "_law_last", "_law_moment", "_law_weight", "_law_push", "_law_sum", "_law_body", "_law_there"] ["_law_world_here", "_law_first", "_law_last", "_law_moment"] (defScope (top 45)) := ⟨rfl, rfl, rfl, by decide +kernel, rfl, by decide +kernel, by decide +kernel⟩
theorem ok_law_joined (D : Df K mg "_law_joined" (top 45) ["_law_world_here", "_law_first", "_law_last", "_law_moment"]) (T : Tx K mg CK C) (F_law_plus : Fn P w K mg base 2 "_law_plus" ["_law_one", "_law_other"] (sp_law_plus K)) (F_law_times : Fn P w K mg base 2 "_law_times" ["_law_one", "_law_other"] (sp_law_times K)) (F_law_over : Fn P w K mg base 2 "_law_over" ["_law_one", "_law_other"] (sp_law_over K)) : Fn P w K mg base 3 "_law_joined" ["_law_world_here", "_law_first", "_law_last", "_law_moment"] (sp_law_joined K) := by
  refine D.ok0 sc_law_joined (fun vs H Q E h => ?_) (fun f0 cdv A outer s H vs Q E hr h => ?_)
  · obtain ⟨p, xs, bs, f, l, u, t, rfl, _⟩ := h
    rfl
  obtain ⟨p, xs, bs, f, l, u, t, rfl, hp, al, wd, fit, hf, hl, gt, dt, k⟩ := h
  refine ⟨_, (pss_cons (ps_set (i := 4) sc_law_joined.nd rfl (Or.inl rfl) pe_int)
      (pss_cons (ps_set (i := 5) sc_law_joined.nd rfl (Or.inl rfl) (pe_tup (pa_cons pe_int (pa_cons pe_int pa_nil))))
      (pss_cons (ps_set (i := 6) sc_law_joined.nd rfl (Or.inl rfl) (pe_tup (pa_cons pe_int (pa_cons pe_int pa_nil))))
      (pss_cons (ps_for PassesOwn.never rfl (pi_list (pe_slice sl_list (pv 0) (po_some (pv 1)) (po_some (pe_op op_add (pv 2) pe_int)))) (pg_name (i := 7) sc_law_joined.nd rfl (Or.inl rfl)) (pss_cons (ps_set (i := 4) sc_law_joined.nd rfl (Or.inl rfl) (pe_op op_add (pv 4) (pe_ix ix_tup (pv 7) pe_int (fun _ _ => rfl))))
      (pss_cons (ps_set (i := 5) sc_law_joined.nd rfl (Or.inl rfl) (pe_fn F_law_plus (by decide) hr (by rfl) passE0 (pa_cons (pv 5) (pa_cons (pe_fn F_law_times (by decide) hr (by rfl) passE0 (pa_cons (pe_tup (pa_cons (pe_ix ix_tup (pv 7) pe_int (fun _ _ => rfl)) (pa_cons pe_int pa_nil))) (pa_cons (pe_ix ix_tup (pv 7) pe_int (fun _ _ => rfl)) pa_nil))) pa_nil))))
      (pss_cons (ps_set (i := 8) sc_law_joined.nd rfl (Or.inl rfl) (pe_fn F_law_plus (by decide) hr (by rfl) passE0 (pa_cons (pe_ix ix_tup (pv 7) pe_int (fun _ _ => rfl)) (pa_cons (pe_fn F_law_times (by decide) hr (by rfl) passE0 (pa_cons (pe_ix ix_tup (pv 7) pe_int (fun _ _ => rfl)) (pa_cons (pv 3) pa_nil))) pa_nil))))
      (pss_one (ps_set (i := 6) sc_law_joined.nd rfl (Or.inl rfl) (pe_fn F_law_plus (by decide) hr (by rfl) passE0 (pa_cons (pv 6) (pa_cons (pe_fn F_law_times (by decide) hr (by rfl) passE0 (pa_cons (pe_tup (pa_cons (pe_ix ix_tup (pv 7) pe_int (fun _ _ => rfl)) (pa_cons pe_int pa_nil))) (pa_cons (pv 8) pa_nil))) pa_nil)))))))))
      (pss_one (ps_ret (pe_tup (pa_cons (pv 1) (pa_cons (pv 2) (pa_cons (pe_fn F_law_over (by decide) hr (by rfl) passE0 (pa_cons (pv 6) (pa_cons (pe_tup (pa_cons (pv 4) (pa_cons pe_int pa_nil))) pa_nil))) (pa_cons (pe_fn F_law_over (by decide) hr (by rfl) passE0 (pa_cons (pv 5) (pa_cons (pe_tup (pa_cons (pv 4) (pa_cons pe_int pa_nil))) pa_nil))) (pa_cons (pv 4) pa_nil)))))))))))), ?_⟩
  have hz := Al2.len al
  have l12 := wd.l12
  refine ⟨by show 2 ≤ sizeLine; decide, ?_⟩
  intro p1 n1
  obtain ⟨H1, q1, s1, e1⟩ := newO n1 (.tup [.int 0, .int 1])
  rw [q1]
  clear q1
  refine ⟨by show 2 ≤ sizeLine; decide, ?_⟩
  intro p2 n2
  obtain ⟨H2, q2, s2, e2⟩ := newO n2 (.tup [.int 0, .int 1])
  rw [q2]
  clear q2
  have s02 := s1.trans s2
  refine ⟨_, rfl, _, rfl, _, rfl, _, rfl, _, _, rfl, rfl, _, rfl, p, _, rfl, SqL.of (s02 _ _ hp), ?_⟩
  rw [cut_seg hf (by omega)]
  intro p3 n3
  obtain ⟨H3, q3, s3, e3⟩ := newO n3 (.lst ((xs.drop f).take (l + 1 - f)))
  rw [q3]
  clear q3
  have s03 := s02.trans s3
  have al3 : Al2 (BdQ K H3 64) ((xs.drop f).take (l + 1 - f)) (segB bs f l) := Al2.takeR _ (Al2.dropR _ (bds_same al s03))
  have ls := Al2.len al3
  have g1 : FQ K H3 p1 (sV ((segB bs f l).take 0)) := FQ.cast (FQ.ofInt (SqT.of (s3 _ _ (s2 _ _ e1)))) rfl
  have g2 : FQ K H3 p2 (sP t ((segB bs f l).take 0)) := FQ.cast (FQ.ofInt (SqT.of (s3 _ _ e2))) (by show ((0 : Int) : Rat) = sP t []; rw [sP_nil]; rfl)
  refine ⟨p3, rfl, ⟨_, SqL.of e3⟩, for_list (K := K) (a := p3) (xs := (xs.drop f).take (l + 1 - f)) (fun i σ1 H' => ∃ (pp ps : Addr) (u7 u8 : Option V), σ1 = [some (.ref p), some (.int (f : Int)), some (.int (l : Int)), some (.ref u), some (.int (sW ((segB bs f l).take i))), some (.ref pp), some (.ref ps), u7, u8] ∧ Same H3 H' ∧ FQ K H' pp (sV ((segB bs f l).take i)) ∧ FQ K H' ps (sP t ((segB bs f l).take i))) ⟨p1, p2, _, _, rfl, Same.refl _, g1, g2⟩ (by rintro _ _ _ _ ⟨_, _, _, _, _, g, _⟩; exact SqL.of (g _ _ e3)) ?_ ?_⟩
  · rintro i x σ1 H4 hx ⟨pp, ps, u7, u8, rfl, s4, gp, gs⟩
    have hi := (List.getElem?_eq_some_iff.mp hx).1
    obtain ⟨b, hb, pb, pa, pc, rfl, x1, x2, x3, x4, x5, x6, x7⟩ := Al2.get (bds_same al3 s4) hx
    obtain ⟨fv, fp, w0, w1⟩ := pre_fb wd fit hl (i := i) (f := f) (by omega) dt
    have gt4 := Kw.Same.tup (s03.trans s4) gt
    have tk := take_snoc hb
    refine ⟨_, rfl, _, rfl, pb, _, _, _, rfl, rfl, x1, rfl, _, _, rfl, rfl, ?_⟩
    refine ⟨_, rfl, _, rfl, pb, _, _, _, rfl, rfl, x1, rfl, by show 2 ≤ sizeLine; decide, ?_⟩
    intro p5 n5
    obtain ⟨H5, q5, s5, e5⟩ := newO n5 (.tup [.int b.2.2, .int 1])
    rw [q5]
    clear q5
    have g5 : FQ K H5 p5 ((b.2.2 : Int) : Rat) := FQ.ofInt (SqT.of e5)
    have d5 : FB 64 ((b.2.2 : Int) : Rat) := FB.ofInt (Bd.small (by omega) (by omega)) (by decide)
    refine ⟨_, rfl, pb, _, _, _, rfl, rfl, Kw.Same.tup s5 x1, rfl, p5, _, 64, pc, _, 64, rfl, g5, d5, Kw.Same.tup s5 x3, x5, by decide, fun r6 H6 s6 g6 => ?_⟩
    have d6 : FB 128 (((b.2.2 : Int) : Rat) * b.2.1) := (FB.mul d5 x5).mono (by decide)
    refine ⟨pp, _, 104, r6, _, 128, rfl, Kw.Same.tup (s5.trans s6) gp, fv, g6, d6, by decide, fun r7 H7 s7 g7 => ?_⟩
    have s47 := s5.trans (s6.trans s7)
    have x17 := Kw.Same.tup s47 x1
    refine ⟨_, rfl, pb, _, _, _, rfl, rfl, x17, rfl, _, rfl, pb, _, _, _, rfl, rfl, x17, rfl, _, rfl, pc, _, 64, u, _, 200, rfl, Kw.Same.tup s47 x3, x5, Kw.Same.tup s47 gt4, dt, by decide, fun r8 H8 s8 g8 => ?_⟩
    have d8 : FB 264 (b.2.1 * t) := (FB.mul x5 dt).mono (by decide)
    refine ⟨pa, _, 64, r8, _, 264, rfl, Kw.Same.tup (s47.trans s8) x2, x4, g8, d8, by decide, fun r9 H9 s9 g9 => ?_⟩
    have d9 : FB 329 (b.1 + b.2.1 * t) := (FB.add x4 d8).mono (by decide)
    have s49 := s47.trans (s8.trans s9)
    refine ⟨_, rfl, _, rfl, pb, _, _, _, rfl, rfl, Kw.Same.tup s49 x1, rfl, by show 2 ≤ sizeLine; decide, ?_⟩
    intro p10 n10
    obtain ⟨H10, q10, s10, e10⟩ := newO n10 (.tup [.int b.2.2, .int 1])
    rw [q10]
    clear q10
    have g10 : FQ K H10 p10 ((b.2.2 : Int) : Rat) := FQ.ofInt (SqT.of e10)
    refine ⟨_, rfl, p10, _, 64, r9, _, 329, rfl, g10, d5, Kw.Same.tup s10 g9, d9, by decide, fun r11 H11 s11 g11 => ?_⟩
    have d11 : FB 393 (((b.2.2 : Int) : Rat) * (b.1 + b.2.1 * t)) := (FB.mul d5 d9).mono (by decide)
    have s411 := s49.trans (s10.trans s11)
    refine ⟨ps, _, 345, r11, _, 393, rfl, Kw.Same.tup s411 gs, fp, g11, d11, by decide, fun r12 H12 s12 g12 => ?_⟩
    refine ⟨r7, r12, some (.ref pb), some (.ref r9), ?_, s4.trans (s411.trans s12), FQ.cast (Kw.Same.tup (s8.trans (s9.trans (s10.trans (s11.trans s12)))) g7) ?_, FQ.cast g12 ?_⟩
    · rw [tk, sW_app, sW_one]
      rfl
    · rw [tk, sV_app]
      show _ = _ + (((b.2.2 : Int) : Rat) * b.2.1 + 0)
      grind
    · rw [tk, sP_app, sP_one]
  · rintro σ1 H4 ⟨pp, ps, u7, u8, rfl, s4, gp, gs⟩
    rw [ls, List.take_length] at gp gs ⊢
    obtain ⟨fv, fp, w0, w1⟩ := pre_fb wd fit hl (i := (segB bs f l).length) (f := f) (Nat.le_refl _) dt
    rw [List.take_length] at fv fp w0 w1
    have ne := seg_ne (bs := bs) hf hl
    have wp : 1 ≤ sW (segB bs f l) := sW_pos ne fun b hb => wd.w1 b (seg_sub b hb)
    have wn : ((sW (segB bs f l) : Int) : Rat) ≠ 0 := q_intne (by omega)
    have ii := Rat.mul_inv_cancel _ wn
    have dW : FB 64 ((sW (segB bs f l) : Int) : Rat) := FB.ofInt (Bd.small (by omega) (by omega)) (by decide)
    have z := fit f l hf hl
    refine ⟨_, rfl, _, rfl, _, rfl, _, rfl, by show 2 ≤ sizeLine; decide, ?_⟩
    intro p5 n5
    obtain ⟨H5, q5, s5, e5⟩ := newO n5 (.tup [.int (sW (segB bs f l)), .int 1])
    rw [q5]
    clear q5
    have g5 : FQ K H5 p5 ((sW (segB bs f l) : Int) : Rat) := FQ.ofInt (SqT.of e5)
    refine ⟨ps, _, 345, p5, _, 64, rfl, Kw.Same.tup s5 gs, fp, g5, dW, by decide, wn, fun r6 H6 s6 g6 => ?_⟩
    refine ⟨_, rfl, _, rfl, by show 2 ≤ sizeLine; decide, ?_⟩
    intro p7 n7
    obtain ⟨H7, q7, s7, e7⟩ := newO n7 (.tup [.int (sW (segB bs f l)), .int 1])
    rw [q7]
    clear q7
    have g7 : FQ K H7 p7 ((sW (segB bs f l) : Int) : Rat) := FQ.ofInt (SqT.of e7)
    have s47 := s5.trans (s6.trans s7)
    refine ⟨pp, _, 104, p7, _, 64, rfl, Kw.Same.tup s47 gp, fv, g7, dW, by decide, wn, fun r8 H8 s8 g8 => ?_⟩
    refine ⟨_, rfl, by show 5 ≤ sizeLine; decide, ?_⟩
    intro p9 n9
    obtain ⟨H9, q9, s9, e9⟩ := newO n9 (.tup [.int (f : Int), .int (l : Int), .ref r6, .ref r8, .int (sW (segB bs f l))])
    rw [q9]
    clear q9
    refine k p9 H9 (s03.trans (s4.trans (s47.trans (s8.trans s9)))) ⟨p9, r6, r8, rfl, SqT.of e9, FQ.cast (Kw.Same.tup (s7.trans (s8.trans s9)) g6) ?_, FQ.cast (Kw.Same.tup s9 g8) rfl, ?_, z.2.mono (by decide), wp, w1⟩
    · show _ = plcQ (meanB (segB bs f l)) t
      rw [sP_mean wp, Rat.div_def]
      grind
    · show FB 300 (plcQ (meanB (segB bs f l)) t)
      unfold plcQ
      exact (FB.add z.1 (FB.mul z.2 dt)).mono (by decide)
noncomputable def sp_law_all (K : PySem.W.Frag) : Sp := fun vs H Q _ => ∃ (p : Addr) (xs : List V) (bs : List Bod) (q : Addr) (ys : List V) (ss : List (List Bod)) (u : Addr) (t : Rat), vs = [.ref p, .ref q, .ref u] ∧ H p = some (.lst xs) ∧ Al2 (BdQ K H 64) xs bs ∧ WdB bs ∧ FitM 40 bs ∧ H q = some (.lst ys) ∧ Al2 (FlQ K H) ys (numB 0 ss) ∧ StB bs ss ∧ FQ K H u t ∧ FB 200 t ∧ ∀ (r : Addr) (zs : List V) (H1 : Hp), Same H H1 → H r = none → H1 r = some (.lst zs) → Al2 (ClQ K H1 300) zs ((numB 0 ss).map (clT t)) → Q (.ref r) H1
theorem sc_law_all : FnScope ["_law_world_here", "_law_parts", "_law_moment"] ["_law_world_here", "_law_parts", "_law_moment"] (defScope (top 46)) := ⟨rfl, rfl, rfl, by decide +kernel, rfl, by decide +kernel, by decide +kernel⟩
theorem ok_law_all (D : Df K mg "_law_all" (top 46) ["_law_world_here", "_law_parts", "_law_moment"]) (T : Tx K mg CK C) (F_law_joined : Fn P w K mg base 3 "_law_joined" ["_law_world_here", "_law_first", "_law_last", "_law_moment"] (sp_law_joined K)) : Fn P w K mg base 4 "_law_all" ["_law_world_here", "_law_parts", "_law_moment"] (sp_law_all K) := by
  refine D.ok0 sc_law_all (fun vs H Q E h => ?_) (fun f0 cdv A outer s H vs Q E hr h => ?_)
  · obtain ⟨p, xs, bs, q, ys, ss, u, t, rfl, _⟩ := h
    rfl
  obtain ⟨p, xs, bs, q, ys, ss, u, t, rfl, hp, al, wd, fit, hq, ay, st, gt, dt, k⟩ := h
  refine ⟨_, (pss_one (ps_ret (@pe_lcG _ _ _ _ _ ["_law_first", "_law_last"] _ _ _ _ _ _ _ ["_law_world_here", "_law_moment"] [0, 2] rfl (pi_list (pv 1)) rfl (by decide) rfl (by decide) (fun C z Hc fp => pg_tupK (K := K) rfl (n := 2) rfl (pgs_cons (pg_name (i := 0) (show ((["_law_first", "_law_last"] : List Str) ++ (["_law_world_here", "_law_moment"] : List Str)).Nodup by decide) rfl (.inl (lookup_relabel_local rfl)) (.inr (lookup_relabel_local rfl))) (pgs_cons (pg_name (i := 1) (show ((["_law_first", "_law_last"] : List Str) ++ (["_law_world_here", "_law_moment"] : List Str)).Nodup by decide) rfl (.inl (lookup_relabel_local rfl)) (.inr (lookup_relabel_local rfl))) pgs_nil))) (cap_two (j := 0) (j' := 2) rfl rfl rfl rfl (.inl rfl) rfl rfl rfl rfl (.inl rfl)) (cl_two rfl rfl) (cap_fr rfl) (fun C z Hc fp => pts_nil) (fun C z Hc fp => (pe_fn F_law_joined (by decide) hr (by rfl) passE0 (pa_cons (pv 2) (pa_cons (pv 0) (pa_cons (pv 1) (pa_cons (pv 3) pa_nil)))))) (fun _ => rfl)))), ?_⟩
  have ly := Al2.len ay
  rw [numB_len] at ly
  have sl := st.len
  have l12 := wd.l12
  refine ⟨_, rfl, q, rfl, ⟨_, SqL.of hq⟩, lcg_list (K := K) (xs := ys) (fun i zs H' => i ≤ ys.length ∧ Same H H' ∧ Al2 (ClQ K H' 300) zs (((numB 0 ss).take i).map (clT t))) ⟨Nat.zero_le _, Same.refl _, trivial⟩ (Nat.le_trans (show ys.length ≤ 12 by omega) (by decide)) (fun i zs H1 z => by obtain ⟨l, _, e⟩ := z; have := Al2.len e; rw [List.length_map, List.length_take, numB_len] at this; omega) (fun i zs H1 z => by obtain ⟨_, g, _⟩ := z; exact SqL.of (g _ _ hq)) ?_ ?_⟩
  · rintro i x zs H1 Q1 loc ll hx ⟨hl, s1, hz⟩ kq
    have hi : i < ys.length := (List.getElem?_eq_some_iff.mp hx).1
    obtain ⟨c, hc, pf, rfl, f1⟩ := Al2.get (fls_same ay s1) hx
    obtain ⟨l1, l2, rfl⟩ : ∃ l1 l2, loc = [l1, l2] := match loc, ll with | [l1, l2], _ => ⟨l1, l2, rfl⟩
    have hs : ss[i]? = some ss[i] := List.getElem?_eq_getElem (by omega)
    have ng := numB_get 0 ss i _ hs
    rw [hc] at ng
    obtain ⟨sg, so, sp⟩ := st.get hs
    have ec : c = (offB ss i, offB ss i + ss[i].length - 1, meanB (segB bs (offB ss i) (offB ss i + ss[i].length - 1))) := by
      rw [sg]
      have z := Option.some.inj ng
      rw [Nat.zero_add] at z
      exact z
    have c1 : c.1 = offB ss i := by rw [ec]
    have c2 : c.2.1 = offB ss i + ss[i].length - 1 := by rw [ec]
    refine ⟨pf, _, rfl, f1, rfl, _, _, rfl, _, _, rfl, rfl, ?_⟩
    refine ⟨⟨[some (.int (c.1 : Int)), some (.int (c.2.1 : Int))], rfl, rfl⟩, ?_⟩
    refine ⟨_, rfl, _, rfl, _, rfl, _, rfl, p, xs, bs, c.1, c.2.1, u, t, rfl, s1 _ _ hp, bds_same al s1, wd, fit, by omega, by omega, Kw.Same.tup s1 gt, dt, fun r2 H2 s2 q2 => ?_⟩
    refine kq _ _ ⟨hi, s1.trans s2, ?_⟩
    rw [take_snoc hc, List.map_append]
    refine Al2.snoc (cls_same hz s2) ?_
    have ee : (c.1, c.2.1, meanB (segB bs c.1 c.2.1)) = c := by rw [c1, c2]; exact ec.symm
    rw [ee] at q2
    exact q2
  rintro zs H1 ⟨_, s1, hz⟩ pl hpl
  rw [List.take_of_length_le (by rw [numB_len]; omega)] at hz
  obtain ⟨H2, q2, s2, e2⟩ := newO hpl (.lst zs)
  rw [q2]
  clear q2
  exact k pl zs H2 (s1.trans s2) (none_of_sm s1 hpl) e2 (cls_same hz s2)
noncomputable def OptZ (K : PySem.W.Frag) (H : Hp) (v : V) (o : Option Rat) : Prop := (o = none ∧ v = .non) ∨ ∃ (q : Rat) (p : Addr), o = some q ∧ v = .ref p ∧ FQ K H p q ∧ FB 1300 q
theorem OptZ.same {H H' : Hp} {v : V} {o : Option Rat} (h : OptZ K H v o) (s : Same H H') : OptZ K H' v o := by
  rcases h with h | ⟨q, p, e, e2, g, d⟩
  · exact .inl h
  · exact .inr ⟨q, p, e, e2, Kw.Same.tup s g, d⟩
theorem take_fm (l : List (Option Rat)) {i : Nat} {o : Option Rat} (h : l[i]? = some o) : (l.take (i + 1)).filterMap id = (l.take i).filterMap id ++ o.toList := by
  rw [take_snoc h, List.filterMap_append]
  cases o <;> rfl
noncomputable def sp_law_next (K : PySem.W.Frag) : Sp := fun vs H Q _ => ∃ (p : Addr) (xs : List V) (bs : List Bod) (q : Addr) (ys : List V) (ss : List (List Bod)) (u : Addr) (t : Rat), vs = [.ref p, .ref q, .ref u] ∧ H p = some (.lst xs) ∧ Al2 (BdQ K H 64) xs bs ∧ WdB bs ∧ FitM 40 bs ∧ H q = some (.lst ys) ∧ Al2 (FlQ K H) ys (numB 0 ss) ∧ StB bs ss ∧ 1 ≤ ss.length ∧ FQ K H u t ∧ FB 200 t ∧ ∀ (v : V) (H1 : Hp), Same H H1 → OptR K H1 v (comS ss) → Q v H1
theorem sc_law_next : FnScope ["_law_world_here", "_law_parts", "_law_moment", "_law_least", "_law_some", "_law_k", "_law_one", "_law_other", "_law_time"] ["_law_world_here", "_law_parts", "_law_moment"] (defScope (top 47)) := ⟨rfl, rfl, rfl, by decide +kernel, rfl, by decide +kernel, by decide +kernel⟩
theorem ok_law_next (D : Df K mg "_law_next" (top 47) ["_law_world_here", "_law_parts", "_law_moment"]) (T : Tx K mg CK C) (F_law_all : Fn P w K mg base 4 "_law_all" ["_law_world_here", "_law_parts", "_law_moment"] (sp_law_all K)) (F_law_less : Fn P w K mg base 1 "_law_less" ["_law_one", "_law_other"] (sp_law_less K)) (F_law_over : Fn P w K mg base 2 "_law_over" ["_law_one", "_law_other"] (sp_law_over K)) (F_law_minus : Fn P w K mg base 2 "_law_minus" ["_law_one", "_law_other"] (sp_law_minus K)) (F_law_plus : Fn P w K mg base 2 "_law_plus" ["_law_one", "_law_other"] (sp_law_plus K)) : Fn P w K mg base 5 "_law_next" ["_law_world_here", "_law_parts", "_law_moment"] (sp_law_next K) := by
  refine D.ok0 sc_law_next (fun vs H Q E h => ?_) (fun f0 cdv A outer s H vs Q E hr h => ?_)
  · obtain ⟨p, xs, bs, q, ys, ss, u, t, rfl, _⟩ := h
    rfl
  obtain ⟨p, xs, bs, q, ys, ss, u, t, rfl, hp, al, wd, fit, hq, ay, st, ls1, gt, dt, k⟩ := h
  refine ⟨_, (pss_cons (ps_set (i := 3) sc_law_next.nd rfl (Or.inl rfl) pe_non)
      (pss_cons (ps_set (i := 4) sc_law_next.nd rfl (Or.inl rfl) (pe_fn F_law_all (by decide) hr (by rfl) passE0 (pa_cons (pv 0) (pa_cons (pv 1) (pa_cons (pv 2) pa_nil)))))
      (pss_cons (ps_for PassesOwn.never rfl (pi_range1 (by rfl) T.b_range (pa_cons (pe_op op_sub (pe_callB call_len (by rfl) T.b_len PyProof.Rows.Boot.«len» (pa_cons (pv 4) pa_nil)) pe_int) pa_nil)) (pg_name (i := 5) sc_law_next.nd rfl (Or.inl rfl)) (pss_cons (ps_par (i := 6) (j := 7) rfl sc_law_next.nd rfl rfl (by decide) rfl rfl (pa_cons (pe_ix ix_list (pv 4) (pv 5) (fun _ _ => rfl)) (pa_cons (pe_ix ix_list (pv 4) (pe_op op_add (pv 5) pe_int) (fun _ _ => rfl)) pa_nil)) rfl)
      (pss_one (ps_if (pt_val (pe_fn F_law_less (by decide) hr (by rfl) passE0 (pa_cons (pe_ix ix_tup (pv 7) pe_int (fun _ _ => rfl)) (pa_cons (pe_ix ix_tup (pv 6) pe_int (fun _ _ => rfl)) pa_nil))) (fun _ => rfl)) (pss_cons (ps_set (i := 8) sc_law_next.nd rfl (Or.inl rfl) (pe_fn F_law_over (by decide) hr (by rfl) passE0 (pa_cons (pe_fn F_law_minus (by decide) hr (by rfl) passE0 (pa_cons (pe_ix ix_tup (pv 7) pe_int (fun _ _ => rfl)) (pa_cons (pe_ix ix_tup (pv 6) pe_int (fun _ _ => rfl)) pa_nil))) (pa_cons (pe_fn F_law_minus (by decide) hr (by rfl) passE0 (pa_cons (pe_ix ix_tup (pv 6) pe_int (fun _ _ => rfl)) (pa_cons (pe_ix ix_tup (pv 7) pe_int (fun _ _ => rfl)) pa_nil))) pa_nil))))
      (pss_one (ps_if (pw_or (pt_cmpR op_isN (pv 3) pe_non (nomark _)) (pw_or1 (pt_val (pe_fn F_law_less (by decide) hr (by rfl) passE0 (pa_cons (pv 8) (pa_cons (pv 3) pa_nil))) (fun _ => rfl)))).pt (pss_one (ps_set (i := 3) sc_law_next.nd rfl (Or.inl rfl) (pv 8))) pss_nil))) pss_nil))))
      (pss_cons (ps_if (pt_cmpR op_isN (pv 3) pe_non (nomark _)) (pss_one (ps_ret pe_non)) pss_nil)
      (pss_one (ps_ret (pe_fn F_law_plus (by decide) hr (by rfl) passE0 (pa_cons (pv 2) (pa_cons (pv 3) pa_nil))))))))), ?_⟩
  have sl := st.len
  have l12 := wd.l12
  refine ⟨_, rfl, _, rfl, _, rfl, p, xs, bs, q, ys, ss, u, t, rfl, hp, al, wd, fit, hq, ay, st, gt, dt, fun r1 zs H1 s1 n1 e1 ac1 => ?_⟩
  have lz := Al2.len ac1
  rw [clT_len] at lz
  have lj : (jnts ((ss.map meanB).map (shB t))).length = ss.length - 1 := by rw [jnts_len, List.length_map, List.length_map]
  refine ⟨_, rfl, _, _, rfl, .inl ⟨_, SqL.of e1, rfl⟩, _, _, rfl, rfl, _, rfl, by omega, by omega, for_range (n := (((zs.length : Nat) : Int) - 1).toNat) (fun i σ1 H' => ∃ (v : V) (u5 u6 u7 u8 : Option V), σ1 = [some (.ref p), some (.ref q), some (.ref u), some v, some (.ref r1), u5, u6, u7, u8] ∧ Same H1 H' ∧ OptZ K H' v (leastQ (((jnts ((ss.map meanB).map (shB t))).take i).filterMap id))) ⟨.non, _, _, _, _, rfl, Same.refl _, .inl ⟨rfl, rfl⟩⟩ ?_ ?_⟩
  · rintro i σ1 H2 hi ⟨v, u5, u6, u7, u8, rfl, s2, ov⟩
    have i1 : i + 1 < ss.length := by omega
    obtain ⟨x, hx⟩ : ∃ x, zs[i]? = some x := ⟨_, List.getElem?_eq_getElem (by omega)⟩
    obtain ⟨y, hy⟩ : ∃ y, zs[i + 1]? = some y := ⟨_, List.getElem?_eq_getElem (by omega)⟩
    obtain ⟨a, ha, pa, aa, ac, rfl, a1, a2, a3, a4, a5, _⟩ := Al2.get (cls_same ac1 s2) hx
    obtain ⟨b, hb, pb, ba, bc, rfl, b1, b2, b3, b4, b5, _⟩ := Al2.get (cls_same ac1 s2) hy
    have hs1 : ss[i]? = some ss[i] := List.getElem?_eq_getElem (by omega)
    have hs2 : ss[i + 1]? = some ss[i + 1] := List.getElem?_eq_getElem i1
    have ea : a.2.2 = shB t (meanB ss[i]) := by
      rw [List.getElem?_map, numB_get 0 ss i _ hs1] at ha
      have z := Option.some.inj ha
      rw [← z]
      rfl
    have eb : b.2.2 = shB t (meanB ss[i + 1]) := by
      rw [List.getElem?_map, numB_get 0 ss (i + 1) _ hs2] at hb
      have z := Option.some.inj hb
      rw [← z]
      rfl
    have jn : (jnts ((ss.map meanB).map (shB t)))[i]? = some (jntQ a.2.2 b.2.2) := by
      rw [ea, eb]
      exact jnts_get (by rw [List.getElem?_map, List.getElem?_map, hs1]; rfl) (by rw [List.getElem?_map, List.getElem?_map, hs2]; rfl)
    have e12 := s2 _ _ e1
    have aty : atI zs (0 + (i : Int) + 1) = some (.ref pb) := by
      have z := atI_nat hy
      rwa [show (((i + 1 : Nat)) : Int) = 0 + (i : Int) + 1 by omega] at z
    refine ⟨_, rfl, _, rfl, r1, _, _, _, rfl, rfl, SqL.of e12, atI_z hx, _, rfl, _, rfl, _, _, rfl, rfl, r1, _, _, _, rfl, rfl, SqL.of e12, aty, _, _, rfl, ?_⟩
    refine ⟨_, rfl, pb, _, _, _, rfl, rfl, b1, rfl, _, rfl, pa, _, _, _, rfl, rfl, a1, rfl, bc, _, ac, _, rfl, b3, b5.mono (by decide), a3, a5.mono (by decide), fun H3 s3 => ⟨_, rfl, ?_⟩⟩
    have s23 := s2.trans s3
    refine if_dec (fun c => ?_) (fun c => ?_)
    · have jq : jntQ a.2.2 b.2.2 = some ((b.2.2.1 - a.2.2.1) / (a.2.2.2.1 - b.2.2.2.1)) := by
        unfold jntQ
        rw [if_neg (by grind)]
      have a12 := Kw.Same.tup s3 a1
      have b12 := Kw.Same.tup s3 b1
      refine ⟨_, rfl, pb, _, _, _, rfl, rfl, b12, rfl, _, rfl, pa, _, _, _, rfl, rfl, a12, rfl, ba, _, 300, aa, _, 300, rfl, Kw.Same.tup s3 b2, b4, Kw.Same.tup s3 a2, a4, by decide, fun r4 H4 s4 g4 => ?_⟩
      have s34 := s3.trans s4
      refine ⟨_, rfl, pa, _, _, _, rfl, rfl, Kw.Same.tup s34 a1, rfl, _, rfl, pb, _, _, _, rfl, rfl, Kw.Same.tup s34 b1, rfl, ac, _, 300, bc, _, 300, rfl, Kw.Same.tup s34 a3, a5, Kw.Same.tup s34 b3, b5, by decide, fun r5 H5 s5 g5 => ?_⟩
      have d4 : FB 601 (b.2.2.1 - a.2.2.1) := (FB.sub b4 a4).mono (by decide)
      have d5 : FB 601 (a.2.2.2.1 - b.2.2.2.1) := (FB.sub a5 b5).mono (by decide)
      have ne : a.2.2.2.1 - b.2.2.2.1 ≠ 0 := by grind
      refine ⟨r4, _, 601, r5, _, 601, rfl, Kw.Same.tup s5 g4, d4, g5, d5, by decide, ne, fun r6 H6 s6 g6 => ?_⟩
      have d6 : FB 1300 ((b.2.2.1 - a.2.2.1) / (a.2.2.2.1 - b.2.2.2.1)) := (FB.div d4 d5 ne).mono (by decide)
      have s26 := s2.trans (s34.trans (s5.trans s6))
      have nx := leastQ_snoc (((jnts ((ss.map meanB).map (shB t))).take i).filterMap id) ((b.2.2.1 - a.2.2.1) / (a.2.2.2.1 - b.2.2.2.1))
      have tf := take_fm _ jn
      rw [jq] at tf
      have tf' : ((jnts ((ss.map meanB).map (shB t))).take (i + 1)).filterMap id = ((jnts ((ss.map meanB).map (shB t))).take i).filterMap id ++ [(b.2.2.1 - a.2.2.1) / (a.2.2.2.1 - b.2.2.2.1)] := tf
      rw [← tf'] at nx
      generalize (b.2.2.1 - a.2.2.1) / (a.2.2.2.1 - b.2.2.2.1) = qq at g6 d6 nx
      have ov6 := ov.same (s34.trans (s5.trans s6))
      rcases ov6 with ⟨e0, rfl⟩ | ⟨lq, pl, e0, rfl, gl, dl⟩
      · rw [e0] at nx
        refine ⟨_, rfl, rfl, _, rfl, iteT ?_⟩
        refine iteT ?_
        exact ⟨_, rfl, _, _, _, _, _, rfl, s26, .inr ⟨qq, r6, nx, rfl, g6, d6⟩⟩
      · rw [e0] at nx
        refine ⟨_, rfl, rfl, _, rfl, iteF ?_⟩
        refine ⟨_, rfl, _, rfl, r6, _, pl, _, rfl, g6, d6.mono (by decide), gl, dl.mono (by decide), fun H7 s7 => ⟨_, rfl, ?_⟩⟩
        refine if_dec (fun c2 => ?_) (fun c2 => ?_)
        · have e : less1 (some lq) qq = some qq := if_pos c2
          rw [e] at nx
          exact ⟨_, rfl, _, _, _, _, _, rfl, s26.trans s7, .inr ⟨qq, r6, nx, rfl, Kw.Same.tup s7 g6, d6⟩⟩
        · have e : less1 (some lq) qq = some lq := if_neg c2
          rw [e] at nx
          exact ⟨_, _, _, _, _, rfl, s26.trans s7, .inr ⟨lq, pl, nx, rfl, Kw.Same.tup s7 gl, dl⟩⟩
    · have jq : jntQ a.2.2 b.2.2 = none := by
        unfold jntQ
        rw [if_pos (by grind)]
      refine ⟨v, _, _, _, _, rfl, s23, ?_⟩
      have tf := take_fm _ jn
      rw [jq] at tf
      have tf' : ((jnts ((ss.map meanB).map (shB t))).take (i + 1)).filterMap id = ((jnts ((ss.map meanB).map (shB t))).take i).filterMap id ++ [] := tf
      rw [tf', List.append_nil]
      exact ov.same s3
  · rintro σ1 H2 ⟨v, u5, u6, u7, u8, rfl, s2, ov⟩
    have en : (jnts ((ss.map meanB).map (shB t))).take (((zs.length : Nat) : Int) - 1).toNat = jnts ((ss.map meanB).map (shB t)) := List.take_of_length_le (by omega)
    rw [en] at ov
    have ec : leastQ ((jnts ((ss.map meanB).map (shB t))).filterMap id) = (comS ss).map (· - t) := cmng_sh t (ss.map meanB)
    rw [ec] at ov
    have s12 := s1.trans s2
    rcases ov with ⟨e0, rfl⟩ | ⟨lq, pl, e0, rfl, gl, dl⟩
    · have ec0 : comS ss = none := by
        cases q' : comS ss with
        | none => rfl
        | some z => rw [q'] at e0; cases e0
      refine ⟨_, rfl, rfl, _, rfl, iteT ?_⟩
      exact k _ H2 s12 (.inl ⟨ec0, rfl⟩)
    · obtain ⟨T0, eT, e1'⟩ : ∃ T0, comS ss = some T0 ∧ T0 - t = lq := by
        cases q' : comS ss with
        | none => rw [q'] at e0; cases e0
        | some z => rw [q'] at e0; exact ⟨z, rfl, Option.some.inj e0⟩
      refine ⟨_, rfl, rfl, _, rfl, iteF ?_⟩
      refine ⟨_, rfl, _, rfl, u, _, 200, pl, _, 1300, rfl, Kw.Same.tup s12 gt, dt, gl, dl, by decide, fun r3 H3 s3 g3 => ?_⟩
      have eq0 : t + lq = T0 := by grind
      rw [eq0] at g3
      exact k _ H3 (s12.trans s3) (.inr ⟨T0, r3, eT, rfl, g3, (com_fb2 fit st eT).mono (by decide)⟩)
theorem at_neg1 {xs : List V} {x : V} (h : xs[xs.length - 1]? = some x) : ixN xs.length (-1) = some (xs.length - 1) := by
  have l := (List.getElem?_eq_some_iff.mp h).1
  unfold ixN
  simp
  omega
noncomputable def sp_law_put_together (K : PySem.W.Frag) : Sp := fun vs H Q _ => ∃ (p : Addr) (xs : List V) (bs : List Bod) (q : Addr) (ys : List V) (ss : List (List Bod)) (u : Addr) (t : Rat), vs = [.ref p, .ref q, .ref u] ∧ H p = some (.lst xs) ∧ Al2 (BdQ K H 64) xs bs ∧ WdB bs ∧ FitM 40 bs ∧ H q = some (.lst ys) ∧ Al2 (FlQ K H) ys (numB 0 ss) ∧ StB bs ss ∧ FQ K H u t ∧ FB 200 t ∧ ∀ (r : Addr) (zs : List V) (H1 : Hp), Same H H1 → H r = none → H1 r = some (.lst zs) → Al2 (FlQ K H1) zs (numB 0 (stkS t ss)) → Q (.ref r) H1
theorem sc_law_put_together : FnScope ["_law_world_here", "_law_parts", "_law_moment", "_law_found", "_law_place", "_law_one"] ["_law_world_here", "_law_parts", "_law_moment"] (defScope (top 48)) := ⟨rfl, rfl, rfl, by decide +kernel, rfl, by decide +kernel, by decide +kernel⟩
theorem ok_law_put_together (D : Df K mg "_law_put_together" (top 48) ["_law_world_here", "_law_parts", "_law_moment"]) (T : Tx K mg CK C) (F_law_all : Fn P w K mg base 4 "_law_all" ["_law_world_here", "_law_parts", "_law_moment"] (sp_law_all K)) : Fn P w K mg base 5 "_law_put_together" ["_law_world_here", "_law_parts", "_law_moment"] (sp_law_put_together K) := by
  refine D.ok0 sc_law_put_together (fun vs H Q E h => ?_) (fun f0 cdv A outer s H vs Q E hr h => ?_)
  · obtain ⟨p, xs, bs, q, ys, ss, u, t, rfl, _⟩ := h
    rfl
  obtain ⟨p, xs, bs, q, ys, ss, u, t, rfl, hp, al, wd, fit, hq, ay, st, gt, dt, k⟩ := h
  refine ⟨_, (pss_cons (ps_set (i := 3) sc_law_put_together.nd rfl (Or.inl rfl) (pe_lst pa_nil))
      (pss_cons (ps_set (i := 4) sc_law_put_together.nd rfl (Or.inl rfl) pe_non)
      (pss_cons (ps_for PassesOwn.never rfl (pi_list (pe_fn F_law_all (by decide) hr (by rfl) passE0 (pa_cons (pv 0) (pa_cons (pv 1) (pa_cons (pv 2) pa_nil))))) (pg_name (i := 5) sc_law_put_together.nd rfl (Or.inl rfl)) (pss_cons (ps_if (pt_cmpR (op_eqD (K := K) rfl (u100 hr)) (pv 4) (pe_ix ix_tup (pv 5) pe_int (fun _ _ => rfl)) (nomark _)) (pss_one (ps_asg (pe_tup (pa_cons (pe_ix ix_tup (pe_ix ix_list (pv 3) (pe_un un_neg pe_int) (fun _ _ => rfl)) pe_int (fun _ _ => rfl)) (pa_cons (pe_ix ix_tup (pv 5) pe_int (fun _ _ => rfl)) pa_nil))) (pg_sub (pv 3) (pe_un un_neg pe_int) set_list))) (pss_one (ps_expr (pe_bm PySem.F.plainAttrs_list PySem.F.slot_list_append PySem.F.type_list_append mt_append (pv 3) (pa_cons (pe_tup (pa_cons (pe_ix ix_tup (pv 5) pe_int (fun _ _ => rfl)) (pa_cons (pe_ix ix_tup (pv 5) pe_int (fun _ _ => rfl)) pa_nil))) pa_nil)))))
      (pss_one (ps_set (i := 4) sc_law_put_together.nd rfl (Or.inl rfl) (pe_ix ix_tup (pv 5) pe_int (fun _ _ => rfl))))))
      (pss_one (ps_ret (pv 3)))))), ?_⟩
  have sl := st.len
  have l12 := wd.l12
  have pos := StB.pos wd st
  refine ⟨by show 0 ≤ sizeLine; decide, ?_⟩
  intro p1 n1
  obtain ⟨H1, q1, s1, e1⟩ := newO n1 (.lst [])
  rw [q1]
  clear q1
  have pp1 : p ≠ p1 := ne_of_none hp n1
  refine ⟨_, rfl, _, rfl, _, rfl, p, xs, bs, q, ys, ss, u, t, rfl, s1 _ _ hp, bds_same al s1, wd, fit, s1 _ _ hq, fls_same ay s1, st, Kw.Same.tup s1 gt, dt, fun r2 zs H2 s2 n2 e2 ac2 => ?_⟩
  have lz := Al2.len ac2
  rw [clT_len] at lz
  have e12 := s2 _ _ e1
  have r2p : r2 ≠ p1 := Ne.symm (ne_of_none e1 n2)
  have nt2 : NoT [p1] H2 := NoT.lst e12 NoT.nil
  refine ⟨r2, rfl, ⟨_, SqL.of e2⟩, for_list (K := K) (a := r2) (xs := zs) (fun i σ1 H' => ∃ (v : V) (u5 : Option V) (o : Option Rat) (ws : List V), σ1 = [some (.ref p), some (.ref q), some (.ref u), some (.ref p1), some v, u5] ∧ But p1 H2 H' ∧ H' p1 = some (.lst ws) ∧ Al2 (FlQ K H') ws (numB 0 (stkS t (ss.take i))) ∧ OptR K H' v o ∧ (i = 0 → o = none) ∧ (∀ s, 0 < i → ss[i - 1]? = some s → o = some (plcQ (meanB s) t))) ⟨.non, _, none, [], rfl, But.refl _, e12, trivial, .inl ⟨rfl, rfl⟩, (fun _ => rfl), fun _ z => absurd z (Nat.lt_irrefl _)⟩ (by rintro _ _ _ _ ⟨_, _, _, _, _, g, _⟩; exact SqL.of (g _ _ r2p e2)) ?_ ?_⟩
  · rintro i x σ1 H3 hx ⟨v, u5, o, ws, rfl, s3, h3, aw, ov, o0, o1⟩
    have hi : i < zs.length := (List.getElem?_eq_some_iff.mp hx).1
    have b3 : Buts [p1] H2 H3 := Buts.one s3 (List.mem_singleton.mpr rfl)
    obtain ⟨c, hc, pb, pa, pc, rfl, x1, x2, x3, x4, x5, x6, x7⟩ := Al2.get (cls_buts ac2 b3 nt2) hx
    have hs : ss[i]? = some ss[i] := List.getElem?_eq_getElem (by omega)
    generalize ss[i] = sg at hs
    have ec : c = clT t (0 + offB ss i, 0 + offB ss i + sg.length - 1, meanB sg) := by
      rw [List.getElem?_map, numB_get 0 ss i _ hs] at hc
      exact (Option.some.inj hc).symm
    have c1 : c.1 = offB ss i := by rw [ec]; show 0 + offB ss i = _; omega
    have c2 : c.2.1 = offB ss i + sg.length - 1 := by rw [ec]; show 0 + offB ss i + sg.length - 1 = _; omega
    have c3 : c.2.2.1 = plcQ (meanB sg) t := by rw [ec]; rfl
    have psg := (st.get hs).2.2
    have lw := Al2.len aw
    rw [numB_len] at lw
    have tl : (ss.take i).length = i := by rw [List.length_take]; omega
    have tks := take_snoc hs
    have stk_le : (stkS t (ss.take i)).length ≤ 12 := by
      unfold stkS
      by_cases e : ss.take i = []
      · rw [e]; exact Nat.zero_le _
      · have z := stk_len (jsT t (ss.take i)) (ss.take i) (by rw [jsT_len]; have := List.length_pos_iff.mpr e; omega)
        omega
    have op : OptR K H3 (.ref pa) (some (plcQ (meanB sg) t)) := .inr ⟨_, pa, rfl, rfl, by rw [← c3]; exact x2, by rw [← c3]; exact x4.mono (by decide)⟩
    obtain ⟨d, d', hd, hd', cl, cl', dep, ev⟩ := OptR.dp ov op
    refine ⟨_, rfl, _, rfl, pb, _, _, _, rfl, rfl, x1, rfl, d, d', hd, hd', cl, cl', dep, ?_⟩
    refine ⟨_, rfl, ?_⟩
    show if PyData.eqv d d' = true then _ else _
    rw [ev]
    refine if_dec (fun c0 => ?_) (fun c0 => ?_)
    ·
      have i1 : 0 < i := by
        by_cases e : i = 0
        · rw [o0 e] at c0; cases c0
        · omega
      have hsl : ss[i - 1]? = some (ss[i - 1]'(by omega)) := List.getElem?_eq_getElem (by omega)
      generalize ss[i - 1]'(by omega) = sl' at hsl
      have oe := o1 sl' i1 hsl
      rw [oe] at c0
      have pe : plcQ (meanB sl') t = plcQ (meanB sg) t := Option.some.inj c0
      obtain ⟨s0, rest, er⟩ : ∃ s0 rest, ss.take i = s0 :: rest := by
        cases q' : ss.take i with
        | nil => rw [q'] at tl; simp at tl; omega
        | cons s0 rest => exact ⟨s0, rest, rfl⟩
      have gl : (s0 :: rest).getLast? = some sl' := by
        rw [← er, List.getLast?_eq_getElem?, tl, List.getElem?_take_of_lt (by omega)]
        exact hsl
      obtain ⟨A', m', k1, ⟨pre, k2⟩, k3⟩ := stk_snoc t rest s0 sg sl' (fun z hz' => pos z (List.mem_of_mem_take (by rw [er]; exact hz'))) gl
      rw [if_pos pe] at k3
      have eS : stkS t (ss.take i) = A' ++ [m'] := by unfold stkS; rw [er]; exact k1
      have eN : stkS t (ss.take (i + 1)) = A' ++ [m' ++ sg] := by unfold stkS; rw [tks, er]; exact k3
      rw [eS, numB_app] at aw
      have offI : offB ss i = A'.flatten.length + m'.length := by
        have z := congrArg (fun l : List (List Bod) => l.flatten.length) eS
        have z2 : (stkS t (ss.take i)).flatten = (ss.take i).flatten := by unfold stkS; exact stk_flat _ _
        unfold offB
        rw [← z2, eS, List.flatten_append, List.length_append]
        simp
      have pm : 1 ≤ m'.length := by
        rw [k2, List.length_append]
        have := List.length_pos_iff.mpr (st.ne sl' (List.mem_of_getElem? hsl))
        omega
      have law : ws.length = A'.length + 1 := by rw [lw, eS]; simp
      obtain ⟨wl, hwl⟩ : ∃ z, ws[ws.length - 1]? = some z := ⟨_, List.getElem?_eq_getElem (by omega)⟩
      obtain ⟨cl0, hcl0, pw, rfl, w1⟩ := Al2.get aw hwl
      have ecl : cl0 = (0 + A'.flatten.length, 0 + A'.flatten.length + m'.length - 1, meanB m') := by
        rw [List.getElem?_append_right (by rw [numB_len]; omega), numB_len, show ws.length - 1 - A'.length = 0 by omega] at hcl0
        exact (Option.some.inj hcl0).symm
      have cl1 : cl0.1 = A'.flatten.length := by rw [ecl]; show 0 + _ = _; omega
      refine ⟨_, rfl, 1, rfl, p1, _, _, _, rfl, rfl, SqL.of h3, at_last hwl, pw, _, _, _, rfl, rfl, w1, rfl, _, rfl, pb, _, _, _, rfl, rfl, x1, rfl, by show 2 ≤ sizeLine; decide, ?_⟩
      intro p4 n4
      obtain ⟨H4, q4, s4, e4⟩ := newO n4 (.tup [.int (cl0.1 : Int), .int (c.2.1 : Int)])
      rw [q4]
      clear q4
      have h34 := s4 _ _ h3
      refine ⟨_, rfl, 1, rfl, p1, ws, -1, ws.length - 1, rfl, rfl, h34, at_neg1 hwl, ?_⟩
      obtain ⟨H5, q5, s5, e5⟩ := newB (H := H4) (p := p1) (.lst (ws.set (ws.length - 1) (.ref p4)))
      dsimp only
      rw [q5]
      clear q5
      have nt4 : NoT [p1] H4 := NoT.lst h34 NoT.nil
      have b5 : Buts [p1] H4 H5 := Buts.one s5 (List.mem_singleton.mpr rfl)
      have x15 := b5.tup nt4 (Kw.Same.tup s4 x1)
      refine ⟨_, rfl, pb, _, _, _, rfl, rfl, x15, rfl, _, _, some (plcQ (meanB sg) t), ws.set (ws.length - 1) (.ref p4), rfl, s3.trans ((But.of s4).trans s5), e5, ?_, ((op.same s4).buts b5 nt4), (fun z => absurd z (by omega)), fun s' _ hs' => ?_⟩
      · rw [eN, numB_app]
        have ew : ws.set (ws.length - 1) (.ref p4) = ws.dropLast ++ [.ref p4] := set_last _ (fun z => by rw [z] at law; simp at law)
        rw [ew]
        refine Al2.snoc (fls_buts (fls_same (al_dropLast aw) s4) b5 nt4) ⟨p4, rfl, ?_⟩
        have e4' := b5.tup nt4 (SqT.of (K := K) e4)
        show SqT K H5 p4 [.int ((0 + A'.flatten.length : Nat) : Int), .int ((0 + A'.flatten.length + (m' ++ sg).length - 1 : Nat) : Int)]
        rw [Nat.zero_add, ← cl1, List.length_append, show cl0.1 + (m'.length + sg.length) - 1 = c.2.1 by omega]
        exact e4'
      · rw [Nat.add_sub_cancel, hs] at hs'
        cases hs'
        rfl
    · have eN : stkS t (ss.take (i + 1)) = stkS t (ss.take i) ++ [sg] := by
        by_cases e : i = 0
        · subst e
          rw [tks]
          rfl
        · have hsl : ss[i - 1]? = some (ss[i - 1]'(by omega)) := List.getElem?_eq_getElem (by omega)
          generalize ss[i - 1]'(by omega) = sl' at hsl
          have oe := o1 sl' (by omega) hsl
          rw [oe] at c0
          have pe : ¬ plcQ (meanB sl') t = plcQ (meanB sg) t := fun z => c0 (by rw [z])
          obtain ⟨s0, rest, er⟩ : ∃ s0 rest, ss.take i = s0 :: rest := by
            cases q' : ss.take i with
            | nil => rw [q'] at tl; simp at tl; omega
            | cons s0 rest => exact ⟨s0, rest, rfl⟩
          have gl : (s0 :: rest).getLast? = some sl' := by
            rw [← er, List.getLast?_eq_getElem?, tl, List.getElem?_take_of_lt (by omega)]
            exact hsl
          obtain ⟨A', m', k1, _, k3⟩ := stk_snoc t rest s0 sg sl' (fun z hz' => pos z (List.mem_of_mem_take (by rw [er]; exact hz'))) gl
          rw [if_neg pe] at k3
          unfold stkS
          rw [tks, er, k1]
          have k3' : stk (jsT t (s0 :: rest ++ [sg])) (s0 :: rest ++ [sg]) = A' ++ [m', sg] := k3
          rw [k3']
          simp
      have offI : offB ss i = (stkS t (ss.take i)).flatten.length := by
        have z2 : (stkS t (ss.take i)).flatten = (ss.take i).flatten := by unfold stkS; exact stk_flat _ _
        rw [z2]
        rfl
      refine ⟨_, rfl, .inl ⟨rfl, _, SqL.of h3⟩, _, rfl, pb, _, _, _, rfl, rfl, x1, rfl, _, rfl, pb, _, _, _, rfl, rfl, x1, rfl, by show 2 ≤ sizeLine; decide, ?_⟩
      intro p4 n4
      obtain ⟨H4, q4, s4, e4⟩ := newO n4 (.tup [.int (c.1 : Int), .int (c.2.1 : Int)])
      rw [q4]
      clear q4
      have h34 := s4 _ _ h3
      refine ⟨p1, _, _, rfl, rfl, h34, Nat.lt_of_le_of_lt (show ws.length ≤ 12 by omega) (by decide), ?_⟩
      obtain ⟨H5, q5, s5, e5⟩ := newB (H := H4) (p := p1) (.lst (ws ++ [.ref p4]))
      dsimp only
      rw [q5]
      clear q5
      have nt4 : NoT [p1] H4 := NoT.lst h34 NoT.nil
      have b5 : Buts [p1] H4 H5 := Buts.one s5 (List.mem_singleton.mpr rfl)
      have x15 := b5.tup nt4 (Kw.Same.tup s4 x1)
      refine ⟨_, rfl, pb, _, _, _, rfl, rfl, x15, rfl, _, _, some (plcQ (meanB sg) t), ws ++ [.ref p4], rfl, s3.trans ((But.of s4).trans s5), e5, ?_, ((op.same s4).buts b5 nt4), (fun z => absurd z (by omega)), fun s' _ hs' => ?_⟩
      · rw [eN, numB_app]
        refine Al2.snoc (fls_buts (fls_same aw s4) b5 nt4) ⟨p4, rfl, ?_⟩
        have e4' := b5.tup nt4 (SqT.of (K := K) e4)
        show SqT K H5 p4 [.int ((0 + (stkS t (ss.take i)).flatten.length : Nat) : Int), .int ((0 + (stkS t (ss.take i)).flatten.length + sg.length - 1 : Nat) : Int)]
        rw [Nat.zero_add, ← offI, ← c1, show c.1 + sg.length - 1 = c.2.1 by omega]
        exact e4'
      · rw [Nat.add_sub_cancel, hs] at hs'
        cases hs'
        rfl
  · rintro σ1 H3 ⟨v, u5, o, ws, rfl, s3, h3, aw, ov, o0, o1⟩
    rw [List.take_of_length_le (show ss.length ≤ zs.length by omega)] at aw
    exact ⟨_, rfl, k p1 ws H3 (fun a o ha => s3 a o (ne_of_none ha n1) (s2 _ _ (s1 a o ha))) n1 h3 aw⟩
noncomputable def sp_law_history (K : PySem.W.Frag) : Sp := fun vs H Q _ => ∃ (p : Addr) (xs : List V) (bs : List Bod), vs = [.ref p] ∧ H p = some (.lst xs) ∧ Al2 (BdQ K H 64) xs bs ∧ 1 ≤ bs.length ∧ WdB bs ∧ FitM 40 bs ∧ Asc bs ∧ ∀ (r : Addr) (zs : List V) (H1 : Hp), Same H H1 → H r = none → H1 r = some (.lst zs) → Al2 (HiQ K H1 r) zs (hisB bs) → zs.length ≤ 13 → Q (.ref r) H1
theorem sc_law_history : FnScope ["_law_world_here", "_law_parts", "_law_found", "_law_moment"] ["_law_world_here"] (defScope (top 49)) := ⟨rfl, rfl, rfl, by decide +kernel, rfl, by decide +kernel, by decide +kernel⟩
theorem ok_law_history (D : Df K mg "_law_history" (top 49) ["_law_world_here"]) (T : Tx K mg CK C) (F_law_next : Fn P w K mg base 5 "_law_next" ["_law_world_here", "_law_parts", "_law_moment"] (sp_law_next K)) (F_law_put_together : Fn P w K mg base 5 "_law_put_together" ["_law_world_here", "_law_parts", "_law_moment"] (sp_law_put_together K)) : Fn P w K mg base 6 "_law_history" ["_law_world_here"] (sp_law_history K) := by
  refine D.ok0 sc_law_history (fun vs H Q E h => ?_) (fun f0 cdv A outer s H vs Q E hr h => ?_)
  · obtain ⟨p, xs, bs, rfl, _⟩ := h
    rfl
  obtain ⟨p, xs, bs, rfl, hp, al, l1, wd, fit, asc, k⟩ := h
  refine ⟨_, (pss_cons (@ps_lc _ _ _ _ _ _ _ _ _ _ [] [] 1 _ _ _ sc_law_history.nd rfl rfl rfl rfl (pi_range1 (by rfl) T.b_range (pa_cons (pe_callB call_len (by rfl) T.b_len PyProof.Rows.Boot.«len» (pa_cons (pv 0) pa_nil)) pa_nil)) rfl (by decide) rfl (by decide) rfl (by decide) cap_none (fun _ _ h => nomatch h) (no_free rfl) (fun C z Hc fp => (pe_tup (pa_cons (pv 0) (pa_cons (pv 0) pa_nil)))) (fun _ => rfl))
      (pss_cons (ps_set (i := 2) sc_law_history.nd rfl (Or.inl rfl) (pe_lst (pa_cons (pe_tup (pa_cons (pe_tup (pa_cons pe_int (pa_cons pe_int pa_nil))) (pa_cons (pv 1) pa_nil))) pa_nil)))
      (pss_cons (ps_set (i := 3) sc_law_history.nd rfl (Or.inl rfl) (pe_fn F_law_next (by decide) hr (by rfl) passE0 (pa_cons (pv 0) (pa_cons (pv 1) (pa_cons (pe_tup (pa_cons pe_int (pa_cons pe_int pa_nil))) pa_nil)))))
      (pss_cons (ps_while PassesOwn.never (pt_cmpR op_notN (pv 3) pe_non (nomark _)) (pss_cons (ps_set (i := 1) sc_law_history.nd rfl (Or.inl rfl) (pe_fn F_law_put_together (by decide) hr (by rfl) passE0 (pa_cons (pv 0) (pa_cons (pv 1) (pa_cons (pv 3) pa_nil)))))
      (pss_cons (ps_expr (pe_bm PySem.F.plainAttrs_list PySem.F.slot_list_append PySem.F.type_list_append mt_append (pv 2) (pa_cons (pe_tup (pa_cons (pv 3) (pa_cons (pv 1) pa_nil))) pa_nil)))
      (pss_one (ps_set (i := 3) sc_law_history.nd rfl (Or.inl rfl) (pe_fn F_law_next (by decide) hr (by rfl) passE0 (pa_cons (pv 0) (pa_cons (pv 1) (pa_cons (pv 3) pa_nil)))))))))
      (pss_one (ps_ret (pv 2))))))), ?_⟩
  have hz := Al2.len al
  have l12 := wd.l12
  have lo : (oneS bs).length = bs.length := by unfold oneS; rw [List.length_map]
  have d0 : FB 162 (0 : Rat) := (FB.ofInt (n := 64) (Bd.small (i := 0) (by decide) (by decide)) (by decide)).mono (by decide)
  refine ⟨_, rfl, _, _, rfl, .inl ⟨_, SqL.of hp, rfl⟩, _, rfl, by omega, by omega, lc_range (lo := 0) (n := ((xs.length : Nat) : Int).toNat) (fun i ys H' => i ≤ xs.length ∧ Same H H' ∧ Al2 (FlQ K H') ys ((numB 0 (oneS bs)).take i)) ⟨Nat.zero_le _, Same.refl _, trivial⟩ (Nat.le_trans (show ((xs.length : Nat) : Int).toNat ≤ 12 by omega) (by decide)) (fun i ys H1 z => by obtain ⟨l, _, e⟩ := z; have := Al2.len e; rw [List.length_take, numB_len] at this; omega) ?_ ?_⟩
  · rintro i ys H1 Q1 hi ⟨hl, s1, hy⟩ kq
    have hi2 : i < bs.length := by omega
    refine ⟨_, rfl, _, rfl, by show 2 ≤ sizeLine; decide, ?_⟩
    intro p2 n2
    obtain ⟨H2, q2, s2, e2⟩ := newO n2 (.tup [.int (0 + (i : Int)), .int (0 + (i : Int))])
    rw [q2]
    clear q2
    have hs : (oneS bs)[i]? = some [bs[i]] := by unfold oneS; rw [List.getElem?_map, List.getElem?_eq_getElem hi2]; rfl
    have hn := numB_get 0 (oneS bs) i _ hs
    have ho : offB (oneS bs) i = i := off_one bs i (by omega)
    refine kq _ _ ⟨by omega, s1.trans s2, ?_⟩
    rw [take_snoc hn]
    refine Al2.snoc (fls_same hy s2) ⟨p2, rfl, ?_⟩
    show SqT K H2 p2 [.int ((0 + offB (oneS bs) i : Nat) : Int), .int ((0 + offB (oneS bs) i + 1 - 1 : Nat) : Int)]
    rw [ho, show ((0 + i : Nat) : Int) = 0 + (i : Int) by omega, show ((0 + i + 1 - 1 : Nat) : Int) = 0 + (i : Int) by omega]
    exact SqT.of e2
  rintro ys H1 ⟨_, s1, hy⟩ pp0 hpl
  rw [List.take_of_length_le (by rw [numB_len]; omega)] at hy
  obtain ⟨H2, q2, s2, e2⟩ := newO hpl (.lst ys)
  rw [q2]
  clear q2
  have hy2 := fls_same hy s2
  refine ⟨by show 2 ≤ sizeLine; decide, ?_⟩
  intro p3 n3
  obtain ⟨H3, q3, s3, e3⟩ := newO n3 (.tup [.int 0, .int 1])
  rw [q3]
  clear q3
  refine ⟨_, rfl, by show 2 ≤ sizeLine; decide, ?_⟩
  intro p4 n4
  obtain ⟨H4, q4, s4, e4⟩ := newO n4 (.tup [.ref p3, .ref pp0])
  rw [q4]
  clear q4
  refine ⟨by show 1 ≤ sizeLine; decide, ?_⟩
  intro p5 n5
  obtain ⟨H5, q5, s5, e5⟩ := newO n5 (.lst [.ref p4])
  rw [q5]
  clear q5
  have s25 := s3.trans (s4.trans s5)
  have s05 := s1.trans (s2.trans s25)
  have n50 : H p5 = none := none_of_sm (s1.trans (s2.trans (s3.trans s4))) n5
  have pp5 : pp0 ≠ p5 := ne_of_none (s4 _ _ (s3 _ _ e2)) n5
  have g3 : FQ K H5 p3 0 := FQ.cast (FQ.ofInt (SqT.of (s5 _ _ (s4 _ _ e3)))) rfl
  have ah5 : Al2 (HiQ K H5 p5) [.ref p4] [((0 : Rat), oneS bs)] := ⟨⟨p4, p3, pp0, ys, rfl, SqT.of (s5 _ _ e4), g3, s25 _ _ e2, fls_same hy2 s25, pp5⟩, trivial⟩
  refine ⟨_, rfl, _, rfl, by show 2 ≤ sizeLine; decide, ?_⟩
  intro p6 n6
  obtain ⟨H6, q6, s6, e6⟩ := newO n6 (.tup [.int 0, .int 1])
  rw [q6]
  clear q6
  have g6 : FQ K H6 p6 0 := FQ.cast (FQ.ofInt (SqT.of e6)) rfl
  have s06 := s05.trans s6
  refine ⟨p, xs, bs, pp0, ys, oneS bs, p6, 0, rfl, s06 _ _ hp, bds_same al s06, wd, fit, (s25.trans s6) _ _ e2, fls_same hy2 (s25.trans s6), StB.one bs, by omega, g6, d0.mono (by decide), fun v H7 s7 ov => ?_⟩
  have s57 := s6.trans s7
  have S7 : Same H H7 := s05.trans s57
  refine ⟨fun m σ' H' => ∃ (pre : List (Rat × List (List Bod))) (now : Rat) (ss : List (List Bod)) (v : V) (pp : Addr) (ys zs : List V), σ' = [some (.ref p), some (.ref pp), some (.ref p5), some v] ∧ But p5 H7 H' ∧ H' p5 = some (.lst zs) ∧ Al2 (HiQ K H' p5) zs (pre ++ [(now, ss)]) ∧ H' pp = some (.lst ys) ∧ pp ≠ p5 ∧ Al2 (FlQ K H') ys (numB 0 ss) ∧ OptR K H' v (comS ss) ∧ StB bs ss ∧ SrtS ss now ∧ 1 ≤ ss.length ∧ pre ++ hisS ss.length now ss = hisB bs ∧ m = ss.length ∧ pre.length + ss.length ≤ 12, ⟨_, [], 0, oneS bs, v, pp0, ys, [.ref p4], rfl, But.refl _, s57 _ _ e5, his_same ah5 s57, (s25.trans s57) _ _ e2, pp5, fls_same hy2 (s25.trans s57), ov, StB.one bs, one_srt asc wd.w1, by omega, rfl, rfl, by show 0 + _ ≤ 12; omega⟩, ?_⟩
  rintro m σ' H9 ⟨pre, now, ss, v, pp, ys, zs, rfl, s9, h9, ah, hpp, npp, ayp, ov, st, srt, ls, er, rfl, lp⟩
  have S9 : Same H H9 := fun a o ha => s9 a o (ne_of_none ha n50) (S7 a o ha)
  have lz := Al2.len ah
  rw [List.length_append, List.length_singleton] at lz
  refine ⟨_, rfl, rfl, _, rfl, ?_⟩
  rcases ov with ⟨e, rfl⟩ | ⟨T0, pt, e, rfl, gT, _⟩
  · refine iteF ?_
    rw [his_none e] at er
    rw [er] at ah
    exact ⟨_, rfl, k p5 zs H9 S9 n50 h9 ah (by omega)⟩
  · refine iteT ?_
    refine ⟨_, fun _ _ n => n, ?_⟩
    have dT := com_fb2 fit st e
    have pos := StB.pos wd st
    refine ⟨_, rfl, _, rfl, _, rfl, p, xs, bs, pp, ys, ss, pt, T0, rfl, S9 _ _ hp, bds_same al S9, wd, fit, hpp, ayp, st, gT, dT.mono (by decide), fun r10 zs10 H10 s10 n10 e10 a10 => ?_⟩
    rw [← step_is srt e] at a10
    have h10 := s10 _ _ h9
    refine ⟨_, rfl, .inl ⟨rfl, _, SqL.of h10⟩, _, rfl, _, rfl, by show 2 ≤ sizeLine; decide, ?_⟩
    intro p11 n11
    obtain ⟨H11, q11, s11, e11⟩ := newO n11 (.tup [.ref pt, .ref r10])
    rw [q11]
    clear q11
    have h11 := s11 _ _ h10
    refine ⟨p5, _, _, rfl, rfl, h11, Nat.lt_of_le_of_lt (show zs.length ≤ 13 by omega) (by decide), ?_⟩
    obtain ⟨H12, q12, s12, e12⟩ := newB (H := H11) (p := p5) (.lst (zs ++ [.ref p11]))
    dsimp only
    rw [q12]
    clear q12
    have r10p : r10 ≠ p5 := Ne.symm (ne_of_none h9 n10)
    have nt11 : NoT [p5] H11 := NoT.lst h11 NoT.nil
    have b12 : Buts [p5] H11 H12 := Buts.one s12 (List.mem_singleton.mpr rfl)
    have s911 := s10.trans s11
    have new : HiQ K H11 p5 (.ref p11) (T0, stepS ss) := ⟨p11, pt, r10, zs10, rfl, SqT.of e11, Kw.Same.tup s911 gT, s11 _ _ e10, fls_same a10 s11, r10p⟩
    have ah12 : Al2 (HiQ K H12 p5) (zs ++ [.ref p11]) ((pre ++ [(now, ss)]) ++ [(T0, stepS ss)]) := his_but (Al2.snoc (his_same ah s911) new) s12 h11
    have B912 : But p5 H9 H12 := (But.of s911).trans s12
    have S12 : Same H H12 := fun a o ha => B912 a o (ne_of_none ha n50) (S9 a o ha)
    have a12 := fls_buts (fls_same a10 s11) b12 nt11
    refine ⟨_, rfl, _, rfl, _, rfl, p, xs, bs, r10, zs10, stepS ss, pt, T0, rfl, S12 _ _ hp, bds_same al S12, wd, fit, s12 _ _ r10p (s11 _ _ e10), a12, st.step, step_ne ls, b12.tup nt11 (Kw.Same.tup s911 gT), dT.mono (by decide), fun v13 H13 s13 ov13 => ?_⟩
    have less := step_less e
    refine ⟨_, less, pre ++ [(now, ss)], T0, stepS ss, v13, r10, zs10, zs ++ [.ref p11], rfl, s9.trans (B912.trans (But.of s13)), s13 _ _ e12, his_same ah12 s13, s13 _ _ (s12 _ _ r10p (s11 _ _ e10)), r10p, fls_same a12 s13, ov13, st.step, srt.step pos e, step_ne ls, ?_, rfl, by rw [List.length_append, List.length_singleton]; omega⟩
    rw [← er, his_some e, List.append_assoc]
    rfl
noncomputable def sp_law_run (K : PySem.W.Frag) : Sp := fun vs H Q _ => ∃ (p : Addr) (xs : List V) (bs : List Bod) (q : Addr) (hs : List V), vs = [.ref p, .ref q] ∧ H p = some (.lst xs) ∧ Al2 (BdQ K H 64) xs bs ∧ 1 ≤ bs.length ∧ WdB bs ∧ FitM 40 bs ∧ Asc bs ∧ H q = some (.lst hs) ∧ Al2 (HiQ K H q) hs (hisB bs) ∧ hs.length ≤ 13 ∧ ∀ (r : Addr) (zs : List V) (H1 : Hp), Same H H1 → H r = none → H1 r = some (.lst zs) → Al2 (MdQ K H1) zs (runB bs) → Q (.ref r) H1
theorem sc_law_run : FnScope ["_law_world_here", "_law_history_here", "_law_found", "_law_k", "_law_moment", "_law_parts", "_law_first", "_law_last", "_law_place"] ["_law_world_here", "_law_history_here"] (defScope (top 50)) := ⟨rfl, rfl, rfl, by decide +kernel, rfl, by decide +kernel, by decide +kernel⟩
theorem ok_law_run (D : Df K mg "_law_run" (top 50) ["_law_world_here", "_law_history_here"]) (T : Tx K mg CK C) (F_law_joined : Fn P w K mg base 3 "_law_joined" ["_law_world_here", "_law_first", "_law_last", "_law_moment"] (sp_law_joined K)) : Fn P w K mg base 4 "_law_run" ["_law_world_here", "_law_history_here"] (sp_law_run K) := by
  refine D.ok0 sc_law_run (fun vs H Q E h => ?_) (fun f0 cdv A outer s H vs Q E hr h => ?_)
  · obtain ⟨p, xs, bs, q, hs, rfl, _⟩ := h
    rfl
  obtain ⟨p, xs, bs, q, hs, rfl, hp, al, l1, wd, fit, asc, hq, ah, lh, k⟩ := h
  refine ⟨_, (pss_cons (ps_set (i := 2) sc_law_run.nd rfl (Or.inl rfl) (pe_lst pa_nil))
      (pss_cons (ps_for PassesOwn.never rfl (pi_range2 (by rfl) T.b_range (pa_cons pe_int (pa_cons (pe_callB call_len (by rfl) T.b_len PyProof.Rows.Boot.«len» (pa_cons (pv 1) pa_nil)) pa_nil))) (pg_name (i := 3) sc_law_run.nd rfl (Or.inl rfl)) (pss_cons (ps_asg (pe_ix ix_list (pv 1) (pv 3) (fun _ _ => rfl)) (pg_tup rfl (pgs_cons (pg_name (i := 4) sc_law_run.nd rfl (Or.inl rfl)) (pgs_cons (pg_name (i := 5) sc_law_run.nd rfl (Or.inl rfl)) pgs_nil))))
      (pss_one (ps_for PassesOwn.never rfl (pi_list (pv 5)) (pg_tup rfl (pgs_cons (pg_name (i := 6) sc_law_run.nd rfl (Or.inl rfl)) (pgs_cons (pg_name (i := 7) sc_law_run.nd rfl (Or.inl rfl)) pgs_nil))) (pss_one (ps_if (pt_cmpR (op_notInL (K := K) rfl (u100 hr)) (pe_tup (pa_cons (pv 6) (pa_cons (pv 7) pa_nil))) (pe_ix ix_tup (pe_ix ix_list (pv 1) (pe_op op_sub (pv 3) pe_int) (fun _ _ => rfl)) pe_int (fun _ _ => rfl)) (by first | rfl | with_unfolding_all rfl)) (pss_cons (ps_set (i := 8) sc_law_run.nd rfl (Or.inl rfl) (pe_ix ix_tup (pe_fn F_law_joined (by decide) hr (by rfl) passE0 (pa_cons (pv 0) (pa_cons (pv 6) (pa_cons (pv 7) (pa_cons (pv 4) pa_nil))))) pe_int (fun _ _ => rfl)))
      (pss_one (ps_expr (pe_bm PySem.F.plainAttrs_list PySem.F.slot_list_append PySem.F.type_list_append mt_append (pv 2) (pa_cons (pe_tup (pa_cons (pv 4) (pa_cons (pv 8) (pa_cons (pv 6) (pa_cons (pv 7) pa_nil))))) pa_nil))))) pss_nil))))))
      (pss_one (ps_ret (pv 2))))), ?_⟩
  have l12 := wd.l12
  have lhs := Al2.len ah
  have hq0 := hisB_all wd fit asc l1
  have rh : runH (hisB bs) = runB bs := run_his _ _ _
  have hpos : 1 ≤ (hisB bs).length := by
    unfold hisB
    cases (oneS bs).length <;> exact Nat.succ_le_succ (Nat.zero_le _)
  generalize hisB bs = his at ah lhs hq0 rh hpos
  refine ⟨by show 0 ≤ sizeLine; decide, ?_⟩
  intro p1 n1
  obtain ⟨H1, q1, s1, e1⟩ := newO n1 (.lst [])
  rw [q1]
  clear q1
  have hq1 := s1 _ _ hq
  have t1 : runH (his.take 1) = [] := by
    cases his with
    | nil => rfl
    | cons a r => rfl
  refine ⟨_, rfl, _, _, rfl, .inl ⟨_, SqL.of hq1, rfl⟩, _, _, rfl, ⟨by decide, by decide, by omega, by omega⟩, for_range (lo := 1) (fun i σ1 H' => ∃ (u3 u4 u5 u6 u7 u8 : Option V) (zs : List V), σ1 = [some (.ref p), some (.ref q), some (.ref p1), u3, u4, u5, u6, u7, u8] ∧ But p1 H1 H' ∧ H' p1 = some (.lst zs) ∧ Al2 (MdQ K H') zs (runH (his.take (i + 1))) ∧ zs.length ≤ 12 * i) ⟨_, _, _, _, _, _, [], rfl, But.refl _, e1, by rw [t1]; trivial, by simp⟩ ?_ ?_⟩
  · rintro i σ1 H2 hi ⟨u3, u4, u5, u6, u7, u8, zs, rfl, s2, h2, az, lz⟩
    have S2 : Same H H2 := fun a o ha => s2 a o (ne_of_none ha n1) (s1 a o ha)
    have i1 : i + 1 < his.length := by omega
    have ha : his[i]? = some his[i] := List.getElem?_eq_getElem (by omega)
    have hb : his[i + 1]? = some his[i + 1] := List.getElem?_eq_getElem i1
    generalize his[i] = ea at ha
    generalize his[i + 1] = eb at hb
    obtain ⟨cm, es⟩ := hq0.nxt i ea eb ha hb
    obtain ⟨sta, srta, _, _, _⟩ := hq0.st ea (List.mem_of_getElem? ha)
    obtain ⟨stb, _, _, dT, _⟩ := hq0.st eb (List.mem_of_getElem? hb)
    obtain ⟨x, hx⟩ : ∃ x, hs[i]? = some x := ⟨_, List.getElem?_eq_getElem (by omega)⟩
    obtain ⟨y, hy⟩ : ∃ y, hs[i + 1]? = some y := ⟨_, List.getElem?_eq_getElem (by omega)⟩
    obtain ⟨ea', hea, pA, aA, bA, yA, rfl, A1, A2, A3, A4, A5⟩ := Al2.get ah hx
    obtain ⟨eb', heb, pB, aB, bB, yB, rfl, B1, B2, B3, B4, B5⟩ := Al2.get ah hy
    rw [ha] at hea
    cases hea
    rw [hb] at heb
    cases heb
    have hq2 := S2 _ _ hq
    have atx : atI hs (1 + (i : Int) - 1) = some (.ref pA) := by
      have z := atI_nat hx
      rwa [show ((i : Nat) : Int) = 1 + (i : Int) - 1 by omega] at z
    have aty : atI hs (1 + (i : Int)) = some (.ref pB) := by
      have z := atI_nat hy
      rwa [show (((i + 1 : Nat)) : Int) = 1 + (i : Int) by omega] at z
    have lyB := Al2.len B4
    rw [numB_len] at lyB
    have slb := stb.len
    obtain ⟨ej, _⟩ := grpC_join wd sta
    have ej' : (grpC ea.2).map joinC = numB 0 eb.2 := by rw [es]; exact ej
    have lg : (grpC ea.2).length = eb.2.length := by
      have z := congrArg List.length ej'
      rw [List.length_map, numB_len] at z
      exact z
    refine ⟨_, rfl, _, rfl, q, _, _, _, rfl, rfl, SqL.of hq2, aty, pB, _, rfl, Kw.Same.tup S2 B1, rfl, _, _, rfl, _, _, rfl, rfl, ?_⟩
    refine ⟨_, rfl, bB, rfl, ⟨_, SqL.of (S2 _ _ B3)⟩, for_list (K := K) (a := bB) (xs := yB) (fun j σ1 H' => ∃ (u6 u7 u8 : Option V) (zs : List V), σ1 = [some (.ref p), some (.ref q), some (.ref p1), some (.int (1 + (i : Int))), some (.ref aB), some (.ref bB), u6, u7, u8] ∧ But p1 H1 H' ∧ H' p1 = some (.lst zs) ∧ Al2 (MdQ K H') zs (runH (his.take (i + 1)) ++ madeG eb.1 ((grpC ea.2).take j)) ∧ zs.length ≤ 12 * i + j) ⟨_, _, _, zs, rfl, s2, h2, by show Al2 _ zs (_ ++ []); rw [List.append_nil]; exact az, by omega⟩ (by rintro _ _ _ _ ⟨_, _, _, _, _, g, _⟩; exact SqL.of (g _ _ (ne_of_none B3 n1) (s1 _ _ B3))) ?_ ?_⟩
    · rintro j x' σ1 H3 hx' ⟨u6, u7, u8, zs, rfl, s3, h3, az, lz⟩
      have S3 : Same H H3 := fun a o ha => s3 a o (ne_of_none ha n1) (s1 a o ha)
      have hj := (List.getElem?_eq_some_iff.mp hx').1
      obtain ⟨c, hc, pf, rfl, f1⟩ := Al2.get (fls_same B4 S3) hx'
      have hg : (grpC ea.2)[j]? = some (grpC ea.2)[j] := List.getElem?_eq_getElem (by omega)
      generalize (grpC ea.2)[j] = g at hg
      have jc : joinC g = c := by
        have z : ((grpC ea.2).map joinC)[j]? = some (joinC g) := by rw [List.getElem?_map, hg]; rfl
        rw [ej', hc] at z
        exact (Option.some.inj z).symm
      have gn := grp_new wd sta (List.mem_of_getElem? hg)
      rw [jc] at gn
      obtain ⟨ii, ssg, hss, ec⟩ := numB_mem (List.mem_of_getElem? hc)
      obtain ⟨sg, so, sp⟩ := stb.get hss
      have c1 : c.1 = offB eb.2 ii := by rw [ec]; show 0 + offB eb.2 ii = _; omega
      have c2 : c.2.1 = offB eb.2 ii + ssg.length - 1 := by rw [ec]; show 0 + offB eb.2 ii + ssg.length - 1 = _; omega
      have c3 : meanB (segB bs c.1 c.2.1) = c.2.2 := by rw [c1, c2, sg, ec]
      have tg := take_snoc hg
      have ms := madeG_snoc eb.1 ((grpC ea.2).take j) g
      rw [← tg, jc] at ms
      refine ⟨pf, _, rfl, f1, rfl, _, _, rfl, _, _, rfl, rfl, ?_⟩
      refine ⟨_, rfl, _, rfl, by show 2 ≤ sizeLine; decide, ?_⟩
      intro p4 n4
      obtain ⟨H4, q4, s4, e4⟩ := newO n4 (.tup [.int (c.1 : Int), .int (c.2.1 : Int)])
      rw [q4]
      clear q4
      have S4 := S3.trans s4
      have dpc : Dp K H4 (.ref p4) (flD c) := .tup (SqT.of e4) (.cons (.int _) (.cons (.int _) .nil))
      refine ⟨_, rfl, _, rfl, _, _, rfl, rfl, q, _, _, _, rfl, rfl, SqL.of (S4 _ _ hq), atx, pA, _, _, _, rfl, rfl, Kw.Same.tup S4 A1, rfl, flD c, (numB 0 ea.2).map flD, dpc, .lst (SqL.of (S4 _ _ A3)) (fls_dp (fls_same A4 S4)), fld_lay _, rfl, ?_, _, rfl, ?_⟩
      · have := fld_deep (numB 0 ea.2)
        omega
      rw [fl_any]
      have h34 := s4 _ _ h3
      refine if_not (fun no => ?_) (fun yes => ?_)
      · have big : 1 < g.length := by
          by_cases e : 1 < g.length
          · exact e
          · exact absurd (gn.mpr e) no
        refine ⟨_, rfl, _, rfl, _, rfl, _, rfl, p, xs, bs, c.1, c.2.1, aB, eb.1, rfl, S4 _ _ hp, bds_same al S4, wd, fit, by omega, by omega, Kw.Same.tup S4 B2, dT.mono (by decide), fun r5 H5 s5 q5 => ?_⟩
        obtain ⟨pj, ja, jb, ej5, j1, j2, j3, j4, j5, j6, j7⟩ := q5
        cases ej5
        refine ⟨r5, _, _, _, rfl, rfl, j1, rfl, ?_⟩
        have h35 := s5 _ _ h34
        refine ⟨_, rfl, .inl ⟨rfl, _, SqL.of h35⟩, _, rfl, _, rfl, _, rfl, _, rfl, by show 4 ≤ sizeLine; decide, ?_⟩
        intro p6 n6
        obtain ⟨H6, q6, s6, e6⟩ := newO n6 (.tup [.ref aB, .ref ja, .int (c.1 : Int), .int (c.2.1 : Int)])
        rw [q6]
        clear q6
        have h36 := s6 _ _ h35
        refine ⟨p1, _, _, rfl, rfl, h36, Nat.lt_of_le_of_lt (show zs.length ≤ 200 by omega) (by decide), ?_⟩
        obtain ⟨H7, q7, s7, e7⟩ := newB (H := H6) (p := p1) (.lst (zs ++ [.ref p6]))
        dsimp only
        rw [q7]
        clear q7
        have nt6 : NoT [p1] H6 := NoT.lst h36 NoT.nil
        have b7 : Buts [p1] H6 H7 := Buts.one s7 (List.mem_singleton.mpr rfl)
        have s36 := s4.trans (s5.trans s6)
        have gB6 : FQ K H6 aB eb.1 := Kw.Same.tup (S4.trans (s5.trans s6)) B2
        have new : MdQ K H6 (.ref p6) (eb.1, plcQ c.2.2 eb.1, c.1, c.2.1) := by
          refine ⟨p6, aB, ja, rfl, SqT.of e6, gB6, ?_, dT.mono (by decide), ?_⟩
          · have z := Kw.Same.tup s6 j2
            have z' : FQ K H6 ja (plcQ (meanB (segB bs c.1 c.2.1)) eb.1) := z
            rw [c3] at z'
            exact z'
          · have z : FB 300 (plcQ (meanB (segB bs c.1 c.2.1)) eb.1) := j4
            rw [c3] at z
            exact z.mono (by decide)
        refine ⟨_, _, _, zs ++ [.ref p6], rfl, s3.trans ((But.of s36).trans s7), e7, ?_, by rw [List.length_append, List.length_singleton]; omega⟩
        rw [ms, if_pos big, ← List.append_assoc]
        exact mds_buts (Al2.snoc (mds_same az s36) new) b7 nt6
      · refine ⟨_, _, _, zs, rfl, s3.trans (But.of s4), h34, ?_, by omega⟩
        rw [ms, if_neg (gn.mp yes), List.append_nil]
        exact mds_same az s4
    · rintro σ1 H3 ⟨u6, u7, u8, zs, rfl, s3, h3, az, lz⟩
      rw [List.take_of_length_le (show (grpC ea.2).length ≤ yB.length by omega)] at az
      refine ⟨_, _, _, _, _, _, zs, rfl, s3, h3, ?_, by omega⟩
      have e2 : his.take (i + 1 + 1) = his.take i ++ [ea, eb] := by rw [take_snoc hb, take_snoc ha, List.append_assoc]; rfl
      have e1' : his.take (i + 1) = his.take i ++ [ea] := take_snoc ha
      rw [e2, runH_snoc, ← e1']
      exact az
  · rintro σ1 H2 ⟨u3, u4, u5, u6, u7, u8, zs, rfl, s2, h2, az, lz⟩
    rw [List.take_of_length_le (by omega), rh] at az
    exact ⟨_, rfl, k p1 zs H2 (fun a o ha => s2 a o (ne_of_none ha n1) (s1 a o ha)) n1 h2 az⟩
noncomputable def sp_law_clumps (K : PySem.W.Frag) : Sp := fun vs H Q _ => ∃ (p : Addr) (xs : List V) (bs : List Bod) (q : Addr) (hs : List V) (u : Addr) (t : Rat), vs = [.ref p, .ref q, .ref u] ∧ H p = some (.lst xs) ∧ Al2 (BdQ K H 64) xs bs ∧ 1 ≤ bs.length ∧ WdB bs ∧ FitM 40 bs ∧ Asc bs ∧ H q = some (.lst hs) ∧ Al2 (HiQ K H q) hs (hisB bs) ∧ FQ K H u t ∧ FB 200 t ∧ 0 ≤ t ∧ ∀ (r : Addr) (zs : List V) (H1 : Hp), Same H H1 → H1 r = some (.lst zs) → Al2 (ClQ K H1 300) zs ((numB 0 (stAt bs t)).map (clT t)) → Q (.ref r) H1
theorem sc_law_clumps : FnScope ["_law_world_here", "_law_history_here", "_law_moment", "_law_parts", "_law_then", "_law_some"] ["_law_world_here", "_law_history_here", "_law_moment"] (defScope (top 51)) := ⟨rfl, rfl, rfl, by decide +kernel, rfl, by decide +kernel, by decide +kernel⟩
theorem ok_law_clumps (D : Df K mg "_law_clumps" (top 51) ["_law_world_here", "_law_history_here", "_law_moment"]) (T : Tx K mg CK C) (F_law_less : Fn P w K mg base 1 "_law_less" ["_law_one", "_law_other"] (sp_law_less K)) (F_law_all : Fn P w K mg base 4 "_law_all" ["_law_world_here", "_law_parts", "_law_moment"] (sp_law_all K)) : Fn P w K mg base 5 "_law_clumps" ["_law_world_here", "_law_history_here", "_law_moment"] (sp_law_clumps K) := by
  refine D.ok0 sc_law_clumps (fun vs H Q E h => ?_) (fun f0 cdv A outer s H vs Q E hr h => ?_)
  · obtain ⟨p, xs, bs, q, hs, u, t, rfl, _⟩ := h
    rfl
  obtain ⟨p, xs, bs, q, hs, u, t, rfl, hp, al, l1, wd, fit, asc, hq, ah, gt, dt, t0, k⟩ := h
  refine ⟨_, (pss_cons (ps_set (i := 3) sc_law_clumps.nd rfl (Or.inl rfl) (pe_lst pa_nil))
      (pss_cons (ps_for PassesOwn.never rfl (pi_list (pv 1)) (pg_tup rfl (pgs_cons (pg_name (i := 4) sc_law_clumps.nd rfl (Or.inl rfl)) (pgs_cons (pg_name (i := 5) sc_law_clumps.nd rfl (Or.inl rfl)) pgs_nil))) (pss_one (ps_if (pt_not (pt_val (pe_fn F_law_less (by decide) hr (by rfl) passE0 (pa_cons (pv 2) (pa_cons (pv 4) pa_nil))) (fun _ => rfl))) (pss_one (ps_set (i := 3) sc_law_clumps.nd rfl (Or.inl rfl) (pv 5))) pss_nil)))
      (pss_one (ps_ret (pe_fn F_law_all (by decide) hr (by rfl) passE0 (pa_cons (pv 0) (pa_cons (pv 3) (pa_cons (pv 2) pa_nil)))))))), ?_⟩
  have d0 : FB 162 (0 : Rat) := (FB.ofInt (n := 64) (Bd.small (i := 0) (by decide) (by decide)) (by decide)).mono (by decide)
  have ne0 : oneS bs ≠ [] := fun z => by
    have := congrArg List.length z
    unfold oneS at this
    rw [List.length_map] at this
    simp at this
    rw [this] at l1
    exact absurd l1 (by simp)
  have lst : lastH t (hisB bs) [] = stAt bs t := lastH_at wd fit _ 0 (oneS bs) [] (StB.one bs) (one_srt asc wd.w1) Rat.le_refl d0 ne0 t0
  have hq0 := hisB_all wd fit asc l1
  have st1 := (stAt_all wd asc t0).st
  generalize hisB bs = his at ah lst hq0
  have lhs := Al2.len ah
  refine ⟨by show 0 ≤ sizeLine; decide, ?_⟩
  intro p1 n1
  obtain ⟨H1, q1, s1, e1⟩ := newO n1 (.lst [])
  rw [q1]
  clear q1
  refine ⟨_, rfl, q, rfl, ⟨_, SqL.of (s1 _ _ hq)⟩, for_list (K := K) (a := q) (xs := hs) (fun i σ1 H' => ∃ (pp : Addr) (ys : List V) (u4 u5 : Option V), σ1 = [some (.ref p), some (.ref q), some (.ref u), some (.ref pp), u4, u5] ∧ Same H1 H' ∧ H' pp = some (.lst ys) ∧ Al2 (FlQ K H') ys (numB 0 (lastH t (his.take i) []))) ⟨p1, [], _, _, rfl, Same.refl _, e1, trivial⟩ (by rintro _ _ _ _ ⟨_, _, _, _, _, g, _⟩; exact SqL.of (g _ _ (s1 _ _ hq))) ?_ ?_⟩
  · rintro i x σ1 H2 hx ⟨pp, ys, u4, u5, rfl, s2, hpp, ay⟩
    have S2 := s1.trans s2
    obtain ⟨h, hh, pA, aA, bA, yA, rfl, A1, A2, A3, A4, A5⟩ := Al2.get (his_same ah S2) hx
    obtain ⟨_, _, _, dA, _⟩ := hq0.st h (List.mem_of_getElem? hh)
    refine ⟨pA, _, rfl, A1, rfl, _, _, rfl, _, _, rfl, rfl, ?_⟩
    refine ⟨_, rfl, _, rfl, u, _, aA, _, rfl, Kw.Same.tup S2 gt, dt.mono (by decide), A2, dA.mono (by decide), fun H3 s3 => ⟨_, rfl, ?_⟩⟩
    have ls := lastH_snoc t (his.take i) h []
    rw [← take_snoc hh] at ls
    refine if_not (fun c => ?_) (fun c => ?_)
    · refine ⟨_, rfl, bA, yA, _, _, rfl, s2.trans s3, s3 _ _ A3, ?_⟩
      rw [ls, if_neg c]
      exact fls_same A4 s3
    · refine ⟨pp, ys, _, _, rfl, s2.trans s3, s3 _ _ hpp, ?_⟩
      rw [ls, if_pos c]
      exact fls_same ay s3
  · rintro σ1 H2 ⟨pp, ys, u4, u5, rfl, s2, hpp, ay⟩
    rw [List.take_of_length_le (by omega), lst] at ay
    have S2 := s1.trans s2
    exact ⟨_, rfl, _, rfl, _, rfl, p, xs, bs, pp, ys, stAt bs t, u, t, rfl, S2 _ _ hp, bds_same al S2, wd, fit, hpp, ay, st1, Kw.Same.tup S2 gt, dt, fun r3 zs3 H3 s3 n3 e3 ac3 => k r3 zs3 H3 (S2.trans s3) e3 ac3⟩
noncomputable def sp_law_refused (K : PySem.W.Frag) : Sp := fun vs H Q _ => ∃ (p : Addr) (xs : List V) (bs : List Bod) (u : Addr) (t : Rat), vs = [.ref p, .ref u] ∧ H p = some (.lst xs) ∧ Al2 (BdQ K H 64) xs bs ∧ 1 ≤ bs.length ∧ WdB bs ∧ FQ K H u t ∧ FB 170 t ∧ ¬ 0 ≤ t ∧ ∀ H1, Same H H1 → Q (.bl true) H1
theorem sc_law_refused : FnScope ["_law_world_here", "_law_moment", "e"] ["_law_world_here", "_law_moment"] (defScope (top 52)) := ⟨rfl, rfl, rfl, by decide +kernel, rfl, by decide +kernel, by decide +kernel⟩
theorem ok_law_refused (D : Df K mg "_law_refused" (top 52) ["_law_world_here", "_law_moment"]) (T : Tx K mg CK C) (F_clumps_at : Fn P w K mg base 9 "clumps_at" ["world", "moment"] (spX_clumps_at K C)) : Fn P w K mg base 10 "_law_refused" ["_law_world_here", "_law_moment"] (sp_law_refused K) := by
  refine D.ok0 sc_law_refused (fun vs H Q E h => ?_) (fun f cdv A outer s0 H vs Q E hr h => ?_)
  · obtain ⟨p, xs, bs, u, t, rfl, _⟩ := h
    rfl
  obtain ⟨p, xs, bs, u, t, rfl, hp, al, l1, wd, gt, dt, no, k⟩ := h
  refine ⟨_, (pss_cons (ps_tryG plain_nox rfl (fun E pn0 E0 hp => (pss_one (ps_expr (pe_fn F_clumps_at (by decide) hr (by rfl) hp (pa_cons (pv 0) (pa_cons (pv 1) pa_nil)))))) (ph_as plain_nox rfl sc_law_refused.nd (j := 2) rfl rfl (by rfl) T.c_NoMoment T.g_NoMoment (fun x => (pss_one (ps_ret (pe_and (pe_callB (call_isinstC (K := K) rfl) (by rfl) T.b_isinstance PyProof.Rows.Boot.«isinstance» (pa_cons (pv 2) (pa_cons (pe_cls (by rfl) T.c_KnockError) pa_nil))) (pe_one (pe_callB (call_isinstC (K := K) rfl) (by rfl) T.b_isinstance PyProof.Rows.Boot.«isinstance» (pa_cons (pv 2) (pa_cons (pe_bty (by rfl) T.b_ValueError PyProof.Rows.Boot.«ValueError») pa_nil)))))))) ph_nil))
      (pss_one (ps_ret pe_bl))), ?_⟩
  refine ⟨_, rfl, _, rfl, p, xs, bs, u, t, rfl, hp, bds_mono al (by decide), l1, wd, gt, dt.mono (by decide), fun z => absurd z no, fun _ H1 s1 => ⟨C 0, rfl, .inl ⟨T.s_NoMoment_NoMoment, fun e ne => ?_⟩⟩⟩
  obtain ⟨H2, q2, s2, e2⟩ := newO ne (Xc e (C 0) none)
  rw [q2]
  clear q2
  refine ⟨_, rfl, e, C 0, none, _, _, rfl, .inr ⟨_, rfl⟩, e2, T.R.q 0 (by decide), T.R.k 0 (by decide), _, rfl, iteT ?_⟩
  refine ⟨_, rfl, e, C 0, none, _, _, rfl, .inl ⟨_, rfl⟩, e2, T.R.q 0 (by decide), T.R.v 0 (by decide), ?_⟩
  exact k _ (s1.trans s2)
theorem sc_law : FnScope ["_law_script", "_law_k", "_law_box_here", "_law_world_here", "_law_history_here", "_law_due", "_law_told", "_law_some", "_law_at", "_law_part", "_law_asked", "_law_moment", "_law_found"] ["_law_script"] (defScope (top 53)) := ⟨rfl, rfl, rfl, by decide +kernel, rfl, by decide +kernel, by decide +kernel⟩
theorem ok_law (D : Df K mg "law" (top 53) ["_law_script"]) (T : Tx K mg CK C) (F_law_box : Fn P w K mg base 2 "_law_box" ["_law_script", "_law_k"] (spBox K)) (F_law_world : Fn P w K mg base 4 "_law_world" ["_law_box_here"] (sp_law_world K)) (F_law_history : Fn P w K mg base 6 "_law_history" ["_law_world_here"] (sp_law_history K)) (F_law_run : Fn P w K mg base 4 "_law_run" ["_law_world_here", "_law_history_here"] (sp_law_run K)) (F_stuck_run : Fn P w K mg base 9 "stuck_run" ["world"] (sp_stuck_run K)) (F_law_take : Fn P w K mg base 1 "_law_take" ["_law_box_here", "_law_many"] spTake) (F_law_fit : Fn P w K mg base 1 "_law_fit" ["_law_top", "_law_bottom"] (sp_law_fit K)) (F_law_plus : Fn P w K mg base 2 "_law_plus" ["_law_one", "_law_other"] (sp_law_plus K)) (F_law_times : Fn P w K mg base 2 "_law_times" ["_law_one", "_law_other"] (sp_law_times K)) (F_clumps_at : Fn P w K mg base 9 "clumps_at" ["world", "moment"] (spX_clumps_at K C)) (F_law_clumps : Fn P w K mg base 5 "_law_clumps" ["_law_world_here", "_law_history_here", "_law_moment"] (sp_law_clumps K)) (F_law_refused : Fn P w K mg base 10 "_law_refused" ["_law_world_here", "_law_moment"] (sp_law_refused K)) : Fn P w K mg base 11 "law" ["_law_script"] (spLaw K) := by
  refine D.ok0 sc_law (fun vs H Q E h => ?_) (fun f cdv A outer s H vs Q E hr h => ?_)
  · obtain ⟨a, rfl, _⟩ := h
    rfl
  obtain ⟨a, rfl, hS, fin⟩ := h
  refine ⟨_, (pss_cons (ps_for PassesOwn.never rfl (pi_range1 (by rfl) T.b_range (pa_cons (pe_callB (call_max2 rfl) (by rfl) T.b_max PyProof.Rows.Boot.«max» (pa_cons pe_int (pa_cons (pe_callB (call_min2 rfl) (by rfl) T.b_min PyProof.Rows.Boot.«min» (pa_cons (pe_callB call_len (by rfl) T.b_len PyProof.Rows.Boot.«len» (pa_cons (pv 0) pa_nil)) (pa_cons pe_int pa_nil))) pa_nil))) pa_nil)) (pg_name (i := 1) sc_law.nd rfl (Or.inl rfl)) (pss_cons (ps_set (i := 2) sc_law.nd rfl (Or.inl rfl) (pe_fn F_law_box (by decide) hr (by rfl) passE0 (pa_cons (pv 0) (pa_cons (pv 1) pa_nil))))
      (pss_cons (ps_set (i := 3) sc_law.nd rfl (Or.inl rfl) (pe_fn F_law_world (by decide) hr (by rfl) passE0 (pa_cons (pv 2) pa_nil)))
      (pss_cons (ps_set (i := 4) sc_law.nd rfl (Or.inl rfl) (pe_fn F_law_history (by decide) hr (by rfl) passE0 (pa_cons (pv 3) pa_nil)))
      (pss_cons (ps_set (i := 5) sc_law.nd rfl (Or.inl rfl) (pe_fn F_law_run (by decide) hr (by rfl) passE0 (pa_cons (pv 3) (pa_cons (pv 4) pa_nil))))
      (pss_cons (ps_set (i := 6) sc_law.nd rfl (Or.inl rfl) (pe_fn F_stuck_run (by decide) hr (by rfl) passE0 (pa_cons (pv 3) pa_nil)))
      (pss_cons (ps_if (pw_or (pt_not (pt_val (pe_callB call_isinst (by rfl) T.b_isinstance PyProof.Rows.Boot.«isinstance» (pa_cons (pv 6) (pa_cons (pe_bty (by rfl) T.b_list PyProof.Rows.Boot.«list») pa_nil))) (fun _ => rfl))) (pw_or1 (pt_cmpR (op_neA (K := K) rfl (u100 hr)) (pv 6) (pv 5) (nomark _)))).pt (pss_one (ps_ret pe_bl)) pss_nil)
      (pss_cons (ps_expr (pe_bm0 PySem.F.plainAttrs_list PySem.F.slot_list_clear PySem.F.type_list_clear mt_clear (pv 6)))
      (pss_cons (@ps_lc _ _ _ _ _ _ _ _ _ _ [] [] 7 _ _ _ sc_law.nd rfl rfl rfl rfl (pi_list (pv 4)) rfl (by decide) rfl (by decide) rfl (by decide) cap_none (fun _ _ h => nomatch h) (no_free rfl) (fun C z Hc fp => (pe_ix (ixT (K := K) rfl) (pv 0) pe_int (fun _ _ => rfl))) (fun _ => rfl))
      (pss_cons (ps_set (i := 8) sc_law.nd rfl (Or.inl rfl) (pe_fn F_law_take (by decide) hr (by rfl) passE0 (pa_cons (pv 2) (pa_cons (pe_callB call_len (by rfl) T.b_len PyProof.Rows.Boot.«len» (pa_cons (pv 7) pa_nil)) pa_nil))))
      (pss_cons (ps_set (i := 9) sc_law.nd rfl (Or.inl rfl) (pe_fn F_law_fit (by decide) hr (by rfl) passE0 (pa_cons (pe_op op_add pe_int (pe_fn F_law_take (by decide) hr (by rfl) passE0 (pa_cons (pv 2) (pa_cons pe_int pa_nil)))) (pa_cons pe_int pa_nil))))
      (pss_cons (ps_set (i := 10) sc_law.nd rfl (Or.inl rfl) (pe_lst (pa_cons (pe_tup (pa_cons pe_int (pa_cons pe_int pa_nil))) (pa_cons (pe_ix ix_list (pv 7) (pv 8) (fun _ _ => rfl)) (pa_cons (pe_ix ix_list (pv 7) (pe_un un_neg pe_int) (fun _ _ => rfl)) (pa_cons (pe_fn F_law_plus (by decide) hr (by rfl) passE0 (pa_cons (pe_ix ix_list (pv 7) (pe_un un_neg pe_int) (fun _ _ => rfl)) (pa_cons (pv 9) pa_nil))) (pa_cons (pe_fn F_law_times (by decide) hr (by rfl) passE0 (pa_cons (pe_ix ix_list (pv 7) (pe_un un_neg pe_int) (fun _ _ => rfl)) (pa_cons (pv 9) pa_nil))) pa_nil)))))))
      (pss_cons (ps_for PassesOwn.never rfl (pi_list (pv 10)) (pg_name (i := 11) sc_law.nd rfl (Or.inl rfl)) (pss_cons (ps_set (i := 12) sc_law.nd rfl (Or.inl rfl) (pe_fn F_clumps_at (by decide) hr (by rfl) passE0 (pa_cons (pv 3) (pa_cons (pv 11) pa_nil))))
      (pss_one (ps_if (pw_or (pt_not (pt_val (pe_callB call_isinst (by rfl) T.b_isinstance PyProof.Rows.Boot.«isinstance» (pa_cons (pv 12) (pa_cons (pe_bty (by rfl) T.b_list PyProof.Rows.Boot.«list») pa_nil))) (fun _ => rfl))) (pw_or1 (pt_cmpR (op_neA (K := K) rfl (u100 hr)) (pv 12) (pe_fn F_law_clumps (by decide) hr (by rfl) passE0 (pa_cons (pv 3) (pa_cons (pv 4) (pa_cons (pv 11) pa_nil)))) (nomark _)))).pt (pss_one (ps_ret pe_bl)) pss_nil))))
      (pss_one (ps_if (pw_or (pt_cmpR (op_neA (K := K) rfl (u100 hr)) (pe_fn F_stuck_run (by decide) hr (by rfl) passE0 (pa_cons (pv 3) pa_nil)) (pv 5) (nomark _)) (pw_or1 (pt_not (pt_val (pe_fn F_law_refused (by decide) hr (by rfl) passE0 (pa_cons (pv 3) (pa_cons (pe_tup (pa_cons (pe_un un_neg pe_int) (pa_cons (pe_op op_add pe_int (pv 1)) pa_nil))) pa_nil))) (fun _ => rfl))))).pt (pss_one (ps_ret pe_bl)) pss_nil)))))))))))))))
      (pss_one (ps_ret pe_bl))), ?_⟩
  obtain ⟨ns, hL, h63, _⟩ := id hS
  refine ⟨_, rfl, _, _, rfl, .inl ⟨_, hL, rfl⟩, _, _, rfl, _, _, rfl, _, rfl, ?_⟩
  obtain ⟨m, hme, m1, m8⟩ := most_of ns 2 (by decide)
  rw [hme]
  refine ⟨by omega, by omega, for_range (n := m.toNat) (fun i σ' H' => ∃ r1 r2 r3 r4 r5 r6 r7 r8 r9 r10 r11 r12 : Option V, σ' = [some (.ref a), r1, r2, r3, r4, r5, r6, r7, r8, r9, r10, r11, r12] ∧ Same H H') ⟨_, _, _, _, _, _, _, _, _, _, _, _, rfl, Same.refl _⟩ ?_ ?_⟩
  · rintro i σ0 H0 hi ⟨r1, r2, r3, r4, r5, r6, r7, r8, r9, r10, r11, r12, rfl, sm⟩
    have sm9 : ∀ i : Int, -(2 ^ 64) < i → i < 2 ^ 64 → Bd 9000 i := fun i h1 h2 => (Bd.small h1 h2).mono (by decide)
    refine ⟨_, rfl, _, rfl, a, _, rfl, Scr.same hS sm, by omega, by omega, fun b nb Hb hb0 sb hb => ?_⟩
    refine ⟨_, rfl, b, nb, rfl, hb, fun f xs bs n2 H2 s2 nf nfb hb2 hf2 al2 l1 l12 asc w80 com => ?_⟩
    have w1 : ∀ c ∈ bs, 1 ≤ c.2.2 := fun c hc => (bds_w al2 c hc).1
    obtain ⟨wd, fit⟩ := wd_of com l12 w1 w80
    refine ⟨_, rfl, f, xs, bs, rfl, hf2, al2, l1, wd, fit, asc, fun rh hs H3 s3 n3 e3 ah3 lh => ?_⟩
    have hb3 := s3 _ _ hb2
    have rhb : rh ≠ b := Ne.symm (ne_of_none hb2 n3)
    refine ⟨_, rfl, _, rfl, f, xs, bs, rh, hs, rfl, s3 _ _ hf2, bds_same al2 s3, l1, wd, fit, asc, e3, ah3, lh, fun rd ds H4 s4 n4 e4 ad4 => ?_⟩
    have s24 := s3.trans s4
    have hf4 := s24 _ _ hf2
    have al4 := bds_same al2 s24
    have hb4 := s24 _ _ hb2
    have ah4 := his_same ah3 s4
    have e34 := s4 _ _ e3
    have rdb : rd ≠ b := Ne.symm (ne_of_none hb3 n4)
    refine ⟨_, rfl, f, xs, bs, rfl, hf4, bds_mono al4 (by decide), l1, wd, fun rt ts H5 s5 n5 e5 at5 l400 => ?_⟩
    have e45 := s5 _ _ e4
    have ad5 := mds_same ad4 s5
    refine ⟨_, rfl, _, _, true, rfl, .inl ⟨_, rfl⟩, ⟨_, .lst e5, kit_lst_lst⟩, _, rfl, iteF ?_⟩
    refine ⟨_, rfl, _, rfl, _, .lst (SqL.of e5) (mds_dp at5), .lst (SqL.of e45) (mds_dp ad5), (mds_ok _).1, (mds_ok _).2, _, rfl, iteF ?_⟩
    refine ⟨_, rfl, .inl ⟨rfl, _, SqL.of e5⟩, rt, _, rfl, rfl, e5, ?_⟩
    obtain ⟨H6, q6, s6, e6⟩ := newB (H := H5) (p := rt) (.lst [])
    dsimp only
    rw [q6]
    clear q6
    have S46 : Same H4 H6 := fun a o ha => s6 a o (ne_of_none ha n5) (s5 a o ha)
    have hf6 := S46 _ _ hf4
    have al6 := bds_same al4 S46
    have hb6 := S46 _ _ hb4
    have e36 := S46 _ _ e34
    have ah6 := his_same ah4 S46
    have e46 := S46 _ _ e4
    have ad6 := mds_same ad4 S46
    have lhs := Al2.len ah6
    have hq0 := hisB_all wd fit asc l1
    have hpos : 1 ≤ (hisB bs).length := by
      unfold hisB
      cases (oneS bs).length <;> exact Nat.succ_le_succ (Nat.zero_le _)
    refine ⟨_, rfl, rh, rfl, ⟨_, SqL.of e36⟩, lc_list (K := K) (xs := hs) (fun i zs H' => i ≤ hs.length ∧ H' = H6 ∧ Al2 (FrQ K H' 162) zs (((hisB bs).take i).map (·.1))) ⟨Nat.zero_le _, rfl, trivial⟩ (Nat.le_trans lh (by decide)) (fun i zs H1 z => by obtain ⟨l, _, e⟩ := z; have := Al2.len e; rw [List.length_map, List.length_take] at this; omega) (fun i zs H1 z => by obtain ⟨_, rfl, _⟩ := z; exact SqL.of e36) ?_ ?_⟩
    · rintro i x zs H' Q1 hx ⟨hl, rfl, hz⟩ kq
      have hi : i < hs.length := (List.getElem?_eq_some_iff.mp hx).1
      obtain ⟨h, hh, pA, aA, bA, yA, rfl, A1, A2, A3, A4, A5⟩ := Al2.get ah6 hx
      obtain ⟨_, _, _, dA, _⟩ := hq0.st h (List.mem_of_getElem? hh)
      refine ⟨_, rfl, pA, _, _, _, rfl, rfl, A1, rfl, kq _ _ ⟨hi, rfl, ?_⟩⟩
      rw [take_snoc hh, List.map_append]
      exact Al2.snoc hz ⟨aA, rfl, A2, dA⟩
    rintro zs7 H' ⟨_, hx6, hz7⟩ pl7 hpl7
    have hx6' := hx6.symm
    clear hx6
    subst hx6'
    rw [lhs, List.take_length] at hz7
    obtain ⟨H7, q7, s7, e7⟩ := newO hpl7 (.lst zs7)
    rw [q7]
    clear q7
    have hz7' := frs_same hz7 s7
    have lz7 := Al2.len hz7
    rw [List.length_map] at lz7
    have hb7 := s7 _ _ hb6
    have p7b : pl7 ≠ b := Ne.symm (ne_of_none hb6 hpl7)
    refine ⟨_, rfl, _, rfl, _, _, rfl, .inl ⟨_, SqL.of e7, rfl⟩, b, _, _, rfl, hb7, by omega, sm9 _ (by omega) (by omega), fun d8 n8 H8 lo8 hi8 s8 hb8 => ?_⟩
    refine ⟨_, rfl, b, 9, _, rfl, hb8, by decide, sm9 _ (by decide) (by decide), fun d9 n9 H9 lo9 hi9 s9 hb9 => ?_⟩
    refine ⟨_, _, rfl, rfl, _, _, rfl, sm9 _ (by decide) (by decide), by decide, fun pp10 H10 s10 g10 => ?_⟩
    have dpart : FB 4 (Rat.divInt (1 + d9) 10) := FB.fit (by decide) (show (1 + d9).natAbs < 2 ^ 4 by omega) (show (10 : Int).natAbs < 2 ^ 4 by decide)
    have ppart : (0 : Rat) < Rat.divInt (1 + d9) 10 := q_divpos (by omega) (by decide)
    generalize Rat.divInt (1 + d9) 10 = part at g10 dpart ppart
    have b710 : But b H7 H10 := s8.trans (s9.trans (But.of s10))
    have hb10 := s10 _ _ hb9
    have B710 : Buts [b] H7 H10 := Buts.one b710 (List.mem_singleton.mpr rfl)
    have nt7 : NoT [b] H7 := NoT.lst hb7 NoT.nil
    have hz10 : Al2 (FrQ K H10 162) zs7 ((hisB bs).map (·.1)) := B710.frs nt7 hz7'
    have e710 := b710 _ _ p7b e7
    obtain ⟨y, hy⟩ : ∃ y, zs7[d8.toNat]? = some y := ⟨_, List.getElem?_eq_getElem (by omega)⟩
    obtain ⟨z, hz⟩ : ∃ z, zs7[zs7.length - 1]? = some z := ⟨_, List.getElem?_eq_getElem (by omega)⟩
    obtain ⟨ty, hty, py, rfl, gy, dy⟩ := Al2.get hz10 hy
    obtain ⟨tz, htz, pz, rfl, gz, dz⟩ := Al2.get hz10 hz
    have nn : ∀ q ∈ (hisB bs).map (·.1), 0 ≤ q := fun q hq => by
      obtain ⟨h, hh, rfl⟩ := List.mem_map.mp hq
      exact (hq0.st h hh).2.2.1
    have y0 := nn ty (List.mem_of_getElem? hty)
    have z0 := nn tz (List.mem_of_getElem? htz)
    have aty : atI zs7 d8 = some (.ref py) := by
      have z' := atI_nat hy
      rwa [show ((d8.toNat : Nat) : Int) = d8 by omega] at z'
    refine ⟨by show 2 ≤ sizeLine; decide, ?_⟩
    intro p11 n11
    obtain ⟨H11, q11, s11, e11⟩ := newO n11 (.tup [.int 0, .int 1])
    rw [q11]
    clear q11
    have g11 : FQ K H11 p11 0 := FQ.cast (FQ.ofInt (SqT.of e11)) rfl
    have d11 : FB 200 (0 : Rat) := (FB.ofInt (n := 64) (Bd.small (i := 0) (by decide) (by decide)) (by decide)).mono (by decide)
    have e711 := s11 _ _ e710
    refine ⟨_, rfl, _, rfl, pl7, _, _, _, rfl, rfl, SqL.of e711, aty, _, rfl, 1, rfl, pl7, _, _, _, rfl, rfl, SqL.of e711, at_last hz, _, rfl, 1, rfl, pl7, _, _, _, rfl, rfl, SqL.of e711, at_last hz, _, rfl, pz, _, 162, pp10, _, 4, rfl, Kw.Same.tup s11 gz, dz, Kw.Same.tup s11 g10, dpart, by decide, fun r12' H12 s12 g12 => ?_⟩
    have s1012 := s11.trans s12
    refine ⟨_, rfl, 1, rfl, pl7, _, _, _, rfl, rfl, SqL.of (s12 _ _ e711), at_last hz, _, rfl, pz, _, 162, pp10, _, 4, rfl, Kw.Same.tup s1012 gz, dz, Kw.Same.tup s1012 g10, dpart, by decide, fun r13 H13 s13 g13 => ?_⟩
    refine ⟨by show 5 ≤ sizeLine; decide, ?_⟩
    intro p14 n14
    obtain ⟨H14, q14, s14, e14⟩ := newO n14 (.lst [.ref p11, .ref py, .ref pz, .ref r12', .ref r13])
    rw [q14]
    clear q14
    have s1014 := s1012.trans (s13.trans s14)
    have pm := Rat.mul_nonneg z0 (show 0 ≤ part by grind)
    have al14 : Al2 (FrQ K H14 200) [.ref p11, .ref py, .ref pz, .ref r12', .ref r13] [0, ty, tz, tz + part, tz * part] := ⟨⟨p11, rfl, Kw.Same.tup (s12.trans (s13.trans s14)) g11, d11⟩, ⟨py, rfl, Kw.Same.tup s1014 gy, dy.mono (by decide)⟩, ⟨pz, rfl, Kw.Same.tup s1014 gz, dz.mono (by decide)⟩, ⟨r12', rfl, Kw.Same.tup (s13.trans s14) g12, (FB.add dz dpart).mono (by decide)⟩, ⟨r13, rfl, Kw.Same.tup s14 g13, (FB.mul dz dpart).mono (by decide)⟩, trivial⟩
    have nn14 : ∀ q ∈ [0, ty, tz, tz + part, tz * part], (0 : Rat) ≤ q := fun q hq => by
      simp only [List.mem_cons, List.not_mem_nil, or_false] at hq
      rcases hq with rfl | rfl | rfl | rfl | rfl <;> grind
    have b614 : But b H6 H14 := (But.of s7).trans (b710.trans (But.of s1014))
    have B614 : Buts [b] H6 H14 := Buts.one b614 (List.mem_singleton.mpr rfl)
    have nt6 : NoT [b] H6 := NoT.lst hb6 NoT.nil
    have hf14 := b614 _ _ nfb hf6
    have al14w := bds_but al6 b614 hb6
    have rhb14 := b614 _ _ rhb e36
    have ah14 : Al2 (HiQ K H14 rh) hs (hisB bs) := by
      refine Al2.imp (fun v h z => ?_) ah6
      obtain ⟨pA, aA, bA, yA, e, A1, A2, A3, A4, A5⟩ := z
      have bb : bA ≠ b ∨ bA = b := (Classical.em (bA = b)).symm
      rcases bb with bb | bb
      · exact ⟨pA, aA, bA, yA, e, B614.tup nt6 A1, B614.tup nt6 A2, b614 _ _ bb A3, fls_buts A4 B614 nt6, A5⟩
      · exfalso
        rw [bb, hb6] at A3
        cases A3
        cases hn : numB 0 h.2 with
        | nil => rw [hn] at A4; exact A4
        | cons c cs =>
          rw [hn] at A4
          obtain ⟨⟨_, ez, _⟩, _⟩ := A4
          cases ez
    refine ⟨_, rfl, p14, rfl, ⟨_, SqL.of e14⟩, for_list (K := K) (a := p14) (xs := [.ref p11, .ref py, .ref pz, .ref r12', .ref r13]) (fun j σ' H' => ∃ (u11 u12 : Option V), σ' = [some (.ref a), some (.int (0 + (i : Int))), some (.ref b), some (.ref f), some (.ref rh), some (.ref rd), some (.ref rt), some (.ref pl7), some (.int d8), some (.ref pp10), some (.ref p14), u11, u12] ∧ Same H14 H') ⟨_, _, rfl, Same.refl _⟩ (by rintro _ _ _ _ ⟨_, _, _, g⟩; exact SqL.of (g _ _ e14)) ?_ ?_⟩
    · rintro j x σ1 H15 hx ⟨u11, u12, rfl, s15⟩
      obtain ⟨q, hq, pq, rfl, gq, dq⟩ := Al2.get (frs_same al14 s15) hx
      have t0 := nn14 q (List.mem_of_getElem? hq)
      have hf15 := s15 _ _ hf14
      have al15 := bds_same al14w s15
      refine ⟨_, rfl, _, rfl, f, xs, bs, pq, q, rfl, hf15, bds_mono al15 (by decide), l1, wd, gq, dq.mono (by decide), fun _ r16 zs16 H16 s16 n16 e16 ac16 => ?_, fun z => absurd t0 z⟩
      refine ⟨_, rfl, _, _, true, rfl, .inl ⟨_, rfl⟩, ⟨_, .lst e16, kit_lst_lst⟩, _, rfl, iteF ?_⟩
      have s1516 := s15.trans s16
      refine ⟨_, rfl, _, rfl, _, rfl, _, rfl, f, xs, bs, rh, hs, pq, q, rfl, s16 _ _ hf15, bds_same al15 s16, l1, wd, fit, asc, s1516 _ _ rhb14, his_same ah14 s1516, Kw.Same.tup s16 gq, dq, t0, fun r17 zs17 H17 s17 e17 ac17 => ?_⟩
      refine ⟨_, .lst (SqL.of (s17 _ _ e16)) (cls_dp (cls_same ac16 s17)), .lst (SqL.of e17) (cls_dp ac17), (cls_ok _).1, (cls_ok _).2, _, rfl, iteF ?_⟩
      exact ⟨_, _, rfl, s1516.trans s17⟩
    rintro σ1 H15 ⟨u11, u12, rfl, s15⟩
    have hf15 := s15 _ _ hf14
    have al15 := bds_same al14w s15
    have e415 := s15 _ _ (b614 _ _ rdb e46)
    have ad15 := mds_same (mds_buts ad6 B614 nt6) s15
    refine ⟨_, rfl, f, xs, bs, rfl, hf15, bds_mono al15 (by decide), l1, wd, fun r16 zs16 H16 s16 n16 e16 am16 _ => ?_⟩
    refine ⟨_, rfl, _, .lst (SqL.of e16) (mds_dp am16), .lst (SqL.of (s16 _ _ e415)) (mds_dp (mds_same ad15 s16)), (mds_ok _).1, (mds_ok _).2, _, rfl, iteF ?_⟩
    refine ⟨_, rfl, 1, rfl, _, rfl, _, _, rfl, rfl, by show 2 ≤ sizeLine; decide, ?_⟩
    intro p17 n17
    obtain ⟨H17, q17, s17, e17⟩ := newO n17 (.tup [.int (-1), .int (1 + (0 + (i : Int)))])
    rw [q17]
    clear q17
    have g17 : FQ K H17 p17 (Rat.divInt (-1) (1 + (0 + (i : Int)))) := FQ.lit (SqT.of e17) (by omega) (by rw [Int.neg_gcd]; exact Int.one_gcd)
    have d17 : FB 64 (Rat.divInt (-1) (1 + (0 + (i : Int)))) := FB.fit (by omega) (Bd.small (by omega) (by omega)) (Bd.small (by omega) (by omega))
    have neg : ¬ 0 ≤ Rat.divInt (-1) (1 + (0 + (i : Int))) := fun z => by
      have p := q_divpos (a := 1) (b := 1 + (0 + (i : Int))) (by decide) (by omega)
      have e : Rat.divInt (-1) (1 + (0 + (i : Int))) = - Rat.divInt 1 (1 + (0 + (i : Int))) := by rw [Rat.neg_divInt]
      rw [e] at z
      grind
    have s1517 := s16.trans s17
    refine ⟨f, xs, bs, p17, _, rfl, s1517 _ _ hf15, bds_same al15 s1517, l1, wd, g17, d17.mono (by decide), neg, fun H18 s18 => ⟨_, rfl, iteF ?_⟩⟩
    exact ⟨_, _, _, _, _, _, _, _, _, _, _, _, rfl, sm.trans (But.fresh hb0 ((But.of sb).trans (s2.trans ((But.of s24).trans ((But.of S46).trans (b614.trans (But.of (s15.trans (s1517.trans s18)))))))))⟩
  · rintro σ0 H0 ⟨r1, r2, r3, r4, r5, r6, r7, r8, r9, r10, r11, r12, rfl, sm⟩
    exact fin _
end
theorem len1 {p : List Value → Prop} (h : ∀ x0, p [x0]) : ∀ us : List Value, us.length = 1 → p us := by
  intro us e
  cases us with
  | nil => exact absurd e (by show ¬ 0 = 1; decide)
  | cons x0 us =>
    cases us with
    | nil => exact h x0
    | cons y us => exact absurd e (by show ¬ us.length + 2 = 1; omega)
theorem len2 {p : List Value → Prop} (h : ∀ x0 x1, p [x0, x1]) : ∀ us : List Value, us.length = 2 → p us := by
  intro us e
  cases us with
  | nil => exact absurd e (by show ¬ 0 = 2; decide)
  | cons x0 us =>
    cases us with
    | nil => exact absurd e (by show ¬ 1 = 2; decide)
    | cons x1 us =>
      cases us with
      | nil => exact h x0 x1
      | cons y us => exact absurd e (by show ¬ us.length + 3 = 2; omega)
theorem len3 {p : List Value → Prop} (h : ∀ x0 x1 x2, p [x0, x1, x2]) : ∀ us : List Value, us.length = 3 → p us := by
  intro us e
  cases us with
  | nil => exact absurd e (by show ¬ 0 = 3; decide)
  | cons x0 us =>
    cases us with
    | nil => exact absurd e (by show ¬ 1 = 3; decide)
    | cons x1 us =>
      cases us with
      | nil => exact absurd e (by show ¬ 2 = 3; decide)
      | cons x2 us =>
        cases us with
        | nil => exact h x0 x1 x2
        | cons y us => exact absurd e (by show ¬ us.length + 4 = 3; omega)
theorem len4 {p : List Value → Prop} (h : ∀ x0 x1 x2 x3, p [x0, x1, x2, x3]) : ∀ us : List Value, us.length = 4 → p us := by
  intro us e
  cases us with
  | nil => exact absurd e (by show ¬ 0 = 4; decide)
  | cons x0 us =>
    cases us with
    | nil => exact absurd e (by show ¬ 1 = 4; decide)
    | cons x1 us =>
      cases us with
      | nil => exact absurd e (by show ¬ 2 = 4; decide)
      | cons x2 us =>
        cases us with
        | nil => exact absurd e (by show ¬ 3 = 4; decide)
        | cons x3 us =>
          cases us with
          | nil => exact h x0 x1 x2 x3
          | cons y us => exact absurd e (by show ¬ us.length + 5 = 4; omega)
set_option maxHeartbeats 0 in
theorem all_mk {P : Program} {w : World} {K : PySem.W.Frag} {h : Heap} {mg : Str → Option Value} (X : K.In h) (G : h.Ns mainGlobals mg)
    {C_KnockError C_NoMoment C_Sticking f0 f1 f2 f3 f4 f5 f6 f7 f8 f9 f10 f11 f12 f13 f14 f15 f16 f17 f18 f19 f20 f21 f22 f23 f24 f25 f26 f27 f28 f29 f30 f31 f32 f33 f34 f35 f36 f37 f38 f39 f40 f41 f42 f43 f44 f45 : Addr}
    {oc0 kV0 dc0 pm0 cd0 ct0 oc1 kV1 dc1 pm1 cd1 ct1 oc2 kV2 dc2 pm2 cd2 ct2 oc3 kV3 dc3 pm3 cd3 ct3 oc4 kV4 dc4 pm4 cd4 ct4 oc5 kV5 dc5 pm5 cd5 ct5 oc6 kV6 dc6 pm6 cd6 ct6 oc7 kV7 dc7 pm7 cd7 ct7 oc8 kV8 dc8 pm8 cd8 ct8 oc9 kV9 dc9 pm9 cd9 ct9 oc10 kV10 dc10 pm10 cd10 ct10 oc11 kV11 dc11 pm11 cd11 ct11 oc12 kV12 dc12 pm12 cd12 ct12 oc13 kV13 dc13 pm13 cd13 ct13 oc14 kV14 dc14 pm14 cd14 ct14 oc15 kV15 dc15 pm15 cd15 ct15 oc16 kV16 dc16 pm16 cd16 ct16 oc17 kV17 dc17 pm17 cd17 ct17 oc18 kV18 dc18 pm18 cd18 ct18 oc19 kV19 dc19 pm19 cd19 ct19 oc20 kV20 dc20 pm20 cd20 ct20 oc21 kV21 dc21 pm21 cd21 ct21 oc22 kV22 dc22 pm22 cd22 ct22 oc23 kV23 dc23 pm23 cd23 ct23 oc24 kV24 dc24 pm24 cd24 ct24 oc25 kV25 dc25 pm25 cd25 ct25 oc26 kV26 dc26 pm26 cd26 ct26 oc27 kV27 dc27 pm27 cd27 ct27 oc28 kV28 dc28 pm28 cd28 ct28 oc29 kV29 dc29 pm29 cd29 ct29 oc30 kV30 dc30 pm30 cd30 ct30 oc31 kV31 dc31 pm31 cd31 ct31 oc32 kV32 dc32 pm32 cd32 ct32 oc33 kV33 dc33 pm33 cd33 ct33 oc34 kV34 dc34 pm34 cd34 ct34 oc35 kV35 dc35 pm35 cd35 ct35 oc36 kV36 dc36 pm36 cd36 ct36 oc37 kV37 dc37 pm37 cd37 ct37 oc38 kV38 dc38 pm38 cd38 ct38 oc39 kV39 dc39 pm39 cd39 ct39 oc40 kV40 dc40 pm40 cd40 ct40 oc41 kV41 dc41 pm41 cd41 ct41 oc42 kV42 dc42 pm42 cd42 ct42 oc43 kV43 dc43 pm43 cd43 ct43 oc44 kV44 dc44 pm44 cd44 ct44 oc45 kV45 dc45 pm45 cd45 ct45 : Value}
    {od0 an0 od1 an1 od2 an2 od3 an3 od4 an4 od5 an5 od6 an6 od7 an7 od8 an8 od9 an9 od10 an10 od11 an11 od12 an12 od13 an13 od14 an14 od15 an15 od16 an16 od17 an17 od18 an18 od19 an19 od20 an20 od21 an21 od22 an22 od23 an23 od24 an24 od25 an25 od26 an26 od27 an27 od28 an28 od29 an29 od30 an30 od31 an31 od32 an32 od33 an33 od34 an34 od35 an35 od36 an36 od37 an37 od38 an38 od39 an39 od40 an40 od41 an41 od42 an42 od43 an43 od44 an44 od45 an45 : Option Addr}
    {sl0 sl1 sl2 sl3 sl4 sl5 sl6 sl7 sl8 sl9 sl10 sl11 sl12 sl13 sl14 sl15 sl16 sl17 sl18 sl19 sl20 sl21 sl22 sl23 sl24 sl25 sl26 sl27 sl28 sl29 sl30 sl31 sl32 sl33 sl34 sl35 sl36 sl37 sl38 sl39 sl40 sl41 sl42 sl43 sl44 sl45 : Array (Option Value)}
    {tk_LONG_BITS : Tok}
    {A_NOUGHT : Addr} {oG_NOUGHT : Option Addr} {k1_NOUGHT k2_NOUGHT : Tok} {nG_NOUGHT : Nat} {slG_NOUGHT : Array (Option Value)}
    (c_KnockError : PySem.W.nsIn K mainGlobals "KnockError" = some (some (.ref C_KnockError)))
    (c_NoMoment : PySem.W.nsIn K mainGlobals "NoMoment" = some (some (.ref C_NoMoment)))
    (c_Sticking : PySem.W.nsIn K mainGlobals "Sticking" = some (some (.ref C_Sticking)))
    (b_isinstance : PySem.W.nsIn K mainGlobals "isinstance" = some none)
    (b_list : PySem.W.nsIn K mainGlobals "list" = some none)
    (b_abs : PySem.W.nsIn K mainGlobals "abs" = some none)
    (b_len : PySem.W.nsIn K mainGlobals "len" = some none)
    (b_divmod : PySem.W.nsIn K mainGlobals "divmod" = some none)
    (b_range : PySem.W.nsIn K mainGlobals "range" = some none)
    (b_max : PySem.W.nsIn K mainGlobals "max" = some none)
    (b_min : PySem.W.nsIn K mainGlobals "min" = some none)
    (b_ValueError : PySem.W.nsIn K mainGlobals "ValueError" = some none)
    (b_enumerate : PySem.W.nsIn K mainGlobals "enumerate" = some none)
    (b_sum : PySem.W.nsIn K mainGlobals "sum" = some none)
    (chk : chkN K C_KnockError (clsAt [C_NoMoment]) 1 1 = true)
    (rd : PySem.W.readsIn K C_KnockError (.type "type") = true)
    (fc : PySem.W.findCls K (.ref C_KnockError) (.type "type") "__init__" = some (.val (.builtin "ValueError.__init__")))
    (gs : PySem.W.specialIn K (.ref C_KnockError) "__getattribute__" = some (some (.builtin "type.__getattribute__")))
    (s_NoMoment_NoMoment : PySem.W.subIn K (.ref C_NoMoment) (.ref C_NoMoment) = some true)
    (pg_Sticking : PySem.W.plainGet K C_Sticking Str.empty = true)
    (hd_Sticking : PySem.W.hasDictIn K C_Sticking = true)
    (po_Sticking : PySem.W.plainOver K C_Sticking = true)
    (sa_Sticking : PySem.W.findIn K (.ref C_Sticking) "__setattr__" = some (some (.builtin "object.__setattr__")))
    (mk_Sticking : PySem.W.makesIn K C_Sticking = true)
    (kp_Sticking : PySem.W.keepIn K (.ref C_Sticking) = true)
    (n_Sticking_clumps : PySem.W.findIn K (.ref C_Sticking) "clumps" = some none)
    (n_Sticking_known : PySem.W.findIn K (.ref C_Sticking) "known" = some none)
    (n_Sticking_joints : PySem.W.findIn K (.ref C_Sticking) "joints" = some none)
    (n_Sticking_coming : PySem.W.findIn K (.ref C_Sticking) "coming" = some none)
    (i_LONG_BITS : PySem.W.nsIn K mainGlobals "LONG_BITS" = some (some (.int 4000 tk_LONG_BITS)))
    (c_NOUGHT : PySem.W.nsIn K mainGlobals "NOUGHT" = some (some (.ref A_NOUGHT)))
    (z_NOUGHT : K.lookup A_NOUGHT = some ⟨.type "tuple", oG_NOUGHT, .seq #[.int 0 k1_NOUGHT, .int 1 k2_NOUGHT] nG_NOUGHT, slG_NOUGHT⟩)
    (a0 : PySem.W.nsIn K mainGlobals "common_divisor" = some (some (.ref f0)))
    (l0 : K.lookup f0 = some ⟨oc0, od0, .func (PySem.W.fnOf "common_divisor" "common_divisor" (defArgs (top 8)) (defBody (top 8)) (defScope (top 8)) .none kV0 dc0 pm0 an0 cd0 ct0), sl0⟩)
    (q0 : PySem.W.codeIn K cd0 "common_divisor" = true)
    (k0 : PySem.W.keepIn K (.ref f0) = true)
    (a1 : PySem.W.nsIn K mainGlobals "plus" = some (some (.ref f1)))
    (l1 : K.lookup f1 = some ⟨oc1, od1, .func (PySem.W.fnOf "plus" "plus" (defArgs (top 9)) (defBody (top 9)) (defScope (top 9)) .none kV1 dc1 pm1 an1 cd1 ct1), sl1⟩)
    (q1 : PySem.W.codeIn K cd1 "plus" = true)
    (k1 : PySem.W.keepIn K (.ref f1) = true)
    (a2 : PySem.W.nsIn K mainGlobals "minus" = some (some (.ref f2)))
    (l2 : K.lookup f2 = some ⟨oc2, od2, .func (PySem.W.fnOf "minus" "minus" (defArgs (top 10)) (defBody (top 10)) (defScope (top 10)) .none kV2 dc2 pm2 an2 cd2 ct2), sl2⟩)
    (q2 : PySem.W.codeIn K cd2 "minus" = true)
    (k2 : PySem.W.keepIn K (.ref f2) = true)
    (a3 : PySem.W.nsIn K mainGlobals "times" = some (some (.ref f3)))
    (l3 : K.lookup f3 = some ⟨oc3, od3, .func (PySem.W.fnOf "times" "times" (defArgs (top 11)) (defBody (top 11)) (defScope (top 11)) .none kV3 dc3 pm3 an3 cd3 ct3), sl3⟩)
    (q3 : PySem.W.codeIn K cd3 "times" = true)
    (k3 : PySem.W.keepIn K (.ref f3) = true)
    (a4 : PySem.W.nsIn K mainGlobals "over" = some (some (.ref f4)))
    (l4 : K.lookup f4 = some ⟨oc4, od4, .func (PySem.W.fnOf "over" "over" (defArgs (top 12)) (defBody (top 12)) (defScope (top 12)) .none kV4 dc4 pm4 an4 cd4 ct4), sl4⟩)
    (q4 : PySem.W.codeIn K cd4 "over" = true)
    (k4 : PySem.W.keepIn K (.ref f4) = true)
    (a5 : PySem.W.nsIn K mainGlobals "under" = some (some (.ref f5)))
    (l5 : K.lookup f5 = some ⟨oc5, od5, .func (PySem.W.fnOf "under" "under" (defArgs (top 13)) (defBody (top 13)) (defScope (top 13)) .none kV5 dc5 pm5 an5 cd5 ct5), sl5⟩)
    (q5 : PySem.W.codeIn K cd5 "under" = true)
    (k5 : PySem.W.keepIn K (.ref f5) = true)
    (a6 : PySem.W.nsIn K mainGlobals "push_of" = some (some (.ref f6)))
    (l6 : K.lookup f6 = some ⟨oc6, od6, .func (PySem.W.fnOf "push_of" "push_of" (defArgs (top 21)) (defBody (top 21)) (defScope (top 21)) .none kV6 dc6 pm6 an6 cd6 ct6), sl6⟩)
    (q6 : PySem.W.codeIn K cd6 "push_of" = true)
    (k6 : PySem.W.keepIn K (.ref f6) = true)
    (a7 : PySem.W.nsIn K mainGlobals "total" = some (some (.ref f7)))
    (l7 : K.lookup f7 = some ⟨oc7, od7, .func (PySem.W.fnOf "total" "total" (defArgs (top 22)) (defBody (top 22)) (defScope (top 22)) .none kV7 dc7 pm7 an7 cd7 ct7), sl7⟩)
    (q7 : PySem.W.codeIn K cd7 "total" = true)
    (k7 : PySem.W.keepIn K (.ref f7) = true)
    (a8 : PySem.W.nsIn K mainGlobals "push" = some (some (.ref f8)))
    (l8 : K.lookup f8 = some ⟨oc8, od8, .func (PySem.W.fnOf "push" "push" (defArgs (top 23)) (defBody (top 23)) (defScope (top 23)) .none kV8 dc8 pm8 an8 cd8 ct8), sl8⟩)
    (q8 : PySem.W.codeIn K cd8 "push" = true)
    (k8 : PySem.W.keepIn K (.ref f8) = true)
    (a9 : PySem.W.nsIn K mainGlobals "joint_moment" = some (some (.ref f9)))
    (l9 : K.lookup f9 = some ⟨oc9, od9, .func (PySem.W.fnOf "joint_moment" "joint_moment" (defArgs (top 18)) (defBody (top 18)) (defScope (top 18)) .none kV9 dc9 pm9 an9 cd9 ct9), sl9⟩)
    (q9 : PySem.W.codeIn K cd9 "joint_moment" = true)
    (k9 : PySem.W.keepIn K (.ref f9) = true)
    (a10 : PySem.W.nsIn K mainGlobals "least" = some (some (.ref f10)))
    (l10 : K.lookup f10 = some ⟨oc10, od10, .func (PySem.W.fnOf "least" "least" (defArgs (top 19)) (defBody (top 19)) (defScope (top 19)) .none kV10 dc10 pm10 an10 cd10 ct10), sl10⟩)
    (q10 : PySem.W.codeIn K cd10 "least" = true)
    (k10 : PySem.W.keepIn K (.ref f10) = true)
    (a11 : PySem.W.nsIn K mainGlobals "place_at" = some (some (.ref f11)))
    (l11 : K.lookup f11 = some ⟨oc11, od11, .func (PySem.W.fnOf "place_at" "place_at" (defArgs (top 17)) (defBody (top 17)) (defScope (top 17)) .none kV11 dc11 pm11 an11 cd11 ct11), sl11⟩)
    (q11 : PySem.W.codeIn K cd11 "place_at" = true)
    (k11 : PySem.W.keepIn K (.ref f11) = true)
    (a12 : PySem.W.nsIn K mainGlobals "going_of" = some (some (.ref f12)))
    (l12 : K.lookup f12 = some ⟨oc12, od12, .func (PySem.W.fnOf "going_of" "going_of" (defArgs (top 25)) (defBody (top 25)) (defScope (top 25)) .none kV12 dc12 pm12 an12 cd12 ct12), sl12⟩)
    (q12 : PySem.W.codeIn K cd12 "going_of" = true)
    (k12 : PySem.W.keepIn K (.ref f12) = true)
    (a13 : PySem.W.nsIn K mainGlobals "stuck" = some (some (.ref f13)))
    (l13 : K.lookup f13 = some ⟨oc13, od13, .func (PySem.W.fnOf "stuck" "stuck" (defArgs (top 26)) (defBody (top 26)) (defScope (top 26)) .none kV13 dc13 pm13 an13 cd13 ct13), sl13⟩)
    (q13 : PySem.W.codeIn K cd13 "stuck" = true)
    (k13 : PySem.W.keepIn K (.ref f13) = true)
    (a14 : PySem.W.findIn K (.ref C_Sticking) "joint_of" = some (some (.ref f14)))
    (t14 : PySem.W.isFn K (.ref f14) = true)
    (l14 : K.lookup f14 = some ⟨oc14, od14, .func (PySem.W.fnOf "joint_of" "Sticking.joint_of" (defArgs (mthAt (top 27) 1)) (defBody (mthAt (top 27) 1)) (defScope (mthAt (top 27) 1)) .none kV14 dc14 pm14 an14 cd14 ct14), sl14⟩)
    (q14 : PySem.W.codeIn K cd14 "Sticking.joint_of" = true)
    (k14 : PySem.W.keepIn K (.ref f14) = true)
    (a15 : PySem.W.findIn K (.ref C_Sticking) "look_ahead" = some (some (.ref f15)))
    (t15 : PySem.W.isFn K (.ref f15) = true)
    (l15 : K.lookup f15 = some ⟨oc15, od15, .func (PySem.W.fnOf "look_ahead" "Sticking.look_ahead" (defArgs (mthAt (top 27) 2)) (defBody (mthAt (top 27) 2)) (defScope (mthAt (top 27) 2)) .none kV15 dc15 pm15 an15 cd15 ct15), sl15⟩)
    (q15 : PySem.W.codeIn K cd15 "Sticking.look_ahead" = true)
    (k15 : PySem.W.keepIn K (.ref f15) = true)
    (a16 : PySem.W.findIn K (.ref C_Sticking) "__init__" = some (some (.ref f16)))
    (t16 : PySem.W.isFn K (.ref f16) = true)
    (l16 : K.lookup f16 = some ⟨oc16, od16, .func (PySem.W.fnOf "__init__" "Sticking.__init__" (defArgs (mthAt (top 27) 0)) (defBody (mthAt (top 27) 0)) (defScope (mthAt (top 27) 0)) .none kV16 dc16 pm16 an16 cd16 ct16), sl16⟩)
    (q16 : PySem.W.codeIn K cd16 "Sticking.__init__" = true)
    (k16 : PySem.W.keepIn K (.ref f16) = true)
    (a17 : PySem.W.findIn K (.ref C_Sticking) "comes_by" = some (some (.ref f17)))
    (t17 : PySem.W.isFn K (.ref f17) = true)
    (l17 : K.lookup f17 = some ⟨oc17, od17, .func (PySem.W.fnOf "comes_by" "Sticking.comes_by" (defArgs (mthAt (top 27) 3)) (defBody (mthAt (top 27) 3)) (defScope (mthAt (top 27) 3)) .none kV17 dc17 pm17 an17 cd17 ct17), sl17⟩)
    (q17 : PySem.W.codeIn K cd17 "Sticking.comes_by" = true)
    (k17 : PySem.W.keepIn K (.ref f17) = true)
    (a18 : PySem.W.findIn K (.ref C_Sticking) "groups" = some (some (.ref f18)))
    (t18 : PySem.W.isFn K (.ref f18) = true)
    (l18 : K.lookup f18 = some ⟨oc18, od18, .func (PySem.W.fnOf "groups" "Sticking.groups" (defArgs (mthAt (top 27) 4)) (defBody (mthAt (top 27) 4)) (defScope (mthAt (top 27) 4)) .none kV18 dc18 pm18 an18 cd18 ct18), sl18⟩)
    (q18 : PySem.W.codeIn K cd18 "Sticking.groups" = true)
    (k18 : PySem.W.keepIn K (.ref f18) = true)
    (a19 : PySem.W.findIn K (.ref C_Sticking) "stick" = some (some (.ref f19)))
    (t19 : PySem.W.isFn K (.ref f19) = true)
    (l19 : K.lookup f19 = some ⟨oc19, od19, .func (PySem.W.fnOf "stick" "Sticking.stick" (defArgs (mthAt (top 27) 5)) (defBody (mthAt (top 27) 5)) (defScope (mthAt (top 27) 5)) .none kV19 dc19 pm19 an19 cd19 ct19), sl19⟩)
    (q19 : PySem.W.codeIn K cd19 "Sticking.stick" = true)
    (k19 : PySem.W.keepIn K (.ref f19) = true)
    (a20 : PySem.W.nsIn K mainGlobals "refuse_below_nought" = some (some (.ref f20)))
    (l20 : K.lookup f20 = some ⟨oc20, od20, .func (PySem.W.fnOf "refuse_below_nought" "refuse_below_nought" (defArgs (top 16)) (defBody (top 16)) (defScope (top 16)) .none kV20 dc20 pm20 an20 cd20 ct20), sl20⟩)
    (q20 : PySem.W.codeIn K cd20 "refuse_below_nought" = true)
    (k20 : PySem.W.keepIn K (.ref f20) = true)
    (a21 : PySem.W.nsIn K mainGlobals "stuck_run" = some (some (.ref f21)))
    (l21 : K.lookup f21 = some ⟨oc21, od21, .func (PySem.W.fnOf "stuck_run" "stuck_run" (defArgs (top 28)) (defBody (top 28)) (defScope (top 28)) .none kV21 dc21 pm21 an21 cd21 ct21), sl21⟩)
    (q21 : PySem.W.codeIn K cd21 "stuck_run" = true)
    (k21 : PySem.W.keepIn K (.ref f21) = true)
    (a22 : PySem.W.nsIn K mainGlobals "clump_at" = some (some (.ref f22)))
    (l22 : K.lookup f22 = some ⟨oc22, od22, .func (PySem.W.fnOf "clump_at" "clump_at" (defArgs (top 29)) (defBody (top 29)) (defScope (top 29)) .none kV22 dc22 pm22 an22 cd22 ct22), sl22⟩)
    (q22 : PySem.W.codeIn K cd22 "clump_at" = true)
    (k22 : PySem.W.keepIn K (.ref f22) = true)
    (a23 : PySem.W.nsIn K mainGlobals "clumps_at" = some (some (.ref f23)))
    (l23 : K.lookup f23 = some ⟨oc23, od23, .func (PySem.W.fnOf "clumps_at" "clumps_at" (defArgs (top 30)) (defBody (top 30)) (defScope (top 30)) .none kV23 dc23 pm23 an23 cd23 ct23), sl23⟩)
    (q23 : PySem.W.codeIn K cd23 "clumps_at" = true)
    (k23 : PySem.W.keepIn K (.ref f23) = true)
    (a24 : PySem.W.nsIn K mainGlobals "_law_cell" = some (some (.ref f24)))
    (l24 : K.lookup f24 = some ⟨oc24, od24, .func (PySem.W.fnOf "_law_cell" "_law_cell" (defArgs (top 32)) (defBody (top 32)) (defScope (top 32)) .none kV24 dc24 pm24 an24 cd24 ct24), sl24⟩)
    (q24 : PySem.W.codeIn K cd24 "_law_cell" = true)
    (k24 : PySem.W.keepIn K (.ref f24) = true)
    (a25 : PySem.W.nsIn K mainGlobals "_law_mix" = some (some (.ref f25)))
    (l25 : K.lookup f25 = some ⟨oc25, od25, .func (PySem.W.fnOf "_law_mix" "_law_mix" (defArgs (top 33)) (defBody (top 33)) (defScope (top 33)) .none kV25 dc25 pm25 an25 cd25 ct25), sl25⟩)
    (q25 : PySem.W.codeIn K cd25 "_law_mix" = true)
    (k25 : PySem.W.keepIn K (.ref f25) = true)
    (a26 : PySem.W.nsIn K mainGlobals "_law_box" = some (some (.ref f26)))
    (l26 : K.lookup f26 = some ⟨oc26, od26, .func (PySem.W.fnOf "_law_box" "_law_box" (defArgs (top 34)) (defBody (top 34)) (defScope (top 34)) .none kV26 dc26 pm26 an26 cd26 ct26), sl26⟩)
    (q26 : PySem.W.codeIn K cd26 "_law_box" = true)
    (k26 : PySem.W.keepIn K (.ref f26) = true)
    (a27 : PySem.W.nsIn K mainGlobals "_law_take" = some (some (.ref f27)))
    (l27 : K.lookup f27 = some ⟨oc27, od27, .func (PySem.W.fnOf "_law_take" "_law_take" (defArgs (top 35)) (defBody (top 35)) (defScope (top 35)) .none kV27 dc27 pm27 an27 cd27 ct27), sl27⟩)
    (q27 : PySem.W.codeIn K cd27 "_law_take" = true)
    (k27 : PySem.W.keepIn K (.ref f27) = true)
    (a28 : PySem.W.nsIn K mainGlobals "_law_fit" = some (some (.ref f28)))
    (l28 : K.lookup f28 = some ⟨oc28, od28, .func (PySem.W.fnOf "_law_fit" "_law_fit" (defArgs (top 36)) (defBody (top 36)) (defScope (top 36)) .none kV28 dc28 pm28 an28 cd28 ct28), sl28⟩)
    (q28 : PySem.W.codeIn K cd28 "_law_fit" = true)
    (k28 : PySem.W.keepIn K (.ref f28) = true)
    (a29 : PySem.W.nsIn K mainGlobals "_law_plus" = some (some (.ref f29)))
    (l29 : K.lookup f29 = some ⟨oc29, od29, .func (PySem.W.fnOf "_law_plus" "_law_plus" (defArgs (top 37)) (defBody (top 37)) (defScope (top 37)) .none kV29 dc29 pm29 an29 cd29 ct29), sl29⟩)
    (q29 : PySem.W.codeIn K cd29 "_law_plus" = true)
    (k29 : PySem.W.keepIn K (.ref f29) = true)
    (a30 : PySem.W.nsIn K mainGlobals "_law_minus" = some (some (.ref f30)))
    (l30 : K.lookup f30 = some ⟨oc30, od30, .func (PySem.W.fnOf "_law_minus" "_law_minus" (defArgs (top 38)) (defBody (top 38)) (defScope (top 38)) .none kV30 dc30 pm30 an30 cd30 ct30), sl30⟩)
    (q30 : PySem.W.codeIn K cd30 "_law_minus" = true)
    (k30 : PySem.W.keepIn K (.ref f30) = true)
    (a31 : PySem.W.nsIn K mainGlobals "_law_times" = some (some (.ref f31)))
    (l31 : K.lookup f31 = some ⟨oc31, od31, .func (PySem.W.fnOf "_law_times" "_law_times" (defArgs (top 39)) (defBody (top 39)) (defScope (top 39)) .none kV31 dc31 pm31 an31 cd31 ct31), sl31⟩)
    (q31 : PySem.W.codeIn K cd31 "_law_times" = true)
    (k31 : PySem.W.keepIn K (.ref f31) = true)
    (a32 : PySem.W.nsIn K mainGlobals "_law_over" = some (some (.ref f32)))
    (l32 : K.lookup f32 = some ⟨oc32, od32, .func (PySem.W.fnOf "_law_over" "_law_over" (defArgs (top 40)) (defBody (top 40)) (defScope (top 40)) .none kV32 dc32 pm32 an32 cd32 ct32), sl32⟩)
    (q32 : PySem.W.codeIn K cd32 "_law_over" = true)
    (k32 : PySem.W.keepIn K (.ref f32) = true)
    (a33 : PySem.W.nsIn K mainGlobals "_law_less" = some (some (.ref f33)))
    (l33 : K.lookup f33 = some ⟨oc33, od33, .func (PySem.W.fnOf "_law_less" "_law_less" (defArgs (top 41)) (defBody (top 41)) (defScope (top 41)) .none kV33 dc33 pm33 an33 cd33 ct33), sl33⟩)
    (q33 : PySem.W.codeIn K cd33 "_law_less" = true)
    (k33 : PySem.W.keepIn K (.ref f33) = true)
    (a34 : PySem.W.nsIn K mainGlobals "_law_small" = some (some (.ref f34)))
    (l34 : K.lookup f34 = some ⟨oc34, od34, .func (PySem.W.fnOf "_law_small" "_law_small" (defArgs (top 42)) (defBody (top 42)) (defScope (top 42)) .none kV34 dc34 pm34 an34 cd34 ct34), sl34⟩)
    (q34 : PySem.W.codeIn K cd34 "_law_small" = true)
    (k34 : PySem.W.keepIn K (.ref f34) = true)
    (a35 : PySem.W.nsIn K mainGlobals "_law_led_together" = some (some (.ref f35)))
    (l35 : K.lookup f35 = some ⟨oc35, od35, .func (PySem.W.fnOf "_law_led_together" "_law_led_together" (defArgs (top 44)) (defBody (top 44)) (defScope (top 44)) .none kV35 dc35 pm35 an35 cd35 ct35), sl35⟩)
    (q35 : PySem.W.codeIn K cd35 "_law_led_together" = true)
    (k35 : PySem.W.keepIn K (.ref f35) = true)
    (a36 : PySem.W.nsIn K mainGlobals "_law_world" = some (some (.ref f36)))
    (l36 : K.lookup f36 = some ⟨oc36, od36, .func (PySem.W.fnOf "_law_world" "_law_world" (defArgs (top 43)) (defBody (top 43)) (defScope (top 43)) .none kV36 dc36 pm36 an36 cd36 ct36), sl36⟩)
    (q36 : PySem.W.codeIn K cd36 "_law_world" = true)
    (k36 : PySem.W.keepIn K (.ref f36) = true)
    (a37 : PySem.W.nsIn K mainGlobals "_law_joined" = some (some (.ref f37)))
    (l37 : K.lookup f37 = some ⟨oc37, od37, .func (PySem.W.fnOf "_law_joined" "_law_joined" (defArgs (top 45)) (defBody (top 45)) (defScope (top 45)) .none kV37 dc37 pm37 an37 cd37 ct37), sl37⟩)
    (q37 : PySem.W.codeIn K cd37 "_law_joined" = true)
    (k37 : PySem.W.keepIn K (.ref f37) = true)
    (a38 : PySem.W.nsIn K mainGlobals "_law_all" = some (some (.ref f38)))
    (l38 : K.lookup f38 = some ⟨oc38, od38, .func (PySem.W.fnOf "_law_all" "_law_all" (defArgs (top 46)) (defBody (top 46)) (defScope (top 46)) .none kV38 dc38 pm38 an38 cd38 ct38), sl38⟩)
    (q38 : PySem.W.codeIn K cd38 "_law_all" = true)
    (k38 : PySem.W.keepIn K (.ref f38) = true)
    (a39 : PySem.W.nsIn K mainGlobals "_law_next" = some (some (.ref f39)))
    (l39 : K.lookup f39 = some ⟨oc39, od39, .func (PySem.W.fnOf "_law_next" "_law_next" (defArgs (top 47)) (defBody (top 47)) (defScope (top 47)) .none kV39 dc39 pm39 an39 cd39 ct39), sl39⟩)
    (q39 : PySem.W.codeIn K cd39 "_law_next" = true)
    (k39 : PySem.W.keepIn K (.ref f39) = true)
    (a40 : PySem.W.nsIn K mainGlobals "_law_put_together" = some (some (.ref f40)))
    (l40 : K.lookup f40 = some ⟨oc40, od40, .func (PySem.W.fnOf "_law_put_together" "_law_put_together" (defArgs (top 48)) (defBody (top 48)) (defScope (top 48)) .none kV40 dc40 pm40 an40 cd40 ct40), sl40⟩)
    (q40 : PySem.W.codeIn K cd40 "_law_put_together" = true)
    (k40 : PySem.W.keepIn K (.ref f40) = true)
    (a41 : PySem.W.nsIn K mainGlobals "_law_history" = some (some (.ref f41)))
    (l41 : K.lookup f41 = some ⟨oc41, od41, .func (PySem.W.fnOf "_law_history" "_law_history" (defArgs (top 49)) (defBody (top 49)) (defScope (top 49)) .none kV41 dc41 pm41 an41 cd41 ct41), sl41⟩)
    (q41 : PySem.W.codeIn K cd41 "_law_history" = true)
    (k41 : PySem.W.keepIn K (.ref f41) = true)
    (a42 : PySem.W.nsIn K mainGlobals "_law_run" = some (some (.ref f42)))
    (l42 : K.lookup f42 = some ⟨oc42, od42, .func (PySem.W.fnOf "_law_run" "_law_run" (defArgs (top 50)) (defBody (top 50)) (defScope (top 50)) .none kV42 dc42 pm42 an42 cd42 ct42), sl42⟩)
    (q42 : PySem.W.codeIn K cd42 "_law_run" = true)
    (k42 : PySem.W.keepIn K (.ref f42) = true)
    (a43 : PySem.W.nsIn K mainGlobals "_law_clumps" = some (some (.ref f43)))
    (l43 : K.lookup f43 = some ⟨oc43, od43, .func (PySem.W.fnOf "_law_clumps" "_law_clumps" (defArgs (top 51)) (defBody (top 51)) (defScope (top 51)) .none kV43 dc43 pm43 an43 cd43 ct43), sl43⟩)
    (q43 : PySem.W.codeIn K cd43 "_law_clumps" = true)
    (k43 : PySem.W.keepIn K (.ref f43) = true)
    (a44 : PySem.W.nsIn K mainGlobals "_law_refused" = some (some (.ref f44)))
    (l44 : K.lookup f44 = some ⟨oc44, od44, .func (PySem.W.fnOf "_law_refused" "_law_refused" (defArgs (top 52)) (defBody (top 52)) (defScope (top 52)) .none kV44 dc44 pm44 an44 cd44 ct44), sl44⟩)
    (q44 : PySem.W.codeIn K cd44 "_law_refused" = true)
    (k44 : PySem.W.keepIn K (.ref f44) = true)
    (a45 : PySem.W.nsIn K mainGlobals "law" = some (some (.ref f45)))
    (l45 : K.lookup f45 = some ⟨oc45, od45, .func (PySem.W.fnOf "law" "law" (defArgs (top 53)) (defBody (top 53)) (defScope (top 53)) .none kV45 dc45 pm45 an45 cd45 ct45), sl45⟩)
    (q45 : PySem.W.codeIn K cd45 "law" = true)
    (k45 : PySem.W.keepIn K (.ref f45) = true) :
    ∃ fa, mg "law" = some (.ref fa) ∧ ∃ fd : FuncData, (∀ (s : Shared) (u : Value), BindsTo s fd ⟨[u], []⟩ [("_law_script", u)]) ∧ ∀ base : Heap, K.In base → base.Ns mainGlobals mg → FnOk P w K mg base (CXE P w) 11 fa fd ["_law_script"] (spLaw K) := by
  have T : Tx K mg C_KnockError (clsAt [C_NoMoment, C_Sticking]) := ⟨PySem.W.mg_none_of X G b_isinstance, PySem.W.mg_none_of X G b_list, PySem.W.mg_none_of X G b_abs, PySem.W.mg_none_of X G b_len, PySem.W.mg_none_of X G b_divmod, PySem.W.mg_none_of X G b_range, PySem.W.mg_none_of X G b_max, PySem.W.mg_none_of X G b_min, PySem.W.mg_none_of X G b_ValueError, PySem.W.mg_none_of X G b_enumerate, PySem.W.mg_none_of X G b_sum, PySem.W.mg_of X G c_KnockError, PySem.W.mg_of X G c_NoMoment, refs_ok chk, rd, fc, gs, s_NoMoment_NoMoment, PySem.W.mg_of X G c_Sticking, ⟨pg_Sticking, hd_Sticking, po_Sticking, sa_Sticking⟩, mk_Sticking, kp_Sticking, n_Sticking_clumps, n_Sticking_known, n_Sticking_joints, n_Sticking_coming, ⟨_, PySem.W.mg_of X G i_LONG_BITS⟩, ⟨_, PySem.W.mg_of X G c_NOUGHT, sqt_const z_NOUGHT⟩⟩
  have D0 := df_mk (ps := ["one", "other"]) X G a0 l0 q0 k0 (len2 fun _ _ => rfl)
  have D1 := df_mk (ps := ["one", "other"]) X G a1 l1 q1 k1 (len2 fun _ _ => rfl)
  have D2 := df_mk (ps := ["one", "other"]) X G a2 l2 q2 k2 (len2 fun _ _ => rfl)
  have D3 := df_mk (ps := ["one", "other"]) X G a3 l3 q3 k3 (len2 fun _ _ => rfl)
  have D4 := df_mk (ps := ["one", "other"]) X G a4 l4 q4 k4 (len2 fun _ _ => rfl)
  have D5 := df_mk (ps := ["one", "other"]) X G a5 l5 q5 k5 (len2 fun _ _ => rfl)
  have D6 := df_mk (ps := ["body"]) X G a6 l6 q6 k6 (len1 fun _ => rfl)
  have D7 := df_mk (ps := ["numbers"]) X G a7 l7 q7 k7 (len1 fun _ => rfl)
  have D8 := df_mk (ps := ["bodies"]) X G a8 l8 q8 k8 (len1 fun _ => rfl)
  have D9 := df_mk (ps := ["one", "other"]) X G a9 l9 q9 k9 (len2 fun _ _ => rfl)
  have D10 := df_mk (ps := ["moments"]) X G a10 l10 q10 k10 (len1 fun _ => rfl)
  have D11 := df_mk (ps := ["body", "moment"]) X G a11 l11 q11 k11 (len2 fun _ _ => rfl)
  have D12 := df_mk (ps := ["clump"]) X G a12 l12 q12 k12 (len1 fun _ => rfl)
  have D13 := df_mk (ps := ["parts"]) X G a13 l13 q13 k13 (len1 fun _ => rfl)
  have D14 := dfm_mk (ps := ["self", "left"]) a14 t14 l14 q14 k14 (len2 fun _ _ => rfl)
  have D15 := dfm_mk (ps := ["self"]) a15 t15 l15 q15 k15 (len1 fun _ => rfl)
  have D16 := dfm_mk (ps := ["self", "world"]) a16 t16 l16 q16 k16 (len2 fun _ _ => rfl)
  have D17 := dfm_mk (ps := ["self", "moment"]) a17 t17 l17 q17 k17 (len2 fun _ _ => rfl)
  have D18 := dfm_mk (ps := ["self"]) a18 t18 l18 q18 k18 (len1 fun _ => rfl)
  have D19 := dfm_mk (ps := ["self"]) a19 t19 l19 q19 k19 (len1 fun _ => rfl)
  have D20 := df_mk (ps := ["moment"]) X G a20 l20 q20 k20 (len1 fun _ => rfl)
  have D21 := df_mk (ps := ["world"]) X G a21 l21 q21 k21 (len1 fun _ => rfl)
  have D22 := df_mk (ps := ["clump", "moment"]) X G a22 l22 q22 k22 (len2 fun _ _ => rfl)
  have D23 := df_mk (ps := ["world", "moment"]) X G a23 l23 q23 k23 (len2 fun _ _ => rfl)
  have D24 := df_mk (ps := ["_law_script", "_law_k"]) X G a24 l24 q24 k24 (len2 fun _ _ => rfl)
  have D25 := df_mk (ps := ["_law_cell_here", "_law_k"]) X G a25 l25 q25 k25 (len2 fun _ _ => rfl)
  have D26 := df_mk (ps := ["_law_script", "_law_k"]) X G a26 l26 q26 k26 (len2 fun _ _ => rfl)
  have D27 := df_mk (ps := ["_law_box_here", "_law_many"]) X G a27 l27 q27 k27 (len2 fun _ _ => rfl)
  have D28 := df_mk (ps := ["_law_top", "_law_bottom"]) X G a28 l28 q28 k28 (len2 fun _ _ => rfl)
  have D29 := df_mk (ps := ["_law_one", "_law_other"]) X G a29 l29 q29 k29 (len2 fun _ _ => rfl)
  have D30 := df_mk (ps := ["_law_one", "_law_other"]) X G a30 l30 q30 k30 (len2 fun _ _ => rfl)
  have D31 := df_mk (ps := ["_law_one", "_law_other"]) X G a31 l31 q31 k31 (len2 fun _ _ => rfl)
  have D32 := df_mk (ps := ["_law_one", "_law_other"]) X G a32 l32 q32 k32 (len2 fun _ _ => rfl)
  have D33 := df_mk (ps := ["_law_one", "_law_other"]) X G a33 l33 q33 k33 (len2 fun _ _ => rfl)
  have D34 := df_mk (ps := ["_law_box_here"]) X G a34 l34 q34 k34 (len1 fun _ => rfl)
  have D35 := df_mk (ps := ["_law_box_here", "_law_world_here"]) X G a35 l35 q35 k35 (len2 fun _ _ => rfl)
  have D36 := df_mk (ps := ["_law_box_here"]) X G a36 l36 q36 k36 (len1 fun _ => rfl)
  have D37 := df_mk (ps := ["_law_world_here", "_law_first", "_law_last", "_law_moment"]) X G a37 l37 q37 k37 (len4 fun _ _ _ _ => rfl)
  have D38 := df_mk (ps := ["_law_world_here", "_law_parts", "_law_moment"]) X G a38 l38 q38 k38 (len3 fun _ _ _ => rfl)
  have D39 := df_mk (ps := ["_law_world_here", "_law_parts", "_law_moment"]) X G a39 l39 q39 k39 (len3 fun _ _ _ => rfl)
  have D40 := df_mk (ps := ["_law_world_here", "_law_parts", "_law_moment"]) X G a40 l40 q40 k40 (len3 fun _ _ _ => rfl)
  have D41 := df_mk (ps := ["_law_world_here"]) X G a41 l41 q41 k41 (len1 fun _ => rfl)
  have D42 := df_mk (ps := ["_law_world_here", "_law_history_here"]) X G a42 l42 q42 k42 (len2 fun _ _ => rfl)
  have D43 := df_mk (ps := ["_law_world_here", "_law_history_here", "_law_moment"]) X G a43 l43 q43 k43 (len3 fun _ _ _ => rfl)
  have D44 := df_mk (ps := ["_law_world_here", "_law_moment"]) X G a44 l44 q44 k44 (len2 fun _ _ => rfl)
  have D45 := df_mk (ps := ["_law_script"]) X G a45 l45 q45 k45 (len1 fun _ => rfl)
  refine law_end X G a45 l45 (fun _ => rfl) fun base kb nb => ?_
  have F0 := ok_common_divisor (P := P) (w := w) (base := base) D0 T
  have F1 := ok_plus (P := P) (w := w) (base := base) D1 T F0
  have F2 := ok_minus (P := P) (w := w) (base := base) D2 T F1
  have F3 := ok_times (P := P) (w := w) (base := base) D3 T F0
  have F4 := ok_over (P := P) (w := w) (base := base) D4 T F3
  have F5 := ok_under (P := P) (w := w) (base := base) D5 T
  have F6 := ok_push_of (P := P) (w := w) (base := base) D6 T F3
  have F7 := ok_total (P := P) (w := w) (base := base) D7 T F1
  have F8 := ok_push (P := P) (w := w) (base := base) D8 T F6 F7
  have F9 := ok_joint_moment (P := P) (w := w) (base := base) D9 T F2 F4
  have F10 := ok_least (P := P) (w := w) (base := base) D10 T F5
  have F11 := ok_place_at (P := P) (w := w) (base := base) D11 T F3 F1
  have F12 := ok_going_of (P := P) (w := w) (base := base) D12 T
  have F13 := ok_stuck (P := P) (w := w) (base := base) D13 T F3 F7 F12 F8 F4
  have F14 := ok_Sticking_joint_of (P := P) (w := w) (base := base) D14 T F12 F9
  have F15 := ok_Sticking_look_ahead (P := P) (w := w) (base := base) D15 T F14 F10
  have F16 := ok_Sticking___init__ (P := P) (w := w) (base := base) D16 T F15
  have F17 := ok_Sticking_comes_by (P := P) (w := w) (base := base) D17 T F5
  have F18 := ok_Sticking_groups (P := P) (w := w) (base := base) D18 T
  have F19 := ok_Sticking_stick (P := P) (w := w) (base := base) D19 T F18 F13 F11 F12 F15
  have F20 := ok_refuse_below_nought (P := P) (w := w) (base := base) D20 T F5
  have F21 := ok_stuck_run (P := P) (w := w) (base := base) D21 T F16 F19
  have F22 := ok_clump_at (P := P) (w := w) (base := base) D22 T F11 F12
  have F23 := ok_clumps_at (P := P) (w := w) (base := base) D23 T F20 F16 F17 F19 F22
  have F24 := ok_law_cell (P := P) (w := w) (base := base) D24 T
  have F25 := ok_law_mix (P := P) (w := w) (base := base) D25 T
  have F26 := ok_law_box (P := P) (w := w) (base := base) D26 T F24 F25
  have F27 := ok_law_take (P := P) (w := w) (base := base) D27 T
  have F28 := ok_law_fit (P := P) (w := w) (base := base) D28 T
  have F29 := ok_law_plus (P := P) (w := w) (base := base) D29 T F28
  have F30 := ok_law_minus (P := P) (w := w) (base := base) D30 T F28
  have F31 := ok_law_times (P := P) (w := w) (base := base) D31 T F28
  have F32 := ok_law_over (P := P) (w := w) (base := base) D32 T F28
  have F33 := ok_law_less (P := P) (w := w) (base := base) D33 T
  have F34 := ok_law_small (P := P) (w := w) (base := base) D34 T F27 F28
  have F35 := ok_law_led_together (P := P) (w := w) (base := base) D35 T F27 F28 F34 F29 F30 F32
  have F36 := ok_law_world (P := P) (w := w) (base := base) D36 T F27 F34 F28 F29 F35
  have F37 := ok_law_joined (P := P) (w := w) (base := base) D37 T F29 F31 F32
  have F38 := ok_law_all (P := P) (w := w) (base := base) D38 T F37
  have F39 := ok_law_next (P := P) (w := w) (base := base) D39 T F38 F33 F32 F30 F29
  have F40 := ok_law_put_together (P := P) (w := w) (base := base) D40 T F38
  have F41 := ok_law_history (P := P) (w := w) (base := base) D41 T F39 F40
  have F42 := ok_law_run (P := P) (w := w) (base := base) D42 T F37
  have F43 := ok_law_clumps (P := P) (w := w) (base := base) D43 T F33 F38
  have F44 := ok_law_refused (P := P) (w := w) (base := base) D44 T F23
  have F45 := ok_law (P := P) (w := w) (base := base) D45 T F26 F36 F41 F42 F21 F27 F28 F29 F31 F23 F43 F44
  exact F45
end Prf
namespace Kw
open PySem PySem.Spec PyProof.Rows L2
theorem walk_kwX {pn : Str} {l : PySem.W.OpenLaw} {k : Nat} {q : Program} {loose : List Str} {XP : (Str → Option Value) → Heap → Prop} {as0 : List Addr} {n0 t0 : Nat} {d : DefRec} {K : Params → PySem.W.Frag}
    (hn : l.most = some 63) (hdf : d.params.defaults = []) (hr : Room k callerA) (hK : ∀ P, as0 = (K P).map (·.1)) (hnm : d.name = "law")
    (F : ∀ (w : World) (mg : Str → Option Value) (h : Heap), (K w.params).In h → h.Ns mainGlobals mg → ∃ fa, mg "law" = some (.ref fa) ∧ ∃ fd : FuncData, (∀ (s : Shared) (u : Value), BindsTo s fd ⟨[u], []⟩ [(pn, u)]) ∧
      ∀ base : Heap, (K w.params).In base → base.Ns mainGlobals mg → FnOk l.prog w (K w.params) mg base (CXE l.prog w) k fa fd [pn] (spLaw (K w.params))) :
    PySem.W.WalkX q loose XP (PySem.W.X.obsZ as0) (PySem.W.X.valZ K n0 t0) l.row.toRowW d [] (fun f vs => PySem.call f vs) := by
  intro w s₀ s₁ mg mb G Y fa o pm cd doc dV kV ho hd hcd hD hmg hg args vals as L hpre hlay hrd hwl hlo
  exact walk_kw (YP := fun w h => (K w.params).In h) hn hdf hr (fun _ _ z => z) hnm F w s₀ s₁ mg mb G (PySem.W.InK.keeps w _ _ (PySem.W.X.z_facts hK Y).2.1 L.keeps) fa o pm cd doc dV kV ho hd hcd hD hmg hg args vals as hpre hlay hrd hwl hlo
end Kw
noncomputable def PySem.W.Fast.tw13526041292692378173 : PySem.Program := PySem.Challenge.pw_knockwright_k81_what_sticks
theorem PySem.W.Fast.te13526041292692378173 : PySem.Challenge.pw_knockwright_k81_what_sticks = PySem.W.Fast.tw13526041292692378173 := rfl
noncomputable def PySem.W.Fast.tw6649749164784370848 : Unit := ()
noncomputable def PySem.W.Fast.tw17131950987012157903 : Unit := ()
noncomputable def PySem.W.Fast.tw13965685635928601853 : Unit := ()
noncomputable def PySem.W.Fast.tw5577251447039787514 : Unit := ()
noncomputable def PySem.W.Fast.tw14091826645069597294 : Unit := ()
noncomputable def PySem.W.Fast.tw15994842608268431831 : Unit := ()
noncomputable def PySem.W.Fast.tw17080175014866195040 : Unit := ()
noncomputable def PySem.W.Fast.tw7580531675281662121 : Unit := ()
noncomputable def PySem.W.Fast.tw14996490289129339493 : Unit := ()
noncomputable def PySem.W.Fast.tw13215301009280167600 : Unit := ()
noncomputable def PySem.W.Fast.tw12064054227302266174 : Unit := ()
noncomputable def PySem.W.Fast.tw14748447911518011854 : Unit := ()
open PySem PySem.W PyProof.Rows
set_option maxRecDepth 100000 in
set_option maxHeartbeats 0 in
theorem PySem.Challenge.cw_knockwright_k81_what_sticks_holds : PySem.Challenge.rw_knockwright_k81_what_sticks.Holds := by
  w_on; o_law; z_head; (case hw => w_witness2)
  refine Kw.walk_kwX (pn := "_law_script") (l := PySem.Challenge.rw_knockwright_k81_what_sticks) (k := 11) rfl rfl ⟨rfl, by decide, by decide⟩ (fun _ => by kernel_rfl) rfl ?F
  case F =>
    intro w mg h KX G
    refine' Prf.all_mk KX G ?c_KnockError ?c_NoMoment ?c_Sticking ?b_isinstance ?b_list ?b_abs ?b_len ?b_divmod ?b_range ?b_max ?b_min ?b_ValueError ?b_enumerate ?b_sum ?chk ?rd ?fc ?gs ?s_NoMoment_NoMoment ?pg_Sticking ?hd_Sticking ?po_Sticking ?sa_Sticking ?mk_Sticking ?kp_Sticking ?n_Sticking_clumps ?n_Sticking_known ?n_Sticking_joints ?n_Sticking_coming ?i_LONG_BITS ?c_NOUGHT ?z_NOUGHT ?a0 ?l0 ?q0 ?k0 ?a1 ?l1 ?q1 ?k1 ?a2 ?l2 ?q2 ?k2 ?a3 ?l3 ?q3 ?k3 ?a4 ?l4 ?q4 ?k4 ?a5 ?l5 ?q5 ?k5 ?a6 ?l6 ?q6 ?k6 ?a7 ?l7 ?q7 ?k7 ?a8 ?l8 ?q8 ?k8 ?a9 ?l9 ?q9 ?k9 ?a10 ?l10 ?q10 ?k10 ?a11 ?l11 ?q11 ?k11 ?a12 ?l12 ?q12 ?k12 ?a13 ?l13 ?q13 ?k13 ?a14 ?t14 ?l14 ?q14 ?k14 ?a15 ?t15 ?l15 ?q15 ?k15 ?a16 ?t16 ?l16 ?q16 ?k16 ?a17 ?t17 ?l17 ?q17 ?k17 ?a18 ?t18 ?l18 ?q18 ?k18 ?a19 ?t19 ?l19 ?q19 ?k19 ?a20 ?l20 ?q20 ?k20 ?a21 ?l21 ?q21 ?k21 ?a22 ?l22 ?q22 ?k22 ?a23 ?l23 ?q23 ?k23 ?a24 ?l24 ?q24 ?k24 ?a25 ?l25 ?q25 ?k25 ?a26 ?l26 ?q26 ?k26 ?a27 ?l27 ?q27 ?k27 ?a28 ?l28 ?q28 ?k28 ?a29 ?l29 ?q29 ?k29 ?a30 ?l30 ?q30 ?k30 ?a31 ?l31 ?q31 ?k31 ?a32 ?l32 ?q32 ?k32 ?a33 ?l33 ?q33 ?k33 ?a34 ?l34 ?q34 ?k34 ?a35 ?l35 ?q35 ?k35 ?a36 ?l36 ?q36 ?k36 ?a37 ?l37 ?q37 ?k37 ?a38 ?l38 ?q38 ?k38 ?a39 ?l39 ?q39 ?k39 ?a40 ?l40 ?q40 ?k40 ?a41 ?l41 ?q41 ?k41 ?a42 ?l42 ?q42 ?k42 ?a43 ?l43 ?q43 ?k43 ?a44 ?l44 ?q44 ?k44 ?a45 ?l45 ?q45 ?k45
    (case c_KnockError => k_is)
    (case c_NoMoment => k_is)
    (case c_Sticking => k_is)
    (case b_isinstance => k_is)
    (case b_list => k_is)
    (case b_abs => k_is)
    (case b_len => k_is)
    (case b_divmod => k_is)
    (case b_range => k_is)
    (case b_max => k_is)
    (case b_min => k_is)
    (case b_ValueError => k_is)
    (case b_enumerate => k_is)
    (case b_sum => k_is)
    (case chk => kernel_rfl)
    (case rd => k_is)
    (case fc => k_is)
    (case gs => k_is)
    (case s_NoMoment_NoMoment => k_is)
    (case pg_Sticking => k_is)
    (case hd_Sticking => k_is)
    (case po_Sticking => k_is)
    (case sa_Sticking => k_is)
    (case mk_Sticking => k_is)
    (case kp_Sticking => k_is)
    (case n_Sticking_clumps => k_is)
    (case n_Sticking_known => k_is)
    (case n_Sticking_joints => k_is)
    (case n_Sticking_coming => k_is)
    (case i_LONG_BITS => k_is)
    (case c_NOUGHT => k_is)
    (case z_NOUGHT => k_is)
    (case a0 => k_is)
    (case l0 => k_is)
    (case q0 => k_is)
    (case k0 => k_is)
    (case a1 => k_is)
    (case l1 => k_is)
    (case q1 => k_is)
    (case k1 => k_is)
    (case a2 => k_is)
    (case l2 => k_is)
    (case q2 => k_is)
    (case k2 => k_is)
    (case a3 => k_is)
    (case l3 => k_is)
    (case q3 => k_is)
    (case k3 => k_is)
    (case a4 => k_is)
    (case l4 => k_is)
    (case q4 => k_is)
    (case k4 => k_is)
    (case a5 => k_is)
    (case l5 => k_is)
    (case q5 => k_is)
    (case k5 => k_is)
    (case a6 => k_is)
    (case l6 => k_is)
    (case q6 => k_is)
    (case k6 => k_is)
    (case a7 => k_is)
    (case l7 => k_is)
    (case q7 => k_is)
    (case k7 => k_is)
    (case a8 => k_is)
    (case l8 => k_is)
    (case q8 => k_is)
    (case k8 => k_is)
    (case a9 => k_is)
    (case l9 => k_is)
    (case q9 => k_is)
    (case k9 => k_is)
    (case a10 => k_is)
    (case l10 => k_is)
    (case q10 => k_is)
    (case k10 => k_is)
    (case a11 => k_is)
    (case l11 => k_is)
    (case q11 => k_is)
    (case k11 => k_is)
    (case a12 => k_is)
    (case l12 => k_is)
    (case q12 => k_is)
    (case k12 => k_is)
    (case a13 => k_is)
    (case l13 => k_is)
    (case q13 => k_is)
    (case k13 => k_is)
    (case a14 => k_is)
    (case t14 => k_is)
    (case l14 => k_is)
    (case q14 => k_is)
    (case k14 => k_is)
    (case a15 => k_is)
    (case t15 => k_is)
    (case l15 => k_is)
    (case q15 => k_is)
    (case k15 => k_is)
    (case a16 => k_is)
    (case t16 => k_is)
    (case l16 => k_is)
    (case q16 => k_is)
    (case k16 => k_is)
    (case a17 => k_is)
    (case t17 => k_is)
    (case l17 => k_is)
    (case q17 => k_is)
    (case k17 => k_is)
    (case a18 => k_is)
    (case t18 => k_is)
    (case l18 => k_is)
    (case q18 => k_is)
    (case k18 => k_is)
    (case a19 => k_is)
    (case t19 => k_is)
    (case l19 => k_is)
    (case q19 => k_is)
    (case k19 => k_is)
    (case a20 => k_is)
    (case l20 => k_is)
    (case q20 => k_is)
    (case k20 => k_is)
    (case a21 => k_is)
    (case l21 => k_is)
    (case q21 => k_is)
    (case k21 => k_is)
    (case a22 => k_is)
    (case l22 => k_is)
    (case q22 => k_is)
    (case k22 => k_is)
    (case a23 => k_is)
    (case l23 => k_is)
    (case q23 => k_is)
    (case k23 => k_is)
    (case a24 => k_is)
    (case l24 => k_is)
    (case q24 => k_is)
    (case k24 => k_is)
    (case a25 => k_is)
    (case l25 => k_is)
    (case q25 => k_is)
    (case k25 => k_is)
    (case a26 => k_is)
    (case l26 => k_is)
    (case q26 => k_is)
    (case k26 => k_is)
    (case a27 => k_is)
    (case l27 => k_is)
    (case q27 => k_is)
    (case k27 => k_is)
    (case a28 => k_is)
    (case l28 => k_is)
    (case q28 => k_is)
    (case k28 => k_is)
    (case a29 => k_is)
    (case l29 => k_is)
    (case q29 => k_is)
    (case k29 => k_is)
    (case a30 => k_is)
    (case l30 => k_is)
    (case q30 => k_is)
    (case k30 => k_is)
    (case a31 => k_is)
    (case l31 => k_is)
    (case q31 => k_is)
    (case k31 => k_is)
    (case a32 => k_is)
    (case l32 => k_is)
    (case q32 => k_is)
    (case k32 => k_is)
    (case a33 => k_is)
    (case l33 => k_is)
    (case q33 => k_is)
    (case k33 => k_is)
    (case a34 => k_is)
    (case l34 => k_is)
    (case q34 => k_is)
    (case k34 => k_is)
    (case a35 => k_is)
    (case l35 => k_is)
    (case q35 => k_is)
    (case k35 => k_is)
    (case a36 => k_is)
    (case l36 => k_is)
    (case q36 => k_is)
    (case k36 => k_is)
    (case a37 => k_is)
    (case l37 => k_is)
    (case q37 => k_is)
    (case k37 => k_is)
    (case a38 => k_is)
    (case l38 => k_is)
    (case q38 => k_is)
    (case k38 => k_is)
    (case a39 => k_is)
    (case l39 => k_is)
    (case q39 => k_is)
    (case k39 => k_is)
    (case a40 => k_is)
    (case l40 => k_is)
    (case q40 => k_is)
    (case k40 => k_is)
    (case a41 => k_is)
    (case l41 => k_is)
    (case q41 => k_is)
    (case k41 => k_is)
    (case a42 => k_is)
    (case l42 => k_is)
    (case q42 => k_is)
    (case k42 => k_is)
    (case a43 => k_is)
    (case l43 => k_is)
    (case q43 => k_is)
    (case k43 => k_is)
    (case a44 => k_is)
    (case l44 => k_is)
    (case q44 => k_is)
    (case k44 => k_is)
    (case a45 => k_is)
    (case l45 => k_is)
    (case q45 => k_is)
    (case k45 => k_is)
