import PyProof.Rows.All
import Wide.All
import OpenK.AllK
import Wide.FinOn
import Lean
import PyProof.EqAt
import PyProof.EqKinds
import PyProof.TupleCall
import PyProof.ExcBaseAll.ValueError
import PyProof.P3Eq
import PyProof.NeData
import PyProof.DictTable
import KE.KEqDict
import PyProof.EnumFor
import PyProof.EnumMake
import PyProof.EnumStmt
import PyProof.NsDelKeeps
import KE.KListMore
import PyProof.Rows.SortWalk
import PyProof.ListRange
import PyProof.P3In
import PySem.Challenge.RW_knockwright_k57_the_round
set_option Elab.async false
set_option linter.all false
set_option maxRecDepth 100000
namespace L2
open PySem PySem.Spec PyProof.Rows
noncomputable abbrev Key := Sum Int Str
noncomputable def keyIs : Key → Value → Bool
  | .inl k, v => Value.isInt k v
  | .inr x, v => Value.isStrOf x v
noncomputable def keyH (w : World) : Key → Int
  | .inl k => hashInt k
  | .inr x => hashStr w x
theorem keyIs_shape : ∀ {k : Key} {v : Value}, keyIs k v = true → (∃ i t, k = Sum.inl i ∧ v = Value.int i t) ∨ (∃ x t, k = Sum.inr x ∧ v = Value.str x t)
  | .inl i, v, h => by
    obtain ⟨t, e⟩ := Value.isInt_shape (k := i) (v := v) h
    exact .inl ⟨i, t, rfl, e⟩
  | .inr x, v, h => by
    obtain ⟨t, e⟩ := Value.isStrOf_shape (x := x) (v := v) h
    exact .inr ⟨x, t, rfl, e⟩
theorem keyIs_int (i : Int) (t : Tok) : keyIs (.inl i) (.int i t) = true := by simp [keyIs, Value.isInt]
theorem keyIs_str (x : Str) (t : Tok) : keyIs (.inr x) (.str x t) = true := by simp [keyIs, Value.isStrOf]
theorem key_ll (a b : Int) : decide ((Sum.inl a : Key) = Sum.inl b) = (a == b) := by
  by_cases e : a = b
  · subst e; simp
  · have h : ¬ (Sum.inl a : Key) = Sum.inl b := fun q => e (Sum.inl.inj q)
    rw [decide_eq_false h]
    exact (beq_eq_false_iff_ne.mpr e).symm
theorem key_rr (a b : Str) : decide ((Sum.inr a : Key) = Sum.inr b) = decide (a = b) := by
  by_cases e : a = b
  · subst e; simp
  · have h : ¬ (Sum.inr a : Key) = Sum.inr b := fun q => e (Sum.inr.inj q)
    rw [decide_eq_false h, decide_eq_false e]
theorem key_lr (a : Int) (b : Str) : decide ((Sum.inl a : Key) = Sum.inr b) = false := decide_eq_false (fun q => nomatch q)
theorem key_rl (a : Str) (b : Int) : decide ((Sum.inr a : Key) = Sum.inl b) = false := decide_eq_false (fun q => nomatch q)
noncomputable def mixKind (prog : Program) (w : World) : PySem.KeyKind prog w Key where
  is := keyIs
  hash := keyH w
  inj := fun v a b ha hb => by
    rcases keyIs_shape ha with ⟨i, t, rfl, rfl⟩ | ⟨x, t, rfl, rfl⟩
    · rcases keyIs_shape hb with ⟨j, u, rfl, e⟩ | ⟨y, u, rfl, e⟩
      · injection e with e1 _; rw [e1]
      · exact nomatch e
    · rcases keyIs_shape hb with ⟨j, u, rfl, e⟩ | ⟨y, u, rfl, e⟩
      · exact nomatch e
      · injection e with e1 _; rw [e1]
  byValue := fun k v h => by
    rcases keyIs_shape h with ⟨i, t, rfl, rfl⟩ | ⟨x, t, rfl, rfl⟩ <;> rfl
  pyHash := fun hv h => by
    rcases keyIs_shape hv with ⟨i, t, rfl, rfl⟩ | ⟨x, t, rfl, rfl⟩
    · exact wpAny_pyHash_int h
    · exact wpAny_pyHash_str h
  eqBool := fun hu hv h => by
    rcases keyIs_shape hu with ⟨i, t, rfl, rfl⟩ | ⟨x, t, rfl, rfl⟩
    · rcases keyIs_shape hv with ⟨j, u, rfl, rfl⟩ | ⟨y, u, rfl, rfl⟩
      · rw [key_ll] at h; exact wpAny_eqBool_int h
      · rw [key_lr] at h; exact SeqAt.EqAt.int_str i t y u _ _ _ _ h
    · rcases keyIs_shape hv with ⟨j, u, rfl, rfl⟩ | ⟨y, u, rfl, rfl⟩
      · rw [key_rl] at h; exact SeqAt.EqAt.str_int x t j u _ _ _ _ h
      · rw [key_rr] at h; exact wpAny_eqBool_str h
  «strs» := fun k x t v h => by
    rcases keyIs_shape h with ⟨i, u, rfl, e⟩ | ⟨y, u, rfl, e⟩
    · exact nomatch e
    · injection e with e1 _
      subst e1
      cases v <;> rfl
theorem mixKind_int (prog : Program) (w : World) (i : Int) (t : Tok) : (mixKind prog w).is (.inl i) (.int i t) = true := keyIs_int i t
theorem mixKind_str (prog : Program) (w : World) (x : Str) (t : Tok) : (mixKind prog w).is (.inr x) (.str x t) = true := keyIs_str x t
end L2
namespace L2
open PySem PySem.Spec PyProof.Rows
inductive V where
  | non | bl (b : Bool) | int (i : Int) | str (x : Str) | byt (b : Array UInt8) | flt (b : UInt64) | ref (a : Addr) | ty (n : String)
  deriving DecidableEq
noncomputable def RelV : V → Value → Prop
  | .non, u => u = Value.none
  | .bl b, u => u = Value.bool b
  | .int i, u => ∃ t, u = Value.int i t
  | .str x, u => ∃ t, u = Value.str x t
  | .byt b, u => ∃ t, u = Value.bytes b t
  | .flt b, u => ∃ t, u = Value.float b t
  | .ref a, u => u = Value.ref a
  | .ty n, u => u = Value.type n
noncomputable abbrev Vals : List V → List Value → Prop := Paired RelV
theorem Vals.length {xs : List V} {us : List Value} (r : Vals xs us) : xs.length = us.length := Paired.length r
theorem Vals.get : ∀ {xs : List V} {us : List Value} {i : Nat} {x : V}, Vals xs us → xs[i]? = some x → ∃ u, us[i]? = some u ∧ RelV x u
  | _, _, _, _, .nil, e => by simp at e
  | _, _, 0, _, .cons r _, e => by simp at e; subst e; exact ⟨_, rfl, r⟩
  | _, _, i + 1, x, .cons _ t, e => by
    obtain ⟨u, h1, h2⟩ := Vals.get (i := i) (x := x) t (by simpa using e)
    exact ⟨u, by simpa using h1, h2⟩
theorem Vals.set {x : V} {u : Value} (r : RelV x u) : ∀ {xs : List V} {us : List Value} (i : Nat), Vals xs us → Vals (xs.set i x) (us.set i u)
  | _, _, _, .nil => .nil
  | _, _, 0, .cons _ t => .cons r t
  | _, _, i + 1, .cons q t => .cons q (Vals.set r i t)
theorem Vals.append : ∀ {xs ys : List V} {us ws : List Value}, Vals xs us → Vals ys ws → Vals (xs ++ ys) (us ++ ws)
  | _, _, _, _, .nil, s => s
  | _, _, _, _, .cons r t, s => .cons r (Vals.append t s)
theorem Vals.take : ∀ {xs : List V} {us : List Value} (n : Nat), Vals xs us → Vals (xs.take n) (us.take n)
  | _, _, 0, _ => .nil
  | _, _, _ + 1, .nil => .nil
  | _, _, n + 1, .cons r t => .cons r (Vals.take n t)
theorem Vals.drop : ∀ {xs : List V} {us : List Value} (n : Nat), Vals xs us → Vals (xs.drop n) (us.drop n)
  | _, _, 0, r => r
  | _, _, _ + 1, .nil => .nil
  | _, _, n + 1, .cons _ t => Vals.drop n t
noncomputable def RelO : Option V → Option Value → Prop
  | some v, some u => RelV v u
  | none, none => True
  | _, _ => False
noncomputable def KV {κ : Type} : List (κ × V) → List (κ × Value) → Prop := Paired fun (p : κ × V) (q : κ × Value) => p.1 = q.1 ∧ RelV p.2 q.2
noncomputable def kV : Key → V
  | .inl i => .int i
  | .inr x => .str x
inductive HO where
  | lst (xs : List V)
  | tup (xs : List V)
  | dK (kvs : List (Key × V)) | dT (kvs : List (List Key × V))
  | set (S : Int → Bool) (n : Nat)
  | ins (C dx : Addr) (fs : List (Str × V))
  | own (x : Addr)
  | xd (fs : List (Str × V))
  | met (f x : Addr)
  | rng (lo hi : Int)
  | frz (o : Obj) (u : HO)
  | tbl (ps : Array Value)
  | ext (φ : Heap → Prop)
noncomputable abbrev Hp := Addr → Option HO
noncomputable def upd (H : Hp) (a : Addr) (o : HO) : Hp := fun b => if b = a then some o else H b
theorem upd_same {H : Hp} {a : Addr} {o : HO} : upd H a o a = some o := by unfold upd; rw [if_pos rfl]
theorem upd_ne {H : Hp} {a b : Addr} {o : HO} (h : b ≠ a) : upd H a o b = H b := by unfold upd; rw [if_neg h]
theorem ne_of {H : Hp} {a b : Addr} {o u : HO} (h : H a = some o) (h' : H b = some u) (d : o ≠ u) : a ≠ b := by
  intro e; subst e; rw [h] at h'; exact d (Option.some.inj h')
theorem ne_of_none {H : Hp} {a b : Addr} {o : HO} (h : H a = some o) (h' : H b = none) : a ≠ b := by
  intro e; subst e; rw [h] at h'; cases h'
section
variable (P : Program) (w : World)
noncomputable def ObjOk (H : Hp) (h : Heap) (a : Addr) : HO → Prop
  | .lst xs => xs.length ≤ sizeLine ∧ ∃ (its : List Value) (n : Nat), Vals xs its ∧ h.get? a = some { cls := .type "list", data := .seq its.toArray n }
  | .tup xs => xs.length ≤ sizeLine ∧ ∃ its : List Value, Vals xs its ∧ IsTup h a its.toArray
  | .dK kvs => kvs.length ≤ sizeLine ∧ (a == sysModules) = false ∧ ∃ vs, KV kvs vs ∧ h.DictOf (mixKind P w) a vs
  | .dT kvs => kvs.length ≤ sizeLine ∧ (a == sysModules) = false ∧ ∃ xs : List (List Key × Addr × Value),
      Paired (fun (p : List Key × V) (q : List Key × Addr × Value) => p.1 = q.1 ∧ H q.2.1 = some (.tup (p.1.map kV)) ∧ RelV p.2 q.2.2) kvs xs ∧
      ∃ o es ep, h.get? a = some o ∧ o.ExactDict ∧ o.data = .dict es ep ∧ es.toList = xs.map (entryOfKey (tupleKind (mixKind P w))) ∧ (xs.map (·.1)).Nodup
  | .set S n => h.SetOf (intKind P w) a S n
  | .ins C dx fs => H dx = some (.own a) ∧ fs.length ≤ 1000 ∧ dx ≠ a ∧ h.get? a = some (PySem.W.instObj C dx) ∧
      ∃ mA, h.Ns1 dx mA ∧ (∀ f, RelO (fs.lookup f) (mA f)) ∧ PySem.Within mA (fs.map (·.1))
  | .own _ => ∃ o, h.get? a = some o
  | .xd fs => ∃ mA, h.Ns1 a mA ∧ ∀ f, RelO (fs.lookup f) (mA f)
  | .rng lo hi => ∃ t u v, h.get? a = some { cls := .type "range", data := .fields #[.int lo t, .int hi u, .int 1 v] }
  | .frz o u => h.get? a = some o ∧ ObjOk H h a u
  | .tbl ps => h.get? a = some { cls := .none, data := .fields ps }
  | .met f x => h.get? a = some (PySem.W.methodObj (.ref f) (.ref x))
  | .ext φ => φ h ∧ (∃ o, h.get? a = some o) ∧ ∀ h1 h2 : Heap, φ h1 → (∀ o, h1.get? a = some o → h2.get? a = some o) → φ h2
noncomputable def HOk (H : Hp) (h : Heap) : Prop := ∀ a o, H a = some o → ObjOk P w H h a o
end
section
variable {P : Program} {w : World} {H H' : Hp} {h h' : Heap} {a : Addr} {o : HO}
theorem ObjOk.lt (x : ObjOk P w H h a o) : a < h.objs.size := by
  cases o with
  | lst xs => obtain ⟨_, _, _, _, e⟩ := x; exact Heap.lt_size e
  | tup xs => obtain ⟨_, _, _, p⟩ := x; exact p.lt
  | dK kvs => obtain ⟨_, _, _, _, o, _, _, e, _⟩ := x; exact Heap.lt_size e
  | dT kvs => obtain ⟨_, _, _, _, o, _, _, e, _⟩ := x; exact Heap.lt_size e
  | set S n => obtain ⟨o, _, _, _, e, _⟩ := x; exact Heap.lt_size e
  | ins C dx fs => obtain ⟨_, _, _, e, _⟩ := x; exact Heap.lt_size e
  | own y => obtain ⟨_, e⟩ := x; exact Heap.lt_size e
  | xd fs => obtain ⟨_, ⟨_, _, _, e, _⟩, _⟩ := x; exact Heap.lt_size e
  | rng lo hi => obtain ⟨_, _, _, e⟩ := x; exact Heap.lt_size e
  | frz ob u => obtain ⟨e, _⟩ := x; exact Heap.lt_size e
  | tbl ps => exact Heap.lt_size (show h.get? a = some _ from x)
  | met f y => exact Heap.lt_size (show h.get? a = some _ from x)
  | ext φ => obtain ⟨_, ⟨_, e⟩, _⟩ := x; exact Heap.lt_size e
theorem Paired.mapP {α β : Type} {F G : α → β → Prop} : ∀ {l₁ : List α} {l₂ : List β}, Paired F l₁ l₂ → (∀ a b, F a b → G a b) → Paired G l₁ l₂
  | _, _, .nil, _ => .nil
  | _, _, .cons r t, f => .cons (f _ _ r) (Paired.mapP t f)
theorem ObjOk.stay (x : ObjOk P w H h a o) (k : ∀ b u, (b = a ∨ H b = some (.own a)) → h.get? b = some u → h'.get? b = some u)
    (ho : ∀ b, H b = some (.own a) → H' b = some (.own a)) (ht : ∀ b xs, H b = some (.tup xs) → H' b = some (.tup xs)) : ObjOk P w H' h' a o := by
  induction o with
  | lst xs => obtain ⟨z, its, n, r, e⟩ := x; exact ⟨z, its, n, r, k _ _ (.inl rfl) e⟩
  | tup xs => obtain ⟨z, its, r, ob, e, c⟩ := x; exact ⟨z, its, r, ob, k _ _ (.inl rfl) e, c⟩
  | dK kvs => obtain ⟨z, y, vs, r, ob, es, ep, e, c⟩ := x; exact ⟨z, y, vs, r, ob, es, ep, k _ _ (.inl rfl) e, c⟩
  | dT kvs =>
    obtain ⟨z, y, xs, r, ob, es, ep, e, c⟩ := x
    exact ⟨z, y, xs, Paired.mapP r fun p q z => ⟨z.1, ht _ _ z.2.1, z.2.2⟩, ob, es, ep, k _ _ (.inl rfl) e, c⟩
  | set S n => obtain ⟨ob, es, ep, t, e, c⟩ := x; exact ⟨ob, es, ep, t, k _ _ (.inl rfl) e, c⟩
  | ins C dx fs =>
    obtain ⟨d, z, ne, e, mA, ⟨od, es, ep, e2, c⟩, r⟩ := x
    exact ⟨ho _ d, z, ne, k _ _ (.inl rfl) e, mA, ⟨od, es, ep, k _ _ (.inr d) e2, c⟩, r⟩
  | own y => obtain ⟨ob, e⟩ := x; exact ⟨ob, k _ _ (.inl rfl) e⟩
  | xd fs => obtain ⟨mA, ⟨od, es, ep, e, c⟩, r⟩ := x; exact ⟨mA, ⟨od, es, ep, k _ _ (.inl rfl) e, c⟩, r⟩
  | rng lo hi => obtain ⟨t, u, v, e⟩ := x; exact ⟨t, u, v, k _ _ (.inl rfl) e⟩
  | frz ob u ih => obtain ⟨e, q⟩ := x; exact ⟨k _ _ (.inl rfl) e, ih q⟩
  | tbl ps =>
    have e : h.get? a = some { cls := .none, data := .fields ps } := x
    show h'.get? a = some { cls := .none, data := .fields ps }
    exact k a _ (.inl rfl) e
  | met f y =>
    have e : h.get? a = some (PySem.W.methodObj (.ref f) (.ref y)) := x
    show h'.get? a = some (PySem.W.methodObj (.ref f) (.ref y))
    exact k a _ (.inl rfl) e
  | ext φ => obtain ⟨p, ⟨o, e⟩, st⟩ := x; exact ⟨st _ _ p fun o q => k _ _ (.inl rfl) q, ⟨o, k _ _ (.inl rfl) e⟩, st⟩
theorem HOk.lt (x : HOk P w H h) (e : H a = some o) : a < h.objs.size := (x a o e).lt
theorem HOk.fresh (x : HOk P w H h) (e : h.objs.size ≤ a) : H a = none := by
  cases q : H a with
  | none => rfl
  | some u => exact absurd (Nat.lt_of_lt_of_le (x.lt q) e) (Nat.lt_irrefl _)
theorem HOk.kept (x : HOk P w H h) (k : ∀ b u, h.get? b = some u → h'.get? b = some u) : HOk P w H h' := fun a o e =>
  (x a o e).stay (fun b u _ q => k b u q) (fun _ q => q) fun _ _ q => q
theorem HOk.laid (x : HOk P w H h) (k : ∀ b u, h.get? b = some u → h'.get? b = some u) (hp : h.objs.size ≤ a) (new : ObjOk P w (upd H a o) h' a o) : HOk P w (upd H a o) h' := fun b u e => by
  have hn := x.fresh hp
  by_cases hb : b = a
  · subst hb; rw [upd_same] at e; cases e; exact new
  · rw [upd_ne hb] at e
    exact (x b u e).stay (fun c v _ q => k c v q) (fun c q => by rw [upd_ne (ne_of_none q hn)]; exact q) fun c xs q => by rw [upd_ne (ne_of_none q hn)]; exact q
end
noncomputable def Rd (H : Hp) (a : Addr) (u : HO) : Prop := H a = some u ∨ ∃ o, H a = some (.frz o u)
theorem Rd.ok {P : Program} {w : World} {H : Hp} {h : Heap} {a : Addr} {u : HO} (r : Rd H a u) (x : HOk P w H h) : ObjOk P w H h a u := by
  rcases r with r | ⟨o, r⟩
  · exact x a u r
  · obtain ⟨_, q⟩ := x a _ r
    exact q
noncomputable def Mut : Option HO → Prop
  | some (.lst _) => True
  | some (.dK _) => True
  | some (.dT _) => True
  | some (.set _ _) => True
  | some (.ins _ _ _) => True
  | some (.ext _) => True
  | _ => False
section
variable {P : Program} {w : World} {H : Hp} {h h' : Heap} {x e : Addr} {o' : HO}
theorem HOk.write (ok : HOk P w H h) (mu : Mut (H x)) (he : e = x ∨ H e = some (.own x)) (k : ∀ b u, b ≠ e → h.get? b = some u → h'.get? b = some u) (heo : ∃ u, h'.get? e = some u)
    (new : ObjOk P w (upd H x o') h' x o') : HOk P w (upd H x o') h' := fun b u q => by
  have nown : ∀ c y, H c = some (.own y) → c ≠ x := fun c y r z => by subst z; rw [r] at mu; exact mu
  have ntup : ∀ c xs, H c = some (.tup xs) → c ≠ x := fun c xs r z => by subst z; rw [r] at mu; exact mu
  by_cases hb : b = x
  · subst hb; rw [upd_same] at q; cases q; exact new
  · rw [upd_ne hb] at q
    by_cases hbe : b = e
    · have q' : H b = some (.own x) := by
        rcases he with z | z
        · exact absurd (hbe.trans z) hb
        · rw [hbe]; exact z
      rw [q] at q'; cases q'
      obtain ⟨v, hv⟩ := heo
      exact ⟨v, by rw [hbe]; exact hv⟩
    · refine (ok b u q).stay (fun c v hc r => k c v ?_ r) (fun c r => by rw [upd_ne (nown c b r)]; exact r) fun c xs r => by rw [upd_ne (ntup c xs r)]; exact r
      rcases hc with rfl | hc
      · exact hbe
      · rintro rfl
        rcases he with z | z
        · exact nown c b hc z
        · rw [hc] at z; cases z; exact hb rfl
end
structure Un (fs ex : List Addr) (H H' : Hp) (h h' : Heap) : Prop where
  keep : ∀ b o, h.get? b = some o → H b = none → b ∉ fs → b ∉ ex → h'.get? b = some o
  slot : ∀ b o, h.get? b = some o → H b = none → b ∈ fs → b ∉ ex → ∃ sl, h'.get? b = some { o with slots := sl }
  free : ∀ b o, h.get? b = some o → H b = none → b ∉ ex → H' b = none
  there : ∀ b o, h.get? b = some o → b ∉ ex → ∃ o', h'.get? b = some o'
  tups : ∀ b xs, H b = some (.tup xs) → H' b = some (.tup xs)
  frzs : ∀ b o u, H b = some (.frz o u) → H' b = some (.frz o u)
  tbls : ∀ b ps, H b = some (.tbl ps) → ∃ more, H' b = some (.tbl (ps ++ more))
section
variable {fs fs' ex ex' : List Addr} {H H1 H2 : Hp} {h h1 h2 h' : Heap} {a x e : Addr} {o : HO}
theorem Un.any (u : Un fs ex H H1 h h1) {b : Addr} {ob : Obj} (q : h.get? b = some ob) (n : H b = none) (hx : b ∉ ex) : ∃ sl, h1.get? b = some { ob with slots := sl } := by
  by_cases hb : b ∈ fs
  · exact u.slot b ob q n hb hx
  · exact ⟨ob.slots, u.keep b ob q n hb hx⟩
theorem Un.kept (k : ∀ b u, h.get? b = some u → h'.get? b = some u) : Un fs ex H H h h' :=
  ⟨fun b ob q _ _ _ => k b ob q, fun b ob q _ _ _ => ⟨ob.slots, k b ob q⟩, fun _ _ _ n _ => n, fun b ob q _ => ⟨ob, k b ob q⟩, fun _ _ q => q, fun _ _ _ q => q, fun _ ps q => ⟨#[], by rw [q]; simp⟩⟩
theorem Un.refl : Un fs ex H H h h := Un.kept fun _ _ q => q
theorem Un.laid (k : ∀ b u, h.get? b = some u → h'.get? b = some u) (hp : h.objs.size ≤ a) (hn : H a = none) : Un fs ex H (upd H a o) h h' where
  keep := fun b u q _ _ _ => k b u q
  slot := fun b u q _ _ _ => ⟨u.slots, k b u q⟩
  free := fun b u q n _ => by rw [upd_ne (Nat.ne_of_lt (Nat.lt_of_lt_of_le (Heap.lt_size q) hp))]; exact n
  there := fun b u q _ => ⟨u, k b u q⟩
  tups := fun b xs q => by rw [upd_ne (ne_of_none q hn)]; exact q
  frzs := fun b u xs q => by rw [upd_ne (ne_of_none q hn)]; exact q
  tbls := fun b ps q => ⟨#[], by rw [upd_ne (ne_of_none q hn), q]; simp⟩
theorem Un.write (mu : Mut (H x)) (he : e = x ∨ H e = some (.own x)) (k : ∀ b u, b ≠ e → h.get? b = some u → h'.get? b = some u) (heo : ∃ u, h'.get? e = some u) : Un fs ex H (upd H x o) h h' := by
  have hx : ∀ b, H b = none → b ≠ x := fun b n z => by subst z; rw [n] at mu; exact mu
  have hb : ∀ b, H b = none → b ≠ e := fun b n z => by
    subst z
    rcases he with r | r
    · exact hx b n r
    · rw [n] at r; cases r
  have hm : ∀ b u, H b = some u → ¬ Mut (some u) → b ≠ x := fun b u q nm z => by subst z; rw [q] at mu; exact nm mu
  refine ⟨fun b u q n _ _ => k b u (hb b n) q, fun b u q n _ _ => ⟨u.slots, k b u (hb b n) q⟩, fun b u q n _ => by rw [upd_ne (hx b n)]; exact n, fun b u q _ => ?_,
    fun b xs q => by rw [upd_ne (hm b _ q fun z => z)]; exact q, fun b u xs q => by rw [upd_ne (hm b _ q fun z => z)]; exact q, fun b ps q => ⟨#[], by rw [upd_ne (hm b _ q fun z => z), q]; simp⟩⟩
  by_cases hbe : b = e
  · subst hbe; exact heo
  · exact ⟨u, k b u hbe q⟩
end
noncomputable def trk (h : Heap) (H : Hp) : List Addr := (List.range h.objs.size).filter fun a => (H a).isSome
noncomputable def hidT (h : Heap) (H : Hp) : Heap := PySem.W.hideAll h (trk h H)
theorem hidT_size (h : Heap) (H : Hp) : (hidT h H).objs.size = h.objs.size := PySem.W.hideAll_size _ _
theorem hidT_get {h : Heap} {H : Hp} {b : Addr} {o : Obj} (e : h.get? b = some o) (n : H b = none) : (hidT h H).get? b = some o :=
  PySem.W.hideAll_get _ e fun hm => by
    have q : (H b).isSome = true := (List.mem_filter.mp hm).2
    rw [n] at q; simp at q
theorem of_hidT {h : Heap} {H : Hp} {b : Addr} {o : Obj} (e : (hidT h H).get? b = some o) : h.get? b = some o ∧ H b = none := by
  have e' : h.get? b = some o := PySem.W.of_hideAll (trk h H) e
  refine ⟨e', ?_⟩
  cases q : H b with
  | none => rfl
  | some x =>
    have hm : b ∈ trk h H := List.mem_filter.mpr ⟨List.mem_range.mpr (Heap.lt_size e'), by simp [q]⟩
    have z : (hidT h H).get? b = none := PySem.W.hideAll_none (trk h H) hm
    rw [z] at e; cases e
end L2
namespace L2
open PySem PySem.Spec PyProof.Rows
structure Mod (K : PySem.W.Frag) (mg : Str → Option Value) (base : Heap) : Prop where
  kin : K.In base
  glob : base.Ns mainGlobals mg
  blt : ∃ mb, base.Ns builtinsNs mb ∧ ∀ x : Str, x ≠ "__name__" → mb x = bootBuiltins x
  nolimit : base.NoLimit
structure Cx where
  prog : Program
  w : World
  K : PySem.W.Frag
  mg : Str → Option Value
  base : Heap
  A : Around
  N : List Str
  s₀ : Shared
  H₀ : Hp
  env : Env
  outer : List Env
  stack : List Env
  ex : List Addr
  fn : Str → Bool
  calm : Bool
  pn : List (Addr × Obj)
  xe : Value → Shared → Prop
noncomputable def frs (l : List Env) : List Addr := l.filterMap (·.frame)
noncomputable abbrev Cx.fs (X : Cx) : List Addr := frs X.outer
noncomputable def Vis (sc : Scope) (x : Str) : Prop := sc.names.lookup x = some .local ∨ sc.names.lookup x = some .cell ∨ sc.names.lookup x = some .free
noncomputable def Loc (sc : Scope) (x : Str) : Prop := sc.names.lookup x = some .local ∨ sc.names.lookup x = some .cell
noncomputable def Look (env : Env) (h : Heap) (m : Str → Option Value) (x : Str) (u : Value) : Prop :=
  (env.kindOf x = some .local ∧ m x = some u) ∨ ((env.kindOf x = some .cell ∨ env.kindOf x = some .free) ∧ ∃ c, env.cells.lookup x = some c ∧ h.IsCell c (some u))
structure Cx.Ok (X : Cx) : Prop where
  mod : Mod X.K X.mg X.base
  kind : X.env.scope.kind = .function
  glob : X.env.globals = mainGlobals
  blt : X.env.builtins = builtinsNs
  above : X.s₀.heap.objs.size ≤ X.env.locals
  inj : ∀ x y c, X.env.cells.lookup x = some c → X.env.cells.lookup y = some c → x = y
  has : ∀ x, (X.env.kindOf x = some .cell ∨ X.env.kindOf x = some .free) → ∃ c, X.env.cells.lookup x = some c
  cab : ∀ x c, X.fn x = true → X.env.cells.lookup x = some c → X.s₀.heap.objs.size ≤ c
  hd : X.calm = true → X.A.handled = none
  frames : X.A.frames = some X.stack
  stk : X.stack = X.outer ∨ (X.stack = X.env :: X.outer ∧ X.env.frame = some X.env.locals)
  exf : ∀ b ∈ X.ex, b ≠ X.env.locals ∧ ∀ x c, X.env.cells.lookup x = some c → c ≠ b
  bs : ∀ b o, X.base.get? b = some o → X.s₀.heap.get? b = some o ∧ X.H₀ b = none
  bsz : X.base.objs.size ≤ X.s₀.heap.objs.size
  noex : ∀ b o, X.base.get? b = some o → b ∉ X.ex
  exfs : ∀ b ∈ X.ex, b ∉ X.fs
  funs : X.s₀.heap.FunFrames X.base X.outer
  frf : ∀ b ∈ X.fs, X.H₀ b = none
structure Inv (X : Cx) (pins : List (Addr × Obj)) (σ : List (Option V)) (H : Hp) (s : Shared) : Prop where
  ok : X.Ok
  os : s.os = X.s₀.os
  bare : AllBare s.gens
  base : Un X.fs X.ex X.H₀ H X.s₀.heap s.heap
  loc : ∃ m, s.heap.Ns X.env.locals m ∧ ∀ (i : Nat) (x : Str) (v : V), X.N[i]? = some x → σ[i]? = some (some v) → Vis X.env.scope x → ∃ u, RelV v u ∧ Look X.env s.heap m x u
  cell : ∀ x c, X.env.cells.lookup x = some c → ∃ v, s.heap.IsCell c v
  free : H X.env.locals = none
  freeC : ∀ x c, X.env.cells.lookup x = some c → H c = none
  pin : ∀ p ∈ X.pn ++ pins, s.heap.get? p.1 = some p.2 ∧ H p.1 = none ∧ p.1 ≠ X.env.locals ∧ p.1 ∉ X.fs ∧ ∀ v, p.2.data ≠ .cell v
  hok : HOk X.prog X.w H s.heap
  len : σ.length = X.N.length
section
variable {X : Cx} {pins : List (Addr × Obj)} {σ : List (Option V)} {H H' : Hp} {s : Shared} {h' : Heap}
theorem Cx.Ok.nofr (ok : X.Ok) {b : Addr} {o : Obj} (e : X.base.get? b = some o) : b ∉ X.fs := fun hb => by
  have := (ok.funs.mem hb).1
  rw [e] at this; cases this
theorem Inv.bs (I : Inv X pins σ H s) : ∀ b o, X.base.get? b = some o → s.heap.get? b = some o ∧ H b = none := fun b o e =>
  ⟨I.base.keep b o (I.ok.bs b o e).1 (I.ok.bs b o e).2 (I.ok.nofr e) (I.ok.noex b o e), I.base.free b o (I.ok.bs b o e).1 (I.ok.bs b o e).2 (I.ok.noex b o e)⟩
theorem Inv.bk (I : Inv X pins σ H s) : ∀ b o, X.base.get? b = some o → s.heap.get? b = some o := fun b o e => (I.bs b o e).1
theorem Inv.mod (I : Inv X pins σ H s) : Mod X.K X.mg X.base := I.ok.mod
theorem Inv.kIn (I : Inv X pins σ H s) : X.K.In s.heap := I.ok.mod.kin.keeps I.bk
theorem Inv.lt (I : Inv X pins σ H s) : X.env.locals < s.heap.objs.size := let ⟨_, hn, _⟩ := I.loc; hn.lt
theorem Inv.sz (I : Inv X pins σ H s) : X.s₀.heap.objs.size ≤ s.heap.objs.size := Nat.le_trans I.ok.above (Nat.le_of_lt I.lt)
theorem Inv.nofs (I : Inv X pins σ H s) {a : Addr} (h : s.heap.objs.size ≤ a) : a ∉ X.fs := fun hb => by
  obtain ⟨_, o, ho, _⟩ := I.ok.funs.mem hb
  exact absurd (Nat.lt_of_lt_of_le (Heap.lt_size ho) (Nat.le_trans I.sz h)) (Nat.lt_irrefl _)
theorem Inv.cne (I : Inv X pins σ H s) : ∀ x c, X.env.cells.lookup x = some c → c ≠ X.env.locals := fun x c e z => by
  obtain ⟨v, o, ho, hd⟩ := I.cell x c e
  obtain ⟨m, ⟨o', es, ep, ho', hd', _⟩, _⟩ := I.loc
  rw [z, ho'] at ho; cases ho; rw [hd'] at hd; cases hd
theorem Inv.funs (I : Inv X pins σ H s) : s.heap.FunFrames X.base X.outer := by
  have all : ∀ (l : List Env), (∀ b ∈ frs l, b ∈ X.fs) → X.s₀.heap.FunFrames X.base l → s.heap.FunFrames X.base l := by
    intro l
    induction l with
    | nil => intro _ _; trivial
    | cons env r ih =>
      intro hs hl
      obtain ⟨hk, ⟨L, o, hf, hn, ho, hd⟩, hr⟩ := hl
      have hL : L ∈ X.fs := hs L (by unfold frs; rw [List.filterMap_cons, hf]; exact List.mem_cons_self)
      obtain ⟨sl, e⟩ := I.base.slot L o ho (I.ok.frf L hL) hL fun z => I.ok.exfs L z hL
      exact ⟨hk, ⟨L, _, hf, hn, e, hd⟩, ih (fun b hb => hs b (by unfold frs; rw [List.filterMap_cons, hf]; exact List.mem_cons_of_mem _ hb)) hr⟩
  exact all X.outer (fun _ hb => hb) I.ok.funs
theorem Inv.stack (I : Inv X pins σ H s) : s.heap.FunFrames X.base X.stack := by
  rcases I.ok.stk with e | ⟨e, hf⟩
  · rw [e]; exact I.funs
  · rw [e]
    obtain ⟨m, hn, _⟩ := I.loc
    refine .cons (by rw [I.ok.kind]; decide) hf hn ?_ I.funs
    exact Heap.get?_none_of_le (Nat.le_trans I.ok.bsz I.ok.above)
theorem Inv.stkSub (I : Inv X pins σ H s) : ∀ b ∈ frs X.stack, b ∈ X.env.locals :: X.fs := fun b hb => by
  rcases I.ok.stk with e | ⟨e, hf⟩
  · rw [e] at hb; exact List.mem_cons_of_mem _ hb
  · rw [e] at hb
    unfold frs at hb
    rw [List.filterMap_cons, hf] at hb
    exact hb
theorem Inv.stkFree (I : Inv X pins σ H s) : ∀ b ∈ frs X.stack, H b = none := fun b hb => by
  rcases List.mem_cons.mp (I.stkSub b hb) with e | hb
  · rw [e]; exact I.free
  · obtain ⟨_, o, ho, _⟩ := I.ok.funs.mem hb
    exact I.base.free b o ho (I.ok.frf b hb) fun z => I.ok.exfs b z hb
theorem Inv.step {g' : Array GenState} {t' : Nat} {d' : Drawn} {ch : List Addr} (I : Inv X pins σ H s)
    (hch : ∀ b ∈ ch, (b ∈ X.ex ∨ X.s₀.heap.objs.size ≤ b) ∧ b ≠ X.env.locals ∧ (∀ x c, X.env.cells.lookup x = some c → c ≠ b) ∧ ∀ p ∈ X.pn ++ pins, p.1 ≠ b)
    (keep : ∀ b o, b ≠ X.env.locals → b ∉ X.fs → b ∉ ch → s.heap.get? b = some o → H b = none → h'.get? b = some o)
    (slot : ∀ b o, b ≠ X.env.locals → b ∈ X.fs → b ∉ ch → s.heap.get? b = some o → H b = none → ∃ sl, h'.get? b = some { o with slots := sl }) (free : ∀ b o, b ∉ ch → s.heap.get? b = some o → H b = none → H' b = none)
    (there : ∀ b o, b ∉ ch → s.heap.get? b = some o → ∃ o', h'.get? b = some o')
    (tups : ∀ b xs, H b = some (.tup xs) → H' b = some (.tup xs)) (frzs : ∀ b o u, H b = some (.frz o u) → H' b = some (.frz o u)) (tbls : ∀ b ps, H b = some (.tbl ps) → ∃ more, H' b = some (.tbl (ps ++ more)))
    (ns : ∀ m, s.heap.Ns X.env.locals m → h'.Ns X.env.locals m) (hok : HOk X.prog X.w H' h') (hg : AllBare g') :
    Inv X pins σ H' { s with heap := h', gens := g', drawn := d', toks := t' } := by
  have neL : ∀ b o, X.s₀.heap.get? b = some o → b ≠ X.env.locals := fun b o e => Nat.ne_of_lt (Nat.lt_of_lt_of_le (Heap.lt_size e) I.ok.above)
  have neC : ∀ b o, X.s₀.heap.get? b = some o → b ∉ X.ex → b ∉ ch := fun b o e hx hb => by
    rcases (hch b hb).1 with z | z
    · exact hx z
    · exact absurd (Nat.lt_of_lt_of_le (Heap.lt_size e) z) (Nat.lt_irrefl _)
  have cellK : ∀ x c, X.env.cells.lookup x = some c → ∀ v, s.heap.IsCell c v → h'.IsCell c v := fun x c e v ⟨o, ho, hd⟩ => by
    have nch : c ∉ ch := fun z => (hch c z).2.2.1 x c e rfl
    by_cases hc : c ∈ X.fs
    · obtain ⟨sl, q⟩ := slot c o (I.cne x c e) hc nch ho (I.freeC x c e)
      exact ⟨_, q, hd⟩
    · exact ⟨o, keep c o (I.cne x c e) hc nch ho (I.freeC x c e), hd⟩
  refine ⟨I.ok, I.os, hg, ⟨fun b o e n hb hx => ?_, fun b o e n hb hx => ?_, fun b o e n hx => ?_, fun b o e hx => ?_, fun b xs e => tups b xs (I.base.tups b xs e), fun b o xs e => frzs b o xs (I.base.frzs b o xs e), fun b ps e => ?_⟩, ?_, fun x c e => ?_, ?_, fun x c e => ?_, fun p hp => ?_, hok, I.len⟩
  · exact keep b o (neL b o e) hb (neC b o e hx) (I.base.keep b o e n hb hx) (I.base.free b o e n hx)
  · obtain ⟨sl, e1⟩ := I.base.slot b o e n hb hx
    obtain ⟨sl', e2⟩ := slot b _ (neL b o e) hb (neC b o e hx) e1 (I.base.free b o e n hx)
    exact ⟨sl', e2⟩
  · obtain ⟨o', e1⟩ := I.base.there b o e hx
    exact free b o' (neC b o e hx) e1 (I.base.free b o e n hx)
  · obtain ⟨o', e1⟩ := I.base.there b o e hx
    exact there b o' (neC b o e hx) e1
  · obtain ⟨m1, e1⟩ := I.base.tbls b ps e
    obtain ⟨m2, e2⟩ := tbls b _ e1
    exact ⟨m1 ++ m2, by rw [e2, Array.append_assoc]⟩
  · obtain ⟨m, hn, hl⟩ := I.loc
    refine ⟨m, ns m hn, fun i x v e1 e2 e3 => ?_⟩
    obtain ⟨u, r, l⟩ := hl i x v e1 e2 e3
    refine ⟨u, r, ?_⟩
    rcases l with l | ⟨k, c, e, z⟩
    · exact .inl l
    · exact .inr ⟨k, c, e, cellK x c e _ z⟩
  · obtain ⟨v, z⟩ := I.cell x c e
    exact ⟨v, cellK x c e v z⟩
  · obtain ⟨m, ⟨o, _, _, ho, _⟩, _⟩ := I.loc
    exact free _ o (fun z => (hch _ z).2.1 rfl) ho I.free
  · obtain ⟨v, o, ho, hd⟩ := I.cell x c e
    exact free c o (fun z => (hch c z).2.2.1 x c e rfl) ho (I.freeC x c e)
  · obtain ⟨e, n, ne, nf, d⟩ := I.pin p hp
    have nch : p.1 ∉ ch := fun z => (hch p.1 z).2.2.2 p hp rfl
    exact ⟨keep p.1 p.2 ne nf nch e n, free p.1 p.2 nch e n, ne, nf, d⟩
theorem Inv.un {t' : Nat} (I : Inv X pins σ H s) (u : Un X.fs [] H H' s.heap h') (hok : HOk X.prog X.w H' h') : Inv X pins σ H' { s with heap := h', toks := t' } := by
  obtain ⟨m, ⟨o, es, ep, ho, r⟩, _⟩ := id I.loc
  obtain ⟨sl, hL⟩ := u.any ho I.free (by simp)
  exact I.step (g' := s.gens) (d' := s.drawn) (ch := []) (fun _ z => nomatch z) (fun b o _ hb _ e n => u.keep b o e n hb (by simp)) (fun b o _ hb _ e n => u.slot b o e n hb (by simp)) (fun b o _ e n => u.free b o e n (by simp)) (fun b o _ e => u.there b o e (by simp)) u.tups u.frzs u.tbls (fun m' hm => by
    obtain ⟨o', es', ep', ho', r'⟩ := hm
    rw [ho] at ho'; cases ho'
    exact ⟨_, es', ep', hL, r'⟩) hok I.bare
theorem Inv.call {g' : Array GenState} {t' : Nat} {d' : Drawn} {ch : List Addr} (I : Inv X pins σ H s) (u : Un (frs X.stack) ch H H' s.heap h') (hok : HOk X.prog X.w H' h') (hg : AllBare g')
    (hch : ∀ b ∈ ch, (b ∈ X.ex ∨ X.s₀.heap.objs.size ≤ b) ∧ b ≠ X.env.locals ∧ (∀ x c, X.env.cells.lookup x = some c → c ≠ b) ∧ ∀ p ∈ X.pn ++ pins, p.1 ≠ b) :
    Inv X pins σ H' { s with heap := h', gens := g', drawn := d', toks := t' } := by
  obtain ⟨m, ⟨o, es, ep, ho, r⟩, _⟩ := id I.loc
  obtain ⟨sl, hL⟩ := u.any ho I.free fun z => (hch _ z).2.1 rfl
  exact I.step (ch := ch) hch (fun b o hL hb hc e n => u.keep b o e n (fun z => (List.mem_cons.mp (I.stkSub b z)).elim hL hb) hc) (fun b o _ _ hc e n => u.any e n hc) (fun b o hc e n => u.free b o e n hc) (fun b o hc e => u.there b o e hc) u.tups u.frzs u.tbls (fun m' hm => by
    obtain ⟨o', es', ep', ho', r'⟩ := hm
    rw [ho] at ho'; cases ho'
    exact ⟨_, es', ep', hL, r'⟩) hok hg
theorem Inv.turned {t' : Nat} {it : Addr} (I : Inv X pins σ H s) (k : ∀ b o, b ≠ it → s.heap.get? b = some o → h'.get? b = some o) (hn : H it = none) (hL : it ≠ X.env.locals)
    (h1 : it ∈ X.ex ∨ X.s₀.heap.objs.size ≤ it) (h2 : ∀ x c, X.env.cells.lookup x = some c → c ≠ it) (h3 : ∀ p ∈ X.pn ++ pins, p.1 ≠ it) : Inv X pins σ H { s with heap := h', toks := t' } := by
  have nit : ∀ b u, H b = some u → b ≠ it := fun b u e z => by rw [z, hn] at e; cases e
  refine I.step (g' := s.gens) (d' := s.drawn) (ch := [it]) (fun b hb => ?_) (fun b o _ _ hc e _ => k b o (fun z => hc (by simp [z])) e) (fun b o _ _ hc e _ => ⟨o.slots, k b o (fun z => hc (by simp [z])) e⟩) (fun _ _ _ _ n => n)
    (fun b o hc e => ⟨o, k b o (fun z => hc (by simp [z])) e⟩) (fun _ _ e => e) (fun _ _ _ e => e) (fun b ps e => ⟨#[], by rw [e]; simp⟩) (fun m hm => ?_) (fun b u e => ?_) I.bare
  · have e : b = it := by simpa using hb
    subst e
    exact ⟨h1, hL, h2, h3⟩
  · obtain ⟨o, es, ep, ho, r⟩ := hm
    exact ⟨o, es, ep, k _ o (Ne.symm hL) ho, r⟩
  · refine (I.hok b u e).stay (fun c v hc q => k c v ?_ q) (fun _ q => q) fun _ _ q => q
    rcases hc with z | z
    · rw [z]; exact nit b u e
    · exact nit c _ z
theorem Inv.tok (I : Inv X pins σ H s) (t : Nat) : Inv X pins σ H { s with toks := t } := I.un (h' := s.heap) (t' := t) Un.refl I.hok
theorem Inv.kept {t' : Nat} (I : Inv X pins σ H s) (k : ∀ b u, s.heap.get? b = some u → h'.get? b = some u) : Inv X pins σ H { s with heap := h', toks := t' } := I.un (Un.kept k) (I.hok.kept k)
theorem Inv.laid {a : Addr} {o : HO} {t' : Nat} (I : Inv X pins σ H s) (k : ∀ b u, s.heap.get? b = some u → h'.get? b = some u) (hp : s.heap.objs.size ≤ a) (new : ObjOk X.prog X.w (upd H a o) h' a o) :
    Inv X pins σ (upd H a o) { s with heap := h', toks := t' } := I.un (Un.laid k hp (I.hok.fresh hp)) (I.hok.laid k hp new)
theorem Inv.write {x e : Addr} {o : HO} {t' : Nat} (I : Inv X pins σ H s) (mu : Mut (H x)) (he : e = x ∨ H e = some (.own x)) (k : ∀ b u, b ≠ e → s.heap.get? b = some u → h'.get? b = some u) (heo : ∃ u, h'.get? e = some u)
    (new : ObjOk X.prog X.w (upd H x o) h' x o) : Inv X pins σ (upd H x o) { s with heap := h', toks := t' } := I.un (Un.write mu he k heo) (I.hok.write mu he k heo new)
theorem Inv.pins_of {pins' : List (Addr × Obj)} (I : Inv X pins σ H s) (h : ∀ p ∈ pins', s.heap.get? p.1 = some p.2 ∧ H p.1 = none ∧ p.1 ≠ X.env.locals ∧ p.1 ∉ X.fs ∧ ∀ v, p.2.data ≠ .cell v) : Inv X pins' σ H s :=
  ⟨I.ok, I.os, I.bare, I.base, I.loc, I.cell, I.free, I.freeC, fun p hp => (List.mem_append.mp hp).elim (fun z => I.pin p (List.mem_append_left _ z)) (h p), I.hok, I.len⟩
theorem nodup_ix {N : List Str} (hN : N.Nodup) {i j : Nat} {x : Str} (a : N[i]? = some x) (b : N[j]? = some x) : i = j := by
  obtain ⟨h1, e1⟩ := List.getElem?_eq_some_iff.mp a
  obtain ⟨h2, e2⟩ := List.getElem?_eq_some_iff.mp b
  exact (List.getElem_inj hN).mp (e1.trans e2.symm)
theorem store_ok2 {M : Model} {A : Around} {E : Value → Shared → Prop} {i : Nat} {x : Str} {v : V} {u : Value} {Q : Unit → Shared → Prop} (I : Inv X pins σ H s) (hN : X.N.Nodup) (hi : X.N[i]? = some x) (hx : Loc X.env.scope x) (r : RelV v u)
    (h : ∀ s', Inv X pins (σ.set i (some v)) H s' → (∃ a, Heap.SameBut a s.heap s'.heap ∧ (a = X.env.locals ∨ X.env.cells.lookup x = some a)) → Q () s') (hf : X.fn x = true ∨ X.env.scope.names.lookup x = some .local := by first | exact .inl rfl | exact .inr rfl | assumption) : wpAny M A (storeName X.env x u) Q E s := by
  obtain ⟨m, hn, hl⟩ := id I.loc
  have hcls : (X.env.scope.kind == .class || (X.env.scope.kind == .module && X.env.locals != X.env.globals)) = false := by rw [I.ok.kind]; rfl
  have hiσ : i < σ.length := by rw [I.len]; exact (List.getElem?_eq_some_iff.mp hi).1
  have cne := I.cne
  have tracked : ∀ {a : Addr} {h' : Heap}, (∃ o, s.heap.get? a = some o ∧ H a = none) → Heap.SameBut a s.heap h' → HOk X.prog X.w H h' := fun {a h'} ha hs b ob e => by
    obtain ⟨_, _, hfree⟩ := ha
    refine (I.hok b ob e).stay (fun c w' hc q => (hs.2 c ?_).trans q) (fun _ q => q) fun _ _ q => q
    rintro rfl
    rcases hc with rfl | hc
    · rw [hfree] at e; cases e
    · rw [hfree] at hc; cases hc
  rcases hx with hk | hk
  · refine wpAny_storeName_local hk hn (fun h' hn' hs => ?_) hcls
    obtain ⟨oL, _, _, hoL, _⟩ := id hn
    refine h _ ⟨I.ok, I.os, I.bare, ⟨fun b o e n hb hx => ?_, fun b o e n hb hx => ?_, I.base.free, fun b o e hx => ?_, I.base.tups, I.base.frzs, I.base.tbls⟩, ⟨_, hn', fun j y v' e1 e2 e3 => ?_⟩, fun y c e => ?_, I.free, I.freeC, fun p hp => ?_, tracked ⟨oL, hoL, I.free⟩ hs, by simpa using I.len⟩ ⟨_, hs, .inl rfl⟩
    · exact (hs.2 b (Nat.ne_of_lt (Nat.lt_of_lt_of_le (Heap.lt_size e) I.ok.above))).trans (I.base.keep b o e n hb hx)
    · obtain ⟨sl, e1⟩ := I.base.slot b o e n hb hx
      exact ⟨sl, (hs.2 b (Nat.ne_of_lt (Nat.lt_of_lt_of_le (Heap.lt_size e) I.ok.above))).trans e1⟩
    · obtain ⟨o', e1⟩ := I.base.there b o e hx
      exact ⟨o', (hs.2 b (Nat.ne_of_lt (Nat.lt_of_lt_of_le (Heap.lt_size e) I.ok.above))).trans e1⟩
    · by_cases hj : j = i
      · subst hj
        rw [hi] at e1; cases e1
        rw [List.getElem?_set_self hiσ] at e2
        cases e2
        exact ⟨u, r, .inl ⟨hk, by simp⟩⟩
      · rw [List.getElem?_set_ne (Ne.symm hj)] at e2
        obtain ⟨u', r', q⟩ := hl j y v' e1 e2 e3
        refine ⟨u', r', ?_⟩
        rcases q with ⟨k, e⟩ | ⟨k, c, e, z⟩
        · refine .inl ⟨k, ?_⟩
          have : y ≠ x := fun e => hj (nodup_ix hN e1 (e ▸ hi))
          simp [this, e]
        · exact .inr ⟨k, c, e, z.sameBut hs (cne y c e)⟩
    · obtain ⟨w', z⟩ := I.cell y c e
      exact ⟨w', z.sameBut hs (cne y c e)⟩
    · obtain ⟨e, n, ne, nf, d⟩ := I.pin p hp
      exact ⟨(hs.2 p.1 ne).trans e, n, ne, nf, d⟩
  · have hfn : X.fn x = true := by
      rcases hf with z | z
      · exact z
      · rw [z] at hk; cases hk
    obtain ⟨c, hc⟩ := I.ok.has x (.inl hk)
    obtain ⟨w', z⟩ := I.cell x c hc
    refine wpAny_storeName_cell I.ok.kind hk hc z (fun h' hc' hs => ?_)
    obtain ⟨oc, hoc, hocd⟩ := id z
    refine h { s with heap := h' } ⟨I.ok, I.os, I.bare, ⟨fun b o e n hb hx => ?_, fun b o e n hb hx => ?_, I.base.free, fun b o e hx => ?_, I.base.tups, I.base.frzs, I.base.tbls⟩, ⟨m, hn.sameBut hs (Ne.symm (cne x c hc)), fun j y v' e1 e2 e3 => ?_⟩, fun y c' e => ?_, I.free, I.freeC, fun p hp => ?_, tracked ⟨oc, hoc, I.freeC x c hc⟩ hs, by simpa using I.len⟩ ⟨c, hs, .inr hc⟩
    · exact (hs.2 b (Nat.ne_of_lt (Nat.lt_of_lt_of_le (Heap.lt_size e) (I.ok.cab x c hfn hc)))).trans (I.base.keep b o e n hb hx)
    · obtain ⟨sl, e1⟩ := I.base.slot b o e n hb hx
      exact ⟨sl, (hs.2 b (Nat.ne_of_lt (Nat.lt_of_lt_of_le (Heap.lt_size e) (I.ok.cab x c hfn hc)))).trans e1⟩
    · obtain ⟨o', e1⟩ := I.base.there b o e hx
      exact ⟨o', (hs.2 b (Nat.ne_of_lt (Nat.lt_of_lt_of_le (Heap.lt_size e) (I.ok.cab x c hfn hc)))).trans e1⟩
    · by_cases hj : j = i
      · subst hj
        rw [hi] at e1; cases e1
        rw [List.getElem?_set_self hiσ] at e2
        cases e2
        exact ⟨u, r, .inr ⟨.inl hk, c, hc, hc'⟩⟩
      · rw [List.getElem?_set_ne (Ne.symm hj)] at e2
        obtain ⟨u', r', q⟩ := hl j y v' e1 e2 e3
        refine ⟨u', r', ?_⟩
        rcases q with q | ⟨k, c', e, z'⟩
        · exact .inl q
        · refine .inr ⟨k, c', e, z'.sameBut hs ?_⟩
          rintro rfl
          exact hj (nodup_ix hN e1 (I.ok.inj _ _ _ e hc ▸ hi))
    · by_cases hcc : c' = c
      · subst hcc; exact ⟨_, hc'⟩
      · obtain ⟨w2, z2⟩ := I.cell y c' e
        exact ⟨w2, z2.sameBut hs hcc⟩
    · obtain ⟨e, n, ne, nf, d⟩ := I.pin p hp
      refine ⟨(hs.2 p.1 ?_).trans e, n, ne, nf, d⟩
      intro q
      rw [q, hoc] at e
      have q' : oc = p.2 := Option.some.inj e
      exact d w' (by rw [← q']; exact hocd)
theorem store_ok {M : Model} {A : Around} {E : Value → Shared → Prop} {i : Nat} {x : Str} {v : V} {u : Value} {Q : Unit → Shared → Prop} (I : Inv X pins σ H s) (hN : X.N.Nodup) (hi : X.N[i]? = some x) (hx : Loc X.env.scope x) (r : RelV v u)
    (h : ∀ s', Inv X pins (σ.set i (some v)) H s' → Q () s') (hf : X.fn x = true ∨ X.env.scope.names.lookup x = some .local := by first | exact .inl rfl | exact .inr rfl | assumption) : wpAny M A (storeName X.env x u) Q E s :=
  store_ok2 I hN hi hx r (fun s' I' _ => h s' I') hf
end
noncomputable abbrev XK := Value → Option Addr → Hp → Prop
noncomputable abbrev St := List (Option V)
noncomputable abbrev VK := V → Hp → Prop
noncomputable abbrev TE := St → Hp → VK → Prop
noncomputable abbrev TT := St → Hp → (Bool → Hp → Prop) → Prop
noncomputable abbrev TA := St → Hp → (List V → Hp → Prop) → Prop
structure Ends where
  nx : St → Hp → Prop
  rt : VK
  bk : St → Hp → Prop := fun _ _ => False
  ct : St → Hp → Prop := fun _ _ => False
noncomputable abbrev TS := Ends → St → Hp → Prop
noncomputable def EP (X : Cx) (pins : List (Addr × Obj)) (σ : St) (Q : VK) (u : Value) (s' : Shared) : Prop := ∃ v H', Inv X pins σ H' s' ∧ RelV v u ∧ Q v H'
noncomputable def TP (X : Cx) (pins : List (Addr × Obj)) (σ : St) (Q : Bool → Hp → Prop) (b : Bool) (s' : Shared) : Prop := ∃ H', Inv X pins σ H' s' ∧ Q b H'
noncomputable def AP (X : Cx) (pins : List (Addr × Obj)) (σ : St) (Q : List V → Hp → Prop) (us : List Value) (s' : Shared) : Prop := ∃ vs H', Inv X pins σ H' s' ∧ Vals vs us ∧ Q vs H'
noncomputable def SP (X : Cx) (pins : List (Addr × Obj)) (D : Ends) (f : Flow) (s' : Shared) : Prop :=
  match f with
  | .next => ∃ σ' H', Inv X pins σ' H' s' ∧ D.nx σ' H'
  | .brk => ∃ σ' H', Inv X pins σ' H' s' ∧ D.bk σ' H'
  | .cont => ∃ σ' H', Inv X pins σ' H' s' ∧ D.ct σ' H'
  | .ret u => ∃ v σ' H', Inv X pins σ' H' s' ∧ RelV v u ∧ D.rt v H'
noncomputable def PE (X : Cx) (e : Expr) (t : TE) : Prop :=
  ∀ (pins : List (Addr × Obj)) (s : Shared) (σ : St) (H : Hp) (Q : VK), Inv X pins σ H s → t σ H Q → wpAny (model X.prog X.w) X.A (eval e X.env) (EP X pins σ Q) X.xe s
noncomputable def PT (X : Cx) (e : Expr) (t : TT) : Prop :=
  ∀ (pins : List (Addr × Obj)) (s : Shared) (σ : St) (H : Hp) (Q : Bool → Hp → Prop), Inv X pins σ H s → t σ H Q → wpAny (model X.prog X.w) X.A (isTrue e X.env (eval e X.env)) (TP X pins σ Q) X.xe s
noncomputable def PW (X : Cx) (e : Expr) (t : TT) : Prop :=
  ∀ (whole : Sem Value) (pins : List (Addr × Obj)) (s : Shared) (σ : St) (H : Hp) (Q : Bool → Hp → Prop), Inv X pins σ H s → t σ H Q → wpAny (model X.prog X.w) X.A (isTrue e X.env whole) (TP X pins σ Q) X.xe s
theorem PW.pt {X : Cx} {e : Expr} {t : TT} (h : PW X e t) : PT X e t := h _
noncomputable def PA (X : Cx) (es : List Expr) (t : TA) : Prop :=
  ∀ (pos : Pos) (pins : List (Addr × Obj)) (s : Shared) (σ : St) (H : Hp) (Q : List V → Hp → Prop), Inv X pins σ H s → t σ H Q → wpAny (model X.prog X.w) X.A (spliced (backTo pos (starEach es X.env))) (AP X pins σ Q) X.xe s
noncomputable def PS (X : Cx) (st : Stmt) (t : TS) : Prop :=
  ∀ (pins : List (Addr × Obj)) (s : Shared) (σ : St) (H : Hp) (D : Ends), Inv X pins σ H s → t D σ H → wpAny (model X.prog X.w) X.A (exec st X.env) (SP X pins D) X.xe s
noncomputable def PSs (X : Cx) (st : List Stmt) (t : TS) : Prop :=
  ∀ (pins : List (Addr × Obj)) (s : Shared) (σ : St) (H : Hp) (D : Ends), Inv X pins σ H s → t D σ H → wpAny (model X.prog X.w) X.A (execs st X.env) (SP X pins D) X.xe s
theorem thn {α : Type} {t : Sem α} {Q Q' : α → Shared → Prop} {M : Model} {A : Around} {E : Value → Shared → Prop} {s : Shared} (h : wpAny M A t Q E s) (hQ : ∀ a s, Q a s → Q' a s) : wpAny M A t Q' E s := wpAny_mono h hQ fun _ _ x => x
end L2
namespace L2
open PySem PySem.Spec PyProof.Rows
section
variable {X : Cx}
noncomputable def tVar (i : Nat) : TE := fun σ H Q => ∃ v, σ[i]? = some (some v) ∧ Q v H
noncomputable def tC (v : V) : TE := fun _ H Q => Q v H
theorem pe_var {i : Nat} {x : Str} {pos : Pos} (hN : X.N[i]? = some x) (hv : Vis X.env.scope x) (hd : (x == ("__debug__" : Str)) = false := by decide) (hcd : (x == ("__classdict__" : Str)) = false := by decide) : PE X (.Name x pos) (tVar i) := by
  intro pins s σ H Q I h
  obtain ⟨v, e, h⟩ := h
  obtain ⟨m, hn, hl⟩ := I.loc
  obtain ⟨u, r, l⟩ := hl i x v hN e hv
  have fin : EP X pins σ Q u s := ⟨v, H, I, r, h⟩
  rcases l with ⟨hk, hm⟩ | ⟨hk, c, hc, hcell⟩
  · exact wpAny_Name (wpAny_loadName_local I.ok.kind hk hn hm fin) hd
  · rcases hk with hk | hk
    · exact wpAny_Name (wpAny_loadName_cell I.ok.kind hk hc hcell fin) hd
    · exact wpAny_Name (wpAny_loadName_free I.ok.kind hk hc hcell fin hcd) hd
theorem pe_int {i j pos} : PE X (.Constant (.int i) j pos) (tC (.int i)) := fun _ _ _ H _ I h => wpAny_Constant_int ⟨.int i, H, I.tok _, ⟨_, rfl⟩, h⟩
theorem pe_bl {b j pos} : PE X (.Constant (.bool b) j pos) (tC (.bl b)) := fun _ _ _ H _ I h => Constant_bool ⟨.bl b, H, I, rfl, h⟩
theorem pe_non {j pos} : PE X (.Constant .none j pos) (tC .non) := fun _ _ _ H _ I h => Constant_none ⟨.non, H, I, rfl, h⟩
noncomputable def Gl (X : Cx) (x : Str) : Prop := X.env.kindOf x = some .globalImplicit
theorem ld_glob {E : Value → Shared → Prop} {pins : List (Addr × Obj)} {s : Shared} {σ : St} {H : Hp} {x : Str} {u : Value} {pos : Pos} {Q : Value → Shared → Prop} (I : Inv X pins σ H s) (hg : Gl X x) (hm : X.mg x = some u) (h : Q u s)
    (hd : (x == ("__debug__" : Str)) = false := by decide) : wpAny (model X.prog X.w) X.A (eval (.Name x pos) X.env) Q E s :=
  Calls.Name_function_global I.ok.kind hg (Calls.loadGlobal_global (by rw [I.ok.glob]; exact I.mod.glob.keeps I.bk) hm h) hd
theorem ld_blt {E : Value → Shared → Prop} {pins : List (Addr × Obj)} {s : Shared} {σ : St} {H : Hp} {x : Str} {u : Value} {pos : Pos} {Q : Value → Shared → Prop} (I : Inv X pins σ H s) (hg : Gl X x) (hm : X.mg x = none) (hv : bootBuiltins x = some u) (h : Q u s)
    (hn : x ≠ "__name__" := by decide) (hd : (x == ("__debug__" : Str)) = false := by decide) : wpAny (model X.prog X.w) X.A (eval (.Name x pos) X.env) Q E s := by
  obtain ⟨mb, h1, h2⟩ := I.mod.blt
  exact Calls.Name_function_global I.ok.kind hg (Calls.loadGlobal_builtin (by rw [I.ok.glob]; exact I.mod.glob.keeps I.bk) hm (by rw [I.ok.blt]; exact h1.keeps I.bk) ((h2 x hn).trans hv) h) hd
theorem pe_glob {x : Str} {v : V} {u : Value} {pos : Pos} (hg : Gl X x) (hm : X.mg x = some u) (r : RelV v u) (hd : (x == ("__debug__" : Str)) = false := by decide) : PE X (.Name x pos) (tC v) :=
  fun _ _ _ H _ I h => ld_glob I hg hm ⟨v, H, I, r, h⟩ hd
theorem pe_bltn {x : Str} {v : V} {u : Value} {pos : Pos} (hg : Gl X x) (hm : X.mg x = none) (hv : bootBuiltins x = some u) (r : RelV v u) (hn : x ≠ "__name__" := by decide) (hd : (x == ("__debug__" : Str)) = false := by decide) : PE X (.Name x pos) (tC v) :=
  fun _ _ _ H _ I h => ld_blt I hg hm hv ⟨v, H, I, r, h⟩ hn hd
variable {a b : Expr} {ta tb : TE} {pos : Pos}
noncomputable def tB (t : TE) : TT := fun σ H Q => t σ H fun x H1 => ∃ c, x = .bl c ∧ Q c H1
theorem pt_val {e : Expr} {t : TE} (h : PE X e t) (he : ∀ whole, isTrue e X.env whole = (do let v ← whole; standAt e.pos; holding [v] (truthy v)) := by intro _; rfl) : PT X e (tB t) := by
  intro pins s σ H Q I hw
  refine isTrue_plain (thn (h pins s σ H _ I hw) fun v s1 ⟨x, H1, I1, r1, q1⟩ => ?_) (he _)
  obtain ⟨d, rfl, q⟩ := q1
  cases r1
  exact wpAny_truthy_bool ⟨H1, I1, q⟩
variable {tA tB' : TT} {rest : List Expr}
noncomputable def tAnd (t u : TT) : TT := fun σ H Q => t σ H fun c H1 => if c = true then u σ H1 Q else Q false H1
noncomputable def tOr (t u : TT) : TT := fun σ H Q => t σ H fun c H1 => if c = true then Q true H1 else u σ H1 Q
noncomputable def tNot (t : TT) : TT := fun σ H Q => t σ H fun c H1 => Q (!c) H1
theorem pw_and1 (ha : PT X a tA) : PW X (.BoolOp .And [a] pos) tA := by
  intro wh pins s σ H Q I h
  refine isTrue_and (thn (ha pins s σ H Q I h) fun c s1 e => ?_)
  cases c with
  | true => exact isTrue_and_nil e
  | false => exact e
theorem pw_or1 (ha : PT X a tA) : PW X (.BoolOp .Or [a] pos) tA := by
  intro wh pins s σ H Q I h
  refine isTrue_or (thn (ha pins s σ H Q I h) fun c s1 e => ?_)
  cases c with
  | false => exact isTrue_or_nil e
  | true => exact e
theorem pw_and (ha : PT X a tA) (hb : PW X (.BoolOp .And (b :: rest) pos) tB') : PW X (.BoolOp .And (a :: b :: rest) pos) (tAnd tA tB') := by
  intro wh pins s σ H Q I h
  refine isTrue_and (thn (ha pins s σ H _ I h) fun c s1 zz => ?_)
  obtain ⟨H1, I1, q1⟩ := zz
  cases c with
  | true => exact hb wh pins s1 σ H1 Q I1 q1
  | false => exact ⟨H1, I1, q1⟩
theorem pw_or (ha : PT X a tA) (hb : PW X (.BoolOp .Or (b :: rest) pos) tB') : PW X (.BoolOp .Or (a :: b :: rest) pos) (tOr tA tB') := by
  intro wh pins s σ H Q I h
  refine isTrue_or (thn (ha pins s σ H _ I h) fun c s1 zz => ?_)
  obtain ⟨H1, I1, q1⟩ := zz
  cases c with
  | true => exact ⟨H1, I1, q1⟩
  | false => exact hb wh pins s1 σ H1 Q I1 q1
theorem pt_not (ha : PT X a tA) : PT X (.UnaryOp .Not a pos) (tNot tA) := by
  intro pins s σ H Q I h
  exact isTrue_not (ha pins s σ H (fun c H1 => Q (!c) H1) I h)
noncomputable def tAndV (ta tb : TE) : TE := fun σ H Q => ta σ H fun x H1 => ∃ c, x = .bl c ∧ if c = true then tb σ H1 Q else Q (.bl false) H1
noncomputable def tNotV (ta : TE) : TE := fun σ H Q => ta σ H fun x H1 => ∃ c, x = .bl c ∧ Q (.bl (!c)) H1
theorem pe_one {op} {t : TE} (h : PE X a t) : PE X (.BoolOp op [a] pos) t := fun pins s σ H Q I hw => BoolOp_one (h pins s σ H Q I hw)
theorem pe_and (ha : PE X a ta) (hb : PE X (.BoolOp .And (b :: rest) pos) tb) : PE X (.BoolOp .And (a :: b :: rest) pos) (tAndV ta tb) := by
  intro pins s σ H Q I h
  refine BoolOp_and (thn (ha pins s σ H _ I h) fun v s1 zz => ?_)
  obtain ⟨x, H1, I1, r1, q1⟩ := zz
  obtain ⟨c, rfl, q1⟩ := q1
  cases r1
  refine wpAny_truthy_bool ?_
  cases c with
  | true => exact hb pins s1 σ H1 Q I1 q1
  | false => exact ⟨.bl false, H1, I1, rfl, q1⟩
theorem pe_not (ha : PE X a ta) : PE X (.UnaryOp .Not a pos) (tNotV ta) := by
  intro pins s σ H Q I h
  refine UnaryOp_ (thn (ha pins s σ H _ I h) fun v s1 zz => ?_)
  obtain ⟨x, H1, I1, r1, q1⟩ := zz
  obtain ⟨c, rfl, q1⟩ := q1
  cases r1
  exact not_of (wpAny_truthy_bool ⟨.bl (!c), H1, I1, rfl, q1⟩)
noncomputable def tIf (t : TT) (ta tb : TE) : TE := fun σ H Q => t σ H fun c H1 => if c = true then ta σ H1 Q else tb σ H1 Q
theorem pe_ifExp {c : Expr} (hc : PT X c tA) (ha : PE X a ta) (hb : PE X b tb) : PE X (.IfExp c a b pos) (tIf tA ta tb) := by
  intro pins s σ H Q I h
  refine wpAny_IfExp (thn (hc pins s σ H _ I h) fun d s1 zz => ?_)
  obtain ⟨H1, I1, q1⟩ := zz
  cases d with
  | true => exact ha pins s1 σ H1 Q I1 q1
  | false => exact hb pins s1 σ H1 Q I1 q1
end
end L2
namespace L2
open PySem PySem.Spec PyProof.Rows
noncomputable def SqL (K : PySem.W.Frag) (H : Hp) (a : Addr) (xs : List V) : Prop :=
  Rd H a (.lst xs) ∨
    ∃ (o : Obj) (its : Array Value) (n : Nat), K.lookup a = some o ∧ o.cls = .type "list" ∧ o.dict = none ∧ o.data = .seq its n ∧ its.size ≤ sizeLine ∧ Vals xs its.toList
noncomputable def SqT (K : PySem.W.Frag) (H : Hp) (a : Addr) (xs : List V) : Prop :=
  Rd H a (.tup xs) ∨
    ∃ (o : Obj) (its : Array Value) (n : Nat), K.lookup a = some o ∧ o.cls = .type "tuple" ∧ o.data = .seq its n ∧ its.size ≤ sizeLine ∧ Vals xs its.toList
noncomputable def absV : Value → Option V
  | .none => some .non
  | .bool b => some (.bl b)
  | .int i _ => some (.int i)
  | .str x _ => some (.str x)
  | .bytes b _ => some (.byt b)
  | .float b _ => some (.flt b)
  | .ref a => some (.ref a)
  | .type n => some (.ty n)
  | _ => none
theorem RelV.abs {x : V} {u : Value} (r : RelV x u) : absV u = some x := by
  cases x with
  | non => cases r; rfl
  | bl _ => cases r; rfl
  | int _ => obtain ⟨t, rfl⟩ := r; rfl
  | str _ => obtain ⟨t, rfl⟩ := r; rfl
  | byt _ => obtain ⟨t, rfl⟩ := r; rfl
  | flt _ => obtain ⟨t, rfl⟩ := r; rfl
  | ref _ => cases r; rfl
  | ty _ => cases r; rfl
theorem RelV.inj {x y : V} {u : Value} (r : RelV x u) (q : RelV y u) : x = y := Option.some.inj (r.abs.symm.trans q.abs)
theorem Vals.inj : ∀ {xs ys : List V} {us : List Value}, Vals xs us → Vals ys us → xs = ys
  | _, _, _, .nil, .nil => rfl
  | _, _, _, .cons r t, .cons r' t' => by rw [r.inj r', Vals.inj t t']
section
variable {X : Cx} {pins : List (Addr × Obj)} {σ : St} {H : Hp} {s : Shared} {a : Addr} {xs ys : List V}
theorem SqL.of {K : PySem.W.Frag} (h : H a = some (.lst xs)) : SqL K H a xs := .inl (.inl h)
theorem SqT.of {K : PySem.W.Frag} (h : H a = some (.tup xs)) : SqT K H a xs := .inl (.inl h)
theorem Inv.list (I : Inv X pins σ H s) (h : SqL X.K H a xs) : ∃ its : List Value, Vals xs its ∧ PlainL s.heap a its.toArray ∧ xs.length ≤ sizeLine := by
  rcases h with h | ⟨o, its, n, hk, hc, hd, hs, hz, r⟩
  · obtain ⟨z, its, n, r, e⟩ := h.ok I.hok
    exact ⟨its, r, ⟨_, n, e, rfl, rfl, rfl⟩, z⟩
  · refine ⟨its.toList, r, ⟨o, n, I.kIn a o hk, hc, hd, by simpa using hs⟩, ?_⟩
    have e := r.length
    simp only [Array.length_toList] at e
    omega
theorem Inv.tuple (I : Inv X pins σ H s) (h : SqT X.K H a xs) : ∃ its : List Value, Vals xs its ∧ IsTup s.heap a its.toArray ∧ xs.length ≤ sizeLine := by
  rcases h with h | ⟨o, its, n, hk, hc, hs, hz, r⟩
  · obtain ⟨z, its, r, p⟩ := h.ok I.hok
    exact ⟨its, r, p, z⟩
  · refine ⟨its.toList, r, ⟨o, I.kIn a o hk, hc, n, by simpa using hs⟩, ?_⟩
    have e := r.length
    simp only [Array.length_toList] at e
    omega
theorem Inv.list_inj (I : Inv X pins σ H s) (h : SqL X.K H a xs) (h' : SqL X.K H a ys) : xs = ys := by
  obtain ⟨its, r, ⟨o, n, e, _, _, d⟩, _⟩ := I.list h
  obtain ⟨its', r', ⟨o', n', e', _, _, d'⟩, _⟩ := I.list h'
  rw [e] at e'; cases e'
  rw [d] at d'
  injection d' with d1 _
  have : its = its' := by simpa using congrArg Array.toList d1
  subst this
  exact r.inj r'
end
noncomputable abbrev Cx.wish (X : Cx) (E : Value → Shared → Prop) : Cx := { X with xe := E }
noncomputable abbrev Cx.nox (X : Cx) : Cx := X.wish fun _ _ => False
theorem Cx.Ok.wish {X : Cx} (ok : X.Ok) (E : Value → Shared → Prop) : (X.wish E).Ok :=
  ⟨ok.mod, ok.kind, ok.glob, ok.blt, ok.above, ok.inj, ok.has, ok.cab, ok.hd, ok.frames, ok.stk, ok.exf, ok.bs, ok.bsz, ok.noex, ok.exfs, ok.funs, ok.frf⟩
theorem Cx.Ok.unwish {X : Cx} {E : Value → Shared → Prop} (ok : (X.wish E).Ok) : X.Ok :=
  ⟨ok.mod, ok.kind, ok.glob, ok.blt, ok.above, ok.inj, ok.has, ok.cab, ok.hd, ok.frames, ok.stk, ok.exf, ok.bs, ok.bsz, ok.noex, ok.exfs, ok.funs, ok.frf⟩
section
variable {X : Cx} {pins : List (Addr × Obj)} {σ : St} {H : Hp} {s : Shared} {E : Value → Shared → Prop}
theorem Inv.wish (I : Inv X pins σ H s) (E : Value → Shared → Prop) : Inv (X.wish E) pins σ H s := ⟨I.ok.wish E, I.os, I.bare, I.base, I.loc, I.cell, I.free, I.freeC, I.pin, I.hok, I.len⟩
theorem Inv.unwish (I : Inv (X.wish E) pins σ H s) : Inv X pins σ H s := ⟨I.ok.unwish, I.os, I.bare, I.base, I.loc, I.cell, I.free, I.freeC, I.pin, I.hok, I.len⟩
theorem SP.unwish {D : Ends} {f : Flow} {s' : Shared} (h : SP (X.wish E) pins D f s') : SP X pins D f s' := by
  cases f with
  | next => obtain ⟨σ', H', I, q⟩ := h; exact ⟨σ', H', I.unwish, q⟩
  | brk => obtain ⟨σ', H', I, q⟩ := h; exact ⟨σ', H', I.unwish, q⟩
  | cont => obtain ⟨σ', H', I, q⟩ := h; exact ⟨σ', H', I.unwish, q⟩
  | ret u => obtain ⟨v, σ', H', I, r, q⟩ := h; exact ⟨v, σ', H', I.unwish, r, q⟩
theorem PSs.nox {st : List Stmt} {t : TS} (h : PSs X.nox st t) : PSs X st t := fun pins s σ H D I hw =>
  wpAny_mono (h pins s σ H D (I.wish _) hw) (fun _ _ q => q.unwish) fun _ _ z => False.elim z
end
section
variable {X : Cx} {st : Stmt} {rest : List Stmt} {t u : TS} {e : Expr} {te : TE} {pos : Pos}
noncomputable def tNext : TS := fun D σ H => D.nx σ H
noncomputable def tSeq (t u : TS) : TS := fun D σ H => t { D with nx := u D } σ H
theorem pss_nil : PSs X [] tNext := fun _ _ σ H _ I h => wpAny_execs_nil ⟨σ, H, I, h⟩
theorem pss_cons (h1 : PS X st t) (h2 : PSs X rest u) : PSs X (st :: rest) (tSeq t u) := by
  intro pins s σ H D I h
  refine wpAny_execs_cons (thn (h1 pins s σ H { D with nx := u D } I h) fun f s1 q => ?_)
  cases f with
  | next =>
    obtain ⟨σ', H', I', q⟩ := q
    exact h2 pins s1 σ' H' D I' q
  | ret v => exact q
  | brk => exact q
  | cont => exact q
theorem pss_one (h1 : PS X st t) : PSs X [st] t := by
  intro pins s σ H D I h
  refine wpAny_execs_cons (thn (h1 pins s σ H D I h) fun f s1 q => ?_)
  cases f with
  | next => exact wpAny_execs_nil q
  | ret v => exact q
  | brk => exact q
  | cont => exact q
theorem Inv.quiet {pins : List (Addr × Obj)} {σ : St} {H : Hp} {s : Shared} (I : Inv X pins σ H s) : interactive X.env = false := by simp [interactive, I.ok.kind]
noncomputable def tDrop (te : TE) : TS := fun D σ H => te σ H fun _ H1 => D.nx σ H1
theorem ps_expr (he : PE X e te) (hs : swapsWith e none pos.line X.env = pure false := by rfl) : PS X (.Expr e pos) (tDrop te) := by
  intro pins s σ H D I h
  exact wpAny_Expr_any (thn (he pins s σ H _ I h) fun v s1 ⟨x, H1, I1, r1, q1⟩ => ⟨σ, H1, I1, q1⟩) I.quiet hs
noncomputable def tRet (te : TE) : TS := fun D σ H => te σ H D.rt
theorem ps_ret (he : PE X e te) : PS X (.Return (some e) pos) (tRet te) := by
  intro pins s σ H D I h
  exact wpAny_Return_some (thn (he pins s σ H _ I h) fun v s1 ⟨x, H1, I1, r1, q1⟩ => ⟨x, σ, H1, I1, r1, q1⟩)
noncomputable def tIfS (c : TT) (t u : TS) : TS := fun D σ H => c σ H fun b H1 => if b = true then t D σ H1 else u D σ H1
theorem ps_if {c : Expr} {a b : List Stmt} {tc : TT} (hc : PT X c tc) (ha : PSs X a t) (hb : PSs X b u) : PS X (.If c a b pos) (tIfS tc t u) := by
  intro pins s σ H D I h
  refine wpAny_If (thn (hc pins s σ H _ I h) fun d s1 zz => ?_)
  obtain ⟨H1, I1, q1⟩ := zz
  cases d with
  | true => exact ha pins s1 σ H1 D I1 q1
  | false => exact hb pins s1 σ H1 D I1 q1
noncomputable def tNever : TS := fun _ _ _ => False
theorem ps_never : PS X st tNever := fun _ _ _ _ _ _ h => h.elim
theorem pss_never {sts : List Stmt} : PSs X sts tNever := fun _ _ _ _ _ _ h => h.elim
end
noncomputable abbrev TG := V → St → Hp → (St → Hp → Prop) → Prop
noncomputable abbrev TGs := List V → St → Hp → (St → Hp → Prop) → Prop
noncomputable def PG (X : Cx) (target : Expr) (t : TG) : Prop :=
  ∀ (pins : List (Addr × Obj)) (s : Shared) (σ : St) (H : Hp) (v : V) (u : Value) (Q : St → Hp → Prop), Inv X pins σ H s → RelV v u → t v σ H Q →
    wpAny (model X.prog X.w) X.A (assign target X.env u) (fun _ s' => ∃ σ' H', Inv X pins σ' H' s' ∧ Q σ' H') X.xe s
noncomputable def PGs (X : Cx) (ts : List Expr) (t : TGs) : Prop :=
  ∀ (pins : List (Addr × Obj)) (s : Shared) (σ : St) (H : Hp) (vs : List V) (us : List Value) (Q : St → Hp → Prop), Inv X pins σ H s → Vals vs us → t vs σ H Q →
    wpAny (model X.prog X.w) X.A (assignInOrder ((assignEach ts X.env).map (·.2)) us) (fun _ s' => ∃ σ' H', Inv X pins σ' H' s' ∧ Q σ' H') X.xe s
noncomputable abbrev TSet := V → V → V → Hp → (Hp → Prop) → Prop
noncomputable def PSet (X : Cx) (t : TSet) : Prop :=
  ∀ (pins : List (Addr × Obj)) (s : Shared) (σ : St) (H : Hp) (o i v : V) (ov iv u : Value) (Q : Hp → Prop), Inv X pins σ H s → RelV o ov → RelV i iv → RelV v u → t o i v H Q →
    wpAny (model X.prog X.w) X.A (setItem ov iv u) (fun _ s' => ∃ H', Inv X pins σ H' s' ∧ Q H') X.xe s
noncomputable abbrev TIp := V → V → Hp → VK → Prop
noncomputable def PIp (X : Cx) (op : Operator) (t : TIp) : Prop :=
  ∀ (pins : List (Addr × Obj)) (s : Shared) (σ : St) (H : Hp) (x y : V) (v u : Value) (Q : VK), Inv X pins σ H s → RelV x v → RelV y u → t x y H Q →
    wpAny (model X.prog X.w) X.A (inplaceOp op v u) (EP X pins σ Q) X.xe s
section
variable {X : Cx} {pos : Pos}
noncomputable def gName (i : Nat) : TG := fun v σ H Q => Q (σ.set i (some v)) H
theorem pg_name {i : Nat} {x : Str} (hN : X.N.Nodup) (hi : X.N[i]? = some x) (hx : Loc X.env.scope x) (hf : X.fn x = true ∨ X.env.scope.names.lookup x = some .local := by first | exact .inl rfl | exact .inr rfl | assumption) : PG X (.Name x pos) (gName i) := by
  intro pins s σ H v u Q I r h
  exact wpAny_assign_Name (store_ok I hN hi hx r (fun s' I' => ⟨_, H, I', h⟩) hf)
noncomputable def gNil : TGs := fun vs σ H Q => vs = [] ∧ Q σ H
noncomputable def gCons (t : TG) (u : TGs) : TGs := fun vs σ H Q => ∃ v r, vs = v :: r ∧ t v σ H fun σ' H' => u r σ' H' Q
theorem pgs_nil : PGs X [] gNil := by
  intro pins s σ H vs us Q I r h
  obtain ⟨e, h⟩ := h
  subst e
  cases r
  exact assignInOrder_nil ⟨σ, H, I, h⟩
theorem pgs_cons {e : Expr} {es : List Expr} {t : TG} {u : TGs} (h1 : PG X e t) (h2 : PGs X es u)
    (hs : (assignEach (e :: es) X.env).map (·.2) = assign e X.env :: (assignEach es X.env).map (·.2) := by rfl) : PGs X (e :: es) (gCons t u) := by
  intro pins s σ H vs us Q I r h
  obtain ⟨v, vr, e1, h⟩ := h
  subst e1
  cases r with
  | cons r rr =>
    rw [hs]
    refine assignInOrder_cons (thn (h1 pins s σ H _ _ _ I r h) fun _ s1 zz => ?_)
    obtain ⟨σ1, H1, I1, q1⟩ := zz
    exact h2 pins s1 σ1 H1 _ _ Q I1 rr q1
noncomputable def gTup (K : PySem.W.Frag) (n : Nat) (t : TGs) : TG := fun v σ H Q => ∃ a xs, v = .ref a ∧ SqT K H a xs ∧ xs.length = n ∧ t xs σ H Q
theorem pg_tup {es : List Expr} {k : Nat} {t : TGs} {n : Nat} (hc : X.calm = true) (h : PGs X es t)
    (hn : (assignEach es X.env).length = n := by rfl) (hst : (assignEach es X.env).findIdx? (·.1) = none := by rfl) : PG X (.Tuple es k pos) (gTup X.K n t) := by
  intro pins s σ H v u Q I r hw
  obtain ⟨a, xs, e1, hq, hl, hw⟩ := hw
  subst e1
  cases r
  obtain ⟨its, rv, ht, hz⟩ := I.tuple hq
  refine assign_Tuple_tuple (I.ok.hd hc) ht (by simp [hn, ← hl, rv.length]) hst fun h' hx => ?_
  have I1 : Inv X pins σ H { s with heap := h' } := I.kept (t' := s.toks) fun b o e => hx b o (Nat.ne_of_lt (Heap.lt_size e)) e
  exact h pins _ σ H xs _ Q I1 (by simpa using rv) hw
noncomputable def gSub (to ti : TE) (t : TSet) : TG := fun v σ H Q => to σ H fun o H1 => ti σ H1 fun i H2 => t o i v H2 fun H3 => Q σ H3
theorem pg_sub {o i : Expr} {to ti : TE} {t : TSet} (ho : PE X o to) (hi : PE X i ti) (hs : PSet X t)
    (ha : ∀ v, assign (.Subscript o i pos) X.env v = (do
      let ov ← holding [v] (eval o X.env)
      let iv ← holding [v, ov] (eval i X.env)
      standAt pos
      holding [v, ov, iv] (setItem ov iv v)
      release [v, ov, iv] []) := by intro _; rfl) : PG X (.Subscript o i pos) (gSub to ti t) := by
  intro pins s σ H v u Q I r h
  rw [ha]
  refine wpAny_bind (wpAny_holding (thn (ho pins s σ H _ I h) fun ov s1 zz => ?_))
  obtain ⟨x, H1, I1, r1, q1⟩ := zz
  refine wpAny_bind (wpAny_holding (thn (hi pins s1 σ H1 _ I1 q1) fun iv s2 zz => ?_))
  obtain ⟨y, H2, I2, r2, q2⟩ := zz
  refine wpAny_bind (wpAny_standAt (wpAny_bind (wpAny_holding (thn (hs pins s2 σ H2 x y v ov iv u _ I2 r1 r2 r q2) fun _ s3 zz => ?_))))
  obtain ⟨H3, I3, q3⟩ := zz
  exact wpAny_release ⟨σ, H3, I3, q3⟩
noncomputable def tAsg (te : TE) (g : TG) : TS := fun D σ H => te σ H fun x H1 => g x σ H1 D.nx
theorem ps_asg {tg e : Expr} {te : TE} {g : TG} (he : PE X e te) (hg : PG X tg g) (hs : swapsWithSole [tg] e pos.line X.env = pure false := by rfl) (hw : swappedStores [tg] e X.env = pure none := by rfl)
    (h1 : (assignEach [tg] X.env).map (·.2) = [assign tg X.env] := by rfl) : PS X (.Assign [tg] e pos) (tAsg te g) := by
  intro pins s σ H D I h
  refine wpAny_Assign_stores (thn (he pins s σ H _ I h) fun v s1 ⟨x, H1, I1, r1, q1⟩ => ?_) hs hw
  rw [h1]
  exact thn (hg pins s1 σ H1 x v _ I1 r1 q1) fun _ s2 q => q
theorem ps_set {i : Nat} {x : Str} {e : Expr} {te : TE} {pos' : Pos} (hN : X.N.Nodup) (hi : X.N[i]? = some x) (hx : Loc X.env.scope x) (he : PE X e te) (hs : swapsWith e (some (.Name x pos')) pos.line X.env = pure false := by rfl) (hf : X.fn x = true ∨ X.env.scope.names.lookup x = some .local := by first | exact .inl rfl | exact .inr rfl | assumption) :
    PS X (.Assign [.Name x pos'] e pos) (tAsg te (gName i)) := by
  intro pins s σ H D I h
  refine wpAny_Assign_Name (thn (he pins s σ H _ I h) fun v s1 ⟨y, H1, I1, r1, q1⟩ => ?_) hs
  exact store_ok I1 hN hi hx r1 (fun s2 I2 => ⟨_, H1, I2, q1⟩) hf
noncomputable def tPar (i j : Nat) (ta : TA) : TS := fun D σ H => ta σ H fun vs H1 => ∃ v w, vs = [v, w] ∧ D.nx ((σ.set i (some v)).set j (some w)) H1
theorem ps_par {i j : Nat} {x y : Str} {a b : Expr} {ta : TA} {px py pt : Pos} {kt k2 pt2} (hc : X.calm = true) (hN : X.N.Nodup) (hi : X.N[i]? = some x) (hj : X.N[j]? = some y) (hij : i ≠ j)
    (hx : X.env.scope.names.lookup x = some .local) (hy : X.env.scope.names.lookup y = some .local) (ha : PA X [a, b] ta)
    (hw : swappedStores [.Tuple [.Name x px, .Name y py] kt pt] (.Tuple [a, b] k2 pt2) X.env = pure (some [x, y]))
    (hs : swapsWithSole [.Tuple [.Name x px, .Name y py] kt pt] (.Tuple [a, b] k2 pt2) pos.line X.env = pure false := by rfl) :
    PS X (.Assign [.Tuple [.Name x px, .Name y py] kt pt] (.Tuple [a, b] k2 pt2) pos) (tPar i j ta) := by
  intro pins s σ H D I h
  rw [exec_Assign_arm]
  refine wpAny_bind (wpAny_standAt ?_)
  rw [hs]
  refine wpAny_bind (wpAny_pure ?_)
  rw [if_neg (by decide)]
  refine wpAny_bind (Tuple_ (thn (ha _ pins s σ H _ I h) fun us s1 zz => ?_))
  obtain ⟨vs, H1, I1, r1, q1⟩ := zz
  obtain ⟨v, w, e1, q1⟩ := q1
  subst e1
  obtain ⟨u1, u2, rfl, rv, rw'⟩ : ∃ u1 u2, us = [u1, u2] ∧ RelV v u1 ∧ RelV w u2 := by
    cases r1 with
    | cons p q =>
      cases q with
      | cons p' q' =>
        cases q'
        exact ⟨_, _, rfl, p, p'⟩
  refine wpAny_newObj_type ?_ (by show 2 ≤ sizeLine; decide)
  have I2 : Inv X pins σ H1 { s1 with heap := s1.heap.push { cls := .type "tuple", data := .seq [u1, u2].toArray } } := I1.kept (t' := s1.toks) fun b o e => Heap.get?_push_of_some _ e
  rw [hw]
  refine wpAny_bind (wpAny_pure ?_)
  show wpAny (model X.prog X.w) X.A (do rule "assign.swapped-stores"; let items ← unpackItems (.ref s1.heap.objs.size) 2 none; assignInOrder [fun v => bindName X.env y v, fun v => bindName X.env x v] items.reverse; pure Flow.next) _ _ _
  refine wpAny_bind (wpAny_rule (wpAny_bind (unpackItems_tuple (items := #[u1, u2]) (I.ok.hd hc) (IsTup.new s1.heap _) fun h' hx' => ?_)))
  have I3 := I2.kept (h' := h') (t' := s1.toks) fun b o e => hx' b o (Nat.ne_of_lt (Heap.lt_size e)) e
  show wpAny _ _ (assignInOrder [fun v => bindName X.env y v, fun v => bindName X.env x v] [u2, u1] >>= fun _ => pure Flow.next) _ _ _
  refine wpAny_bind (assignInOrder_cons (wpAny_bindName (store_ok I3 hN hj (.inl hy) rw' (fun s2 I4 => ?_) (.inr hy))))
  refine assignInOrder_cons (wpAny_bindName (store_ok I4 hN hi (.inl hx) rv (fun s3 I5 => assignInOrder_nil (wpAny_pure ?_)) (.inr hx)))
  rw [List.set_comm _ _ (Ne.symm hij)] at I5
  exact ⟨_, H1, I5, q1⟩
noncomputable def tAug (i : Nat) (te : TE) (ti : TIp) : TS := fun D σ H => ∃ x, σ[i]? = some (some x) ∧ te σ H fun y H1 => ti x y H1 fun z H2 => D.nx (σ.set i (some z)) H2
theorem ps_aug {i : Nat} {x : Str} {e : Expr} {te : TE} {op : Operator} {ti : TIp} {pos' : Pos} (hN : X.N.Nodup) (hi : X.N[i]? = some x) (hx : Loc X.env.scope x) (he : PE X e te) (ho : PIp X op ti) (hf : X.fn x = true ∨ X.env.scope.names.lookup x = some .local := by first | exact .inl rfl | exact .inr rfl | assumption) :
    PS X (.AugAssign (.Name x pos') op e pos) (tAug i te ti) := by
  intro pins s σ H D I h
  obtain ⟨v, e1, h⟩ := h
  obtain ⟨m, hn, hl⟩ := I.loc
  have vis : Vis X.env.scope x := by rcases hx with k | k; exact .inl k; exact .inr (.inl k)
  obtain ⟨u, r, l⟩ := hl i x v hi e1 vis
  refine wpAny_AugAssign_Name ?_
  have go : wpAny (model X.prog X.w) X.A (eval e X.env) (fun w s₂ => wpAny (model X.prog X.w) X.A (inplaceOp op u w) (fun r s₃ => wpAny (model X.prog X.w) X.A (storeName X.env x r) (fun _ => SP X pins D .next) X.xe s₃) X.xe s₂) X.xe s := by
    refine thn (he pins s σ H _ I h) fun w s1 zz => ?_
    obtain ⟨y, H1, I1, r1, q1⟩ := zz
    refine thn (ho pins s1 σ H1 v y u w _ I1 r r1 q1) fun z s2 zz => ?_
    obtain ⟨zv, H2, I2, r2, q2⟩ := zz
    exact store_ok I2 hN hi hx r2 (fun s3 I3 => ⟨_, H2, I3, q2⟩) hf
  rcases l with ⟨hk, hm⟩ | ⟨hk, c, hc, hcell⟩
  · exact wpAny_loadName_local I.ok.kind hk hn hm go
  · rcases hk with hk | hk
    · exact wpAny_loadName_cell I.ok.kind hk hc hcell go
    · rcases hx with k | k
      · have : X.env.scope.names.lookup x = some .free := hk
        rw [k] at this; cases this
      · have : X.env.scope.names.lookup x = some .free := hk
        rw [k] at this; cases this
noncomputable def ipI (f : Int → Int → Int) : TIp := fun x y H Q => ∃ i j, x = .int i ∧ y = .int j ∧ Q (.int (f i j)) H
theorem ip_sub : PIp X .Sub (ipI fun i j => i - j) := by
  intro pins s σ H x y v u Q I r1 r2 h
  obtain ⟨i, j, e1, e2, q⟩ := h
  subst e1; subst e2
  obtain ⟨t, rfl⟩ := r1
  obtain ⟨t', rfl⟩ := r2
  exact isub_int ⟨.int _, H, I.tok _, ⟨_, rfl⟩, q⟩
end
section
variable {X : Cx} {pos : Pos}
noncomputable def tWhile (c : TT) (tb : TS) : TS := fun D σ H => ∃ W : Nat → St → Hp → Prop, (∃ m, W m σ H) ∧ ∀ m σ H, W m σ H →
  c σ H fun b H1 => if b = true then ∃ N : St → Hp → Prop, (∀ σ' H', N σ' H' → ∃ m', m' < m ∧ W m' σ' H') ∧ tb { D with nx := N, ct := N, bk := D.nx } σ H1 else D.nx σ H1
theorem ps_while {c : Expr} {body : List Stmt} {tc : TT} {tb : TS} (hp : PassesOwn (model X.prog X.w) X.A X.env X.xe) (hc : PT X c tc) (hb : PSs X body tb) : PS X (.While c body [] pos) (tWhile tc tb) := by
  intro pins s σ H D I h
  obtain ⟨W, ⟨m0, w0⟩, turn⟩ := h
  refine wpAny_While (codeAny_whileLoop (fun n s' => ∃ σ' H', Inv X pins σ' H' s' ∧ W n σ' H') ?_ m0 ⟨σ, H, I, w0⟩)
  rintro n s1 ⟨σ1, H1, I1, w1⟩
  refine wpAny_passesOwn hp (thn (hc pins s1 σ1 H1 _ I1 (turn n σ1 H1 w1)) fun b s2 zz => ?_)
  obtain ⟨H2, I2, q2⟩ := zz
  cases b with
  | true =>
    obtain ⟨N, hN, q2⟩ := q2
    rw [if_pos rfl]
    refine wpAny_passesOwn hp (thn (hb pins s2 σ1 H2 _ I2 q2) fun f s3 q3 => ?_)
    cases f with
    | next =>
      obtain ⟨σ3, H3, I3, n3⟩ := q3
      obtain ⟨m', hm, w3⟩ := hN σ3 H3 n3
      exact ⟨m', hm, σ3, H3, I3, w3⟩
    | cont =>
      obtain ⟨σ3, H3, I3, n3⟩ := q3
      obtain ⟨m', hm, w3⟩ := hN σ3 H3 n3
      exact ⟨m', hm, σ3, H3, I3, w3⟩
    | brk => exact q3
    | ret v => exact q3
  | false =>
    rw [if_neg Bool.false_ne_true]
    exact wpAny_execs_nil ⟨σ1, H2, I2, q2⟩
end
structure It where
  go : Nat → Hp → Prop
  yld : Nat → Hp → V → Hp → Prop
  stop : Nat → Hp → Prop
noncomputable def FpOk (X : Cx) (pins : List (Addr × Obj)) (H : Hp) (b : Addr) : Prop :=
  H b = none ∧ b ≠ X.env.locals ∧ b ∉ X.fs ∧ (b ∈ X.ex ∨ X.s₀.heap.objs.size ≤ b) ∧ (∀ x c, X.env.cells.lookup x = some c → c ≠ b) ∧ ∀ p ∈ X.pn ++ pins, p.1 ≠ b
theorem Inv.fpOk {X : Cx} {pins : List (Addr × Obj)} {σ : St} {H H' : Hp} {s : Shared} {b : Addr} (I : Inv X pins σ H s) (hb : s.heap.objs.size ≤ b) (hn : H' b = none) : FpOk X pins H' b := by
  refine ⟨hn, Nat.ne_of_gt (Nat.lt_of_lt_of_le I.lt hb), I.nofs hb, .inr (Nat.le_trans I.sz hb), fun x c e z => ?_, fun p hp z => ?_⟩
  · obtain ⟨v, q⟩ := I.cell x c e
    exact absurd (Nat.lt_of_lt_of_le q.lt (by rw [z]; exact hb)) (Nat.lt_irrefl _)
  · exact absurd (Nat.lt_of_lt_of_le (Heap.lt_size (I.pin p hp).1) (by rw [z]; exact hb)) (Nat.lt_irrefl _)
structure Turn (P : Program) (w : World) (K : PySem.W.Frag) (tg : Expr) (J : It) (fp : List Addr) (it : Addr) (tn : Nat → Heap → Prop) : Prop where
  mem : it ∈ fp
  obj : ∀ i h, tn i h → ∀ b ∈ fp, ∃ o, h.get? b = some o ∧ ∀ v, o.data ≠ .cell v
  keep : ∀ i h h', tn i h → (∀ b ∈ fp, ∀ o, h.get? b = some o → h'.get? b = some o) → tn i h'
  item : ∀ (X : Cx), X.prog = P → X.w = w → X.K = K → X.calm = true → ∀ (i : Nat) (pins : List (Addr × Obj)) (s : Shared) (σ : St) (H : Hp) (E : Value → Shared → Prop), Inv X pins σ H s → (∀ b ∈ fp, FpOk X pins H b) → tn i s.heap → J.go i H →
    wpAny (model P w) X.A (pyNext (.ref it)) (fun r s1 => ∃ u, r = some u ∧
      wpAny (model P w) X.A (letOwnedTupleGo tg (.ref it) u) (fun _ s2 => ∃ x H', Inv X pins σ H' s2 ∧ RelV x u ∧ J.yld i H x H' ∧ tn (i + 1) s2.heap ∧ ∀ b ∈ fp, H' b = none) E s1) E s
  done : ∀ (X : Cx), X.prog = P → X.w = w → X.K = K → X.calm = true → ∀ (i : Nat) (pins : List (Addr × Obj)) (s : Shared) (σ : St) (H : Hp) (E : Value → Shared → Prop), Inv X pins σ H s → (∀ b ∈ fp, FpOk X pins H b) → tn i s.heap → J.stop i H →
    wpAny (model P w) X.A (pyNext (.ref it)) (fun r s1 => r = none ∧ Inv X pins σ H s1) E s
  self : ∀ (A : Around) (i : Nat) (s : Shared) (Q : Value → Shared → Prop) (E : Value → Shared → Prop), tn i s.heap → Q (.ref it) s → wpAny (model P w) A (pyIter (.ref it)) Q E s
noncomputable abbrev TI := St → Hp → (It → Hp → Prop) → Prop
noncomputable def PIE (X : Cx) (pins : List (Addr × Obj)) (σ : St) (tg : Expr) (R : It → Hp → Prop) (itv : Value) (s2 : Shared) : Prop :=
  ∃ (it : Addr) (fp : List Addr) (tn : Nat → Heap → Prop) (J : It) (H' : Hp), itv = .ref it ∧ Inv X pins σ H' s2 ∧ Turn X.prog X.w X.K tg J fp it tn ∧ tn 0 s2.heap ∧ (∀ b ∈ fp, FpOk X pins H' b) ∧ R J H'
noncomputable def PI (X : Cx) (tg iter : Expr) (wi : TI) : Prop :=
  ∀ (pins : List (Addr × Obj)) (s : Shared) (σ : St) (H : Hp) (R : It → Hp → Prop), Inv X pins σ H s → wi σ H R →
    wpAny (model X.prog X.w) X.A (eval iter X.env) (fun v s1 => wpAny (model X.prog X.w) X.A (pyIter v) (PIE X pins σ tg R) X.xe s1) X.xe s
theorem go_of {M : Model} {A : Around} {E : Value → Shared → Prop} {s : Shared} {tg : Expr} {it : Addr} {u : Value} {o : Obj} {n : String} {vs : Array Value} {Q : Unit → Shared → Prop} (ho : s.heap.get? it = some o) (hc : o.cls = .type n) (hd : o.data = .fields vs)
    (hn : ["enumerate", "zip", "dict_itemiterator", "dict_reverseitemiterator", "odict_iterator", "itertools.zip_longest", "itertools.pairwise"].contains n = false) (hQ : Q () s) : wpAny M A (letOwnedTupleGo tg (.ref it) u) Q E s := by
  unfold letOwnedTupleGo
  cases tg <;> first
    | exact wpAny_pure hQ
    | (cases u <;> first
        | exact wpAny_pure hQ
        | (refine wpAny_bind (wpAny_load ho ?_)
           rw [hc, hd]
           show wpAny M A (if (["enumerate", "zip", "dict_itemiterator", "dict_reverseitemiterator", "odict_iterator", "itertools.zip_longest", "itertools.pairwise"].contains n && vs[0]? == some (rawInt _)) = true then _ else _) Q E s
           rw [if_neg (by intro h; rw [hn, Bool.false_and] at h; cases h)]
           exact wpAny_pure hQ))
noncomputable def Itl (K : PySem.W.Frag) (a : Addr) : It :=
  ⟨fun i H => ∃ xs x, SqL K H a xs ∧ xs[i]? = some x, fun i H x H' => H' = H ∧ ∀ xs, SqL K H a xs → xs[i]? = some x, fun i H => ∃ xs, SqL K H a xs ∧ xs.length ≤ i⟩
noncomputable def Itr (lo : Int) (n : Nat) : It := ⟨fun i _ => i < n, fun i H x H' => H' = H ∧ x = .int (lo + i), fun i _ => n ≤ i⟩
theorem turn_list {P : Program} {w : World} {K : PySem.W.Frag} {tg : Expr} (a it : Addr) : Turn P w K tg (Itl K a) [it] it (fun i h => h.IsListIter it a i) where
  mem := by simp
  obj := fun i h st b hb => by
    have e : b = it := by simpa using hb
    subst e
    obtain ⟨o, e, c, d⟩ := st
    exact ⟨o, e, fun v z => by rw [d] at z; cases z⟩
  keep := fun i h h' st k => st.at fun o e => k it (by simp) o e
  item := by
    intro X hP hw hK hc i pins s σ H E I hf st hg
    subst hP hw hK
    obtain ⟨xs, x, hq, hx⟩ := hg
    obtain ⟨its, rv, p, hz⟩ := I.list hq
    obtain ⟨u, hu, ru⟩ := rv.get hx
    obtain ⟨f0, f1, f2, f3, f4, f5⟩ := hf it (by simp)
    refine wpAny_pyNext_list_item st p.isList (x := u) (by simpa using hu) fun h' st' sb => ?_
    have I1 : Inv X pins σ H { s with heap := h' } := I.turned (t' := s.toks) (fun b o hb e => (sb.2 b hb).trans e) f0 f1 f3 f4 f5
    obtain ⟨o, e, c, d⟩ := id st'
    exact ⟨u, rfl, go_of (s := { s with heap := h' }) e c d (by decide) ⟨x, H, I1, ru, ⟨rfl, fun ys hy => by rw [I.list_inj hy hq]; exact hx⟩, st', fun b hb => (hf b hb).1⟩⟩
  done := by
    intro X hP hw hK hc i pins s σ H E I hf st hg
    subst hP hw hK
    obtain ⟨xs, hq, hx⟩ := hg
    obtain ⟨its, rv, p, hz⟩ := I.list hq
    obtain ⟨f0, f1, f2, f3, f4, f5⟩ := hf it (by simp)
    have hl := rv.length
    exact wpAny_pyNext_list_end (I.ok.hd hc) st p.isList (by simp; omega) fun h' eb => ⟨rfl, I.turned (t' := s.toks) (fun b o hb e => eb b o hb e) f0 f1 f3 f4 f5⟩
  self := fun _ _ _ _ _ st h => wpAny_pyIter_listiter st h
theorem turn_range {P : Program} {w : World} {K : PySem.W.Frag} {tg : Expr} (it : Addr) (lo : Int) (n : Nat) : Turn P w K tg (Itr lo n) [it] it (fun i h => IsRangeIter h it (lo + (i : Nat) * 1) ((n : Int) - (i : Nat)) 1) where
  mem := by simp
  obj := fun i h st b hb => by
    have e : b = it := by simpa using hb
    subst e
    exact ⟨_, st, fun v z => by
      have z' : Data.fields _ = Data.cell v := z
      cases z'⟩
  keep := fun i h h' st k => k it (by simp) _ st
  item := by
    intro X hP hw hK hc i pins s σ H E I hf st hg
    subst hP hw hK
    obtain ⟨f0, f1, f2, f3, f4, f5⟩ := hf it (by simp)
    have W := Walks.range (prog := X.prog) (w := X.w) (I.ok.hd hc) it lo 1 n
    refine W.item i s _ _ hg st fun v h' tk hv st' kk => ?_
    obtain ⟨t, rfl⟩ := hv
    have I1 : Inv X pins σ H { s with heap := h', toks := tk } := I.turned (fun b o hb e => kk b o (by simpa using hb) e) f0 f1 f3 f4 f5
    refine ⟨_, rfl, go_of (s := { s with heap := h', toks := tk }) (n := "range_iterator") st' rfl rfl (by decide) ⟨.int (lo + i), H, I1, ⟨t, ?_⟩, ⟨rfl, rfl⟩, st', fun b hb => (hf b hb).1⟩⟩
    rw [Int.mul_one]
  done := by
    intro X hP hw hK hc i pins s σ H E I hf st hg
    subst hP hw hK
    obtain ⟨f0, f1, f2, f3, f4, f5⟩ := hf it (by simp)
    exact wpAny_pyNext_range_end (I.ok.hd hc) st (by have : n ≤ i := hg; omega) fun h' eb => ⟨rfl, I.turned (t' := s.toks) (fun b o hb e => eb b o hb e) f0 f1 f3 f4 f5⟩
  self := fun _ _ _ _ _ st h => wpAny_pyIter_rangeiter st h
end L2
namespace L2
open PySem PySem.Spec PyProof.Rows
section
variable {X : Cx} {tg : Expr}
noncomputable def iList (K : PySem.W.Frag) (tl : TE) : TI := fun σ H R => tl σ H fun x H1 => ∃ a, x = .ref a ∧ (∃ xs, SqL K H1 a xs) ∧ R (Itl K a) H1
theorem pi_list {l : Expr} {tl : TE} (hl : PE X l tl) : PI X tg l (iList X.K tl) := by
  intro pins s σ H R I h
  refine thn (hl pins s σ H _ I h) fun v s1 zz => ?_
  obtain ⟨x, H1, I1, r1, q1⟩ := zz
  obtain ⟨a, e, ⟨xs, hq⟩, q⟩ := q1
  subst e
  cases r1
  obtain ⟨its, rv, p, hz⟩ := I1.list hq
  refine wpAny_pyIter_list p.isList ?_
  refine ⟨s1.heap.objs.size, [s1.heap.objs.size], _, _, H1, rfl, I1.kept (t' := s1.toks) fun b o e => Heap.get?_push_of_some _ e, turn_list a _, ⟨_, Heap.get?_push_size _ rfl, rfl, rfl⟩, fun b hb => ?_, q⟩
  have e : b = s1.heap.objs.size := by simpa using hb
  subst e
  exact I1.fpOk (Nat.le_refl _) (I1.hok.fresh (Nat.le_refl _))
theorem range_it {pins : List (Addr × Obj)} {σ : St} {H : Hp} {s : Shared} {R : It → Hp → Prop} {E : Value → Shared → Prop} {lo hi : Int} {t u v : Tok} {tk : Nat} (I : Inv X pins σ H s) (h1 : -(2 ^ 62) ≤ lo) (h2 : lo < 2 ^ 62) (h3 : -(2 ^ 62) ≤ hi) (h4 : hi < 2 ^ 62)
    (q : R (Itr lo (hi - lo).toNat) H) : wpAny (model X.prog X.w) X.A (pyIter (.ref s.heap.objs.size)) (PIE X pins σ tg R) E { s with heap := s.heap.push { cls := .type "range", data := .fields #[.int lo t, .int hi u, .int 1 v] }, toks := tk } := by
  refine wpAny_pyIter_range (IsRange.new ..) (small_one h1 h2 h3 h4) ?_
  have I1 : Inv X pins σ H { s with heap := s.heap.push { cls := .type "range", data := .fields #[.int lo t, .int hi u, .int 1 v] }, toks := tk } := I.kept fun b o e => Heap.get?_push_of_some _ e
  refine ⟨(s.heap.push { cls := .type "range", data := .fields #[.int lo t, .int hi u, .int 1 v] }).objs.size, [(s.heap.push { cls := .type "range", data := .fields #[.int lo t, .int hi u, .int 1 v] }).objs.size], _, _, H, rfl,
    I1.kept (t' := tk) fun b o e => Heap.get?_push_of_some _ e, turn_range _ lo (hi - lo).toNat, ?_, fun b hb => ?_, q⟩
  · have e1 : lo + ((0 : Nat) : Int) * 1 = lo := by simp
    have e2 : (((hi - lo).toNat : Nat) : Int) - ((0 : Nat) : Int) = Builtin.Range.rangeSize lo hi 1 := by rw [rangeSize_one]; split <;> omega
    show IsRangeIter _ _ (lo + ((0 : Nat) : Int) * 1) ((((hi - lo).toNat : Nat) : Int) - ((0 : Nat) : Int)) 1
    rw [e1, e2]
    exact Heap.get?_push_size _ rfl
  · have e : b = (s.heap.push { cls := .type "range", data := .fields #[.int lo t, .int hi u, .int 1 v] }).objs.size := by simpa using hb
    subst e
    exact I1.fpOk (Nat.le_refl _) (I1.hok.fresh (Nat.le_refl _))
noncomputable def iRng1 (ta : TA) : TI := fun σ H R => ta σ H fun vs H1 => ∃ j : Int, vs = [.int j] ∧ -(2 ^ 62) ≤ j ∧ j < 2 ^ 62 ∧ R (Itr 0 j.toNat) H1
noncomputable def iRng2 (ta : TA) : TI := fun σ H R => ta σ H fun vs H1 => ∃ i j : Int, vs = [.int i, .int j] ∧ (-(2 ^ 62) ≤ i ∧ i < 2 ^ 62 ∧ -(2 ^ 62) ≤ j ∧ j < 2 ^ 62) ∧ R (Itr i (j - i).toNat) H1
theorem pi_range1 {a : Expr} {ta : TA} {p pos : Pos} (hg : Gl X "range") (hm : X.mg "range" = none) (ha : PA X [a] ta) (hs : starEach [a] X.env = [(false, eval a X.env)] := by rfl) : PI X tg (.Call (.Name "range" p) [a] [] pos) (iRng1 ta) := by
  intro pins s σ H R I h
  refine Call_ (ld_blt I hg hm boot_range (PyProof.Rows.callWith_type1 (thn (ha pos pins s σ H _ I h) fun us s1 ⟨vs, H1, I1, r1, q1⟩ => ?_) hs rfl))
  obtain ⟨j, e, q1, q2, q⟩ := q1
  subst e
  cases r1 with
  | cons r rr =>
    cases rr
    obtain ⟨t, rfl⟩ := r
    exact call_range_1 (range_it I1 (by omega) (by omega) q1 q2 (by simpa using q))
theorem pi_range2 {a b : Expr} {ta : TA} {p pos : Pos} (hg : Gl X "range") (hm : X.mg "range" = none) (ha : PA X [a, b] ta) (hs : starEach [a, b] X.env = [(false, eval a X.env), (false, eval b X.env)] := by rfl) (hs2 : starEach [b] X.env = [(false, eval b X.env)] := by rfl) :
    PI X tg (.Call (.Name "range" p) [a, b] [] pos) (iRng2 ta) := by
  intro pins s σ H R I h
  refine Call_ (ld_blt I hg hm boot_range (PyProof.Rows.callWith_type1 (thn (ha pos pins s σ H _ I h) fun us s1 ⟨vs, H1, I1, r1, q1⟩ => ?_) (by rw [hs, hs2]) (by rw [hs2]; rfl)))
  obtain ⟨i, j, e, ⟨q1, q2, q3, q4⟩, q⟩ := q1
  subst e
  cases r1 with
  | cons r rr =>
    cases rr with
    | cons r' rr =>
      cases rr
      obtain ⟨t, rfl⟩ := r
      obtain ⟨t', rfl⟩ := r'
      exact call_range_2 (range_it I1 q1 q2 q3 q4 q)
noncomputable def tFor (wi : TI) (g : TG) (tb : TS) : TS := fun D σ H => wi σ H fun J H1 => ∃ W : Nat → Nat → St → Hp → Prop, (∃ m, W 0 m σ H1) ∧ ∀ i m σ H, W i m σ H →
  (J.stop i H ∧ D.nx σ H) ∨ (J.go i H ∧ ∃ N : St → Hp → Prop, (∀ σ' H', N σ' H' → ∃ m', m' < m ∧ W (i + 1) m' σ' H') ∧ ∀ x H', J.yld i H x H' → g x σ H' fun σ2 H2 => tb { D with nx := N, ct := N, bk := D.nx } σ2 H2)
noncomputable def pinsAt (fp : List Addr) (h : Heap) : List (Addr × Obj) := fp.filterMap fun b => (h.get? b).map fun o => (b, o)
theorem mem_pinsAt {fp : List Addr} {h : Heap} {b : Addr} {o : Obj} (hb : b ∈ fp) (e : h.get? b = some o) : (b, o) ∈ pinsAt fp h := List.mem_filterMap.mpr ⟨b, hb, by rw [e]; rfl⟩
theorem of_pinsAt {fp : List Addr} {h : Heap} {p : Addr × Obj} (hp : p ∈ pinsAt fp h) : p.1 ∈ fp ∧ h.get? p.1 = some p.2 := by
  obtain ⟨b, hb, e⟩ := List.mem_filterMap.mp hp
  cases q : h.get? b with
  | none => rw [q] at e; cases e
  | some o =>
    rw [q] at e
    have e' : (b, o) = p := Option.some.inj e
    subst e'
    exact ⟨hb, q⟩
theorem Inv.pinned {pins : List (Addr × Obj)} {σ : St} {H : Hp} {s : Shared} {fp : List Addr} (I : Inv X pins σ H s) (hf : ∀ b ∈ fp, FpOk X pins H b) (ho : ∀ b ∈ fp, ∃ o, s.heap.get? b = some o ∧ ∀ v, o.data ≠ .cell v) : Inv X (pins ++ pinsAt fp s.heap) σ H s :=
  I.pins_of fun p hp => (List.mem_append.mp hp).elim (fun z => I.pin p (List.mem_append_right _ z)) fun z => by
    obtain ⟨hb, e⟩ := of_pinsAt z
    obtain ⟨f0, f1, f2, _⟩ := hf p.1 hb
    obtain ⟨o, e', d⟩ := ho p.1 hb
    rw [e] at e'; cases e'
    exact ⟨e, f0, f1, f2, d⟩
theorem Inv.unpinned {pins pl : List (Addr × Obj)} {σ : St} {H : Hp} {s : Shared} (I : Inv X (pins ++ pl) σ H s) : Inv X pins σ H s := I.pins_of fun p hp => I.pin p (List.mem_append_right _ (List.mem_append_left _ hp))
theorem ps_for {iter : Expr} {body : List Stmt} {wi : TI} {g : TG} {tb : TS} {pos : Pos} (hp : PassesOwn (model X.prog X.w) X.A X.env X.xe) (hc : X.calm = true) (hi : PI X tg iter wi) (hg : PG X tg g) (hb : PSs X body tb)
    (hs : ∀ x, foldedSetIterable iter X.env x = pure x := by intro _; rfl) : PS X (.For tg iter body [] pos) (tFor wi g tb) := by
  intro pins s σ H D I h
  refine wpAny_For (thn (hi pins s σ H _ I h) fun v s1 h1 => thn h1 fun itv s2 h2 => ?_) hs
  obtain ⟨it, fp, tn, J, H2, e, I2, T, st2, f2, W, ⟨m0, w0⟩, turn⟩ := h2
  subst e
  have stat : ∀ {H' : Hp}, (∀ b ∈ fp, H' b = none) → ∀ b ∈ fp, FpOk X pins H' b := fun hn b hb => ⟨hn b hb, (f2 b hb).2⟩
  refine codeAny_forLoop_any (fun n s' => ∃ i σ' H', Inv X pins σ' H' s' ∧ tn i s'.heap ∧ (∀ b ∈ fp, H' b = none) ∧ W i n σ' H') ?_ m0 ⟨0, σ, H2, I2, st2, fun b hb => (f2 b hb).1, w0⟩
  rintro n s3 ⟨i, σ3, H3, I3, st3, fr3, w3⟩
  rcases turn i n σ3 H3 w3 with ⟨stop, qn⟩ | ⟨go, N, hN, step⟩
  · refine wpAny_passesOwn hp (thn (T.done X rfl rfl rfl hc i pins s3 σ3 H3 X.xe I3 (stat fr3) st3 stop) fun r s4 zz => ?_)
    obtain ⟨hr, I4⟩ := zz
    subst hr
    exact wpAny_execs_nil ⟨σ3, H3, I4, qn⟩
  · refine wpAny_passesOwn hp (thn (T.item X rfl rfl rfl hc i pins s3 σ3 H3 X.xe I3 (stat fr3) st3 go) fun r s4 zz => ?_)
    obtain ⟨u, hr, h4⟩ := zz
    subst hr
    refine wpAny_passesOwn hp (thn h4 fun _ s5 zz => ?_)
    obtain ⟨x, H5, I5, r5, y5, st5, fr5⟩ := zz
    have I5' := I5.pinned (stat fr5) (T.obj _ _ st5)
    refine wpAny_passesOwn hp (thn (hg _ s5 σ3 H5 x u _ I5' r5 (step x H5 y5)) fun _ s6 zz => ?_)
    obtain ⟨σ6, H6, I6, q6⟩ := zz
    refine wpAny_passesOwn hp (thn (hb _ s6 σ6 H6 _ I6 q6) fun f s7 q7 => ?_)
    have again : ∀ {σ7 : St} {H7 : Hp}, Inv X (pins ++ pinsAt fp s5.heap) σ7 H7 s7 → N σ7 H7 → ∃ m, m < n ∧ ∃ i σ' H', Inv X pins σ' H' s7 ∧ tn i s7.heap ∧ (∀ b ∈ fp, H' b = none) ∧ W i m σ' H' := fun {σ7 H7} I7 n7 => by
      obtain ⟨m', hm, w7⟩ := hN σ7 H7 n7
      refine ⟨m', hm, i + 1, σ7, H7, I7.unpinned, T.keep _ _ _ st5 fun b hb o e => (I7.pin (b, o) (List.mem_append_right _ (List.mem_append_right _ (mem_pinsAt hb e)))).1, fun b hb => ?_, w7⟩
      obtain ⟨o, e, d⟩ := T.obj _ _ st5 b hb
      exact (I7.pin (b, o) (List.mem_append_right _ (List.mem_append_right _ (mem_pinsAt hb e)))).2.1
    cases f with
    | next => obtain ⟨σ7, H7, I7, n7⟩ := q7; exact again I7 n7
    | cont => obtain ⟨σ7, H7, I7, n7⟩ := q7; exact again I7 n7
    | brk => obtain ⟨σ7, H7, I7, q7⟩ := q7; exact ⟨σ7, H7, I7.unpinned, q7⟩
    | ret v => obtain ⟨x7, σ7, H7, I7, r7, q7⟩ := q7; exact ⟨x7, σ7, H7, I7.unpinned, r7, q7⟩
end
theorem for_list {K : PySem.W.Frag} {a : Addr} {xs : List V} {g : TG} {tb : TS} {D : Ends} {σ : St} {H : Hp} (Pv : Nat → St → Hp → Prop) (h0 : Pv 0 σ H) (hl : ∀ i σ H, i ≤ xs.length → Pv i σ H → SqL K H a xs)
    (hs : ∀ i x σ H, xs[i]? = some x → Pv i σ H → g x σ H fun σ2 H2 => tb { D with nx := Pv (i + 1), ct := Pv (i + 1), bk := D.nx } σ2 H2) (hd : ∀ σ H, Pv xs.length σ H → D.nx σ H) :
    ∃ W : Nat → Nat → St → Hp → Prop, (∃ m, W 0 m σ H) ∧ ∀ i m σ H, W i m σ H →
      ((Itl K a).stop i H ∧ D.nx σ H) ∨ ((Itl K a).go i H ∧ ∃ N : St → Hp → Prop, (∀ σ' H', N σ' H' → ∃ m', m' < m ∧ W (i + 1) m' σ' H') ∧ ∀ x H', (Itl K a).yld i H x H' → g x σ H' fun σ2 H2 => tb { D with nx := N, ct := N, bk := D.nx } σ2 H2) := by
  refine ⟨fun i m σ H => m = xs.length - i ∧ i ≤ xs.length ∧ Pv i σ H, ⟨xs.length, by simp, Nat.zero_le _, h0⟩, ?_⟩
  rintro i m σ H ⟨rfl, hi, p⟩
  have q := hl i σ H hi p
  by_cases hlt : i < xs.length
  · refine .inr ⟨⟨xs, xs[i], q, by simp [hlt]⟩, Pv (i + 1), fun σ' H' p' => ⟨xs.length - (i + 1), by omega, rfl, hlt, p'⟩, fun x H' y => ?_⟩
    obtain ⟨e, y⟩ := y
    subst e
    exact hs i x σ _ (y xs q) p
  · have e : i = xs.length := by omega
    subst e
    exact .inl ⟨⟨xs, q, Nat.le_refl _⟩, hd σ H p⟩
theorem for_range {lo : Int} {n : Nat} {g : TG} {tb : TS} {D : Ends} {σ : St} {H : Hp} (Pv : Nat → St → Hp → Prop) (h0 : Pv 0 σ H)
    (hs : ∀ i σ H, i < n → Pv i σ H → g (.int (lo + i)) σ H fun σ2 H2 => tb { D with nx := Pv (i + 1), ct := Pv (i + 1), bk := D.nx } σ2 H2) (hd : ∀ σ H, Pv n σ H → D.nx σ H) :
    ∃ W : Nat → Nat → St → Hp → Prop, (∃ m, W 0 m σ H) ∧ ∀ i m σ H, W i m σ H →
      ((Itr lo n).stop i H ∧ D.nx σ H) ∨ ((Itr lo n).go i H ∧ ∃ N : St → Hp → Prop, (∀ σ' H', N σ' H' → ∃ m', m' < m ∧ W (i + 1) m' σ' H') ∧ ∀ x H', (Itr lo n).yld i H x H' → g x σ H' fun σ2 H2 => tb { D with nx := N, ct := N, bk := D.nx } σ2 H2) := by
  refine ⟨fun i m σ H => m = n - i ∧ i ≤ n ∧ Pv i σ H, ⟨n, by simp, Nat.zero_le _, h0⟩, ?_⟩
  rintro i m σ H ⟨rfl, hi, p⟩
  by_cases hlt : i < n
  · refine .inr ⟨hlt, Pv (i + 1), fun σ' H' p' => ⟨n - (i + 1), by omega, rfl, hlt, p'⟩, fun x H' y => ?_⟩
    obtain ⟨e, y⟩ := y
    subst e y
    exact hs i σ _ hlt p
  · have e : i = n := by omega
    subst e
    exact .inl ⟨Nat.le_refl _, hd σ H p⟩
end L2
namespace L2
open PySem PySem.Spec PyProof.Rows
noncomputable abbrev R2 := V → V → Hp → VK → Prop
noncomputable def OpR (X : Cx) (f : Value → Value → Sem Value) (r : R2) : Prop :=
  ∀ (pins : List (Addr × Obj)) (s : Shared) (σ : St) (H : Hp) (x y : V) (v u : Value) (Q : VK), Inv X pins σ H s → RelV x v → RelV y u → r x y H Q →
    wpAny (model X.prog X.w) X.A (f v u) (EP X pins σ Q) X.xe s
noncomputable def UnR (X : Cx) (f : Value → Sem Value) (r : V → Hp → VK → Prop) : Prop :=
  ∀ (pins : List (Addr × Obj)) (s : Shared) (σ : St) (H : Hp) (x : V) (v : Value) (Q : VK), Inv X pins σ H s → RelV x v → r x H Q →
    wpAny (model X.prog X.w) X.A (f v) (EP X pins σ Q) X.xe s
noncomputable def CallR (X : Cx) (f : Value) (r : List V → Hp → VK → Prop) : Prop :=
  ∀ (pins : List (Addr × Obj)) (s : Shared) (σ : St) (H : Hp) (xs : List V) (us : List Value) (Q : VK), Inv X pins σ H s → Vals xs us → r xs H Q →
    wpAny (model X.prog X.w) X.A (call f us) (EP X pins σ Q) X.xe s
noncomputable def tOp (r : R2) (ta tb : TE) : TE := fun σ H Q => ta σ H fun x H1 => tb σ H1 fun y H2 => r x y H2 Q
noncomputable def tUn (r : V → Hp → VK → Prop) (ta : TE) : TE := fun σ H Q => ta σ H fun x H1 => r x H1 Q
noncomputable def rI (C : Int → Int → Prop) (g : Int → Int → V) : R2 := fun x y H Q => ∃ i j, x = .int i ∧ y = .int j ∧ C i j ∧ Q (g i j) H
noncomputable def rI0 (g : Int → Int → V) : R2 := fun x y H Q => ∃ i j, x = .int i ∧ y = .int j ∧ Q (g i j) H
noncomputable def rU (g : Int → V) : V → Hp → VK → Prop := fun x H Q => ∃ i, x = .int i ∧ Q (g i) H
section
variable {X : Cx} {a b c : Expr} {ta tb tc : TE} {pos : Pos}
theorem binT (ha : PE X a ta) (hb : PE X b tb) {pins : List (Addr × Obj)} {s : Shared} {σ : St} {H : Hp} {R : V → V → Hp → Prop} (I : Inv X pins σ H s)
    (h : ta σ H fun x H1 => tb σ H1 fun y H2 => R x y H2) {Q : Value → Shared → Prop} {f : Value → Value → Sem Value}
    (hf : ∀ v u s2 x y H2, Inv X pins σ H2 s2 → RelV x v → RelV y u → R x y H2 → wpAny (model X.prog X.w) X.A (f v u) Q X.xe s2) :
    wpAny (model X.prog X.w) X.A (eval a X.env) (fun v s₁ => wpAny (model X.prog X.w) X.A (eval b X.env) (fun u s₂ => wpAny (model X.prog X.w) X.A (f v u) Q X.xe s₂) X.xe s₁) X.xe s := by
  refine thn (ha pins s σ H _ I h) fun v s1 zz => ?_
  obtain ⟨x, H1, I1, r1, q1⟩ := zz
  refine thn (hb pins s1 σ H1 _ I1 q1) fun u s2 zz => ?_
  obtain ⟨y, H2, I2, r2, q2⟩ := zz
  exact hf v u s2 x y H2 I2 r1 r2 q2
theorem pe_op {op : Operator} {r : R2} (ho : OpR X (binaryOp op) r) (ha : PE X a ta) (hb : PE X b tb) : PE X (.BinOp a op b pos) (tOp r ta tb) := by
  intro pins s σ H Q I h
  exact wpAny_BinOp (binT ha hb I h fun v u s2 x y H2 I2 rx ry q => ho pins s2 σ H2 x y v u Q I2 rx ry q)
theorem pe_un {op : UnaryOp} {r : V → Hp → VK → Prop} (ho : UnR X (unaryOp op) r) (ha : PE X a ta) : PE X (.UnaryOp op a pos) (tUn r ta) := by
  intro pins s σ H Q I h
  exact UnaryOp_ (thn (ha pins s σ H _ I h) fun v s1 ⟨x, H1, I1, r1, q1⟩ => ho pins s1 σ H1 x v Q I1 r1 q1)
theorem opI {f : Value → Value → Sem Value} {C : Int → Int → Prop} {g : Int → Int → Int}
    (rule : ∀ (i j : Int) (t u : Tok) (s : Shared) (Q : Value → Shared → Prop) (E : Value → Shared → Prop), C i j → Q (.int (g i j) s.toks) { s with toks := s.toks + 1 } → wpAny (model X.prog X.w) X.A (f (.int i t) (.int j u)) Q E s) :
    OpR X f (rI C fun i j => .int (g i j)) := by
  intro pins s σ H x y v u Q I rx ry h
  obtain ⟨i, j, rfl, rfl, hc, q⟩ := h
  obtain ⟨t, rfl⟩ := rx
  obtain ⟨t', rfl⟩ := ry
  exact rule i j t t' s _ _ hc ⟨.int (g i j), H, I.tok _, ⟨_, rfl⟩, q⟩
theorem opI0 {f : Value → Value → Sem Value} {g : Int → Int → Int}
    (rule : ∀ (i j : Int) (t u : Tok) (s : Shared) (Q : Value → Shared → Prop) (E : Value → Shared → Prop), Q (.int (g i j) s.toks) { s with toks := s.toks + 1 } → wpAny (model X.prog X.w) X.A (f (.int i t) (.int j u)) Q E s) :
    OpR X f (rI0 fun i j => .int (g i j)) := by
  intro pins s σ H x y v u Q I rx ry h
  obtain ⟨i, j, rfl, rfl, q⟩ := h
  obtain ⟨t, rfl⟩ := rx
  obtain ⟨t', rfl⟩ := ry
  exact rule i j t t' s _ _ ⟨.int (g i j), H, I.tok _, ⟨_, rfl⟩, q⟩
theorem opB0 {f : Value → Value → Sem Value} {g : Int → Int → Bool}
    (rule : ∀ (i j : Int) (t u : Tok) (s : Shared) (Q : Value → Shared → Prop) (E : Value → Shared → Prop), Q (.bool (g i j)) s → wpAny (model X.prog X.w) X.A (f (.int i t) (.int j u)) Q E s) :
    OpR X f (rI0 fun i j => .bl (g i j)) := by
  intro pins s σ H x y v u Q I rx ry h
  obtain ⟨i, j, rfl, rfl, q⟩ := h
  obtain ⟨t, rfl⟩ := rx
  obtain ⟨t', rfl⟩ := ry
  exact rule i j t t' s _ _ ⟨.bl (g i j), H, I, rfl, q⟩
theorem op_add : OpR X (binaryOp .Add) (rI0 fun i j => .int (i + j)) := opI0 fun _ _ _ _ _ _ _ q => add_int q
theorem op_sub : OpR X (binaryOp .Sub) (rI0 fun i j => .int (i - j)) := opI0 fun _ _ _ _ _ _ _ q => sub_int q
theorem op_mod : OpR X (binaryOp .Mod) (rI (fun _ j => 0 < j) fun i j => .int (i % j)) := opI fun i j _ _ _ _ _ hc q => by
  have h1 : (0 : Int) < j := hc
  exact mod_int' (by omega) (by rw [Int.fmod_eq_emod_of_nonneg i (by omega)]; exact q)
theorem unI {f : Value → Sem Value} {g : Int → Int}
    (rule : ∀ (i : Int) (t : Tok) (s : Shared) (Q : Value → Shared → Prop) (E : Value → Shared → Prop), Q (.int (g i) s.toks) { s with toks := s.toks + 1 } → wpAny (model X.prog X.w) X.A (f (.int i t)) Q E s) :
    UnR X f (rU fun i => .int (g i)) := by
  intro pins s σ H x v Q I rx h
  obtain ⟨i, rfl, q⟩ := h
  obtain ⟨t, rfl⟩ := rx
  exact rule i t s _ _ ⟨.int (g i), H, I.tok _, ⟨_, rfl⟩, q⟩
theorem un_neg : UnR X (unaryOp .USub) (rU fun i => .int (-i)) := unI fun _ _ _ _ _ q => neg_int q
end
noncomputable def scal : V → V → Bool
  | .non, .non => true | .non, .int _ => true | .int _, .non => true | .non, .bl _ => true | .bl _, .non => true | .non, .str _ => true | .str _, .non => true
  | .int _, .int _ => true | .bl _, .bl _ => true | .str _, .str _ => true | .byt _, .byt _ => true
  | .int _, .str _ => true | .str _, .int _ => true | .bl _, .str _ => true | .str _, .bl _ => true
  | _, _ => false
noncomputable def rEq : R2 := fun x y H Q => scal x y = true ∧ Q (.bl (decide (x = y))) H
noncomputable def rNe : R2 := fun x y H Q => scal x y = true ∧ Q (.bl (!decide (x = y))) H
theorem dec_int {i j : Int} : decide (V.int i = V.int j) = (i == j) := by
  rw [Bool.eq_iff_iff]
  simp
theorem dec_bl {i j : Bool} : decide (V.bl i = V.bl j) = (i == j) := by
  rw [Bool.eq_iff_iff]
  simp
theorem dec_str {i j : Str} : decide (V.str i = V.str j) = (i == j) := by
  rw [Bool.eq_iff_iff]
  simp
theorem dec_byt {i j : Array UInt8} : decide (V.byt i = V.byt j) = (i.toList == j.toList) := by
  rw [Bool.eq_iff_iff]
  cases i
  cases j
  simp
section
variable {X : Cx} {a b c : Expr} {ta tb tc : TE} {pos : Pos}
theorem fin_bl {pins : List (Addr × Obj)} {σ : St} {H : Hp} {s : Shared} {Q : VK} {k k' : Bool} (I : Inv X pins σ H s) (q : Q (.bl k) H) (e : k = k') : EP X pins σ Q (.bool k') s := by
  subst e
  exact ⟨.bl k, H, I, rfl, q⟩
theorem op_eq : OpR X (compareOp .Eq) rEq := by
  intro pins s σ H x y v u Q I rx ry h
  obtain ⟨hs, q⟩ := h
  cases x with
  | non =>
    cases rx
    cases y with
    | non => cases ry; exact PySem.EqNone.eq_none_none (fin_bl I q (by simp))
    | bl j => cases ry; exact PySem.EqNone.eq_none_bool (fin_bl I q (by simp))
    | int j => obtain ⟨t', rfl⟩ := ry; exact PySem.EqNone.eq_none_int (fin_bl I q (by simp))
    | str j => obtain ⟨t', rfl⟩ := ry; exact PySem.EqNone.eq_none_str (fin_bl I q (by simp))
    | _ => exact absurd (show false = true from hs) Bool.false_ne_true
  | bl i =>
    cases rx
    cases y with
    | non => cases ry; exact PySem.EqNone.eq_bool_none (fin_bl I q (by simp))
    | bl j => cases ry; exact eq_bool (fin_bl I q dec_bl)
    | str j => obtain ⟨t', rfl⟩ := ry; exact PySem.EqMixed.eq_bool_str (fin_bl I q (by simp))
    | _ => exact absurd (show false = true from hs) Bool.false_ne_true
  | int i =>
    obtain ⟨t, rfl⟩ := rx
    cases y with
    | non => cases ry; exact PySem.EqNone.eq_int_none (fin_bl I q (by simp))
    | int j => obtain ⟨t', rfl⟩ := ry; exact eq_int (fin_bl I q dec_int)
    | str j => obtain ⟨t', rfl⟩ := ry; exact PySem.EqMixed.eq_int_str (fin_bl I q (by simp))
    | _ => exact absurd (show false = true from hs) Bool.false_ne_true
  | str i =>
    obtain ⟨t, rfl⟩ := rx
    cases y with
    | non => cases ry; exact PySem.EqNone.eq_str_none (fin_bl I q (by simp))
    | bl j => cases ry; exact PySem.EqMixed.eq_str_bool (fin_bl I q (by simp))
    | int j => obtain ⟨t', rfl⟩ := ry; exact PySem.EqMixed.eq_str_int (fin_bl I q (by simp))
    | str j => obtain ⟨t', rfl⟩ := ry; exact eq_str (fin_bl I q dec_str)
    | _ => exact absurd (show false = true from hs) Bool.false_ne_true
  | byt i =>
    obtain ⟨t, rfl⟩ := rx
    cases y with
    | byt j => obtain ⟨t', rfl⟩ := ry; exact PySem.W.eq_bytes (fin_bl I q dec_byt)
    | _ => exact absurd (show false = true from hs) Bool.false_ne_true
  | _ => cases y <;> exact absurd (show false = true from hs) Bool.false_ne_true
theorem op_ne : OpR X (compareOp .NotEq) rNe := by
  intro pins s σ H x y v u Q I rx ry h
  obtain ⟨hs, q⟩ := h
  cases x with
  | non =>
    cases rx
    cases y with
    | non => cases ry; exact PySem.EqNone.ne_none_none (fin_bl I q (by simp))
    | bl j => cases ry; exact PySem.EqNone.ne_none_bool (fin_bl I q (by simp))
    | int j => obtain ⟨t', rfl⟩ := ry; exact PySem.EqNone.ne_none_int (fin_bl I q (by simp))
    | str j => obtain ⟨t', rfl⟩ := ry; exact PySem.EqNone.ne_none_str (fin_bl I q (by simp))
    | _ => exact absurd (show false = true from hs) Bool.false_ne_true
  | bl i =>
    cases rx
    cases y with
    | non => cases ry; exact PySem.EqNone.ne_bool_none (fin_bl I q (by simp))
    | bl j => cases ry; exact ne_bool (fin_bl I q (congrArg not dec_bl))
    | str j => obtain ⟨t', rfl⟩ := ry; exact PySem.EqMixed.ne_bool_str (fin_bl I q (by simp))
    | _ => exact absurd (show false = true from hs) Bool.false_ne_true
  | int i =>
    obtain ⟨t, rfl⟩ := rx
    cases y with
    | non => cases ry; exact PySem.EqNone.ne_int_none (fin_bl I q (by simp))
    | int j => obtain ⟨t', rfl⟩ := ry; exact ne_int (fin_bl I q (congrArg not dec_int))
    | str j => obtain ⟨t', rfl⟩ := ry; exact PySem.EqMixed.ne_int_str (fin_bl I q (by simp))
    | _ => exact absurd (show false = true from hs) Bool.false_ne_true
  | str i =>
    obtain ⟨t, rfl⟩ := rx
    cases y with
    | non => cases ry; exact PySem.EqNone.ne_str_none (fin_bl I q (by simp))
    | bl j => cases ry; exact PySem.EqMixed.ne_str_bool (fin_bl I q (by simp))
    | int j => obtain ⟨t', rfl⟩ := ry; exact PySem.EqMixed.ne_str_int (fin_bl I q (by simp))
    | str j => obtain ⟨t', rfl⟩ := ry; exact ne_str (fin_bl I q (congrArg not dec_str))
    | _ => exact absurd (show false = true from hs) Bool.false_ne_true
  | byt i =>
    obtain ⟨t, rfl⟩ := rx
    cases y with
    | byt j => obtain ⟨t', rfl⟩ := ry; exact PySem.W.ne_bytes (fin_bl I q (congrArg not dec_byt))
    | _ => exact absurd (show false = true from hs) Bool.false_ne_true
  | _ => cases y <;> exact absurd (show false = true from hs) Bool.false_ne_true
theorem op_lt : OpR X (compareOp .Lt) (rI0 fun i j => .bl (decide (i < j))) := opB0 fun _ _ _ _ _ _ _ q => lt_int q
theorem op_gt : OpR X (compareOp .Gt) (rI0 fun i j => .bl (decide (j < i))) := opB0 fun _ _ _ _ _ _ _ q => gt_int q
theorem op_isN : OpR X (compareOp .Is) (fun x y H Q => y = .non ∧ Q (.bl (decide (x = .non))) H) := by
  intro pins s σ H x y v u Q I rx ry h
  obtain ⟨rfl, q⟩ := h
  cases ry
  refine is_none_gen (fin_bl I q ?_)
  cases x <;> first
    | (cases rx; rfl)
    | (obtain ⟨t, rfl⟩ := rx; rfl)
theorem op_notN : OpR X (compareOp .IsNot) (fun x y H Q => y = .non ∧ Q (.bl (!decide (x = .non))) H) := by
  intro pins s σ H x y v u Q I rx ry h
  obtain ⟨rfl, q⟩ := h
  cases ry
  refine isnot_none_gen (fin_bl I q ?_)
  cases x <;> first
    | (cases rx; rfl)
    | (obtain ⟨t, rfl⟩ := rx; rfl)
theorem nomark (b : Expr) {op : CmpOp} (h : op ≠ .In := by decide) (h2 : op ≠ .NotIn := by decide) : behindInMarks op b = false := by
  have e1 : (op == CmpOp.In) = false := by cases op <;> first | rfl | exact absurd rfl h
  have e2 : (op == CmpOp.NotIn) = false := by cases op <;> first | rfl | exact absurd rfl h2
  cases b <;> simp [behindInMarks, e1, e2]
theorem pe_cmpR {op : CmpOp} {r : R2} (ho : OpR X (compareOp op) r) (ha : PE X a ta) (hb : PE X b tb) (hm : behindInMarks op b = false) : PE X (.Compare a [op] [b] pos) (tOp r ta tb) := by
  intro pins s σ H Q I h
  exact wpAny_Compare1 (binT ha hb I h fun v u s2 x y H2 I2 rx ry q => ho pins s2 σ H2 x y v u Q I2 rx ry q) hm
noncomputable def tTest (t : TE) : TT := fun σ H Q => t σ H fun x H' => ∃ k, x = .bl k ∧ Q k H'
theorem pt_cmpR {op : CmpOp} {r : R2} (ho : OpR X (compareOp op) r) (ha : PE X a ta) (hb : PE X b tb) (hm : behindInMarks op b = false) : PT X (.Compare a [op] [b] pos) (tTest (tOp r ta tb)) := by
  intro pins s σ H Q I h
  refine wpAny_isTrue_Compare1 (thn (ha pins s σ H _ I h) fun v s1 ⟨x, H1, I1, r1, q1⟩ => thn (hb pins s1 σ H1 _ I1 q1) fun u s2 ⟨y, H2, I2, r2, q2⟩ =>
    thn (ho pins s2 σ H2 x y v u _ I2 r1 r2 q2) fun c s3 ⟨z, H3, I3, r3, k, e, q3⟩ => ?_) hm
  subst e
  cases r3
  exact wpAny_truthy_bool ⟨H3, I3, q3⟩
theorem line63 : (sizeLine : Nat) < 2 ^ 63 := by rw [sizeLine_eq]; decide
theorem vals1 {x : V} {us : List Value} (r : Vals [x] us) : ∃ u, us = [u] ∧ RelV x u := by
  cases r with
  | cons r1 r2 => cases r2; exact ⟨_, rfl, r1⟩
theorem vals2 {x y : V} {us : List Value} (r : Vals [x, y] us) : ∃ u w', us = [u, w'] ∧ RelV x u ∧ RelV y w' := by
  cases r with
  | cons r1 r2 =>
    cases r2 with
    | cons r3 r4 => cases r4; exact ⟨_, _, rfl, r1, r3⟩
theorem call_abs : CallR X (.builtin "abs") (fun xs H Q => ∃ i, xs = [.int i] ∧ Q (.int (if i < 0 then -i else i)) H) := by
  intro pins s σ H xs us Q I r h
  obtain ⟨i, rfl, q⟩ := h
  obtain ⟨u, rfl, t, rfl⟩ := vals1 r
  exact call_abs_int fun u tk => ⟨.int (if i < 0 then -i else i), H, I.tok _, ⟨_, rfl⟩, q⟩
theorem call_max2 (hc : X.calm = true) : CallR X (.builtin "max") (fun xs H Q => ∃ i j, xs = [.int i, .int j] ∧ Q (.int (if j > i then j else i)) H) := by
  intro pins s σ H xs us Q I r h
  obtain ⟨i, j, rfl, q⟩ := h
  obtain ⟨u, w', rfl, ⟨t, rfl⟩, ⟨t', rfl⟩⟩ := vals2 r
  refine max_two_ints (I.ok.hd hc) fun h' tk k => ⟨_, H, I.kept k, ?_, q⟩
  by_cases hj : j > i
  · rw [if_pos hj, if_pos hj]; exact ⟨_, rfl⟩
  · rw [if_neg hj, if_neg hj]; exact ⟨_, rfl⟩
theorem call_min2 (hc : X.calm = true) : CallR X (.builtin "min") (fun xs H Q => ∃ i j, xs = [.int i, .int j] ∧ Q (.int (if j < i then j else i)) H) := by
  intro pins s σ H xs us Q I r h
  obtain ⟨i, j, rfl, q⟩ := h
  obtain ⟨u, w', rfl, ⟨t, rfl⟩, ⟨t', rfl⟩⟩ := vals2 r
  refine min_two_ints (I.ok.hd hc) fun h' tk k => ⟨_, H, I.kept k, ?_, q⟩
  by_cases hj : j < i
  · rw [if_pos hj, if_pos hj]; exact ⟨_, rfl⟩
  · rw [if_neg hj, if_neg hj]; exact ⟨_, rfl⟩
noncomputable def LenV (K : PySem.W.Frag) (x : V) (H : Hp) (n : Nat) : Prop :=
  match x with
  | .str y => y.length ≤ sizeLine ∧ n = y.length
  | .byt y => y.size ≤ sizeLine ∧ n = y.size
  | .ref p => (∃ xs, SqL K H p xs ∧ n = xs.length) ∨ ∃ xs, SqT K H p xs ∧ n = xs.length
  | _ => False
theorem call_len : CallR X (.builtin "len") (fun xs H Q => ∃ x n, xs = [x] ∧ LenV X.K x H n ∧ Q (.int n) H) := by
  intro pins s σ H xs us Q I r h
  obtain ⟨x, n, rfl, e, q⟩ := h
  obtain ⟨u, rfl, rx⟩ := vals1 r
  have hl := line63
  have hs : sizeLine = 16777216 := sizeLine_eq
  cases x with
  | str y =>
    obtain ⟨t, rfl⟩ := rx
    obtain ⟨hy, e'⟩ : y.length ≤ sizeLine ∧ n = y.length := e
    subst e'
    exact len_str (by omega) ⟨.int _, H, I.tok _, ⟨_, rfl⟩, q⟩
  | byt y =>
    obtain ⟨t, rfl⟩ := rx
    obtain ⟨hy, e'⟩ : y.size ≤ sizeLine ∧ n = y.size := e
    subst e'
    exact PySem.W.len_bytes (by omega) ⟨.int _, H, I.tok _, ⟨_, rfl⟩, q⟩
  | ref p =>
    cases rx
    have e' : (∃ xs, SqL X.K H p xs ∧ n = xs.length) ∨ ∃ xs, SqT X.K H p xs ∧ n = xs.length := e
    rcases e' with ⟨xs, hx, e'⟩ | ⟨xs, hx, e'⟩
    · subst e'
      obtain ⟨its, r', pl, hz⟩ := I.list hx
      have hlen := r'.length
      exact Calls.call_len_list pl.isList (by simp only [List.size_toArray]; omega) ⟨.int xs.length, H, I.tok _, ⟨_, by simp only [List.size_toArray]; rw [hlen]⟩, q⟩
    · subst e'
      obtain ⟨its, r', pl, hz⟩ := I.tuple hx
      have hlen := r'.length
      exact len_tuple pl (by simp only [List.size_toArray]; omega) ⟨.int xs.length, H, I.tok _, ⟨_, by simp only [List.size_toArray]; rw [hlen]⟩, q⟩
  | _ => exact (show False from e).elim
end
end L2
namespace L2
open PySem PySem.Spec PyProof.Rows
structure ObjM (h : Heap) (x dx C : Addr) (mA : Str → Option Value) : Prop where
  obj : h.get? x = some (PySem.W.instObj C dx)
  ns : h.Ns1 dx mA
  ne : dx ≠ x
theorem lookIn_ns {h : Heap} {dx : Addr} {mA : Str → Option Value} (n : h.Ns1 dx mA) : ∃ od, h.get? dx = some od ∧ ∀ name, PySem.W.lookIn name od = some (mA name) := by
  obtain ⟨o, es, ep, ho, hd, hk, _, hm⟩ := n
  refine ⟨o, ho, fun name => ?_⟩
  have e := hm name
  unfold nsFind findBy at e
  rw [← Array.find?_toList] at e
  unfold PySem.W.lookIn
  rw [hd]
  dsimp only
  split
  · rename_i y q
    rw [q] at e
    exact congrArg some e
  · rename_i q
    rw [q] at e
    have a : es.toList.any (·.refKey) = false := by
      rw [List.any_eq_false]
      intro y hy
      obtain ⟨z, t, hkey⟩ := hk y (Array.mem_toList_iff.mp hy)
      simp [DictEntry.refKey, hkey]
    have a' : ¬ es.toList.any (·.refKey) = true := by rw [a]; exact Bool.false_ne_true
    rw [if_neg a']
    exact congrArg some e
theorem ObjM.look {h : Heap} {x dx C : Addr} {mA : Str → Option Value} (I : ObjM h x dx C mA) : ∃ od, PySem.W.InstAt h x (PySem.W.instObj C dx) C (some od) ∧ ∀ name, PySem.W.lookIn name od = some (mA name) :=
  let ⟨od, ho, hl⟩ := lookIn_ns I.ns
  ⟨od, ⟨I.obj, rfl, rfl, ho⟩, hl⟩
section
variable {prog : Program} {w : World} {A : Around} {E : Value → Shared → Prop} {s : Shared} {K : PySem.W.Frag} {x dx C f : Addr} {mA : Str → Option Value} {name : Str} {v : Value}
end
theorem RelO.some_of {v : V} {o : Option Value} (r : RelO (some v) o) : ∃ u, o = some u ∧ RelV v u := by
  cases o with
  | none => exact (show False from r).elim
  | some u => exact ⟨u, rfl, r⟩
section
variable {P : Program} {w : World} {H H' : Hp} {h h' : Heap} {a C dx : Addr} {fs fs' : List (Str × V)}
theorem ins_get (hok : HOk P w H h) (e : H a = some (.ins C dx fs)) : ∃ mA, ObjM h a dx C mA ∧ (∀ f, RelO (fs.lookup f) (mA f)) ∧ PySem.Within mA (fs.map (·.1)) ∧ fs.length ≤ 1000 ∧ H dx = some (.own a) := by
  obtain ⟨d, z, ne, ob, mA, n, r, q⟩ := (show ObjOk P w H h a (.ins C dx fs) from hok a _ e)
  exact ⟨mA, ⟨ob, n, ne⟩, r, q, z, d⟩
end
structure Cls (K : PySem.W.Frag) (C : Addr) : Prop where
  pg : PySem.W.plainGet K C Str.empty = true
  hd : PySem.W.hasDictIn K C = true
  po : PySem.W.plainOver K C = true
  sa : PySem.W.findIn K (.ref C) "__setattr__" = some (some (.builtin "object.__setattr__"))
theorem Cls.get {K : PySem.W.Frag} {C : Addr} (c : Cls K C) (f : Str) : PySem.W.plainGet K C f = true := c.pg
section
variable {X : Cx} {pins : List (Addr × Obj)} {σ : St} {H : Hp} {s : Shared} {a C dx : Addr} {fs : List (Str × V)} {f : Str} {v : V} {A : Around} {E : Value → Shared → Prop}
end
section
variable {X : Cx} {o e value : Expr} {f : Str} {pos pos' tpos : Pos} {ta tv : TE}
end
section
variable {X : Cx} {pins : List (Addr × Obj)} {σ : St} {H : Hp} {s : Shared} {A : Around} {E : Value → Shared → Prop} {Q : Value → Shared → Prop} {c : Value} {b : Bool}
inductive TyOf (K : PySem.W.Frag) (H : Hp) : V → Value → Prop where
  | non : TyOf K H .non (.type "NoneType")
  | bl (x : Bool) : TyOf K H (.bl x) (.type "bool")
  | int (i : Int) : TyOf K H (.int i) (.type "int")
  | str (x : Str) : TyOf K H (.str x) (.type "str")
  | flt (x : UInt64) : TyOf K H (.flt x) (.type "float")
  | lst {a : Addr} {xs : List V} (e : H a = some (.lst xs)) : TyOf K H (.ref a) (.type "list")
  | frz {a : Addr} {o : Obj} {xs : List V} (e : H a = some (.frz o (.lst xs))) : TyOf K H (.ref a) (.type "list")
  | tup {a : Addr} {xs : List V} (e : H a = some (.tup xs)) : TyOf K H (.ref a) (.type "tuple")
  | dK {a : Addr} {kvs : List (Key × V)} (e : H a = some (.dK kvs)) : TyOf K H (.ref a) (.type "dict")
  | dT {a : Addr} {kvs : List (List Key × V)} (e : H a = some (.dT kvs)) : TyOf K H (.ref a) (.type "dict")
  | ins {a C dx : Addr} {fs : List (Str × V)} (e : H a = some (.ins C dx fs)) (cl : Cls K C) (ha : PySem.W.findIn K (.ref C) "__class__" = some (some (.builtin "object.__class__")))
      (hn : PySem.W.specialIn K (.builtin "object.__class__") "__get__" = some (some (.builtin "getset_descriptor.__get__"))) (htk : PySem.W.takesIn K (.builtin "object.__class__") = some true)
      (hm : PySem.W.mroIn K C (.type "object") = some true) : TyOf K H (.ref a) (.ref C)
theorem isinst_ok {x : V} {u t : Value} (I : Inv X pins σ H s) (rx : RelV x u) (ty : TyOf X.K H x t) (e : PySem.W.kitOne X.K t c = some b) (h : ∀ tk, Q (.bool b) { s with toks := tk }) :
    wpAny (model X.prog X.w) A (call (.builtin "isinstance") [u, c]) Q E s := by
  cases ty with
  | non => cases (show u = Value.none from rx); exact PySem.W.kia_one PySem.W.kitx_none I.kIn True.intro e (fun z => nomatch z) h
  | bl y => cases (show u = Value.bool y from rx); exact PySem.W.kia_one PySem.W.kitx_bool I.kIn True.intro e (fun z => nomatch z) h
  | int i => obtain ⟨t, q⟩ := (show ∃ t, u = Value.int i t from rx); cases q; exact PySem.W.kia_one PySem.W.kitx_int I.kIn True.intro e (fun z => nomatch z) h
  | str y => obtain ⟨t, q⟩ := (show ∃ t, u = Value.str y t from rx); cases q; exact PySem.W.kia_one PySem.W.kitx_str I.kIn True.intro e (fun z => nomatch z) h
  | flt y => obtain ⟨t, q⟩ := (show ∃ t, u = Value.float y t from rx); cases q; exact PySem.W.kia_one PySem.W.kitx_float I.kIn True.intro e (fun z => nomatch z) h
  | @lst a xs ea =>
    cases (show u = Value.ref a from rx)
    obtain ⟨_, _, n, _, h1⟩ := (show ObjOk X.prog X.w H s.heap a (.lst xs) from I.hok a _ ea)
    exact PySem.W.kia_one PySem.W.kitx_list I.kIn ⟨_, h1, rfl⟩ e (fun z => nomatch z) h
  | @frz a ob xs ea =>
    cases (show u = Value.ref a from rx)
    obtain ⟨_, _, _, n, _, h1⟩ := (show ObjOk X.prog X.w H s.heap a (.frz ob (.lst xs)) from I.hok a _ ea)
    exact PySem.W.kia_one PySem.W.kitx_list I.kIn ⟨_, h1, rfl⟩ e (fun z => nomatch z) h
  | @tup a xs ea =>
    cases (show u = Value.ref a from rx)
    obtain ⟨_, _, _, p⟩ := (show ObjOk X.prog X.w H s.heap a (.tup xs) from I.hok a _ ea)
    obtain ⟨o, h1, h2, _⟩ := p
    exact PySem.W.kia_one PySem.W.kitx_tuple I.kIn ⟨o, h1, h2⟩ e (fun z => nomatch z) h
  | @dK a kvs ea =>
    cases (show u = Value.ref a from rx)
    obtain ⟨_, _, vs, _, p⟩ := (show ObjOk X.prog X.w H s.heap a (.dK kvs) from I.hok a _ ea)
    obtain ⟨o, es, ep, h1, h2, _⟩ := p
    exact PySem.W.kia_one PySem.W.kitx_dict I.kIn ⟨o, h1, h2.1⟩ e (fun z => nomatch z) h
  | @dT a kvs ea =>
    cases (show u = Value.ref a from rx)
    obtain ⟨_, _, xs, _, o, es, ep, h1, h2, _⟩ := (show ObjOk X.prog X.w H s.heap a (.dT kvs) from I.hok a _ ea)
    exact PySem.W.kia_one PySem.W.kitx_dict I.kIn ⟨o, h1, h2.1⟩ e (fun z => nomatch z) h
  | @ins a C dx fs ea cl ha hn htk hm =>
    cases (show u = Value.ref a from rx)
    obtain ⟨mA, O, _⟩ := ins_get I.hok ea
    obtain ⟨od, J, _⟩ := O.look
    exact PySem.W.kia_one (PySem.W.kitx_own (cl.get _) cl.hd ha hn htk hm) I.kIn J e (fun z => nomatch z) h
end
end L2
namespace L2
open PySem PySem.Spec PyProof.Rows
structure Room (k : Nat) (A : Around) : Prop where
  hd : A.handled = none
  dp : A.depth + 3 * k + 5 < recursionLimit
  un : A.units + 16 * k + 200 < cLine
theorem Room.mono {j k : Nat} {A : Around} (r : Room k A) (h : j ≤ k) : Room j A := ⟨r.hd, by have := r.dp; omega, by have := r.un; omega⟩
theorem Room.deeper {k : Nat} {A : Around} (r : Room (k + 1) A) (env : Env) : Room k (A.deeper env) :=
  ⟨r.hd, by have := r.dp; show A.depth + 1 + 3 * k + 5 < _; omega, by have := r.un; show A.units + 3 + 16 * k + 200 < _; omega⟩
theorem Room.depth {k : Nat} {A : Around} (r : Room k A) : A.depth < recursionLimit := by have := r.dp; omega
noncomputable def tNil : TA := fun _ H Q => Q [] H
noncomputable def tCons (ta : TE) (tr : TA) : TA := fun σ H Q => ta σ H fun x H1 => tr σ H1 fun xs H2 => Q (x :: xs) H2
section
variable {X : Cx} {e : Expr} {es : List Expr} {te : TE} {t : TA} {pos : Pos}
theorem pa_nil : PA X [] tNil := fun _ _ _ _ H Q I h => Calls.spliced_nil ⟨[], H, I, .nil, h⟩
theorem pa_cons (ha : PE X e te) (hr : PA X es t) (hs : starEach (e :: es) X.env = (false, eval e X.env) :: starEach es X.env := by rfl) : PA X (e :: es) (tCons te t) := by
  intro pos pins s σ H Q I h
  rw [hs]
  show wpAny _ _ (spliced ((false, eval e X.env) :: backTo pos (starEach es X.env))) _ _ s
  refine Calls.spliced_cons (thn (ha pins s σ H _ I h) fun u s1 zz => ?_)
  obtain ⟨x, H1, I1, r1, q1⟩ := zz
  exact thn (hr pos pins s1 σ H1 _ I1 q1) fun us s2 ⟨xs, H2, I2, r2, q2⟩ => ⟨x :: xs, H2, I2, .cons r1 r2, q2⟩
noncomputable def tTup (t : TA) : TE := fun σ H Q => t σ H fun xs H1 => xs.length ≤ sizeLine ∧ ∀ p, H1 p = none → Q (.ref p) (upd H1 p (.tup xs))
noncomputable def tLst (t : TA) : TE := fun σ H Q => t σ H fun xs H1 => xs.length ≤ sizeLine ∧ ∀ p, H1 p = none → Q (.ref p) (upd H1 p (.lst xs))
theorem pe_tup {x1} (h : PA X es t) : PE X (.Tuple es x1 pos) (tTup t) := by
  intro pins s σ H Q I hq
  refine wpAny_Tuple_spliced (thn (h pos pins s σ H _ I hq) fun us s1 ⟨xs, H1, I1, r, z, q⟩ => ⟨by rw [← r.length]; exact z, ?_⟩)
  have hf : H1 s1.heap.objs.size = none := I1.hok.fresh (Nat.le_refl _)
  refine ⟨.ref s1.heap.objs.size, upd H1 s1.heap.objs.size (.tup xs), I1.laid (t' := s1.toks) (fun b u e => Heap.get?_push_of_some _ e) (Nat.le_refl _) ?_, rfl, q _ hf⟩
  exact ⟨z, us, r, ⟨_, Heap.get?_push_size _ rfl, rfl, _, rfl⟩⟩
theorem pe_lst (h : PA X es t) : PE X (.List es pos) (tLst t) := by
  intro pins s σ H Q I hq
  refine wpAny_List_spliced (thn (h pos pins s σ H _ I hq) fun us s1 ⟨xs, H1, I1, r, z, q⟩ => ⟨by rw [← r.length]; exact z, ?_⟩)
  have hf : H1 s1.heap.objs.size = none := I1.hok.fresh (Nat.le_refl _)
  refine ⟨.ref s1.heap.objs.size, upd H1 s1.heap.objs.size (.lst xs), I1.laid (t' := s1.toks) (fun b u e => Heap.get?_push_of_some _ e) (Nat.le_refl _) ?_, rfl, q _ hf⟩
  exact ⟨z, us, 0, r, Heap.get?_push_size _ rfl⟩
end
noncomputable abbrev Sp := List V → Hp → VK → XK → Prop
noncomputable abbrev CXT := List Env → Hp → Shared → XK → Value → Shared → Prop
structure Env0 (P : Program) (w : World) (K : PySem.W.Frag) (mg : Str → Option Value) (base : Heap) (A : Around) (outer : List Env) (s : Shared) (H : Hp) : Prop where
  frames : A.frames = some outer
  mod : Mod K mg base
  bs : ∀ b o, base.get? b = some o → s.heap.get? b = some o ∧ H b = none
  bsz : base.objs.size ≤ s.heap.objs.size
  funs : s.heap.FunFrames base outer
  frf : ∀ b ∈ frs outer, H b = none
  hok : HOk P w H s.heap
  bare : AllBare s.gens
noncomputable def CE (outer : List Env) (P : Program) (w : World) (H : Hp) (s : Shared) (Q : VK) (u : Value) (s' : Shared) : Prop :=
  ∃ v H', s'.os = s.os ∧ AllBare s'.gens ∧ Un (frs outer) [] H H' s.heap s'.heap ∧ HOk P w H' s'.heap ∧ RelV v u ∧ Q v H'
noncomputable def CR (CX : CXT) (outer : List Env) (P : Program) (w : World) (H : Hp) (s : Shared) (Q : VK) (E : XK) (r : Result) (s' : Shared) : Prop :=
  match r with
  | .ok (.ret u) => CE outer P w H s Q u s'
  | .ok _ => False
  | .error e => CX outer H s E e s'
structure FnOk (P : Program) (w : World) (K : PySem.W.Frag) (mg : Str → Option Value) (base : Heap) (CX : CXT) (k : Nat) (f : Addr) (fd : FuncData) (ps : List Str) (sp : Sp) : Prop where
  len : ∀ vs H Q E, sp vs H Q E → vs.length = ps.length
  run : ∀ (A : Around) (outer : List Env) (s : Shared) (H : Hp) (args : Args) (us : List Value) (vs : List V) (Q : VK) (E : XK), Room k A → Env0 P w K mg base A outer s H → BindsTo s fd args (ps.zip us) → Vals vs us → sp vs H Q E →
    codeAny (model P w) A (.call (.ref f) args) (CR CX outer P w H s Q E) s
theorem FnOk.imp {P : Program} {w : World} {K : PySem.W.Frag} {mg : Str → Option Value} {base : Heap} {CX : CXT} {k : Nat} {f : Addr} {fd : FuncData} {ps : List Str} {sp sp' : Sp} (F : FnOk P w K mg base CX k f fd ps sp)
    (h : ∀ vs H Q E, sp' vs H Q E → sp vs H Q E) : FnOk P w K mg base CX k f fd ps sp' :=
  ⟨fun vs H Q E q => F.len vs H Q E (h _ _ _ _ q), fun A outer s H args us vs Q E hr he hb hv hs => F.run A outer s H args us vs Q E hr he hb hv (h _ _ _ _ hs)⟩
section
variable {X : Cx} {pins : List (Addr × Obj)} {σ : St} {H : Hp} {s s' : Shared}
theorem Inv.env0 (I : Inv X pins σ H s) : Env0 X.prog X.w X.K X.mg X.base X.A X.stack s H :=
  ⟨I.ok.frames, I.ok.mod, I.bs, Nat.le_trans I.ok.bsz I.sz, I.stack, I.stkFree, I.hok, I.bare⟩
theorem Inv.after {Q : VK} {u : Value} (I : Inv X pins σ H s) (h : CE X.stack X.prog X.w H s Q u s') : EP X pins σ Q u s' := by
  obtain ⟨v, H', os, bare, un, hok, r, q⟩ := h
  obtain ⟨hh, g, d, t, os'⟩ := s'
  obtain rfl : os' = s.os := os
  exact ⟨v, H', I.call (h' := hh) (g' := g) (d' := d) (t' := t) (ch := []) un hok bare (fun b z => absurd z (by simp)), r, q⟩
end
noncomputable def tCall (sp : Sp) (dvs : List V) (E : XK) (t : TA) : TE := fun σ H Q => t σ H fun vs H1 => sp (vs ++ dvs) H1 Q E
noncomputable def Binds (K : PySem.W.Frag) (fd : FuncData) (ps : List Str) (ds : List Value) : Prop :=
  ∀ (s : Shared) (us : List Value), K.In s.heap → (us ++ ds).length = ps.length → BindsTo s fd ⟨us, []⟩ (ps.zip (us ++ ds))
theorem Binds.all {K : PySem.W.Frag} {fd : FuncData} {ps : List Str} (h : ∀ us : List Value, us.length = ps.length → bindArgs fd ⟨us, []⟩ = pure (ps.zip us)) : Binds K fd ps [] := fun s us _ hl => by
  rw [List.append_nil] at hl ⊢
  exact .of_eq (h us hl)
noncomputable def Passes (CX : CXT) (X : Cx) (E : XK) : Prop := ∀ (pins : List (Addr × Obj)) (σ : St) (H : Hp) (s : Shared) (e : Value) (s' : Shared), Inv X pins σ H s → CX X.stack H s E e s' → X.xe e s'
section
variable {X : Cx} {CX : CXT} {k : Nat} {f C : Addr} {fd : FuncData} {ps : List Str} {sp : Sp} {dvs : List V} {ds : List Value} {E : XK} {x m : Str} {p pos apos : Pos} {e o : Expr} {es : List Expr} {ta : TE} {t : TA}
theorem run_fn {pins : List (Addr × Obj)} {σ : St} {H : Hp} {s : Shared} {Q : VK} {us : List Value} {vs : List V} (F : FnOk X.prog X.w X.K X.mg X.base CX k f fd ps sp) (hr : Room k X.A) (hb : Binds X.K fd ps ds) (hd : Vals dvs ds) (hx : Passes CX X E)
    (I : Inv X pins σ H s) (r : Vals vs us) (h : sp (vs ++ dvs) H Q E) : wpAny (model X.prog X.w) X.A (call (.ref f) us) (EP X pins σ Q) X.xe s := by
  have r2 : Vals (vs ++ dvs) (us ++ ds) := r.append hd
  have hl : (us ++ ds).length = ps.length := by rw [← r2.length]; exact F.len _ _ _ _ h
  refine wpAny_call (codeAny_mono (F.run X.A X.stack s H ⟨us, []⟩ (us ++ ds) (vs ++ dvs) Q E hr I.env0 (hb s us I.kIn hl) r2 h) fun r s' hq => ?_)
  cases r with
  | error e => exact hx pins σ H s e s' I hq
  | ok fl =>
    cases fl with
    | ret u => exact I.after hq
    | next => exact False.elim hq
    | brk => exact False.elim hq
    | cont => exact False.elim hq
theorem pe_call (F : FnOk X.prog X.w X.K X.mg X.base CX k f fd ps sp) (hr : Room k X.A) (hg : Gl X x) (hm : X.mg x = some (.ref f)) (hk : PySem.W.keepIn X.K (.ref f) = true) (hb : Binds X.K fd ps ds) (hd : Vals dvs ds) (hx : Passes CX X E)
    (ha : PA X (e :: es) t) (hdb : (x == ("__debug__" : Str)) = false := by decide) (he : starEach (e :: es) X.env = (false, eval e X.env) :: starEach es X.env := by rfl) (hpl : (backTo pos (starEach es X.env)).any (·.1) = false := by rfl) :
    PE X (.Call (.Name x p) (e :: es) [] pos) (tCall sp dvs E t) := by
  intro pins s σ H Q I h
  refine wpAny_Call_Name_kw (ld_glob I hg hm ?_ hdb)
  refine PySem.W.callWith_K (h₀ := X.base) I.ok.mod.kin hk (thn (ha pos pins s σ H _ I h) fun us s1 ⟨vs, H1, I1, r, q⟩ => ⟨I1.kIn, ?_⟩) he hpl
  exact run_fn F hr hb hd hx I1 r q
end
section
variable {X : Cx} {CX : CXT} {k : Nat} {f C : Addr} {fd : FuncData} {ps ks : List Str} {sp : Sp} {E : XK} {x m : Str} {p pos apos kpos : Pos} {e o : Expr} {es : List Expr} {kws : List Keyword} {te ta : TE} {t tk : TA} {nm : Option Str}
variable {g : List Value → List Value → List Value} {gV : List V → List V → List V}
end
structure FnScope (N P : List Str) (sc : Scope) : Prop where
  kind : sc.kind = .function
  co : sc.isCoroutine = false
  gen : sc.isGenerator = false
  nd : N.Nodup
  pre : N.take P.length = P
  par : ∀ x ∈ P, sc.names.lookup x = some .local ∨ sc.names.lookup x = some .cell
  nofree : ∀ y ∈ sc.names, y.2 ≠ .free
theorem bindL_out {kindOf : Str → Option NameKind} {x : Str} : ∀ {binds : List (Str × Value)} {m : Str → Option Value}, (∀ v, (x, v) ∉ binds) → bindL kindOf binds m x = m x
  | [], _, _ => rfl
  | (n, v) :: r, m, h => by
    unfold bindL
    rw [bindL_out fun w hw => h w (List.mem_cons_of_mem _ hw)]
    split
    · have : x ≠ n := by rintro rfl; exact h v List.mem_cons_self
      simp [this]
    · rfl
theorem bindC_out {kindOf : Str → Option NameKind} {x : Str} : ∀ {binds : List (Str × Value)} {m : Str → Option Value}, (∀ v, (x, v) ∉ binds) → bindC kindOf binds m x = m x
  | [], _, _ => rfl
  | (n, v) :: r, m, h => by
    unfold bindC
    rw [bindC_out fun w hw => h w (List.mem_cons_of_mem _ hw)]
    split
    · rfl
    · have : x ≠ n := by rintro rfl; exact h v List.mem_cons_self
      simp [this]
theorem bindL_get {kindOf : Str → Option NameKind} {x : Str} {v : Value} : ∀ {P : List Str} {vs : List Value} {i : Nat} {m : Str → Option Value}, P.Nodup → P[i]? = some x → vs[i]? = some v → kindOf x = some .local →
    bindL kindOf (P.zip vs) m x = some v
  | [], _, _, _, _, h, _, _ => by simp at h
  | _ :: _, [], _, _, _, _, h, _ => by simp at h
  | p :: P, w :: vs, 0, m, nd, h1, h2, hk => by
    simp at h1 h2; subst h1; subst h2
    show bindL kindOf ((p, w) :: P.zip vs) m p = _
    unfold bindL
    rw [bindL_out fun v hv => (List.nodup_cons.mp nd).1 (List.of_mem_zip hv).1, if_pos hk]
    simp
  | p :: P, w :: vs, i + 1, m, nd, h1, h2, hk => by
    show bindL kindOf ((p, w) :: P.zip vs) m x = _
    unfold bindL
    exact bindL_get (i := i) (List.nodup_cons.mp nd).2 (by simpa using h1) (by simpa using h2) hk
theorem bindC_get {kindOf : Str → Option NameKind} {x : Str} {v : Value} : ∀ {P : List Str} {vs : List Value} {i : Nat} {m : Str → Option Value}, P.Nodup → P[i]? = some x → vs[i]? = some v → kindOf x ≠ some .local →
    bindC kindOf (P.zip vs) m x = some v
  | [], _, _, _, _, h, _, _ => by simp at h
  | _ :: _, [], _, _, _, _, h, _ => by simp at h
  | p :: P, w :: vs, 0, m, nd, h1, h2, hk => by
    simp at h1 h2; subst h1; subst h2
    show bindC kindOf ((p, w) :: P.zip vs) m p = _
    unfold bindC
    rw [bindC_out fun v hv => (List.nodup_cons.mp nd).1 (List.of_mem_zip hv).1, if_neg hk]
    simp
  | p :: P, w :: vs, i + 1, m, nd, h1, h2, hk => by
    show bindC kindOf ((p, w) :: P.zip vs) m x = _
    unfold bindC
    exact bindC_get (i := i) (List.nodup_cons.mp nd).2 (by simpa using h1) (by simpa using h2) hk
noncomputable def start (N : List Str) (vs : List V) : St := vs.map some ++ List.replicate (N.length - vs.length) none
noncomputable def cxOf (CX : CXT) (P : Program) (w : World) (K : PySem.W.Frag) (mg : Str → Option Value) (base : Heap) (N : List Str) (qual : Str) (scope : Scope) (f : Addr) (cd : Value) (A : Around) (outer : List Env) (s : Shared) (H : Hp) (E : XK) : Cx where
  prog := P
  w := w
  K := K
  mg := mg
  base := base
  A := A.deeper (envOfC qual scope s.heap.objs.size f cd)
  N := N
  s₀ := s
  H₀ := H
  env := envOfC qual scope s.heap.objs.size f cd
  outer := outer
  stack := envOfC qual scope s.heap.objs.size f cd :: outer
  ex := []
  calm := true
  fn := fun _ => true
  pn := []
  xe := fun e s' => wpAny (model P w) (A.deeper (envOfC qual scope s.heap.objs.size f cd)) (leaving (envOfC qual scope s.heap.objs.size f cd) e) (fun _ s'' => CX outer H s E e s'') (fun e' s'' => CX outer H s E e' s'') s'
theorem cell_has {sc : Scope} {n : Nat} {x : Str} (h : sc.names.lookup x = some .cell) : ∃ c, (cellsFrom n sc.names []).lookup x = some c := by
  have q := PySem.W.cellsFrom_some sc.names n [] (.inl h)
  exact Option.isSome_iff_exists.mp q
theorem inv_start {CX : CXT} {P : Program} {w : World} {K : PySem.W.Frag} {mg : Str → Option Value} {base : Heap} {N ps : List Str} {qual : Str} {scope : Scope} {f : Addr} {cd : Value} {A : Around} {outer : List Env} {s s1 : Shared} {H : Hp} {E : XK} {us : List Value} {vs : List V}
    (S : FnScope N ps scope) (hd : A.handled = none) (e0 : Env0 P w K mg base A outer s H) (hl : vs.length = ps.length) (r : Vals vs us)
    (x : InCallC s s.heap.objs.size (bindL (envOfC qual scope s.heap.objs.size f cd).kindOf (ps.zip us) fun _ => none) (cellsFrom (s.heap.objs.size + 1) scope.names []) (bindC (envOfC qual scope s.heap.objs.size f cd).kindOf (ps.zip us) fun _ => none) s1) :
    Inv (cxOf CX P w K mg base N qual scope f cd A outer s H E) [] (start N vs) H s1 := by
  have hpl : ps.length ≤ N.length := by have := congrArg List.length S.pre; rw [List.length_take] at this; omega
  obtain ⟨h1, tk, rfl, hk⟩ := x.done
  have noA : ∀ b : Addr, b ∉ (cxOf CX P w K mg base N qual scope f cd A outer s H E).ex := fun b z => absurd (show b ∈ ([] : List Addr) from z) (by simp)
  refine ⟨⟨e0.mod, S.kind, rfl, rfl, Nat.le_refl _, fun y z c h1 h2 => ?_, fun y hy => ?_, fun y c _ h => ?_, fun _ => hd, Around.frames_deeper e0.frames, .inr ⟨rfl, rfl⟩, fun b z => absurd z (noA b), e0.bs, e0.bsz, fun b _ _ => noA b, fun b z => absurd z (noA b), e0.funs, e0.frf⟩,
    rfl, e0.bare, Un.kept hk, ⟨_, x.toInCall.ns, fun i y v h1 h2 h3 => ?_⟩, fun y c h => ⟨_, x.cell y c h⟩, e0.hok.fresh (Nat.le_refl _), fun y c h => ?_, fun p hp => absurd (show p ∈ ([] : List (Addr × Obj)) from hp) (by simp), e0.hok.kept hk, ?_⟩
  · exact name_of_addr x.apart (PySem.mem_of_lookup h1) (PySem.mem_of_lookup h2)
  · have hy : scope.names.lookup y = some .cell ∨ scope.names.lookup y = some .free := hy
    rcases hy with hy | hy
    · exact cell_has hy
    · exact absurd rfl (S.nofree _ (PySem.mem_of_lookup hy))
  · exact Nat.le_of_lt (x.above y c (PySem.mem_of_lookup h))
  · have hi : i < vs.length := by
      unfold start at h2
      by_cases hi : i < vs.length
      · exact hi
      · rw [List.getElem?_append_right (by simpa using hi)] at h2
        rw [List.getElem?_replicate] at h2
        split at h2 <;> cases h2
    have ha : vs[i]? = some v := by
      unfold start at h2
      rw [List.getElem?_append_left (by simpa using hi), List.getElem?_map] at h2
      cases e : vs[i]? with
      | none => rw [e] at h2; cases h2
      | some a => rw [e] at h2; cases h2; rfl
    obtain ⟨u, hu, rv⟩ := r.get ha
    have hp : ps[i]? = some y := by
      rw [← S.pre, List.getElem?_take_of_lt (by omega)]; exact h1
    have ndP : ps.Nodup := by rw [← S.pre]; exact S.nd.sublist (List.take_sublist _ _)
    refine ⟨u, rv, ?_⟩
    rcases S.par y (List.mem_of_getElem? hp) with k | k
    · exact .inl ⟨k, bindL_get ndP hp hu k⟩
    · obtain ⟨c, e⟩ := cell_has (n := s.heap.objs.size + 1) k
      refine .inr ⟨.inl k, c, e, ?_⟩
      have q := x.cell y c e
      rw [bindC_get ndP hp hu (by show scope.names.lookup y ≠ _; rw [k]; decide)] at q
      exact q
  · exact e0.hok.fresh (Nat.le_of_lt (x.above y c (PySem.mem_of_lookup h)))
  · unfold start
    show _ = N.length
    rw [List.length_append, List.length_map, List.length_replicate]
    omega
theorem fn_of {CX : CXT} {P : Program} {w : World} {K : PySem.W.Frag} {mg : Str → Option Value} {base : Heap} {k : Nat} {f : Addr} {name qual : Str} {params : Arguments} {body : List Stmt} {scope : Scope} {dV kV doc pm cdv ct oc : Value} {an od : Option Addr}
    {osl : Array (Option Value)} {N ps : List Str} {sp : Sp} (lk : K.lookup f = some ⟨oc, od, .func (PySem.W.fnOf name qual params body scope dV kV doc pm an cdv ct), osl⟩) (hcd : PySem.W.codeIn K cdv qual = true) (S : FnScope N ps scope)
    (len : ∀ vs H Q E, sp vs H Q E → vs.length = ps.length)
    (hbody : ∀ (A : Around) (outer : List Env) (s : Shared) (H : Hp) (vs : List V) (Q : VK) (E : XK), Room k (A.deeper (envOfC qual scope s.heap.objs.size f cdv)) → sp vs H Q E →
      ∃ t, PSs (cxOf CX P w K mg base N qual scope f cdv A outer s H E) body t ∧ t { nx := fun _ H' => Q .non H', rt := Q } (start N vs) H) :
    FnOk P w K mg base CX (k + 1) f (PySem.W.fnOf name qual params body scope dV kV doc pm an cdv ct) ps sp := by
  refine ⟨len, fun A outer s H args us vs Q E hr e0 hb r hsp => ?_⟩
  have hl := len _ _ _ _ hsp
  have KX : K.In s.heap := e0.mod.kin.keeps fun b o e => (e0.bs b o e).1
  have lim : s.heap.NoLimit := e0.mod.nolimit.keeps fun b o e => (e0.bs b o e).1
  have hkind : ∀ y ∈ ps.zip us, scope.names.lookup y.1 = some .local ∨ (scope.names.lookup y.1 = some .cell ∧ ((cellsFrom (s.heap.objs.size + 1) scope.names []).lookup y.1).isSome = true) := fun ⟨n, v⟩ hy => by
    rcases S.par n (List.of_mem_zip hy).1 with q | q
    · exact .inl q
    · exact .inr ⟨q, PySem.W.cellsFrom_some _ _ _ (.inl q)⟩
  refine codeAny_call_function hr.depth (KX _ _ lk) rfl S.co S.gen rfl (PySem.W.codeRec_of KX hcd) (hb _ _ _ _ ?_)
  refine wpAny_newFunctionEnv_cells S.kind hkind fun env he s1 x => ?_
  subst he
  refine ⟨lim.keeps x.toInCall.keep, codeAny_func ?_⟩
  obtain ⟨t, ht, hq⟩ := hbody A outer s H vs Q E (hr.deeper _) hsp
  have I : Inv (cxOf CX P w K mg base N qual scope f cdv A outer s H E) [] (start N vs) H s1 := inv_start S hr.hd e0 hl r x
  refine wpAny_mono (ht [] s1 (start N vs) H _ I hq) (fun fl s' hs => ?_) fun e s' hs => hs
  have fin : ∀ {σ' : St} {H' : Hp} {v : V} {u : Value}, Inv (cxOf CX P w K mg base N qual scope f cdv A outer s H E) [] σ' H' s' → RelV v u → Q v H' → CE outer P w H s Q u s' :=
    fun {σ' H' v u} J rv q => ⟨v, H', J.os, J.bare, J.base, J.hok, rv, q⟩
  cases fl with
  | ret u =>
    obtain ⟨v, σ', H', J, rv, q⟩ := hs
    exact fin J rv q
  | next =>
    obtain ⟨σ', H', J, q⟩ := hs
    exact fin (v := V.non) (u := Value.none) J rfl q
  | brk =>
    obtain ⟨_, _, _, q⟩ := hs
    exact False.elim q
  | cont =>
    obtain ⟨_, _, _, q⟩ := hs
    exact False.elim q
end L2
namespace L2
open PySem PySem.Spec PyProof.Rows
section
variable {X : Cx} {x : Str} {p pos : Pos} {e : Expr} {es : List Expr} {t : TA} {id T : String} {r : List V → Hp → VK → Prop}
noncomputable def tCB (r : List V → Hp → VK → Prop) (t : TA) : TE := fun σ H Q => t σ H fun vs H1 => r vs H1 Q
theorem pe_callB (hc : CallR X (.builtin id) r) (hg : Gl X x) (hm : X.mg x = none) (hv : bootBuiltins x = some (.builtin id)) (ha : PA X (e :: es) t) (hn : x ≠ "__name__" := by decide) (hdb : (x == ("__debug__" : Str)) = false := by decide)
    (he : starEach (e :: es) X.env = (false, eval e X.env) :: starEach es X.env := by rfl) (hpl : (backTo pos (starEach es X.env)).any (·.1) = false := by rfl) : PE X (.Call (.Name x p) (e :: es) [] pos) (tCB r t) := by
  intro pins s σ H Q I h
  refine wpAny_Call_Name_kw (ld_blt I hg hm hv ?_ hn hdb)
  exact PyProof.Rows.callWith_builtin1 (thn (ha pos pins s σ H _ I h) fun us s1 ⟨vs, H1, I1, r1, q1⟩ => hc pins s1 σ H1 vs us Q I1 r1 q1) he hpl
end
end L2
namespace HT
open PySem PyProof.Rows
section
open PySem.SeqAt
open PySem.AutoSeq1 (wpAny_loadPart')
open PySem.MeetsSeq PySem.MeetsSeq2 PySem.MeetsSeq3
end
section
variable {prog : Program} {w : World} {A : Around} {E : Value → Shared → Prop} {s : Shared}
end
end HT
namespace L2
open PySem PySem.Spec PyProof.Rows
section
variable {X : Cx} {e : Expr} {te : TE} {lo hi : Option Expr} {tl th : TO} {pos p2 : Pos}
end
end L2
namespace L2
open PySem PySem.Spec PyProof.Rows
noncomputable def ixN (n : Nat) (i : Int) : Option Nat := if 0 ≤ i then (if i < n then some i.toNat else none) else if -(n : Int) ≤ i then some (i + n).toNat else none
noncomputable def atI {α : Type} (xs : List α) (i : Int) : Option α := (ixN xs.length i).bind fun j => xs[j]?
theorem ixN_seq {n : Nat} {i : Int} {j : Nat} (h : ixN n i = some j) : seqIndex? i n = some j ∧ j < n ∧ -(n : Int) ≤ i ∧ i < n := by
  unfold ixN at h
  by_cases h0 : 0 ≤ i
  · rw [if_pos h0] at h
    by_cases h1 : i < n
    · rw [if_pos h1] at h
      have e : i.toNat = j := Option.some.inj h
      exact ⟨by rw [seqIndex_of h0 h1, e], by omega, by omega, h1⟩
    · rw [if_neg h1] at h; cases h
  · rw [if_neg h0] at h
    by_cases h1 : -(n : Int) ≤ i
    · rw [if_pos h1] at h
      have e : (i + n).toNat = j := Option.some.inj h
      exact ⟨by rw [seqIndex_neg (by omega) h1, e], by omega, h1, by omega⟩
    · rw [if_neg h1] at h; cases h
theorem atI_get {α : Type} {xs : List α} {i : Int} {v : α} (h : atI xs i = some v) : ∃ j, seqIndex? i xs.length = some j ∧ xs[j]? = some v ∧ j < xs.length ∧ -(xs.length : Int) ≤ i ∧ i < xs.length := by
  unfold atI at h
  cases e : ixN xs.length i with
  | none => rw [e] at h; cases h
  | some j =>
    rw [e] at h
    obtain ⟨h1, h2, h3, h4⟩ := ixN_seq e
    exact ⟨j, h1, h, h2, h3, h4⟩
theorem atI_nat {α : Type} {xs : List α} {j : Nat} {v : α} (h : xs[j]? = some v) : atI xs (j : Int) = some v := by
  have hj : j < xs.length := (List.getElem?_eq_some_iff.mp h).1
  have e : ixN xs.length (j : Int) = some j := by
    unfold ixN
    rw [if_pos (by omega), if_pos (by omega)]; simp
  unfold atI; rw [e]; exact h
noncomputable def PlainIx (b : Expr) : Prop := ∀ o i, subscripted b false o i = operate [o, i] (getItem o i)
noncomputable def IxR (X : Cx) (r : R2) : Prop :=
  ∀ (value slice : Expr) (pins : List (Addr × Obj)) (s : Shared) (σ : St) (H : Hp) (x y : V) (v u : Value) (Q : VK), Inv X pins σ H s → RelV x v → RelV y u → r x y H Q →
    subscripted slice false v u = operate [v, u] (getItem v u) → wpAny (model X.prog X.w) X.A (subscriptTail value slice v u) (EP X pins σ Q) X.xe s
noncomputable def MtR (X : Cx) (id : String) (r : V → List V → Hp → VK → Prop) : Prop :=
  ∀ (pins : List (Addr × Obj)) (s : Shared) (σ : St) (H : Hp) (x : V) (xs : List V) (v : Value) (us : List Value) (Q : VK), Inv X pins σ H s → RelV x v → Vals xs us → r x xs H Q →
    wpAny (model X.prog X.w) X.A (call (.builtin id) (v :: us)) (EP X pins σ Q) X.xe s
section
variable {X : Cx} {a b : Expr} {ta tb : TE} {pos : Pos}
theorem pe_ix {r : R2} (hr : IxR X r) (ha : PE X a ta) (hb : PE X b tb) (hs : PlainIx b) : PE X (.Subscript a b pos) (tOp r ta tb) := by
  intro pins s σ H Q I h
  exact Subscript_ (binT ha hb I h fun v u s2 x y H2 I2 rx ry q => hr a b pins s2 σ H2 x y v u Q I2 rx ry q (hs _ _))
noncomputable def rIxL (K : PySem.W.Frag) : R2 := fun x y H Q => ∃ p xs i v, x = .ref p ∧ y = .int i ∧ SqL K H p xs ∧ atI xs i = some v ∧ Q v H
noncomputable def rIxT (K : PySem.W.Frag) : R2 := fun x y H Q => ∃ p xs i v, x = .ref p ∧ y = .int i ∧ SqT K H p xs ∧ atI xs i = some v ∧ Q v H
theorem ix_list : IxR X (rIxL X.K) := by
  intro value slice pins s σ H x y v u Q I rx ry h hs
  obtain ⟨p, xs, i, z, rfl, rfl, hq, he, q⟩ := h
  cases rx
  obtain ⟨t, rfl⟩ := ry
  obtain ⟨its, r, pl, hz⟩ := I.list hq
  obtain ⟨j, h1, h2, h3, h4, h5⟩ := atI_get he
  obtain ⟨w, ew, rw'⟩ := r.get h2
  have hl := r.length
  have hn := line63
  have fin : EP X pins σ Q w s := ⟨z, H, I, rw', q⟩
  by_cases h0 : 0 ≤ i
  · have hj : i.toNat = j := by
      rw [seqIndex_of h0 h5] at h1
      exact Option.some.inj h1
    exact item_listR pl.isList h0 (by omega) (by rw [hj]; simpa using ew) fin hs
  · have hj : (i + (its.toArray.size : Int)).toNat = j := by
      rw [seqIndex_neg (by omega) h4] at h1
      rw [List.size_toArray, ← hl]
      exact Option.some.inj h1
    exact subscriptTail_builtinR (x := w) pl.isList.typeIs slot_list_getitem.lookup
      (wpAny_getItem_list_neg (Q := fun r s' => r = w ∧ EP X pins σ Q r s') pl.isList (by omega) (by rw [List.size_toArray] <;> omega) (by omega) (by rw [hj]; simpa using ew) ⟨rfl, fin⟩) hs
theorem ix_tup : IxR X (rIxT X.K) := by
  intro value slice pins s σ H x y v u Q I rx ry h hs
  obtain ⟨p, xs, i, z, rfl, rfl, hq, he, q⟩ := h
  cases rx
  obtain ⟨t, rfl⟩ := ry
  obtain ⟨its, r, pl, hz⟩ := I.tuple hq
  obtain ⟨j, h1, h2, h3, h4, h5⟩ := atI_get he
  obtain ⟨w, ew, rw'⟩ := r.get h2
  have hl := r.length
  have hn := line63
  have fin : EP X pins σ Q w s := ⟨z, H, I, rw', q⟩
  exact subscriptTail_builtinR (x := w) pl.typeIs slot_tuple_getitem.lookup
    (getItem_tuple (j := j) (Q := fun r s' => r = w ∧ EP X pins σ Q r s') pl (by omega) (by omega) (by rw [List.size_toArray, ← hl]; exact h1) (by simpa using ew) ⟨rfl, fin⟩) hs
theorem mapSeq_set (its : List Value) (n j : Nat) (u : Value) : Obj.mapSeq (·.setIfInBounds j u) { cls := .type "list", data := .seq its.toArray n } = { cls := .type "list", data := .seq (its.set j u).toArray n } := by
  simp [Obj.mapSeq]
theorem Inv.lst {pins : List (Addr × Obj)} {σ : St} {H : Hp} {s : Shared} {p : Addr} {xs : List V} (I : Inv X pins σ H s) (h : H p = some (.lst xs)) :
    ∃ (its : List Value) (n : Nat), Vals xs its ∧ s.heap.get? p = some { cls := .type "list", data := .seq its.toArray n } ∧ xs.length ≤ sizeLine := by
  obtain ⟨z, its, n, r, e⟩ := I.hok p _ h
  exact ⟨its, n, r, e, z⟩
theorem Inv.lstUpd {pins : List (Addr × Obj)} {σ : St} {H : Hp} {s : Shared} {p : Addr} {xs ys : List V} {its its' : List Value} {n n' : Nat} {f : Obj → Obj} (I : Inv X pins σ H s) (h : H p = some (.lst xs))
    (ho : s.heap.get? p = some { cls := .type "list", data := .seq its.toArray n }) (hf : f { cls := .type "list", data := .seq its.toArray n } = { cls := .type "list", data := .seq its'.toArray n' }) (r : Vals ys its') (hz : ys.length ≤ sizeLine) (t : Nat) :
    Inv X pins σ (upd H p (.lst ys)) { s with heap := s.heap.update p f, toks := t } := by
  have e : (s.heap.update p f).get? p = some { cls := .type "list", data := .seq its'.toArray n' } := by
    rw [Heap.get?_update_self f ho (by rw [hf] <;> rfl), hf]
  refine I.write (x := p) (e := p) (by rw [h]; trivial) (.inl rfl) (fun b u hb q => (Heap.get?_update_other _ _ (Ne.symm hb)).trans q) ⟨_, e⟩ ?_
  exact ⟨hz, its', n', r, e⟩
noncomputable def rSetL : V → V → V → Hp → (Hp → Prop) → Prop := fun o i v H Q => ∃ p xs k j, o = .ref p ∧ i = .int k ∧ H p = some (.lst xs) ∧ ixN xs.length k = some j ∧ Q (upd H p (.lst (xs.set j v)))
theorem set_list : PSet X rSetL := by
  intro pins s σ H o i v ov iv u Q I ro ri rv h
  obtain ⟨p, xs, k, j, rfl, rfl, hp, hj, q⟩ := h
  cases ro
  obtain ⟨t, rfl⟩ := ri
  obtain ⟨its, n, r, ho, hz⟩ := I.lst hp
  obtain ⟨h1, h2, h3, h4⟩ := ixN_seq hj
  have hl := r.length
  have hn := line63
  have I' : Inv X pins σ (upd H p (.lst (xs.set j v))) { s with heap := s.heap.update p (Obj.mapSeq (·.setIfInBounds j u)) } :=
    I.lstUpd hp ho (mapSeq_set its n j u) (r.set rv j) (by rw [List.length_set]; exact hz) s.toks
  by_cases h0 : 0 ≤ k
  · have hk : k.toNat = j := by
      rw [seqIndex_of h0 h4] at h1
      exact Option.some.inj h1
    exact PySem.W.ki_setAt ho h0 (by omega) (by rw [List.size_toArray, ← hl]; exact h4) (by rw [hk]; exact ⟨_, I', q⟩)
  · have hk : (k + (its.toArray.size : Int)).toNat = j := by
      rw [seqIndex_neg (by omega) h3] at h1
      rw [List.size_toArray, ← hl]
      exact Option.some.inj h1
    exact PySem.W.ki_setBack ho (by omega) (by rw [List.size_toArray, ← hl]; exact h3) (by omega) (by rw [hk]; exact ⟨_, I', q⟩)
noncomputable def tyV (K : PySem.W.Frag) (T : String) (x : V) (H : Hp) : Prop := match x with
  | .str _ => T = "str"
  | .int _ => T = "int"
  | .ref p => (T = "list" ∧ ∃ xs, SqL K H p xs) ∨ (T = "tuple" ∧ ∃ o, K.lookup p = some o ∧ o.cls = .type "tuple" ∧ o.dict = none) ∨
      (T = "dict" ∧ ((∃ kvs, H p = some (.dK kvs)) ∨ ∃ kvs, H p = some (.dT kvs))) ∨ (T = "set" ∧ ∃ S n, H p = some (.set S n))
  | _ => False
theorem tyV_is {pins : List (Addr × Obj)} {σ : St} {H : Hp} {s : Shared} {T : String} {x : V} {v : Value} (I : Inv X pins σ H s) (r : RelV x v) (ty : tyV X.K T x H) :
    s.TypeIs v T ∧ ∀ a, v = .ref a → ∃ ob, s.heap.get? a = some ob ∧ ob.dict = none := by
  cases x with
  | str z =>
    obtain ⟨t, rfl⟩ := r
    cases (show T = "str" from ty)
    exact ⟨typeIs_str s z t, fun _ e => nomatch e⟩
  | int i =>
    obtain ⟨t, rfl⟩ := r
    cases (show T = "int" from ty)
    exact ⟨typeIs_int s i t, fun _ e => nomatch e⟩
  | ref p =>
    cases r
    rcases ty with ⟨rfl, xs, hq⟩ | ⟨rfl, o, hk, hc, hd⟩ | ⟨rfl, hk⟩ | ⟨rfl, S, n, hk⟩
    · obtain ⟨its, _, pl, _⟩ := I.list hq
      refine ⟨pl.isList.typeIs, fun a e => ?_⟩
      cases e
      obtain ⟨o, n, e, c, hd, _⟩ := pl
      exact ⟨o, e, hd⟩
    · refine ⟨⟨o, I.kIn p o hk, hc⟩, fun a e => ?_⟩
      cases e
      exact ⟨o, I.kIn _ o hk, hd⟩
    · have z : ∃ o, s.heap.get? p = some o ∧ o.ExactDict := by
        rcases hk with ⟨kvs, hk⟩ | ⟨kvs, hk⟩
        · obtain ⟨_, _, _, _, o, _, _, e, ex, _⟩ := I.hok p _ hk
          exact ⟨o, e, ex⟩
        · obtain ⟨_, _, _, _, o, _, _, e, ex, _⟩ := I.hok p _ hk
          exact ⟨o, e, ex⟩
      obtain ⟨o, e, ex⟩ := z
      refine ⟨⟨o, e, ex.1⟩, fun a e2 => ?_⟩
      cases e2
      exact ⟨o, e, ex.2.1⟩
    · obtain ⟨o, _, _, _, e, ex, _⟩ := I.hok p _ hk
      refine ⟨⟨o, e, ex.1⟩, fun a e2 => ?_⟩
      cases e2
      exact ⟨o, e, ex.2.1⟩
  | _ => exact False.elim ty
noncomputable def tBM0 (K : PySem.W.Frag) (T : String) (r : V → List V → Hp → VK → Prop) (to : TE) : TE := fun σ H Q => to σ H fun x H1 => tyV K T x H1 ∧ r x [] H1 Q
noncomputable def tBM (K : PySem.W.Frag) (T : String) (r : V → List V → Hp → VK → Prop) (to : TE) (t : TA) : TE := fun σ H Q => to σ H fun x H1 => tyV K T x H1 ∧ t σ H1 fun xs H2 => r x xs H2 Q
variable {o e : Expr} {es : List Expr} {to : TE} {t : TA} {name : Str} {apos cpos : Pos} {T id : String} {r : V → List V → Hp → VK → Prop}
theorem pe_bm0 (pa : PlainAttrs T) (slot : Slot T name id) (hty : typeOf (.builtin id) = pure (.type "method_descriptor")) (hm : MtR X id r) (ho : PE X o to)
    (hbase : attributeBase o name X.env (eval o X.env) = eval o X.env := by rfl) (hline : (apos.endLine == cpos.line) = true := by rfl) : PE X (.Call (.Attribute o name apos) [] [] cpos) (tBM0 X.K T r to) := by
  intro pins s σ H Q I h
  refine wpAny_Call_method0_late hbase hline (thn (ho pins s σ H _ I h) fun v s1 zz => ?_)
  obtain ⟨x, H1, I1, r1, ty, q1⟩ := zz
  obtain ⟨h1, h2⟩ := tyV_is I1 r1 ty
  exact ⟨T, id, pa, slot, hty, h1, h2, Calls.callWith_builtin rfl (PySem.evalArgs_none (hm pins s1 σ H1 x [] v [] Q I1 r1 .nil q1))⟩
theorem pe_bm (pa : PlainAttrs T) (slot : Slot T name id) (hty : typeOf (.builtin id) = pure (.type "method_descriptor")) (hm : MtR X id r) (ho : PE X o to) (ha : PA X (e :: es) t)
    (hbase : attributeBase o name X.env (eval o X.env) = eval o X.env := by rfl)
    (hfew : ((backTo cpos (starEach (e :: es) X.env)).all (fun x => !x.1) && (backToKw cpos (keywordEach [] X.env)).all (fun x => x.1.isSome)
      && decide ((e :: es).length + ([] : List Keyword).length + (if ([] : List Keyword).isEmpty then 0 else 1) < 30)) = true := by rfl)
    (hline : (apos.endLine == cpos.line) = true := by rfl) (hs : starEach (e :: es) X.env = (false, eval e X.env) :: starEach es X.env := by rfl) (hplain : (backTo cpos (starEach es X.env)).any (·.1) = false := by rfl) :
    PE X (.Call (.Attribute o name apos) (e :: es) [] cpos) (tBM X.K T r to t) := by
  intro pins s σ H Q I h
  refine wpAny_Call_method_late hbase hfew hline rfl (thn (ho pins s σ H _ I h) fun v s1 zz => ?_)
  obtain ⟨x, H1, I1, r1, ty, q1⟩ := zz
  obtain ⟨h1, h2⟩ := tyV_is I1 r1 ty
  refine ⟨T, id, pa, slot, hty, h1, h2, ?_⟩
  have hA := ha cpos pins s1 σ H1 _ I1 q1
  rw [hs] at hA ⊢
  refine Calls.callWith_builtin (by show (false || (backTo cpos (starEach es X.env)).any (·.1)) = false; rw [hplain] <;> rfl) (Calls.evalArgs_plain ?_)
  exact thn hA fun us s2 ⟨vs, H2, I2, r2, q2⟩ => hm pins s2 σ H2 x vs v us Q I2 r1 r2 q2
end
end L2
namespace L2
open PySem PySem.Spec PyProof.Rows
noncomputable def MtM (X : Cx) (id : String) (r : V → List V → Hp → VK → Prop) : Prop :=
  ∀ (pins : List (Addr × Obj)) (s : Shared) (σ : St) (H : Hp) (x : V) (xs : List V) (v : Value) (us : List Value) (Q : VK), Inv X pins σ H s → RelV x v → Vals xs us → r x xs H Q →
    wpAny (model X.prog X.w) X.A (call (.builtin id) (v :: us)) (EP X pins σ Q) X.xe s
theorem Vals.one : ∀ {x : V} {us : List Value}, Vals [x] us → ∃ u, us = [u] ∧ RelV x u
  | _, _, .cons r .nil => ⟨_, rfl, r⟩
theorem Vals.two : ∀ {x y : V} {us : List Value}, Vals [x, y] us → ∃ u v, us = [u, v] ∧ RelV x u ∧ RelV y v
  | _, _, _, .cons r (.cons q .nil) => ⟨_, _, rfl, r, q⟩
section
variable {X : Cx} {pins : List (Addr × Obj)} {σ : St} {H : Hp} {s : Shared} {l b : Addr} {xs ys zs : List V}
theorem Inv.lset {its its' : List Value} {n : Nat} {f : Array Value → Array Value} {t' : Nat} (I : Inv X pins σ H s) (hH : H l = some (.lst xs))
    (e : s.heap.get? l = some { cls := .type "list", data := .seq its.toArray n }) (hf : f its.toArray = its'.toArray) (hv : Vals ys its') (hz : ys.length ≤ sizeLine) :
    Inv X pins σ (upd H l (.lst ys)) { s with heap := s.heap.update l (Obj.mapSeq f), toks := t' } := by
  have q := PySem.IsL.update e f
  rw [hf] at q
  refine I.write (x := l) (e := l) (by rw [hH]; exact trivial) (.inl rfl) (fun b' u hb hu => (Heap.get?_update_other s.heap (Obj.mapSeq f) (Ne.symm hb)).trans hu) ⟨_, q⟩ ?_
  exact ⟨hz, its', _, hv, q⟩
theorem Inv.lstM (I : Inv X pins σ H s) (hH : H l = some (.lst xs)) : xs.length ≤ sizeLine ∧ ∃ (its : List Value) (n : Nat), Vals xs its ∧ xs.length = its.length ∧ s.heap.get? l = some { cls := .type "list", data := .seq its.toArray n } := by
  obtain ⟨z, its, n, r, e⟩ := I.hok l _ hH
  exact ⟨z, its, n, r, r.length, e⟩
end
section
variable {X : Cx}
noncomputable def rAppend : V → List V → Hp → VK → Prop := fun x vs H Q => ∃ l xs y, x = .ref l ∧ vs = [y] ∧ H l = some (.lst xs) ∧ xs.length < sizeLine ∧ Q .non (upd H l (.lst (xs ++ [y])))
theorem mt_append : MtM X "list.append" rAppend := by
  intro pins s σ H x vs v us Q I rx rv h
  obtain ⟨l, xs, y, rfl, rfl, hH, hz, q⟩ := h
  cases rx
  obtain ⟨u, rfl, ru⟩ := rv.one
  obtain ⟨z, its, n, r, hl, e⟩ := I.lstM hH
  refine call_meets F.slot_list_append ⟨_, e, rfl⟩ F.entry_list_append (F.args_list_append_2 _ _) (PySem.list_append l its.toArray n u (by rw [List.size_toArray]; omega)) ⟨e, ?_⟩
  refine ⟨.non, _, I.lset (its' := its ++ [u]) hH e (by simp) (r.append (.cons ru .nil)) ?_, rfl, q⟩
  rw [List.length_append, List.length_singleton]
  omega
end
section
variable {prog : Program} {w : World} {A : Around} {E : Value → Shared → Prop} {s : Shared}
end
section
variable {X : Cx}
end
end L2
namespace Att
open PySem PySem.W PySem.Calls PyProof.Rows
theorem ints_of_wellAll {P : Params} {h : Heap} : ∀ (ns : List Int) (vs : List Value), WellAll P h vs (ns.map WData.int) → IntsAre vs ns := by
  intro ns
  induction ns with
  | nil =>
    intro vs w
    rw [List.map_nil] at w
    cases w
    exact .nil
  | cons n ns ih =>
    intro vs w
    rw [List.map_cons] at w
    cases w with
    | cons a b =>
      cases a
      exact .cons _ _ (ih _ b)
theorem script_of {l : OpenLaw} {n : Nat} (hn : l.most = some n) {P : Params} {h : Heap} {args : List WData} {vals : List Value}
    (hpre : l.row.toRowW.claim.pre args = true) (hwl : WellAll P h vals args) :
    ∃ a vs ns, vals = [Value.ref a] ∧ args = [WData.list (ns.map WData.int)] ∧ h.get? a = some { cls := .type "list", data := .seq vs.toArray } ∧ IntsAre vs ns ∧ ns.length ≤ n := by
  have hsh : WShape.hasAll [] args [.list .int] = true := (pre_splitW hpre).1
  have hc : l.pre.holds [] { args := args } = true := (pre_splitW hpre).2
  obtain ⟨d, r, rfl, h1, h2⟩ := hasAllW_cons hsh
  obtain rfl := hasAllW_nil h2
  obtain ⟨xs, rfl, h3⟩ := hasW_list h1
  obtain ⟨ns, rfl⟩ := items_int h3
  have hlen : ns.length ≤ n := by
    unfold OpenLaw.pre at hc
    have h4 : (WTm.not (.lt (.lit (.int (n : Int))) (.len (.arg 0)))).holds [] { args := [.list (ns.map .int)] } = true := by
      have h4 := (holds_andW hc).1
      rw [hn] at h4
      exact h4
    have h5 := condW_of h4 (w_not (w_lt w_lit (w_len_list (w_arg rfl))))
    rw [List.length_map] at h5
    refine Nat.le_of_not_lt fun q => ?_
    have q' : (n : Int) < ((ns.length : Nat) : Int) := by omega
    first
      | (rw [decide_eq_true q'] at h5; exact absurd h5 (by decide))
      | (simp at h5; omega)
  cases hwl with
  | cons w1 w2 =>
    cases w2
    cases w1 with
    | list ho hall => exact ⟨_, _, ns, rfl, rfl, ho, ints_of_wellAll ns _ hall, hlen⟩
theorem post_true (l : OpenLaw) (args : List WData) : l.row.toRowW.claim.post args (.bool true) args = true :=
  postW_of (r := l.row.toRowW) (X := (true == true))
    (show WShape.has [] (.bool true) .bool = true by first | rfl | decide | simp [WShape.has, WShape.arms, WShape.armsAll])
    (show (WTm.eq .res (.lit (.bool true))).value [] { args := args, res := some (.bool true), after := args } = some (.bool (true == true)) from w_eq_bool (w_res rfl) w_lit) rfl
section
variable {prog : Program} {w : World} {A : Around} {E : Value → Shared → Prop} {s : Shared} {K : Frag}
end
end Att
namespace L2
open PySem PySem.Spec PyProof.Rows
theorem vals_ints : ∀ {vs : List Value} {ns : List Int}, IntsAre vs ns → Vals (ns.map V.int) vs
  | _, _, .nil => .nil
  | _, _, .cons n t h => .cons ⟨t, rfl⟩ (vals_ints h)
noncomputable def Only (H : Hp) : Prop := ∀ b, H b = none ∨ ∃ o xs, H b = some (.frz o (.lst xs))
theorem law_call {P : Program} {w : World} {K : PySem.W.Frag} {mg mb : Str → Option Value} {CX : CXT} {k : Nat} {fa a : Addr} {fd : FuncData} {x : Str} {sp : Sp} {s₁ : Shared} {vs : List Value} {ns : List Int}
    (KX : K.In s₁.heap) (hns : s₁.heap.Ns mainGlobals mg) (hb : s₁.heap.Ns builtinsNs mb) (hbb : ∀ x : Str, x ≠ "__name__" → mb x = bootBuiltins x) (hlim : s₁.heap.NoLimit) (hg : s₁.gens = #[])
    (ha : s₁.heap.get? a = some { cls := .type "list", data := .seq vs.toArray }) (hi : IntsAre vs ns) (hl : ns.length ≤ sizeLine) (hr : Room k callerA)
    (F : ∀ base : Heap, K.In base → base.Ns mainGlobals mg → FnOk P w K mg base CX k fa fd [x] sp) (hbind : ∀ (s : Shared) (u : Value), BindsTo s fd ⟨[u], []⟩ [(x, u)])
    (hsp : ∀ H : Hp, Only H → SqL K H a (ns.map V.int) → sp [.ref a] H (fun v _ => v = .bl true) fun _ _ _ => False)
    (hCX : ∀ H e s', CX [] H s₁ (fun _ _ _ => False) e s' → False) :
    codeAny (model P w) callerA (.call (.ref fa) ⟨[.ref a], []⟩) (fun r s' => r = .ok (.ret (.bool true)) ∧ OldK s₁.heap s'.heap ∧ s'.os = s₁.os ∧ AllBare s'.gens) s₁ := by
  have rv := vals_ints hi
  have lenV := hi.length
  have core : ∀ H : Hp, Only H → SqL K H a (ns.map V.int) → HOk P w H s₁.heap → (∀ b, H b ≠ none → b = a) → (H a ≠ none → K.lookup a = none) →
      codeAny (model P w) callerA (.call (.ref fa) ⟨[.ref a], []⟩) (fun r s' => r = .ok (.ret (.bool true)) ∧ OldK s₁.heap s'.heap ∧ s'.os = s₁.os ∧ AllBare s'.gens) s₁ := by
    intro H hO hS hok hA hK
    have base_of : ∀ {b : Addr} {o : Obj}, s₁.heap.get? b = some o → H b = none → (hidT s₁.heap H).get? b = some o := fun e n => hidT_get e n
    have noA : ∀ {b : Addr} {o : Obj} {es : Array DictEntry} {ep : Nat}, s₁.heap.get? b = some o → o.data = .dict es ep → H b = none := fun {b o es ep} e d => by
      cases q : H b with
      | none => rfl
      | some u =>
        have e' : b = a := hA b (by rw [q]; simp)
        subst e'
        rw [ha] at e; cases e
        have d' : Data.seq vs.toArray _ = Data.dict es ep := d
        cases d'
    have nsK : ∀ {b : Addr} {m : Str → Option Value}, s₁.heap.Ns b m → (hidT s₁.heap H).Ns b m := fun {b m} ⟨o, es, ep, e, d, r⟩ => ⟨o, es, ep, base_of e (noA e d), d, r⟩
    have hKb : K.In (hidT s₁.heap H) := fun b o e => base_of (KX b o e) (by
      cases q : H b with
      | none => rfl
      | some u =>
        have e' : b = a := hA b (by rw [q]; simp)
        subst e'
        rw [hK (by rw [q]; simp)] at e; cases e)
    have hM : Mod K mg (hidT s₁.heap H) := ⟨hKb, nsK hns, ⟨mb, nsK hb, hbb⟩, let ⟨mc, h1, h2⟩ := hlim; ⟨mc, nsK h1, h2⟩⟩
    have e0 : Env0 P w K mg (hidT s₁.heap H) callerA [] s₁ H := ⟨rfl, hM, fun b o e => of_hidT e, Nat.le_of_eq (hidT_size _ _), trivial, fun b hb => absurd (show b ∈ ([] : List Addr) from hb) (by simp), hok, .of_eq hg⟩
    refine codeAny_mono ((F _ hKb (nsK hns)).run callerA [] s₁ H ⟨[.ref a], []⟩ [.ref a] [.ref a] _ _ hr e0 (hbind s₁ (.ref a)) (.cons rfl .nil) (hsp H hO hS)) fun r s' h => ?_
    cases r with
    | error e => exact (hCX H e s' h).elim
    | ok fl =>
      cases fl with
      | next => exact False.elim h
      | brk => exact False.elim h
      | cont => exact False.elim h
      | ret u =>
        obtain ⟨v, H', os, bare, un, hok', r', q⟩ := h
        have q' : v = .bl true := q
        subst q'
        obtain rfl : u = Value.bool true := r'
        refine ⟨rfl, OldK.of_keep fun b o e => ?_, os, bare⟩
        cases q : H b with
        | none => exact un.keep b o e q (by intro z; exact absurd (show b ∈ ([] : List Addr) from z) (by simp)) (by simp)
        | some u =>
          rcases hO b with z | ⟨ob, xs, z⟩
          · rw [q] at z; cases z
          · have z2 := un.frzs b ob _ z
            obtain ⟨e1, _⟩ := hok b _ z
            obtain ⟨e2, _⟩ := hok' b _ z2
            rw [e] at e1; cases e1
            exact e2
  cases hk : K.lookup a with
  | some o =>
    have e := KX a o hk
    rw [ha] at e
    cases e
    refine core (fun _ => none) (fun _ => .inl rfl) (.inr ⟨_, vs.toArray, _, hk, rfl, rfl, rfl, by rw [List.size_toArray, lenV]; exact hl, by simpa using rv⟩) (fun b u z => by have z' : (none : Option HO) = some u := z; cases z') (fun b z => absurd rfl z) fun z => absurd rfl z
  | none =>
    refine core (fun b => if b = a then some (.frz { cls := .type "list", data := .seq vs.toArray } (.lst (ns.map V.int))) else none) (fun b => ?_) (.inl (.inr ⟨{ cls := .type "list", data := .seq vs.toArray }, if_pos rfl⟩)) (fun b u z => ?_) (fun b z => ?_) fun _ => hk
    · by_cases hb : b = a
      · exact .inr ⟨_, _, if_pos hb⟩
      · exact .inl (if_neg hb)
    · by_cases hb : b = a
      · have z' := (if_pos hb).symm.trans z
        cases z'
        subst hb
        exact ⟨ha, by rw [List.length_map]; exact hl, vs, _, rv, ha⟩
      · have z' := (if_neg hb).symm.trans z
        cases z'
    · by_cases hb : b = a
      · exact hb
      · exact absurd (if_neg hb) z
end L2
namespace L2
open PySem PySem.Spec PyProof.Rows
end L2
namespace L2
open PySem PySem.Spec PyProof.Rows
noncomputable def defArgs (s : Stmt) : Arguments := match s with
  | .FunctionDef _ a _ _ _ _ _ _ _ _ => a
  | _ => { posonlyargs := [], args := [], vararg := none, kwonlyargs := [], kw_defaults := [], kwarg := none, defaults := [] }
noncomputable def defBody (s : Stmt) : List Stmt := match s with
  | .FunctionDef _ _ b _ _ _ _ _ _ _ => b
  | _ => []
noncomputable def defScope (s : Stmt) : Scope := match s with
  | .FunctionDef _ _ _ _ _ _ sc _ _ _ => sc
  | _ => { kind := .function, names := [], isGenerator := false, isCoroutine := false }
noncomputable abbrev E0 : XK := fun _ _ _ => False
section
variable {P : Program} {w : World} {K : PySem.W.Frag} {mg : Str → Option Value} {base : Heap}
end
section
variable {X : Cx}
theorem pv (i : Nat) {x : Str} {pos : Pos} (hN : X.N[i]? = some x := by rfl) (hv : Vis X.env.scope x := by first | exact Or.inl rfl | exact Or.inr (Or.inl rfl) | exact Or.inr (Or.inr rfl)) (hd : (x == ("__debug__" : Str)) = false := by decide)
    (hcd : (x == ("__classdict__" : Str)) = false := by decide) : PE X (.Name x pos) (tVar i) := pe_var hN hv hd hcd
end
theorem iteF {A B : Prop} (h : B) : if false = true then A else B := by
  rw [if_neg Bool.false_ne_true]
  exact h
theorem iteT {A B : Prop} (h : A) : if true = true then A else B := by
  rw [if_pos rfl]
  exact h
noncomputable def Same (H H' : Hp) : Prop := ∀ b o, H b = some o → H' b = some o
theorem Same.refl (H : Hp) : Same H H := fun _ _ h => h
theorem Same.trans {H H1 H2 : Hp} (a : Same H H1) (b : Same H1 H2) : Same H H2 := fun c o h => b c o (a c o h)
theorem Same.seq {K : PySem.W.Frag} {H H' : Hp} {a : Addr} {xs : List V} (e : Same H H') (h : SqL K H a xs) : SqL K H' a xs := by
  rcases h with (h | ⟨o, h⟩) | h
  · exact .inl (.inl (e _ _ h))
  · exact .inl (.inr ⟨o, e _ _ h⟩)
  · exact .inr h
end L2
set_option maxRecDepth 100000
namespace Kw
theorem gcd_step (g s : Int) (hg : 0 ≤ g) (hs : 0 < s) : Int.gcd s (g % s) = Int.gcd g s := by
  obtain ⟨m, rfl⟩ := Int.eq_ofNat_of_zero_le hg
  obtain ⟨n, rfl⟩ := Int.eq_ofNat_of_zero_le (Int.le_of_lt hs)
  have e : ((m : Int) % (n : Int)) = ((m % n : Nat) : Int) := by omega
  rw [e]
  show Nat.gcd n (m % n) = Nat.gcd m n
  rw [Nat.gcd_comm m n, Nat.gcd_rec n m, Nat.gcd_comm]
theorem gcd_abs (a b : Int) : Int.gcd (if a < 0 then -a else a) (if b < 0 then -b else b) = Int.gcd a b := by
  have e : ∀ x : Int, (if x < 0 then -x else x).natAbs = x.natAbs := fun x => by split <;> omega
  show Nat.gcd _ _ = Nat.gcd _ _
  rw [e, e]
theorem gcd_end (g : Int) (hg : 0 ≤ g) : ((Int.gcd g 0 : Nat) : Int) = g := by
  show ((Nat.gcd g.natAbs 0 : Nat) : Int) = g
  rw [Nat.gcd_zero_right]; omega
theorem abs_nn (a : Int) : 0 ≤ (if a < 0 then -a else a) := by split <;> omega
noncomputable def dv (t b : Int) : Int := if b < 0 then -((Int.gcd t b : Nat) : Int) else ((Int.gcd t b : Nat) : Int)
noncomputable def fT (t b : Int) : Int := t.fdiv (dv t b)
noncomputable def fB (t b : Int) : Int := b.fdiv (dv t b)
theorem dv_ne {t b : Int} (h : b ≠ 0) : dv t b ≠ 0 := by
  have hp : 0 < Int.gcd t b := Int.gcd_pos_of_ne_zero_right _ h
  unfold dv; split <;> omega
theorem dv_le {t b : Int} (h : b ≠ 0) : (dv t b).natAbs ≤ b.natAbs := by
  have hd : Int.gcd t b ∣ b.natAbs := Nat.gcd_dvd_right _ _
  have := Nat.le_of_dvd (by omega) hd
  unfold dv; split <;> omega
theorem dv_dvd_b (t b : Int) : dv t b ∣ b := by
  have h : ((Int.gcd t b : Nat) : Int) ∣ b := Int.gcd_dvd_right ..
  unfold dv; split
  · exact (Int.neg_dvd).mpr h
  · exact h
theorem dv_dvd_t (t b : Int) : dv t b ∣ t := by
  have h : ((Int.gcd t b : Nat) : Int) ∣ t := Int.gcd_dvd_left ..
  unfold dv; split
  · exact (Int.neg_dvd).mpr h
  · exact h
theorem fT_mul (t b : Int) : dv t b * fT t b = t := by
  unfold fT
  exact Int.mul_fdiv_cancel' (dv_dvd_t t b)
theorem fB_mul (t b : Int) : dv t b * fB t b = b := by
  unfold fB
  exact Int.mul_fdiv_cancel' (dv_dvd_b t b)
theorem fB_pos {t b : Int} (h : b ≠ 0) : 0 < fB t b := by
  have e := fB_mul t b
  have hn := dv_ne (t := t) h
  have hg : 0 ≤ ((Int.gcd t b : Nat) : Int) := Int.natCast_nonneg _
  rcases Int.lt_or_gt_of_ne h with hb | hb
  · have hd : dv t b < 0 := by unfold dv at hn ⊢; rw [if_pos hb] at hn ⊢; omega
    refine Int.not_le.mp fun q => ?_
    have := Int.mul_nonneg_of_nonpos_of_nonpos (Int.le_of_lt hd) q
    omega
  · have hd : 0 < dv t b := by unfold dv at hn ⊢; rw [if_neg (by omega)] at hn ⊢; omega
    refine Int.not_le.mp fun q => ?_
    have := Int.mul_nonpos_of_nonneg_of_nonpos (Int.le_of_lt hd) q
    omega
theorem natAbs_le_mul {d x : Int} (h : d ≠ 0) : x.natAbs ≤ (d * x).natAbs := by
  rw [Int.natAbs_mul]
  exact Nat.le_mul_of_pos_left _ (by omega)
theorem fT_le {t b : Int} (h : b ≠ 0) : (fT t b).natAbs ≤ t.natAbs := by
  have q := natAbs_le_mul (x := fT t b) (dv_ne (t := t) h)
  rw [fT_mul] at q; exact q
theorem fB_le {t b : Int} (h : b ≠ 0) : (fB t b).natAbs ≤ b.natAbs := by
  have q := natAbs_le_mul (x := fB t b) (dv_ne (t := t) h)
  rw [fB_mul] at q; exact q
end Kw
set_option Elab.async false
set_option linter.all false
set_option maxRecDepth 100000
set_option maxHeartbeats 4000000
namespace Kw
open PySem PySem.Spec PyProof.Rows L2
noncomputable def But (b : Addr) (H H' : Hp) : Prop := ∀ a o, a ≠ b → H a = some o → H' a = some o
theorem But.refl {b : Addr} (H : Hp) : But b H H := fun _ _ _ h => h
theorem But.trans {b : Addr} {H H1 H2 : Hp} (x : But b H H1) (y : But b H1 H2) : But b H H2 := fun a o n h => y a o n (x a o n h)
theorem But.of {b : Addr} {H H' : Hp} (x : Same H H') : But b H H' := fun a o _ h => x a o h
theorem same_new {H : Hp} {p : Addr} (h : H p = none) (o : HO) : Same H (upd H p o) := fun b u q => by rw [upd_ne (ne_of_none q h)]; exact q
theorem but_upd {H : Hp} {p : Addr} (o : HO) : But p H (upd H p o) := fun b u n q => by rw [upd_ne n]; exact q
theorem Same.tup {K : PySem.W.Frag} {H H' : Hp} {a : Addr} {xs : List V} (e : Same H H') (h : SqT K H a xs) : SqT K H' a xs := by
  rcases h with (h | ⟨o, h⟩) | h
  · exact .inl (.inl (e _ _ h))
  · exact .inl (.inr ⟨o, e _ _ h⟩)
  · exact .inr h
theorem But.tup {K : PySem.W.Frag} {H H' : Hp} {b a : Addr} {ys xs : List V} (e : But b H H') (hb : H b = some (.lst ys)) (h : SqT K H a xs) : SqT K H' a xs := by
  rcases h with (h | ⟨o, h⟩) | h
  · exact .inl (.inl (e _ _ (ne_of h hb (by intro z; cases z)) h))
  · exact .inl (.inr ⟨o, e _ _ (ne_of h hb (by intro z; cases z)) h⟩)
  · exact .inr h
theorem But.seq {K : PySem.W.Frag} {H H' : Hp} {b a : Addr} {xs : List V} (e : But b H H') (n : a ≠ b) (h : SqL K H a xs) : SqL K H' a xs := by
  rcases h with (h | ⟨o, h⟩) | h
  · exact .inl (.inl (e _ _ n h))
  · exact .inl (.inr ⟨o, e _ _ n h⟩)
  · exact .inr h
section
variable {σ : L2.St} {H : Hp} {Q : VK} {v : V} {i j : Int} {K : PySem.W.Frag} {p : Addr} {xs : List V}
theorem rd_new {R : V → Hp → Prop} {o : HO} (h : ∀ p H', Same H H' → H' p = some o → R (.ref p) H') : ∀ p, H p = none → R (.ref p) (upd H p o) := fun p hp => h p _ (same_new hp o) upd_same
end
theorem if_cases {c : Bool} {A B : Prop} (h1 : c = true → A) (h2 : c = false → B) : if c = true then A else B := by
  cases c
  · exact iteF (h2 rfl)
  · exact iteT (h1 rfl)
theorem if_dec {c : Prop} [Decidable c] {A B : Prop} (h1 : c → A) (h2 : ¬ c → B) : if decide c = true then A else B :=
  if_cases (fun e => h1 (of_decide_eq_true e)) (fun e => h2 (of_decide_eq_false e))
theorem if_decI {i j : Int} {A B : Prop} (h1 : i = j → A) (h2 : i ≠ j → B) : if decide (V.int i = V.int j) = true then A else B :=
  if_dec (fun e => h1 (V.int.inj e)) (fun e => h2 fun z => e (congrArg V.int z))
theorem if_neI {i j : Int} {A B : Prop} (h1 : i ≠ j → A) (h2 : i = j → B) : if (!decide (V.int i = V.int j)) = true then A else B := by
  by_cases e : i = j
  · rw [show decide (V.int i = V.int j) = true by simp [e]]; exact iteF (h2 e)
  · rw [show decide (V.int i = V.int j) = false by simp [e]]; exact iteT (h1 e)
section
variable {X : Cx} {a b c : Expr} {ta tb tc : TE} {pos : Pos}
noncomputable def CDivB (_ j : Int) : Prop := j ≠ 0 ∧ j.natAbs.log2 < 9000
theorem op_fdivB : OpR X (binaryOp .FloorDiv) (rI CDivB fun i j => .int (i.fdiv j)) := opI fun _ _ _ _ _ _ _ hc q => floordiv_int hc.1 q (.inl (PyProof.noPylong_of_log2 hc.2))
theorem op_mulB : OpR X (binaryOp .Mult) (rI IntMulOk fun i j => .int (i * j)) := opI fun _ _ _ _ _ _ _ hc q => mul_int q hc
theorem call_divmodB : CallR X (.builtin "divmod") (fun xs H Q => ∃ i j, xs = [.int i, .int j] ∧ (0 < j ∧ j.natAbs.log2 < 9000) ∧ ∀ p, H p = none → Q (.ref p) (upd H p (.tup [.int (i / j), .int (i % j)]))) := by
  intro pins s σ H xs us Q I r h
  obtain ⟨i, j, rfl, ⟨h1, h2⟩, q⟩ := h
  obtain ⟨u, w', rfl, ⟨t, rfl⟩, ⟨t', rfl⟩⟩ := vals2 r
  refine divmod_int (by omega) ?_ (.inl (PyProof.noPylong_of_log2 h2))
  rw [Int.fdiv_eq_ediv_of_nonneg i (by omega), Int.fmod_eq_emod_of_nonneg i (by omega)]
  have hn : H s.heap.objs.size = none := I.hok.fresh (Nat.le_refl _)
  refine ⟨.ref s.heap.objs.size, _, ?_, rfl, q _ hn⟩
  refine I.laid (fun b o e => Heap.get?_push_of_some _ e) (Nat.le_refl _) ⟨by simp only [List.length_cons, List.length_nil]; rw [sizeLine_eq]; decide, [.int (i / j) s.toks, .int (i % j) (s.toks + 1)], .cons ⟨_, rfl⟩ (.cons ⟨_, rfl⟩ .nil), ?_⟩
  exact ⟨_, Heap.get?_push_size s.heap rfl, rfl, 0, rfl⟩
theorem pe_globI {x : Str} {i : Int} {pos : Pos} (hg : Gl X x) (hm : ∃ t, X.mg x = some (.int i t)) (hd : (x == ("__debug__" : Str)) = false := by decide) (hcd : (x == ("__classdict__" : Str)) = false := by decide) : PE X (.Name x pos) (tC (.int i)) := by
  obtain ⟨t, hm⟩ := hm
  exact pe_glob hg hm ⟨t, rfl⟩ hd
theorem pe_bty {x : Str} {T : String} {pos : Pos} (hg : Gl X x) (hm : X.mg x = none) (hv : bootBuiltins x = some (.type T)) (hn : x ≠ "__name__" := by decide) (hd : (x == ("__debug__" : Str)) = false := by decide) : PE X (.Name x pos) (tC (.ty T)) :=
  pe_bltn hg hm hv (v := .ty T) rfl hn hd
noncomputable def valC : V → Value
  | .ty T => .type T
  | .ref C => .ref C
  | _ => .none
noncomputable def IsI (K : PySem.W.Frag) (H : Hp) (x c : V) (b : Bool) : Prop := ∃ t, TyOf K H x t ∧ PySem.W.kitOne K t (valC c) = some b
theorem call_isinst : CallR X (.builtin "isinstance") (fun xs H Q => ∃ x c b, xs = [x, c] ∧ ((∃ T, c = .ty T) ∨ ∃ C, c = .ref C) ∧ IsI X.K H x c b ∧ Q (.bl b) H) := by
  intro pins s σ H xs us Q I r h
  obtain ⟨x, c, b, rfl, hc, ⟨t, ty, e⟩, q⟩ := h
  obtain ⟨u, w', rfl, rx, rc⟩ := vals2 r
  have ec : w' = valC c := by
    rcases hc with ⟨T, rfl⟩ | ⟨C, rfl⟩
    · exact rc
    · exact rc
  subst ec
  exact isinst_ok I rx ty e fun tk => ⟨.bl b, H, I.tok _, rfl, q⟩
end
end Kw
set_option Elab.async false
set_option linter.all false
set_option maxRecDepth 100000
set_option maxHeartbeats 4000000
namespace Kw
open PySem PySem.Spec PyProof.Rows L2
section
variable {M : Model} {A : Around} {E : Value → Shared → Prop} {s : Shared} {bs : Heap} {l up : List Env} {env : Env} {x L : Addr} {c : Value} {od : Option Addr} {a0 fl : Value} {Q : Unit → Shared → Prop}
end
end Kw
set_option Elab.async false
set_option linter.all false
set_option maxRecDepth 100000
set_option maxHeartbeats 4000000
namespace Kw
open PySem PySem.Spec PyProof.Rows L2
structure FlyAt (H : Hp) (h0 h : Heap) (x : Addr) (C : Value) (od : Option Addr) : Prop where
  new : h0.get? x = none
  free : H x = none
  tr : ∃ oe vs a0 T oT ts, h.get? x = some oe ∧ oe.cls = C ∧ oe.dict = od ∧ oe.data = .fields vs ∧ vs[0]? = some a0 ∧ vs[1]? = some (.ref T) ∧ h0.get? T = none ∧ H T = none ∧ T ≠ x ∧ h.get? T = some oT ∧ oT.data = .fields ts ∧ ts[3]? = some .none
noncomputable def CXE (P : Program) (w : World) : CXT := fun outer H s E e s' =>
  ∃ (x : Addr) (C : Value) (od : Option Addr) (H' : Hp), e = .ref x ∧ s'.os = s.os ∧ AllBare s'.gens ∧ Un (frs outer) [] H H' s.heap s'.heap ∧ HOk P w H' s'.heap ∧ FlyAt H' s.heap s'.heap x C od ∧ E C od H'
theorem passE0 {P : Program} {w : World} {X : Cx} : Passes (CXE P w) X E0 := fun _ _ _ _ _ _ _ h => by
  obtain ⟨_, _, _, _, _, _, _, _, _, _, q⟩ := h
  exact q.elim
section
variable {X : Cx} {pins : List (Addr × Obj)} {σ : L2.St} {H : Hp} {s : Shared} {h' : Heap} {ch : List Addr}
structure Flown (X : Cx) (H : Hp) (h h' : Heap) (ch : List Addr) : Prop where
  keep : ∀ b o, h.get? b = some o → b ∉ frs X.stack → b ∉ ch → h'.get? b = some o
  slot : ∀ b o, h.get? b = some o → b ∈ frs X.stack → ∃ sl, h'.get? b = some { o with slots := sl }
  young : ∀ b ∈ ch, X.s₀.heap.get? b = none ∧ H b = none
end
end Kw
set_option Elab.async false
set_option linter.all false
set_option maxRecDepth 100000
set_option maxHeartbeats 4000000
namespace Kw
open PySem PySem.Spec PyProof.Rows L2
section
variable {X : Cx} {x : Str} {C : Addr} {E : XK} {e : Expr} {es : List Expr} {t : TA} {np cpos pos : Pos}
end
structure Fu (K : PySem.W.Frag) (x : Str) (st : Stmt) (f : Addr) (fd : FuncData) : Prop where
  ex : ∃ (oc : Value) (od : Option Addr) (dV kV doc pm : Value) (an : Option Addr) (cdv ct : Value) (osl : Array (Option Value)),
    fd = PySem.W.fnOf x x (defArgs st) (defBody st) (defScope st) dV kV doc pm an cdv ct ∧ K.lookup f = some ⟨oc, od, .func fd, osl⟩ ∧ PySem.W.codeIn K cdv x = true
  kp : PySem.W.keepIn K (.ref f) = true
structure Df (K : PySem.W.Frag) (mg : Str → Option Value) (x : Str) (st : Stmt) (ps : List Str) : Prop where
  ex : ∃ f fd, Fu K x st f fd ∧ Binds K fd ps [] ∧ mg x = some (.ref f)
structure Fn (P : Program) (w : World) (K : PySem.W.Frag) (mg : Str → Option Value) (base : Heap) (k : Nat) (x : Str) (ps : List Str) (sp : Sp) : Prop where
  ex : ∃ f fd, FnOk P w K mg base (CXE P w) k f fd ps sp ∧ mg x = some (.ref f) ∧ PySem.W.keepIn K (.ref f) = true ∧ Binds K fd ps [] ∧ ∃ oc od osl, K.lookup f = some ⟨oc, od, .func fd, osl⟩
section
variable {P : Program} {w : World} {K : PySem.W.Frag} {mg : Str → Option Value} {base : Heap} {x : Str} {st : Stmt} {N ps : List Str} {k : Nat} {sp : Sp}
theorem Df.ok0 (D : Df K mg x st ps) (S : FnScope N ps (defScope st)) (len : ∀ vs H Q E, sp vs H Q E → vs.length = ps.length)
    (hbody : ∀ (f : Addr) (cdv : Value) (A : Around) (outer : List Env) (s : Shared) (H : Hp) (vs : List V) (Q : VK) (E : XK), Room k (A.deeper (envOfC x (defScope st) s.heap.objs.size f cdv)) → sp vs H Q E →
      ∃ t, PSs (cxOf (CXE P w) P w K mg base N x (defScope st) f cdv A outer s H E).nox (defBody st) t ∧ t { nx := fun _ H' => Q .non H', rt := Q } (start N vs) H) : Fn P w K mg base (k + 1) x ps sp := by
  obtain ⟨f, fd, ⟨⟨oc, od, dV, kV, doc, pm, an, cdv, ct, osl, rfl, lk, hcd⟩, kp⟩, bd, hm⟩ := D.ex
  refine ⟨f, _, fn_of lk hcd S len fun A outer s H vs Q E hr hsp => ?_, hm, kp, bd, _, _, _, lk⟩
  obtain ⟨t, h, q⟩ := hbody f cdv A outer s H vs Q E hr hsp
  exact ⟨t, h.nox, q⟩
end
section
variable {X : Cx} {k k' : Nat} {x : Str} {ps : List Str} {sp : Sp} {E : XK} {p pos : Pos} {e : Expr} {es : List Expr} {t : TA}
theorem pe_fn (F : Fn X.prog X.w X.K X.mg X.base k x ps sp) (hk : k ≤ k') (hr : Room k' X.A) (hg : Gl X x) (hx : Passes (CXE X.prog X.w) X E) (ha : PA X (e :: es) t) (hdb : (x == ("__debug__" : Str)) = false := by decide)
    (he : starEach (e :: es) X.env = (false, eval e X.env) :: starEach es X.env := by rfl) (hpl : (backTo pos (starEach es X.env)).any (·.1) = false := by rfl) : PE X (.Call (.Name x p) (e :: es) [] pos) (tCall sp [] E t) := by
  obtain ⟨f, fd, G, hm, kp, bd, _⟩ := F.ex
  exact pe_call G (hr.mono hk) hg hm kp bd .nil hx ha hdb he hpl
end
end Kw
set_option Elab.async false
set_option linter.all false
set_option maxRecDepth 100000
set_option maxHeartbeats 4000000
namespace Kw
open PySem PySem.Spec PyProof.Rows L2
noncomputable def Bd (n : Nat) (i : Int) : Prop := i.natAbs < 2 ^ n
theorem Bd.mono {m n : Nat} {i : Int} (h : Bd m i) (l : m ≤ n) : Bd n i := Nat.lt_of_lt_of_le h (Nat.pow_le_pow_right (by decide) l)
theorem Bd.of_le {n : Nat} {i j : Int} (h : Bd n j) (l : i.natAbs ≤ j.natAbs) : Bd n i := Nat.lt_of_le_of_lt l h
theorem Bd.bits {n : Nat} {i : Int} (h : Bd n i) : Builtin.Int.intBits i ≤ n := intBits_le_iff.mpr h
theorem bd_bits {n : Nat} {i : Int} (h : Builtin.Int.intBits i ≤ n) : Bd n i := intBits_le_iff.mp h
theorem Bd.mul {m n : Nat} {i j : Int} (h : Bd m i) (g : Bd n j) : Bd (m + n) (i * j) := bd_bits (intBits_mul_le h.bits g.bits)
theorem Bd.add {m : Nat} {i j : Int} (h : Bd m i) (g : Bd m j) : Bd (m + 1) (i + j) := bd_bits (Nat.le_trans (intBits_add_le h.bits g.bits) (by omega))
theorem Bd.sub {m : Nat} {i j : Int} (h : Bd m i) (g : Bd m j) : Bd (m + 1) (i - j) := bd_bits (Nat.le_trans (intBits_sub_le h.bits g.bits) (by omega))
theorem Bd.ok {m n : Nat} {i j : Int} (h : Bd m i) (g : Bd n j) (l : m + n ≤ 134217728) : IntMulOk i j := .of_le h.bits g.bits l
theorem Bd.small {i : Int} (h1 : -(2 ^ 64) < i) (h2 : i < 2 ^ 64) : Bd 64 i := bd_bits (intBits_le_64 h1 h2)
theorem Bd.log {i : Int} (h : Bd 9000 i) : i.natAbs.log2 < 9000 := by
  by_cases h0 : i.natAbs = 0
  · rw [h0]; decide +kernel
  · exact (Nat.log2_lt h0).mpr h
theorem mulOk_small {i j : Int} (h1 : -(2 ^ 64) < j) (h2 : j < 2 ^ 64) : IntMulOk i j := .of_right (intBits_le_64 h1 h2)
theorem mulOk_smallL {i j : Int} (h1 : -(2 ^ 64) < i) (h2 : i < 2 ^ 64) : IntMulOk i j := .of_left (intBits_le_64 h1 h2)
theorem bd_fT {n : Nat} {t b : Int} (h : b ≠ 0) (g : Bd n t) : Bd n (fT t b) := g.of_le (fT_le h)
theorem bd_fB {n : Nat} {t b : Int} (h : b ≠ 0) (g : Bd n b) : Bd n (fB t b) := g.of_le (fB_le h)
theorem bd_dv {n : Nat} {t b : Int} (h : b ≠ 0) (g : Bd n b) : Bd n (dv t b) := g.of_le (dv_le h)
section
variable {K : PySem.W.Frag}
theorem kit_int_int : PySem.W.kitOne K (.type "int") (.type "int") = some true := by with_unfolding_all rfl
theorem kit_int_bool : PySem.W.kitOne K (.type "int") (.type "bool") = some false := by with_unfolding_all rfl
end
noncomputable def spWhole (K : PySem.W.Frag) : Sp := fun vs H Q _ => ∃ x t b1 b2, vs = [x] ∧ TyOf K H x t ∧ PySem.W.kitOne K t (.type "int") = some b1 ∧ PySem.W.kitOne K t (.type "bool") = some b2 ∧ Q (.bl (b1 && !b2)) H
noncomputable def Frac (t b : Int) (H : Hp) (Q : VK) : Prop := ∀ p H', Same H H' → H' p = some (.tup [.int (fT t b), .int (fB t b)]) → Q (.ref p) H'
noncomputable def Scr (K : PySem.W.Frag) (H : Hp) (a : Addr) : Prop := ∃ ns : List Int, SqL K H a (ns.map V.int) ∧ ns.length ≤ 63 ∧ ∀ n ∈ ns, Bd 1048576 n
noncomputable def spCell (K : PySem.W.Frag) : Sp := fun vs H Q _ => ∃ a k, vs = [.ref a, .int k] ∧ Scr K H a ∧ 0 ≤ k ∧ k ≤ 1000 ∧ ∀ c, Bd 1048576 c → Q (.int c) H
noncomputable def spMix : Sp := fun vs H Q _ => ∃ c k, vs = [.int c, .int k] ∧ Bd 1048576 c ∧ 0 ≤ k ∧ k ≤ 1000 ∧ ∀ n, Q (.int n) H
noncomputable def spBox (K : PySem.W.Frag) : Sp := fun vs H Q _ => ∃ a k, vs = [.ref a, .int k] ∧ Scr K H a ∧ 0 ≤ k ∧ k ≤ 1000 ∧ ∀ p n H', H p = none → Same H H' → H' p = some (.lst [.int n]) → Q (.ref p) H'
noncomputable def spTake : Sp := fun vs H Q _ => ∃ b m n, vs = [.ref b, .int m] ∧ H b = some (.lst [.int n]) ∧ 0 < m ∧ Bd 9000 m ∧ ∀ d n' H', 0 ≤ d → d < m → But b H H' → H' b = some (.lst [.int n']) → Q (.int d) H'
noncomputable def spFit : Sp := fun vs H Q _ => ∃ a b : Int, vs = [.int a, .int b] ∧ b ≠ 0 ∧ Bd 9000 b ∧ Frac a b H Q
end Kw
set_option Elab.async false
set_option linter.all false
set_option maxRecDepth 100000
set_option maxHeartbeats 4000000
namespace Kw
open PySem PySem.Spec PyProof.Rows L2
section
variable {X : Cx} {pins : List (Addr × Obj)} {σ : L2.St} {H : Hp} {s : Shared} {h' : Heap} {ch : List Addr} {x : Addr}
theorem Inv.adopt (hcl : ∀ y c, X.env.cells.lookup y = some c → c ≠ x)   {o : HO} (I : Inv X pins σ H s) (n0 : X.s₀.heap.get? x = none) (hx : H x = none) (hL : x ≠ X.env.locals) (np : ∀ p ∈ X.pn ++ pins, p.1 ≠ x) (ok : ObjOk X.prog X.w (upd H x o) s.heap x o) :
    Inv X pins σ (upd H x o) s := by
  have nx : ∀ b, H b ≠ none → b ≠ x := fun b hb z => hb (by rw [z]; exact hx)
  refine ⟨I.ok, I.os, I.bare, ⟨I.base.keep, I.base.slot, fun b ob q n hb => ?_, I.base.there, fun b xs q => ?_, fun b ob u q => ?_, fun b ps q => ?_⟩, I.loc, I.cell, ?_, fun y c z => ?_, fun p hp => ?_, fun a u e => ?_, I.len⟩
  · rw [upd_ne fun z => by rw [z, n0] at q; cases q]
    exact I.base.free b ob q n hb
  · have z := I.base.tups b xs q
    rw [upd_ne (nx b (by rw [z]; exact fun q => nomatch q))]
    exact z
  · have z := I.base.frzs b ob u q
    rw [upd_ne (nx b (by rw [z]; exact fun q => nomatch q))]
    exact z
  · obtain ⟨more, z⟩ := I.base.tbls b ps q
    exact ⟨more, by rw [upd_ne (nx b (by rw [z]; exact fun q => nomatch q))]; exact z⟩
  · rw [upd_ne (Ne.symm hL)]
    exact I.free
  · rw [upd_ne (hcl y c z)]
    exact I.freeC y c z
  · obtain ⟨a, b, c, d, e⟩ := I.pin p hp
    exact ⟨a, by rw [upd_ne (np p hp)]; exact b, c, d, e⟩
  · by_cases z : a = x
    · subst z
      rw [upd_same] at e
      cases e
      exact ok
    · rw [upd_ne z] at e
      refine (I.hok a u e).stay (fun b v hb q => q) (fun b q => ?_) fun b xs q => ?_
      · rw [upd_ne (nx b (by rw [q]; exact fun q => nomatch q))]
        exact q
      · rw [upd_ne (nx b (by rw [q]; exact fun q => nomatch q))]
        exact q
end
end Kw
set_option Elab.async false
set_option linter.all false
set_option maxRecDepth 100000
set_option maxHeartbeats 4000000
namespace Kw
open PySem PySem.Spec PyProof.Rows L2
section
variable {X : Cx} {pins : List (Addr × Obj)} {σ : L2.St} {H : Hp} {s : Shared}
end
section
variable {X : Cx} {k k' i j : Nat} {fx y n xK : Str} {ps : List Str} {sp : Sp} {CK : Addr} {e : Expr} {es : List Expr} {t : TA} {ts : TS} {b₀ : Stmt} {suite : List Stmt} {np cpos yp apos kp hpos pos : Pos}
end
end Kw
set_option Elab.async false
set_option linter.all false
set_option maxRecDepth 100000
set_option maxHeartbeats 4000000
namespace Kw
open PySem PySem.Spec PyProof.Rows L2
section
variable {X : Cx}
end
end Kw
set_option Elab.async false
set_option linter.all false
set_option maxRecDepth 100000
set_option maxHeartbeats 4000000
namespace Kw
open PySem PySem.Spec PyProof.Rows L2
section
variable {X : Cx} {pins : List (Addr × Obj)} {σ : L2.St} {H : Hp} {s : Shared} {h' : Heap} {ch : List Addr}
end
end Kw
set_option Elab.async false
set_option linter.all false
set_option maxRecDepth 100000
set_option maxHeartbeats 4000000
namespace Kw
open PySem PySem.Spec PyProof.Rows L2
section
variable {X : Cx}
theorem all_range_eq : ∀ (ns ms : List Int), ((List.range (min ns.length ms.length)).all (fun j => decide (ns[j]? = ms[j]?)) && ns.length == ms.length) = decide (ns = ms) := by
  intro ns ms
  by_cases e : ns = ms
  · subst e
    rw [decide_eq_true rfl, Bool.and_eq_true]
    exact ⟨List.all_eq_true.mpr fun j _ => decide_eq_true rfl, beq_self_eq_true _⟩
  · rw [decide_eq_false e, Bool.and_eq_false_iff]
    by_cases l : ns.length = ms.length
    · left
      refine Bool.eq_false_iff.mpr fun h => e (List.ext_getElem? fun i => ?_)
      by_cases hi : i < ns.length
      · exact of_decide_eq_true (List.all_eq_true.mp h i (List.mem_range.mpr (by omega)))
      · rw [List.getElem?_eq_none (by omega), List.getElem?_eq_none (by omega)]
    · right
      exact beq_eq_false_iff_ne.mpr l
theorem int_item {ns : List Int} {its : List Value} (r : Vals (ns.map V.int) its) {j : Nat} (h : j < its.toArray.size) : ∃ n t, ns[j]? = some n ∧ its.toArray[j] = Value.int n t := by
  have hl := r.length
  rw [List.length_map] at hl
  have hj : j < ns.length := by simp at h; omega
  have e : (ns.map V.int)[j]? = some (V.int ns[j]) := by rw [List.getElem?_map, List.getElem?_eq_getElem hj]; rfl
  obtain ⟨u, hu, t, rfl⟩ := r.get e
  refine ⟨ns[j], t, List.getElem?_eq_getElem hj, ?_⟩
  have hj' : j < its.length := by omega
  rw [List.getElem?_eq_getElem hj'] at hu
  simpa using Option.some.inj hu
theorem op_eqTI (hu : X.A.units < cLine) : OpR X (compareOp .Eq) (fun x y H Q => ∃ (a b : Addr) (ns ms : List Int), x = .ref a ∧ y = .ref b ∧ SqT X.K H a (ns.map V.int) ∧ SqT X.K H b (ms.map V.int) ∧ Q (.bl (decide (ns = ms))) H) := by
  intro pins s σ H x y v u Q I rx ry h
  obtain ⟨a, b, ns, ms, rfl, rfl, ha, hb, q⟩ := h
  cases (show v = Value.ref a from rx)
  cases (show u = Value.ref b from ry)
  obtain ⟨its, r, pl, hz⟩ := I.tuple ha
  obtain ⟨jts, r', pl', hz'⟩ := I.tuple hb
  refine SeqAt.eq_tupleAt (e := fun j => decide (ns[j]? = ms[j]?)) pl pl' hu (fun j h1 h2 => ?_) ?_
  · obtain ⟨n, t, e1, e2⟩ := int_item r h1
    obtain ⟨m, t', e3, e4⟩ := int_item r' h2
    rw [e2, e4, e1, e3]
    have z : decide (some n = some m) = (n == m) := by
      by_cases c : n = m
      · subst c; simp
      · simp [c]
    rw [z]
    exact SeqAt.EqAt.int_int n t m t'
  · have l1 : its.toArray.size = ns.length := by rw [List.size_toArray, ← r.length, List.length_map]
    have l2 : jts.toArray.size = ms.length := by rw [List.size_toArray, ← r'.length, List.length_map]
    rw [l1, l2, all_range_eq]
    exact ⟨.bl (decide (ns = ms)), H, I, rfl, q⟩
end
end Kw
set_option Elab.async false
set_option linter.all false
set_option maxRecDepth 100000
set_option maxHeartbeats 4000000
namespace Kw
open PySem PySem.Spec PyProof.Rows L2
theorem weight_items : ∀ (ns : List Int) (n : Int), n ∈ ns → Builtin.Int.intBits n ≤ PySem.W.WData.weightAll (ns.map PySem.W.WData.int)
  | [], _, h => nomatch h
  | m :: r, n, h => by
    have e : PySem.W.WData.weightAll ((m :: r).map PySem.W.WData.int) = Builtin.Int.intBits m + 1 + PySem.W.WData.weightAll (r.map PySem.W.WData.int) := rfl
    rw [e]
    rcases List.mem_cons.mp h with z | z
    · subst z; omega
    · have := weight_items r n z
      omega
theorem script_bits {ns : List Int} (h : PySem.W.WData.layableAll [PySem.W.WData.list (ns.map PySem.W.WData.int)] = true) : ∀ n ∈ ns, Bd 1048576 n := fun n hn => by
  have h1 : PySem.W.WData.layable (PySem.W.WData.list (ns.map PySem.W.WData.int)) = true := by
    unfold PySem.W.WData.layableAll at h
    simpa using h
  unfold PySem.W.WData.layable at h1
  rw [Bool.and_eq_true] at h1
  have h2 : PySem.W.WData.weightAll (ns.map PySem.W.WData.int) ≤ 2 ^ 20 := of_decide_eq_true h1.2
  exact bd_bits (Nat.le_trans (weight_items ns n hn) h2)
noncomputable def spLaw (K : PySem.W.Frag) : Sp := fun vs H Q _ => ∃ a, vs = [.ref a] ∧ Scr K H a ∧ ∀ H', Q (.bl true) H'
theorem walk_kw {pn : Str} {l : PySem.W.OpenLaw} {k : Nat} {q : Program} {loose : List Str} {XP : (Str → Option Value) → Heap → Prop} {YP : World → Heap → Prop} {d : DefRec} {K : Params → PySem.W.Frag}
    (hn : l.most = some 63) (hdf : d.params.defaults = []) (hr : Room k callerA) (hY : ∀ (w : World) (h : Heap), YP w h → (K w.params).In h) (hnm : d.name = "law")
    (F : ∀ (w : World) (mg : Str → Option Value) (h : Heap), (K w.params).In h → h.Ns mainGlobals mg → ∃ fa, mg "law" = some (.ref fa) ∧ ∃ fd : FuncData, (∀ (s : Shared) (u : Value), BindsTo s fd ⟨[u], []⟩ [(pn, u)]) ∧
      ∀ base : Heap, (K w.params).In base → base.Ns mainGlobals mg → FnOk l.prog w (K w.params) mg base (CXE l.prog w) k fa fd [pn] (spLaw (K w.params))) :
    PySem.W.WalkO q loose XP YP l.row.toRowW d [] (fun f vs => PySem.call f vs) := by
  intro w s₀ s₁ mg mb G Y fa o pm cd doc dV kV ho hd hcd hD hmg hg args vals as hpre hlay hrd hwl hlo
  obtain ⟨a, vs, ns, e1, e2, hobj, hints, hlen⟩ := Att.script_of hn hpre hwl
  subst e1 e2
  have KX := hY w _ Y
  obtain ⟨fa', hfa, fd, hb, hF⟩ := F w mg _ KX G.T.g
  rw [hnm, hfa] at hmg
  cases hmg
  have core := law_call KX G.T.g G.T.b G.T.builtins G.T.nolimit hg hobj hints (Nat.le_trans hlen (by decide)) hr hF hb (fun H hO hS => ⟨a, rfl, ⟨ns, hS, hlen, script_bits hlay⟩, fun _ => rfl⟩) (fun H e s' z => by
    obtain ⟨_, _, _, _, _, _, _, _, _, _, z⟩ := z
    exact z)
  refine PySem.W.enter_call (codeAny_mono core fun r s' hq => ?_)
  obtain ⟨rfl, h2, h3, h4⟩ := hq
  exact ⟨.inl ⟨.bool true, .bool true, [], rfl, fun _ => rfl, .bool true, Att.post_true l _, fun _ => ⟨List.Pairwise.nil, fun _ hm => (nomatch hm)⟩⟩, h2, h3, h4⟩
theorem df_mk {K : PySem.W.Frag} {h : Heap} {mg : Str → Option Value} {x : Str} {st : Stmt} {ps : List Str} {f : Addr} {od an : Option Addr} {sl : Array (Option Value)} {oc kV dc pm cd ct : Value} (X : K.In h) (G : h.Ns mainGlobals mg)
    (a : PySem.W.nsIn K mainGlobals x = some (some (.ref f))) (l : K.lookup f = some ⟨oc, od, .func (PySem.W.fnOf x x (defArgs st) (defBody st) (defScope st) .none kV dc pm an cd ct), sl⟩) (c : PySem.W.codeIn K cd x = true) (k : PySem.W.keepIn K (.ref f) = true)
    (b : ∀ us : List Value, us.length = ps.length → bindArgs (PySem.W.fnOf x x (defArgs st) (defBody st) (defScope st) .none kV dc pm an cd ct) ⟨us, []⟩ = pure (ps.zip us)) : Df K mg x st ps :=
  ⟨f, _, ⟨⟨oc, od, .none, kV, dc, pm, an, cd, ct, sl, rfl, l, c⟩, k⟩, .all b, PySem.W.mg_of X G a⟩
theorem df_mkD {K : PySem.W.Frag} {h : Heap} {mg : Str → Option Value} {x : Str} {st : Stmt} {ps : List Str} {f D : Addr} {od an oD : Option Addr} {sl slD : Array (Option Value)} {oc kV dc pm cd ct cD : Value} {items : Array Value} {n : Nat} (X : K.In h) (G : h.Ns mainGlobals mg)
    (a : PySem.W.nsIn K mainGlobals x = some (some (.ref f))) (l : K.lookup f = some ⟨oc, od, .func (PySem.W.fnOf x x (defArgs st) (defBody st) (defScope st) (.ref D) kV dc pm an cd ct), sl⟩) (c : PySem.W.codeIn K cd x = true) (k : PySem.W.keepIn K (.ref f) = true)
    (lD : K.lookup D = some ⟨cD, oD, .seq items n, slD⟩)
    (b : ∀ us : List Value, us.length = ps.length → ∃ kk : Option (Array Value) → Sem (List (Str × Value)), bindArgs (PySem.W.fnOf x x (defArgs st) (defBody st) (defScope st) (.ref D) kV dc pm an cd ct) ⟨us, []⟩ = seqItems? (.ref D) >>= kk ∧ kk (some items) = pure (ps.zip us)) : Df K mg x st ps :=
  ⟨f, _, ⟨⟨oc, od, .ref D, kV, dc, pm, an, cd, ct, sl, rfl, l, c⟩, k⟩, fun s us hk hl => by
    rw [List.append_nil] at hl ⊢
    obtain ⟨kk, h1, h2⟩ := b us hl
    exact BindsTo.of_defaults rfl (hk _ _ lD) rfl h1 h2, PySem.W.mg_of X G a⟩
theorem law_end {pn : Str} {P : Program} {w : World} {K : PySem.W.Frag} {h : Heap} {mg : Str → Option Value} {st : Stmt} {f : Addr} {od an : Option Addr} {sl : Array (Option Value)} {oc kV dc pm cd ct : Value} {k : Nat} (X : K.In h) (G : h.Ns mainGlobals mg)
    (a : PySem.W.nsIn K mainGlobals "law" = some (some (.ref f))) (l : K.lookup f = some ⟨oc, od, .func (PySem.W.fnOf "law" "law" (defArgs st) (defBody st) (defScope st) .none kV dc pm an cd ct), sl⟩)
    (b : ∀ u : Value, bindArgs (PySem.W.fnOf "law" "law" (defArgs st) (defBody st) (defScope st) .none kV dc pm an cd ct) ⟨[u], []⟩ = pure [(pn, u)])
    (F : ∀ base : Heap, K.In base → base.Ns mainGlobals mg → Fn P w K mg base k "law" [pn] (spLaw K)) :
    ∃ fa, mg "law" = some (.ref fa) ∧ ∃ fd : FuncData, (∀ (s : Shared) (u : Value), BindsTo s fd ⟨[u], []⟩ [(pn, u)]) ∧ ∀ base : Heap, K.In base → base.Ns mainGlobals mg → FnOk P w K mg base (CXE P w) k fa fd [pn] (spLaw K) := by
  have hm := PySem.W.mg_of X G a
  refine ⟨f, hm, _, fun s u => .of_eq (b u), fun base kb nb => ?_⟩
  obtain ⟨f', fd', G', hm', _, _, _, _, _, lk⟩ := (F base kb nb).ex
  rw [hm] at hm'
  cases hm'
  rw [l] at lk
  cases lk
  exact G'
end Kw
set_option Elab.async false
set_option linter.all false
set_option maxRecDepth 100000
set_option maxHeartbeats 4000000
namespace Kw
open PySem PySem.Spec PyProof.Rows L2 PySem.Builtin PySem.Builtin.ObjectAttr PySem.Builtin.Getset_descriptor
section
variable {prog : Program} {w : World} {A : Around} {E : Value → Shared → Prop} {s : Shared} {K : PySem.W.Frag} {x C : Addr}
end
section
variable {X : Cx}
end
end Kw
set_option Elab.async false
set_option linter.all false
set_option maxRecDepth 100000
set_option maxHeartbeats 4000000
namespace Kw
open PySem PySem.Spec PyProof.Rows L2
mutual
inductive Dp (K : PySem.W.Frag) (H : Hp) : V → PyData → Prop
  | non : Dp K H .non .none
  | bl (b : Bool) : Dp K H (.bl b) (.bool b)
  | int (i : Int) : Dp K H (.int i) (.int i)
  | str (x : Str) : Dp K H (.str x) (.str x)
  | lst {p : Addr} {xs : List V} {ds : List PyData} : SqL K H p xs → Dps K H xs ds → Dp K H (.ref p) (.list ds)
  | tup {p : Addr} {xs : List V} {ds : List PyData} : SqT K H p xs → Dps K H xs ds → Dp K H (.ref p) (.tuple ds)
inductive Dps (K : PySem.W.Frag) (H : Hp) : List V → List PyData → Prop
  | nil : Dps K H [] []
  | cons {x : V} {xs : List V} {d : PyData} {ds : List PyData} : Dp K H x d → Dps K H xs ds → Dps K H (x :: xs) (d :: ds)
end
section
variable {X : Cx} {pins : List (Addr × Obj)} {σ : L2.St} {H : Hp} {s : Shared}
mutual
theorem Dp.reads (I : Inv X pins σ H s) : ∀ {x : V} {d : PyData} {u : Value}, Dp X.K H x d → RelV x u → ∃ as, Reads s.heap u d as
  | _, _, _, .non, r => by cases r; exact ⟨_, .none⟩
  | _, _, _, .bl b, r => by cases r; exact ⟨_, .bool b⟩
  | _, _, _, .int i, r => by obtain ⟨t, rfl⟩ := r; exact ⟨_, .int i t⟩
  | _, _, _, .str x, r => by obtain ⟨t, rfl⟩ := r; exact ⟨_, .str x t⟩
  | _, _, _, .lst h q, r => by
    cases r
    obtain ⟨its, r', pl, hz⟩ := I.list h
    obtain ⟨as, ra⟩ := Dps.reads I q r'
    obtain ⟨o, n, ho, hc, _, hd⟩ := pl
    exact ⟨_, .list ho hc hd ra⟩
  | _, _, _, .tup h q, r => by
    cases r
    obtain ⟨its, r', pl, hz⟩ := I.tuple h
    obtain ⟨as, ra⟩ := Dps.reads I q r'
    obtain ⟨o, ho, hc, n, hd⟩ := pl
    exact ⟨_, .tuple ho hc hd ra⟩
theorem Dps.reads (I : Inv X pins σ H s) : ∀ {xs : List V} {ds : List PyData} {us : List Value}, Dps X.K H xs ds → Vals xs us → ∃ as, ReadsAll s.heap us ds as
  | _, _, _, .nil, r => by cases r; exact ⟨_, .nil⟩
  | _, _, _, .cons h q, r => by
    cases r with
    | cons a b =>
      obtain ⟨as, ra⟩ := Dp.reads I h a
      obtain ⟨bs, rb⟩ := Dps.reads I q b
      exact ⟨_, .cons ra rb⟩
end
noncomputable def rDp (K : PySem.W.Frag) (g : Bool → Bool) : V → V → Hp → VK → Prop := fun x y H Q => ∃ dx dy, Dp K H x dx ∧ Dp K H y dy ∧ dx.canLay0 = true ∧ dy.canLay0 = true ∧ min dx.depth dy.depth ≤ 60 ∧ Q (.bl (g (PyData.eqv dx dy))) H
theorem op_eqD {K : PySem.W.Frag} (hK : X.K = K) (hu : X.A.units + 100 < cLine) : OpR X (compareOp .Eq) (rDp K id) := by
  subst hK
  intro pins s σ H x y v u Q I rx ry h
  obtain ⟨dx, dy, hx, hy, cx, cy, dep, q⟩ := h
  obtain ⟨as, ra⟩ := hx.reads I rx
  obtain ⟨bs, rb⟩ := hy.reads I ry
  exact SeqAt.compareEq_reads ra rb cx cy (by omega) ⟨.bl (PyData.eqv dx dy), H, I, rfl, q⟩
theorem op_neD {K : PySem.W.Frag} (hK : X.K = K) (hu : X.A.units + 100 < cLine) : OpR X (compareOp .NotEq) (rDp K not) := by
  subst hK
  intro pins s σ H x y v u Q I rx ry h
  obtain ⟨dx, dy, hx, hy, cx, cy, dep, q⟩ := h
  obtain ⟨as, ra⟩ := hx.reads I rx
  obtain ⟨bs, rb⟩ := hy.reads I ry
  exact SeqAt.compareNe_reads ra rb cx cy (by omega) ⟨.bl (!PyData.eqv dx dy), H, I, rfl, q⟩
end
end Kw
set_option Elab.async false
set_option linter.all false
set_option maxRecDepth 100000
set_option maxHeartbeats 4000000
namespace Kw
open PySem PySem.Spec PyProof.Rows L2
section
variable {X : Cx} {pos : Pos} {k v : Expr} {x : Str} {i : Int}
end
end Kw
namespace Kw
open PySem PySem.Spec PyProof.Rows L2
section
variable {X : Cx}
end
section
variable {K : PySem.W.Frag} {H H' : Hp} {v : V} {t : Value}
end
end Kw
namespace Kw
open PySem PySem.Spec PyProof.Rows L2
section
variable {X : Cx} {k k' : Nat} {x : Str} {ps : List Str} {sp : Sp} {E : XK} {p pos : Pos} {e : Expr} {es : List Expr} {t : TA} {dv : V}
end
end Kw
namespace Kw
end Kw
namespace Kw
open PySem PySem.Spec PyProof.Rows L2
end Kw
namespace Kw
open PySem PySem.Spec PyProof.Rows L2
theorem newO {H : Hp} {p : Addr} (hp : H p = none) (o : HO) : ∃ H', upd H p o = H' ∧ Same H H' ∧ H' p = some o := ⟨_, rfl, same_new hp o, upd_same⟩
end Kw
namespace Kw
open PySem PySem.Spec PyProof.Rows L2
end Kw
theorem Kw.u100 {k : Nat} {A : PySem.Around} (r : L2.Room k A) : A.units + 100 < PySem.cLine := by have := r.un; omega
namespace Kw
open PySem PySem.Spec PyProof.Rows L2
theorem cut1 {s1 r : TS} {D : Ends} {σ : L2.St} {H : Hp} (P : L2.St → Hp → Prop) (h : ∀ N : L2.St → Hp → Prop, (∀ σ' H', P σ' H' → N σ' H') → s1 { D with nx := N } σ H) (rest : ∀ σ' H', P σ' H' → r D σ' H') :
    tSeq s1 r D σ H := h (r D) rest
end Kw
set_option Elab.async false
set_option linter.all false
set_option maxRecDepth 100000
set_option maxHeartbeats 4000000
namespace Kw
open PySem PySem.Spec PyProof.Rows L2
noncomputable def cxC (X : Cx) (N : List Str) (scope : Scope) (cl : List (Str × Addr)) (C : Addr) (s : Shared) (H : Hp) (fp : List Addr) : Cx :=
  { X with N := N, s₀ := s, H₀ := H, env := compEnvC scope cl C X.env, outer := X.stack, stack := X.stack, ex := fp, fn := fun _ => false, pn := [], xe := fun _ _ => False }
section
variable {X : Cx} {pins : List (Addr × Obj)} {σ : L2.St} {H : Hp} {s : Shared} {N ns : List Str} {scope : Scope} {cl : List (Str × Addr)} {C : Addr} {fp : List Addr} {x : Str} {idx : List Nat}
theorem okC (I : Inv X pins σ H s) (f : ∀ b ∈ fp, FpOk X pins H b) (lt : ∀ b ∈ fp, b < s.heap.objs.size) (hC : s.heap.objs.size ≤ C) (hkind : scope.kind = .function) (hcl : ∀ y c, cl.lookup y = some c → X.env.cells.lookup y = some c)
    (hfr : ∀ y, ((compEnvC scope cl C X.env).kindOf y = some .cell ∨ (compEnvC scope cl C X.env).kindOf y = some .free) → ∃ c, cl.lookup y = some c) : (cxC X N scope cl C s H fp).Ok where
  mod := I.ok.mod
  kind := hkind
  glob := I.ok.glob
  blt := I.ok.blt
  above := hC
  inj := fun x y c e1 e2 => I.ok.inj x y c (hcl _ _ e1) (hcl _ _ e2)
  has := hfr
  cab := fun _ _ h => nomatch h
  hd := I.ok.hd
  frames := I.ok.frames
  stk := .inl rfl
  exf := fun b hb => ⟨Nat.ne_of_lt (Nat.lt_of_lt_of_le (lt b hb) hC), fun x c e => (f b hb).2.2.2.2.1 x c (hcl _ _ e)⟩
  bs := I.bs
  bsz := Nat.le_trans I.ok.bsz I.sz
  noex := fun b o e hb => by
    rcases (f b hb).2.2.2.1 with z | z
    · exact I.ok.noex b o e z
    · exact absurd (Nat.lt_of_lt_of_le (Heap.lt_size e) (Nat.le_trans I.ok.bsz z)) (Nat.lt_irrefl _)
  exfs := fun b hb hs => by
    rcases List.mem_cons.mp (I.stkSub b hs) with z | z
    · exact (f b hb).2.1 z
    · exact (f b hb).2.2.1 z
  funs := I.stack
  frf := I.stkFree
noncomputable def Capt (X : Cx) (scope : Scope) (cl : List (Str × Addr)) (ns : List Str) (idx : List Nat) : Prop :=
  idx.length = ns.length ∧ ∀ (k : Nat) (y : Str), ns[k]? = some y → ∃ j c, idx[k]? = some j ∧ X.N[j]? = some y ∧ X.env.kindOf y = some .cell ∧ X.env.cells.lookup y = some c ∧ cl.lookup y = some c ∧ ((relabel scope X.env).names.lookup y = some .cell ∨ (relabel scope X.env).names.lookup y = some .free)
noncomputable def stIn (v : Option V) (idx : List Nat) (σ : L2.St) : L2.St := v :: idx.map fun j => (σ[j]?).join
theorem invC {D : Addr} {h1 : Heap} {t : Nat} {o : Obj} {mC : Str → Option Value} (I : Inv X pins σ H s) (ok : (cxC X (x :: ns) scope cl C s H fp).Ok) (cap : Capt X scope cl ns idx) (hcl : ∀ y c, cl.lookup y = some c → X.env.cells.lookup y = some c)
    (keep : ∀ b u, s.heap.get? b = some u → h1.get? b = some u) (hC : s.heap.objs.size ≤ C) (hns : h1.Ns C mC) (hD : h1.get? D = some o) (hDs : s.heap.objs.size ≤ D) (hDC : D ≠ C) (hod : ∀ v, o.data ≠ .cell v) (hx : (relabel scope X.env).names.lookup x = some .local) :
    Inv (cxC X (x :: ns) scope cl C s H fp) [(D, o)] (stIn none idx σ) H { s with heap := h1, toks := t } := by
  have cellK : ∀ y c, cl.lookup y = some c → ∀ v, s.heap.IsCell c v → h1.IsCell c v := fun y c e v ⟨o, ho, hd⟩ => ⟨o, keep _ _ ho, hd⟩
  refine ⟨ok, rfl, I.bare, Un.kept keep, ⟨mC, hns, fun i y v e1 e2 e3 => ?_⟩, fun y c e => ?_, I.hok.fresh hC, fun y c e => I.freeC y c (hcl y c e), fun p hp => ?_, I.hok.kept keep, ?_⟩
  · cases i with
    | zero => cases e2
    | succ k =>
      have e1' : ns[k]? = some y := e1
      obtain ⟨j, c, h1', h2, h3, h4, h5, h6⟩ := cap.2 k y e1'
      have e2' : (idx.map fun j => (σ[j]?).join)[k]? = some (some v) := e2
      rw [List.getElem?_map, h1'] at e2'
      have e4 : (σ[j]?).join = some v := Option.some.inj e2'
      have e5 : σ[j]? = some (some v) := by
        cases q : σ[j]? with
        | none => rw [q] at e4; cases e4
        | some z => rw [q] at e4; exact congrArg some e4
      obtain ⟨m, hn, hl⟩ := I.loc
      obtain ⟨u, r, lk⟩ := hl j y v h2 e5 (.inr (.inl h3))
      refine ⟨u, r, .inr ⟨h6, c, h5, ?_⟩⟩
      rcases lk with ⟨z, _⟩ | ⟨_, c', z, ic⟩
      · rw [h3] at z; cases z
      · rw [h4] at z; cases z
        exact cellK y c h5 _ ic
  · obtain ⟨v, ic⟩ := I.cell y c (hcl y c e)
    exact ⟨v, cellK y c e v ic⟩
  · have e : p = (D, o) := by simpa [cxC] using hp
    subst e
    refine ⟨hD, I.hok.fresh hDs, hDC, fun hs => ?_, hod⟩
    obtain ⟨_, o', ho', _⟩ := I.stack.mem hs
    exact absurd (Heap.lt_size ho') (Nat.not_lt.mpr hDs)
  · unfold stIn
    rw [List.length_cons, List.length_map, cap.1]
    rfl
end
noncomputable abbrev NoE : Value → Shared → Prop := fun _ _ => False
noncomputable abbrev testsOf (ifs : List Expr) (env : Env) : Sem Bool := forIn ifs true fun c r => if r = true then do let ok ← isTrue c env (eval c env); pure (ForInStep.yield ok) else pure (ForInStep.yield r)
noncomputable def PTs (X : Cx) (ifs : List Expr) (t : TT) : Prop :=
  ∀ (pins : List (Addr × Obj)) (s : Shared) (σ : L2.St) (H : Hp) (Q : Bool → Hp → Prop), Inv X pins σ H s → t σ H Q → wpAny (model X.prog X.w) X.A (testsOf ifs X.env) (TP X pins σ Q) X.xe s
noncomputable def ttNil : TT := fun _ H Q => Q true H
theorem pts_nil {X : Cx} : PTs X [] ttNil := fun _ _ _ H _ I h => wpAny_tests_nil ⟨H, I, h⟩
theorem lc_loop {prog : Program} {w : World} {A : Around} {R : Result → Shared → Prop} {s : Shared} {elt target iter : Expr} {ifs : List Expr} {scope : Scope} {pos : Pos} {it acc : Value} {env : Env} (Z : Nat → Shared → Prop)
    (turn : ∀ n z, Z n z → wpAny (model prog w) A (pyNext it) (fun r z1 => match r with
      | none => R (.ok .next) z1
      | some v => wpAny (model prog w) A (letOwnedTupleGo target it v) (fun _ z2 => wpAny (model prog w) A (assign target env v) (fun _ z3 => wpAny (model prog w) A (testsOf ifs env) (fun ok z4 => if ok = true then
          wpAny (model prog w) A (eval elt env) (fun y z5 => wpAny (model prog w) A (call (.builtin "list.append") [acc, y]) (fun _ z6 => ∃ m, m < n ∧ Z m z6) NoE z5) NoE z4 else ∃ m, m < n ∧ Z m z4) NoE z3) NoE z2) NoE z1) NoE z)
    (n : Nat) (h : Z n s) : codeAny (model prog w) A (.compLoop (.ListComp elt [⟨target, iter, ifs, 0⟩] scope pos) 0 it acc env) R s := by
  refine codeAny_loop rfl Z (fun n z hZ => ?_) n h
  show wpAny _ A ((compTurn (.ListComp elt [⟨target, iter, ifs, 0⟩] scope pos) 0 it acc env).onRaise (fun q => do noteFrame q env; theTreesLotGoes q)) _ _ z
  refine wpAny_noted ?_
  rw [compTurn_list]
  refine wpAny_bind (wpAny_standAt (wpAny_bind (wpAny_mono (turn n z hZ) (fun r z1 k1 => ?_) fun _ _ q => q.elim)))
  cases r with
  | none => exact wpAny_pure k1
  | some v =>
    refine wpAny_bind (wpAny_mono k1 (fun _ z2 k2 => ?_) fun _ _ q => q.elim)
    refine wpAny_bind (wpAny_mono k2 (fun _ z3 k3 => ?_) fun _ _ q => q.elim)
    refine wpAny_bind (wpAny_mono k3 (fun ok z4 k4 => ?_) fun _ _ q => q.elim)
    cases ok with
    | false => exact wpAny_pure ⟨rfl, k4⟩
    | true =>
      refine wpAny_bind (wpAny_bind (wpAny_mono (show wpAny _ _ _ _ _ _ from k4) (fun y z5 k5 => ?_) fun _ _ q => q.elim))
      exact wpAny_bind (wpAny_mono k5 (fun _ z6 k6 => wpAny_pure (wpAny_pure ⟨rfl, k6⟩)) fun _ _ q => q.elim)
noncomputable def LcBody (J : It) (idx : List Nat) (te : TE) (σ : L2.St) (Q : VK) (H1 : Hp) : Prop := ∃ W : Nat → Nat → List V → Hp → Prop, (∃ m, W 0 m [] H1) ∧ ∀ i m ys H, W i m ys H → ys.length ≤ sizeLine ∧
  ((J.stop i H ∧ ∀ p, H p = none → Q (.ref p) (upd H p (.lst ys))) ∨ (J.go i H ∧ ∀ y H', J.yld i H y H' → te (stIn (some y) idx σ) H' fun v H2 => ∃ m', m' < m ∧ W (i + 1) m' (ys ++ [v]) H2))
noncomputable def tLc (wi : TI) (idx : List Nat) (te : TE) : TE := fun σ H Q => wi σ H fun J H1 => LcBody J idx te σ Q H1
noncomputable def LcBodyT (J : It) (idx : List Nat) (tt : TT) (te : TE) (σ : L2.St) (Q : VK) (H1 : Hp) : Prop := ∃ W : Nat → Nat → List V → Hp → Prop, (∃ m, W 0 m [] H1) ∧ ∀ i m ys H, W i m ys H → ys.length ≤ sizeLine ∧
  ((J.stop i H ∧ ∀ p, H p = none → Q (.ref p) (upd H p (.lst ys))) ∨ (J.go i H ∧ ∀ y H', J.yld i H y H' → tt (stIn (some y) idx σ) H' fun b H3 => if b = true then te (stIn (some y) idx σ) H3 fun v H2 => ∃ m', m' < m ∧ W (i + 1) m' (ys ++ [v]) H2
    else ∃ m', m' < m ∧ W (i + 1) m' ys H3))
theorem LcBody.toT {J : It} {idx : List Nat} {te : TE} {σ : L2.St} {Q : VK} {H1 : Hp} (h : LcBody J idx te σ Q H1) : LcBodyT J idx ttNil te σ Q H1 := by
  obtain ⟨W, w0, turn⟩ := h
  refine ⟨W, w0, fun i m ys H w => ?_⟩
  obtain ⟨hz, h⟩ := turn i m ys H w
  refine ⟨hz, h.imp id fun h => ⟨h.1, fun y H' yl => ?_⟩⟩
  show (if true = true then te (stIn (some y) idx σ) H' (fun v H2 => ∃ m', m' < m ∧ W (i + 1) m' (ys ++ [v]) H2) else ∃ m', m' < m ∧ W (i + 1) m' ys H')
  rw [if_pos rfl]
  exact h.2 y H' yl
section
variable {X : Cx} {elt iter : Expr} {ifs : List Expr} {x : Str} {px pos : Pos} {scope : Scope} {cl : List (Str × Addr)} {wi : TI} {tt : TT} {te : TE} {ns : List Str} {idx : List Nat}
structure LcEnd (X : Cx) (fp : List Addr) (H2 H4 : Hp) (s2 s5 : Shared) (C D : Addr) (ys : List V) : Prop where
  dn : D = s2.heap.objs.size
  cn : s2.heap.objs.size ≤ C
  dc : D ≠ C
  un : Un (frs X.stack) fp H2 H4 s2.heap s5.heap
  hok : HOk X.prog X.w H4 s5.heap
  cf : H4 C = none
  df : H4 D = none
  os : s5.os = s2.os
  bare : AllBare s5.gens
  ns : ∃ m, s5.heap.Ns C m
  obj : ∃ us, Vals ys us ∧ s5.heap.get? D = some (LCg.lst us)
  len : ys.length ≤ sizeLine
theorem lc_main (hc : X.calm = true) (hi : PI X (.Name x px) iter wi) (hclos : closureFor scope X.env = pure cl) (hcell : ∀ y ∈ scope.names, y.2 ≠ .cell) (hkind : scope.kind = .function)
    (hnames : ∀ y ∈ scope.names, y.2 = .local → scope.names.lookup y.1 = some .local) (hx : scope.names.lookup x = some .local) (nd : (x :: ns).Nodup) (cap : Capt X scope cl ns idx)
    (hcl : ∀ y c, cl.lookup y = some c → X.env.cells.lookup y = some c) (hfr : ∀ y, ((relabel scope X.env).names.lookup y = some .cell ∨ (relabel scope X.env).names.lookup y = some .free) → ∃ c, cl.lookup y = some c)
    (htt : ∀ (C : Addr) (s : Shared) (H : Hp) (fp : List Addr), PTs (cxC X (x :: ns) scope cl C s H fp) ifs tt) (hel : ∀ (C : Addr) (s : Shared) (H : Hp) (fp : List Addr), PE (cxC X (x :: ns) scope cl C s H fp) elt te)
    {pins : List (Addr × Obj)} {σ : L2.St} {Q : VK} {itv : Value} {s2 : Shared} {E : Value → Shared → Prop} {RR : Value → Addr → Result → Shared → Prop} (h2 : PIE X pins σ (.Name x px) (fun J H1 => LcBodyT J idx tt te σ Q H1) itv s2)
    (hRR : ∀ fp H2 H4 s5 C D ys, Inv X pins σ H2 s2 → (∀ b ∈ fp, FpOk X pins H2 b) → LcEnd X fp H2 H4 s2 s5 C D ys → Q (.ref D) (upd H4 D (.lst ys)) → RR (.ref D) C (.ok .next) s5) :
    wpAny (model X.prog X.w) X.A (newList []) (fun acc s3 => wpAny (model X.prog X.w) X.A (newFunctionEnv scope X.env.globals cl [] X.env.qual none .none (some X.env)) (fun cenv s4 =>
      codeAny (model X.prog X.w) X.A (.compStart (.ListComp elt [⟨.Name x px, iter, ifs, 0⟩] scope pos) 0 itv acc { cenv with scope := relabel scope X.env }) (RR acc cenv.locals) s4) E s3) E s2 := by
  obtain ⟨it, fp, tn, J, H2, e, I2, T, st2, f2, W, ⟨m0, w0⟩, turn⟩ := h2
  subst e
  refine wpAny_newObj_type (wpAny_newFunctionEnv hcell (by intro y hy; simp at hy) (fun h1 hns1 hsb1 => ?_) hkind)
  dsimp only at hns1 hsb1 ⊢
  generalize hH2 : s2.heap.push { cls := .type "list", dict := none, data := .seq ([] : List Value).toArray } = g2 at hns1 hsb1 ⊢
  have hC : g2.objs.size = s2.heap.objs.size + 1 := by rw [← hH2, Heap.size_push]
  have hDC : s2.heap.objs.size ≠ g2.objs.size := by rw [hC]; exact Nat.ne_of_lt (Nat.lt_succ_self _)
  have hCle : s2.heap.objs.size ≤ g2.objs.size := by rw [hC]; exact Nat.le_succ _
  have keep1 : ∀ b o, s2.heap.get? b = some o → h1.get? b = some o := fun b o e => hsb1.extBut b o (Nat.ne_of_lt (Nat.lt_of_lt_of_le (Heap.lt_size e) hCle)) (Heap.get?_push_of_some _ (hH2 ▸ Heap.get?_push_of_some _ e))
  have hacc : h1.get? s2.heap.objs.size = some { cls := .type "list", data := .seq ([] : List Value).toArray 0 } := hsb1.extBut _ _ hDC (Heap.get?_push_of_some _ (hH2 ▸ Heap.get?_push_size _ rfl))
  have lt : ∀ b ∈ fp, b < s2.heap.objs.size := fun b hb => by
    obtain ⟨o, e, _⟩ := T.obj _ _ st2 b hb
    exact Heap.lt_size e
  have hxr : (relabel scope X.env).names.lookup x = some .local := lookup_relabel_local hx
  have ok := okC (N := x :: ns) (scope := scope) (cl := cl) (C := g2.objs.size) I2 f2 lt hCle hkind hcl hfr
  have I3 := invC (D := s2.heap.objs.size) (t := s2.toks + ([] : List (Str × Value)).length) I2 ok cap hcl keep1 hCle hns1 hacc (Nat.le_refl _) hDC (fun v z => by cases z) hxr
  have fC : ∀ {H' : Hp} {pl : List (Addr × Obj)}, (∀ p ∈ pl, p.1 = s2.heap.objs.size) → (∀ b ∈ fp, H' b = none) → ∀ b ∈ fp, FpOk (cxC X (x :: ns) scope cl g2.objs.size s2 H2 fp) pl H' b := fun {H' pl} hpl hn b hb =>
    ⟨hn b hb, (ok.exf b hb).1, fun z => ok.exfs b hb z, .inl hb, (ok.exf b hb).2, fun p hp z => by
      have q := hpl p (by simpa [cxC] using hp)
      have := lt b hb
      rw [← z, q] at this
      exact Nat.lt_irrefl _ this⟩
  have lnc : ∀ us : List Value, ∀ v, (LCg.lst us).data ≠ .cell v := fun us v z => by cases z
  have loop : ∀ s3 : Shared, s3 = { s2 with heap := h1, toks := s2.toks + ([] : List (Str × Value)).length } →
      codeAny (model X.prog X.w) X.A (.compLoop (.ListComp elt [⟨.Name x px, iter, ifs, 0⟩] scope pos) 0 (.ref it) (.ref s2.heap.objs.size) (compEnvC scope cl g2.objs.size X.env))
        (RR (.ref s2.heap.objs.size) g2.objs.size) s3 := by
    rintro s3 rfl
    refine lc_loop (fun n s' => ∃ i ys us r H', Inv (cxC X (x :: ns) scope cl g2.objs.size s2 H2 fp) [(s2.heap.objs.size, LCg.lst us)] (stIn r idx σ) H' s' ∧ tn i s'.heap ∧ (∀ b ∈ fp, H' b = none) ∧ Vals ys us ∧ W i n ys H') ?_ m0
      ⟨0, [], [], none, H2, I3, T.keep _ _ _ st2 fun b _ o e => keep1 b o e, fun b hb => (f2 b hb).1, .nil, w0⟩
    rintro n s4 ⟨i, ys, us, r, H4, I4, st4, fr4, vs4, w4⟩
    obtain ⟨hz, ⟨stop, qn⟩ | ⟨go, step⟩⟩ := turn i n ys H4 w4
    · refine thn (T.done (cxC X (x :: ns) scope cl g2.objs.size s2 H2 fp) rfl rfl rfl hc i _ s4 _ H4 NoE I4 (fC (fun p hp => by rw [List.mem_singleton.mp hp]) fr4) st4 stop) fun r5 s5 zz => ?_
      obtain ⟨hr5, I5⟩ := zz
      subst hr5
      obtain ⟨mC, hnC, _⟩ := I5.loc
      obtain ⟨pD1, pD2, _⟩ := I5.pin (s2.heap.objs.size, LCg.lst us) (List.mem_append_right _ (List.mem_singleton.mpr rfl))
      exact hRR fp H2 H4 s5 g2.objs.size s2.heap.objs.size ys I2 f2 ⟨rfl, hCle, hDC, I5.base, I5.hok, I5.free, pD2, I5.os, I5.bare, ⟨mC, hnC⟩, ⟨us, vs4, pD1⟩, hz⟩ (qn _ pD2)
    · refine thn (T.item (cxC X (x :: ns) scope cl g2.objs.size s2 H2 fp) rfl rfl rfl hc i _ s4 _ H4 NoE I4 (fC (fun p hp => by rw [List.mem_singleton.mp hp]) fr4) st4 go) fun r5 s5 zz => ?_
      obtain ⟨u, hr5, k5⟩ := zz
      subst hr5
      refine thn k5 fun _ s6 zz => ?_
      obtain ⟨y, H6, I6, r6, y6, st6, fr6⟩ := zz
      have I6' := I6.pinned (fC (fun p hp => by rw [List.mem_singleton.mp hp]) fr6) (T.obj _ _ st6)
      have G := pg_name (X := cxC X (x :: ns) scope cl g2.objs.size s2 H2 fp) (pos := px) (i := 0) (x := x) nd rfl (.inl hxr) (.inr hxr)
      refine thn (G _ s6 _ H6 y u (fun σ' H' => σ' = stIn (some y) idx σ ∧ H' = H6) I6' r6 ⟨rfl, rfl⟩) fun _ s7 zz => ?_
      obtain ⟨σ7, H7, I7, e7, eH⟩ := zz
      subst e7 eH
      refine thn (htt g2.objs.size s2 H2 fp _ s7 _ _ _ I7 (step y _ y6)) fun ok s71 zz => ?_
      obtain ⟨H71, I71, k71⟩ := zz
      cases ok with
      | false =>
        obtain ⟨m', lm, w8⟩ := (show ∃ m', m' < n ∧ W (i + 1) m' ys H71 from k71)
        have kf : ∀ b ∈ fp, ∀ o, s6.heap.get? b = some o → s71.heap.get? b = some o ∧ H71 b = none := fun b hb o e => by
          have q := I71.pin (b, o) (List.mem_append_right _ (List.mem_append_right _ (mem_pinsAt hb e)))
          exact ⟨q.1, q.2.1⟩
        obtain ⟨pD1, pD2, pD3, pD4, _⟩ := I71.pin (s2.heap.objs.size, LCg.lst us) (by simp [cxC])
        refine ⟨m', lm, i + 1, ys, us, some y, H71, I71.pins_of fun p hp => ?_, ?_, fun b hb => ?_, vs4, w8⟩
        · rw [List.mem_singleton.mp hp]
          exact ⟨pD1, pD2, pD3, pD4, lnc _⟩
        · exact T.keep _ _ _ st6 fun b hb o e => (kf b hb o e).1
        · obtain ⟨o, e, _⟩ := T.obj _ _ st6 b hb
          exact (kf b hb o e).2
      | true =>
      refine thn (hel g2.objs.size s2 H2 fp _ s71 _ _ _ I71 k71) fun y8 s8 zz => ?_
      obtain ⟨v, H8, I8, r8, m', lm, w8⟩ := zz
      obtain ⟨pD1, pD2, pD3, pD4, _⟩ := I8.pin (s2.heap.objs.size, LCg.lst us) (by simp [cxC])
      have kf : ∀ b ∈ fp, ∀ o, s6.heap.get? b = some o → s8.heap.get? b = some o ∧ H8 b = none := fun b hb o e => by
        have q := I8.pin (b, o) (List.mem_append_right _ (List.mem_append_right _ (mem_pinsAt hb e)))
        exact ⟨q.1, q.2.1⟩
      refine append_at (hsz := by show us.toArray.size ≤ sizeLine; rw [List.size_toArray, ← vs4.length]; exact hz) pD1 fun h9 sb9 hD9 => ?_
      have I8' : Inv (cxC X (x :: ns) scope cl g2.objs.size s2 H2 fp) [] (stIn (some y) idx σ) H8 s8 := I8.pins_of fun p hp => nomatch hp
      have I9 := I8'.turned (it := s2.heap.objs.size) (h' := h9) (t' := s8.toks) (fun b o hb e => (sb9.2 b hb).trans e) pD2 pD3 (.inr (Nat.le_refl _)) (fun y c e z => by
          obtain ⟨v, q⟩ := I2.cell y c (hcl y c e)
          exact absurd q.lt (by rw [z]; exact Nat.lt_irrefl _)) (fun p hp => by simp [cxC] at hp)
      refine ⟨m', lm, i + 1, ys ++ [v], us ++ [y8], some y, H8, I9.pins_of fun p hp => ?_, ?_, fun b hb => ?_, vs4.append (.cons r8 .nil), w8⟩
      · rw [List.mem_singleton.mp hp]
        exact ⟨hD9.trans (congrArg some (LCg.lst_snoc us y8)), pD2, pD3, pD4, lnc _⟩
      · exact T.keep _ _ _ st6 fun b hb o e => (sb9.2 b (Nat.ne_of_lt (lt b hb))).trans (kf b hb o e).1
      · obtain ⟨o, e, _⟩ := T.obj _ _ st6 b hb
        exact (kf b hb o e).2
  exact codeAny_compStart_list (loop _ rfl) (T.self _ 0 _ _ _ (T.keep _ _ _ st2 fun b _ o e => keep1 b o e) (loop _ rfl))
theorem LcEnd.inv {fp : List Addr} {H2 H4 : Hp} {s2 s5 : Shared} {C D : Addr} {ys : List V} {pins : List (Addr × Obj)} {σ : L2.St} {h' : Heap} (L : LcEnd X fp H2 H4 s2 s5 C D ys) (I2 : Inv X pins σ H2 s2) (f2 : ∀ b ∈ fp, FpOk X pins H2 b) (sb : Heap.SameBut C s5.heap h') :
    Inv X pins σ (upd H4 D (.lst ys)) { s5 with heap := h' } := by
  obtain ⟨rfl, hCle, hDC, U, hok, cf, pD2, eo, bare, ⟨mC, hnC⟩, ⟨us, vs4, pD1⟩, hz⟩ := L
  have neC : ∀ b o, s2.heap.get? b = some o → b ≠ C := fun b o e => Nat.ne_of_lt (Nat.lt_of_lt_of_le (Heap.lt_size e) hCle)
  have U' : Un (frs X.stack) fp H2 H4 s2.heap h' := ⟨fun b o e n hb hx => (sb.2 b (neC b o e)).trans (U.keep b o e n hb hx), fun b o e n hb hx => by
      obtain ⟨sl, q⟩ := U.slot b o e n hb hx
      exact ⟨sl, (sb.2 b (neC b o e)).trans q⟩, U.free, fun b o e hx => by
      obtain ⟨o', q⟩ := U.there b o e hx
      exact ⟨o', (sb.2 b (neC b o e)).trans q⟩, U.tups, U.frzs, U.tbls⟩
  have hok' : HOk X.prog X.w H4 h' := fun a o e => by
    refine (hok a o e).stay (fun b u hb q => (sb.2 b ?_).trans q) (fun _ z => z) fun _ _ z => z
    rintro rfl
    rcases hb with hb | hb
    · rw [← hb, cf] at e; cases e
    · rw [cf] at hb; cases hb
  have I6 := I2.call (ch := fp) (h' := h') (g' := s5.gens) (t' := s5.toks) (d' := s5.drawn) U' hok' bare fun b hb => ⟨(f2 b hb).2.2.2.1, (f2 b hb).2.1, (f2 b hb).2.2.2.2.1, (f2 b hb).2.2.2.2.2⟩
  have I7 := Inv.adopt (x := s2.heap.objs.size) (o := .lst ys) (fun y c e z => by
      obtain ⟨v, q⟩ := I2.cell y c e
      exact absurd q.lt (by rw [z]; exact Nat.lt_irrefl _)) I6 (Heap.get?_none_of_le I2.sz) pD2 (Nat.ne_of_gt I2.lt) (fun p hp z => by
      have := Heap.lt_size (I2.pin p hp).1
      rw [z] at this
      exact Nat.lt_irrefl _ this) ⟨hz, us, us.length, vs4, (sb.2 _ hDC).trans pD1⟩
  rw [← eo] at I7
  exact I7
theorem pie_toT {pins : List (Addr × Obj)} {σ : L2.St} {tg : Expr} {Q : VK} {itv : Value} {s2 : Shared} (h : PIE X pins σ tg (fun J H1 => LcBody J idx te σ Q H1) itv s2) : PIE X pins σ tg (fun J H1 => LcBodyT J idx ttNil te σ Q H1) itv s2 := by
  obtain ⟨it, fp, tn, J, H', a, b, c, d, e, q⟩ := h
  exact ⟨it, fp, tn, J, H', a, b, c, d, e, q.toT⟩
theorem pe_lc (hc : X.calm = true) (hi : PI X (.Name x px) iter wi) (hclos : closureFor scope X.env = pure cl) (hcell : ∀ y ∈ scope.names, y.2 ≠ .cell) (hkind : scope.kind = .function)
    (hnames : ∀ y ∈ scope.names, y.2 = .local → scope.names.lookup y.1 = some .local) (hx : scope.names.lookup x = some .local) (nd : (x :: ns).Nodup) (cap : Capt X scope cl ns idx)
    (hcl : ∀ y c, cl.lookup y = some c → X.env.cells.lookup y = some c) (hfr : ∀ y, ((relabel scope X.env).names.lookup y = some .cell ∨ (relabel scope X.env).names.lookup y = some .free) → ∃ c, cl.lookup y = some c)
    (hel : ∀ (C : Addr) (s : Shared) (H : Hp) (fp : List Addr), PE (cxC X (x :: ns) scope cl C s H fp) elt te) (hs : ∀ v, foldedSetIterable iter X.env v = pure v := by intro _; rfl) :
    PE X (.ListComp elt [⟨.Name x px, iter, [], 0⟩] scope pos) (tLc wi idx te) := by
  intro pins s σ H Q I h
  rw [eval_ListComp]
  refine wpAny_comprehension_free (use := none) rfl hs hclos hkind hnames (thn (hi pins s σ H _ I h) fun v s1 h1 => thn h1 fun itv s2 h2 => ?_)
  refine lc_main (tt := ttNil) hc hi hclos hcell hkind hnames hx nd cap hcl hfr (fun _ _ _ _ => pts_nil) hel (RR := fun acc C => compPost (model X.prog X.w) X.A X.xe none (EP X pins σ Q) acc C) (pie_toT h2) fun fp H2 H4 s5 C D ys I2 f2 L q => ?_
  obtain ⟨mC, hnC⟩ := L.ns
  exact ⟨mC, hnC, fun h' sb => ⟨.ref D, _, L.inv I2 f2 sb, rfl, q⟩⟩
theorem ps_lc {j : Nat} {y : Str} {py spos : Pos} (hN : X.N.Nodup) (hj : X.N[j]? = some y) (hy : X.env.scope.names.lookup y = some .local) (hsw : swapsWith (.ListComp elt [⟨.Name x px, iter, [], 0⟩] scope pos) (some (.Name y py)) spos.line X.env = pure true)
    (hc : X.calm = true) (hi : PI X (.Name x px) iter wi) (hclos : closureFor scope X.env = pure cl) (hcell : ∀ y ∈ scope.names, y.2 ≠ .cell) (hkind : scope.kind = .function)
    (hnames : ∀ y ∈ scope.names, y.2 = .local → scope.names.lookup y.1 = some .local) (hx : scope.names.lookup x = some .local) (nd : (x :: ns).Nodup) (cap : Capt X scope cl ns idx)
    (hcl : ∀ y c, cl.lookup y = some c → X.env.cells.lookup y = some c) (hfr : ∀ y, ((relabel scope X.env).names.lookup y = some .cell ∨ (relabel scope X.env).names.lookup y = some .free) → ∃ c, cl.lookup y = some c)
    (hel : ∀ (C : Addr) (s : Shared) (H : Hp) (fp : List Addr), PE (cxC X (x :: ns) scope cl C s H fp) elt te) (hs : ∀ v, foldedSetIterable iter X.env v = pure v) :
    PS X (.Assign [.Name y py] (.ListComp elt [⟨.Name x px, iter, [], 0⟩] scope pos) spos) (tAsg (tLc wi idx te) (gName j)) := by
  intro pins s σ H D I h
  rw [exec_Assign_Name_used _ _ _ _ hsw]
  refine wpAny_bind (wpAny_standAt (wpAny_bind ?_))
  show wpAny _ _ (do let _ ← comprehension (.ListComp elt [⟨.Name x px, iter, [], 0⟩] scope pos) scope X.env _ (newList []) false (eval iter X.env) (some (assign (.Name y py) X.env))) _ _ s
  refine wpAny_bind (wpAny_mono (wpAny_comprehension_free (use := some (assign (.Name y py) X.env)) (Q := fun _ s' => SP X pins D .next s') rfl hs hclos hkind hnames
    (thn (hi pins s σ H _ I h) fun v s1 h1 => thn h1 fun itv s2 h2 => ?_)) (fun _ s' hq => wpAny_pure (wpAny_pure hq)) fun _ _ e => e)
  refine lc_main (tt := ttNil) hc hi hclos hcell hkind hnames hx nd cap hcl hfr (fun _ _ _ _ => pts_nil) hel (RR := fun acc C => compPost (model X.prog X.w) X.A X.xe (some (assign (.Name y py) X.env)) (fun _ s' => SP X pins D .next s') acc C) (pie_toT h2) fun fp H2 H4 s5 C Da ys I2 f2 L q => ?_
  have I7 := L.inv I2 f2 (h' := s5.heap) ⟨rfl, fun _ _ => rfl⟩
  show wpAny _ _ (assign (.Name y py) X.env (.ref Da)) _ _ s5
  have cL : C ≠ X.env.locals := Nat.ne_of_gt (Nat.lt_of_lt_of_le I2.lt L.cn)
  have cc : ∀ z c, X.env.cells.lookup z = some c → c ≠ C := fun z c e => by
    obtain ⟨v, k⟩ := I2.cell z c e
    exact Nat.ne_of_lt (Nat.lt_of_lt_of_le k.lt L.cn)
  refine wpAny_assign_Name (store_ok2 I7 hN hj (.inl hy) (v := .ref Da) rfl (fun s8 I8 sm => ?_) (.inr hy))
  obtain ⟨a, sba, ha⟩ := sm
  have ac : C ≠ a := by
    rcases ha with rfl | ha
    · exact cL
    · exact Ne.symm (cc _ _ ha)
  obtain ⟨mC, o, es, ep, e1, e2⟩ := L.ns
  refine ⟨mC, ⟨o, es, ep, (sba.2 C ac).trans e1, e2⟩, fun h' sb => ⟨_, _, ?_, q⟩⟩
  refine I8.turned (it := C) (h' := h') (t' := s8.toks) (fun b u nb e => (sb.2 b nb).trans e) ?_ cL (.inr (Nat.le_trans I2.sz L.cn)) cc fun p hp z => ?_
  · rw [upd_ne (Ne.symm L.dc)]
    exact L.cf
  · have := Heap.lt_size (I2.pin p hp).1
    rw [z] at this
    exact absurd this (Nat.not_lt.mpr L.cn)
end
end Kw
set_option Elab.async false
set_option linter.all false
set_option maxRecDepth 100000
set_option maxHeartbeats 4000000
namespace Kw
open PySem PySem.Spec PyProof.Rows L2
theorem all_range_bl (bs : List Bool) : (List.range bs.length).all (fun i => bs.getD i false) = bs.all id := by
  rw [Bool.eq_iff_iff, List.all_eq_true, List.all_eq_true]
  constructor
  · intro h b hb
    obtain ⟨i, hi, rfl⟩ := List.mem_iff_getElem.mp hb
    have := h i (List.mem_range.mpr hi)
    simpa [List.getD, hi] using this
  · intro h i hi
    have hi' := List.mem_range.mp hi
    have := h bs[i] (List.getElem_mem hi')
    simpa [List.getD, hi'] using this
section
variable {X : Cx}
noncomputable def rAll (K : PySem.W.Frag) : List V → Hp → VK → Prop := fun xs H Q => ∃ p, ∃ bs : List Bool, xs = [.ref p] ∧ SqL K H p (bs.map V.bl) ∧ Q (.bl (bs.all id)) H
theorem call_all {K : PySem.W.Frag} (hK : X.K = K) (hc : X.calm = true) : CallR X (.builtin "all") (rAll K) := by
  subst hK
  intro pins s σ H xs us Q I r h
  obtain ⟨p, bs, rfl, hp, q⟩ := h
  obtain ⟨u, rfl, rx⟩ := vals1 r
  cases rx
  obtain ⟨its, r', pl, hz⟩ := I.list hp
  have hlen := r'.length
  rw [List.length_map] at hlen
  have hlt : p < s.heap.objs.size := by
    obtain ⟨o, n, e, _⟩ := pl
    exact Heap.lt_size e
  refine call_all_walk (wpAny_pyIter_list pl.isList ?_)
  refine ⟨s.heap.objs.size, [s.heap.objs.size, p], [s.heap.objs.size], its.toArray.size, fun i v => its.toArray[i]? = some v, fun i h => h.IsListIter s.heap.objs.size p i ∧ h.IsList p its.toArray, fun i => bs.getD i false, rfl, Walks.list (A := X.A.in1) (I.ok.hd hc) s.heap.objs.size p (Nat.ne_of_lt hlt) its.toArray, ⟨⟨_, Heap.get?_push_size _ rfl, rfl, rfl⟩, pl.isList.push _⟩, ?_, fun h' tk kk => ?_⟩
  · intro i v z Q' E' hv hq
    have hv' : its[i]? = some v := by simpa using hv
    obtain ⟨hi, e⟩ := List.getElem?_eq_some_iff.mp hv'
    have hi' : i < bs.length := by omega
    have eb : (bs.map V.bl)[i]? = some (V.bl bs[i]) := by rw [List.getElem?_map, List.getElem?_eq_getElem hi']; rfl
    obtain ⟨w', hw, rw'⟩ := r'.get eb
    rw [hv'] at hw
    cases hw
    cases (show v = Value.bool bs[i] from rw')
    have e2 : bs.getD i false = bs[i] := by simp [List.getD, hi']
    dsimp only at hq
    rw [e2] at hq
    exact wpAny_truthy_bool hq
  · rw [List.size_toArray, ← hlen, all_range_bl]
    refine ⟨.bl (bs.all id), H, I.kept (t' := tk) fun b o e => ?_, rfl, q⟩
    exact kk b o (fun z => by
      have e' := List.mem_singleton.mp z
      have := Heap.lt_size e
      rw [e'] at this
      exact Nat.lt_irrefl _ this) (Heap.get?_push_of_some _ e)
end
end Kw
namespace Kw
open PySem PySem.Spec PyProof.Rows L2
section
variable {prog : Program} {w : World} {A : Around} {E : Value → Shared → Prop} {s : Shared} {I l S : Addr} {items : Array Value}
end
end Kw
namespace Kw
open PySem PySem.Spec PyProof.Rows L2
section
variable {X : Cx}
end
end Kw
set_option Elab.async false
set_option linter.all false
set_option maxRecDepth 100000
set_option maxHeartbeats 4000000
namespace Kw
open PySem PySem.Spec PyProof.Rows L2
section
variable {X : Cx}
end
end Kw
set_option Elab.async false
set_option linter.all false
set_option maxRecDepth 100000
set_option maxHeartbeats 4000000
namespace Kw
open PySem PySem.Spec PyProof.Rows L2
section
variable {K : PySem.W.Frag} {idx : List Nat} {te : TE} {σ : L2.St} {H : Hp} {Q : VK}
theorem lc_list {a : Addr} {xs : List V} (Pv : Nat → List V → Hp → Prop) (h0 : Pv 0 [] H) (hz : xs.length ≤ sizeLine) (hy : ∀ i ys H, Pv i ys H → ys.length = i) (hl : ∀ i ys H, Pv i ys H → SqL K H a xs)
    (hs : ∀ i x ys H (Q' : VK), xs[i]? = some x → Pv i ys H → (∀ v H2, Pv (i + 1) (ys ++ [v]) H2 → Q' v H2) → te (stIn (some x) idx σ) H Q') (hd : ∀ ys H, Pv xs.length ys H → ∀ p, H p = none → Q (.ref p) (upd H p (.lst ys))) :
    LcBody (Itl K a) idx te σ Q H := by
  refine ⟨fun i m ys H => m = xs.length - i ∧ i ≤ xs.length ∧ Pv i ys H, ⟨xs.length, by simp, Nat.zero_le _, h0⟩, ?_⟩
  rintro i m ys H ⟨rfl, hi, p⟩
  have q := hl i ys H p
  refine ⟨by rw [hy i ys H p]; omega, ?_⟩
  by_cases hlt : i < xs.length
  · refine .inr ⟨⟨xs, xs[i], q, by simp [hlt]⟩, fun y H' yl => ?_⟩
    obtain ⟨e, yl⟩ := yl
    subst e
    exact hs i y ys _ _ (yl xs q) p fun v H2 z => ⟨xs.length - (i + 1), by omega, rfl, hlt, z⟩
  · have e : i = xs.length := by omega
    subst e
    exact .inl ⟨⟨xs, q, Nat.le_refl _⟩, hd ys H p⟩
end
theorem no_free {names : List (Str × NameKind)} {cl : List (Str × Addr)} (h : names.all (fun z => z.2 != .cell && z.2 != .free) = true) : ∀ y, (names.lookup y = some .cell ∨ names.lookup y = some .free) → ∃ c, cl.lookup y = some c := fun y hy => by
  have mem : ∀ (l : List (Str × NameKind)) k, l.lookup y = some k → ∃ z ∈ l, z.2 = k := fun l => by
    induction l with
    | nil => intro k e; cases e
    | cons a r ih =>
      intro k e
      rw [List.lookup_cons] at e
      split at e
      · exact ⟨a, List.mem_cons_self, Option.some.inj e⟩
      · obtain ⟨z, hz, ez⟩ := ih k e
        exact ⟨z, List.mem_cons_of_mem _ hz, ez⟩
  rcases hy with e | e
  all_goals
    obtain ⟨z, hz, ez⟩ := mem _ _ e
    have := List.all_eq_true.mp h z hz
    rw [ez] at this
    simp at this
theorem cap_none {X : Cx} {scope : Scope} {cl : List (Str × Addr)} : Capt X scope cl [] [] := ⟨rfl, fun k y h => by simp at h⟩
end Kw
namespace Kw
open PySem PySem.Spec PyProof.Rows L2
section
variable {K : PySem.W.Frag} {H H' : Hp} {b : Addr} {v : V}
end
end Kw
namespace Kw
open PySem PySem.Spec PyProof.Rows L2
section
variable {K : PySem.W.Frag} {H H' : Hp} {b c : Addr} {x : V}
end
end Kw
namespace Kw
open PySem PySem.Spec PyProof.Rows L2
theorem cap_fr {names : List (Str × NameKind)} {cl : List (Str × Addr)} (h : names.all (fun z => (z.2 != .cell && z.2 != .free) || (cl.lookup z.1).isSome) = true) : ∀ y, (names.lookup y = some .cell ∨ names.lookup y = some .free) → ∃ c, cl.lookup y = some c := fun y hy => by
  have mem : ∀ (l : List (Str × NameKind)) k, l.lookup y = some k → (y, k) ∈ l := fun l => by
    induction l with
    | nil => intro k e; cases e
    | cons a r ih =>
      intro k e
      rw [List.lookup_cons] at e
      split at e
      · rename_i q
        have e1 : y = a.1 := by simpa using q
        have e2 := Option.some.inj e
        rw [e1, ← e2]
        exact List.mem_cons_self
      · exact List.mem_cons_of_mem _ (ih k e)
  rcases hy with e | e
  all_goals
    have := List.all_eq_true.mp h _ (mem _ _ e)
    exact Option.isSome_iff_exists.mp (by simpa using this)
end Kw
theorem Kw.ixT {X : L2.Cx} {K : PySem.W.Frag} (hK : X.K = K) : L2.IxR X (L2.rIxT K) := by
  subst hK
  exact L2.ix_tup
namespace Kw
open PySem PySem.Spec PyProof.Rows L2
section
variable {K : PySem.W.Frag} {H : Hp} {b : Addr} {x : V}
end
end Kw
set_option maxRecDepth 100000
namespace Kw
theorem q_of {n d : Int} (hd : 0 < d) (hg : Int.gcd n d = 1) : (Rat.divInt n d).num = n ∧ (((Rat.divInt n d).den : Nat) : Int) = d := by
  rw [Rat.num_divInt, Rat.den_divInt, Int.gcd_comm, hg, Int.sign_eq_one_of_pos hd, if_neg (by omega)]
  constructor
  · simp
  · simp; omega
theorem q_is {q : Rat} {n d : Int} (hd : 0 < d) (hg : Int.gcd n d = 1) (e : q = Rat.divInt n d) : n = q.num ∧ d = ((q.den : Nat) : Int) := by
  subst e
  obtain ⟨a, b⟩ := q_of hd hg
  exact ⟨a.symm, b.symm⟩
theorem gcd_fT_fB {t b : Int} (h : b ≠ 0) : Int.gcd (fT t b) (fB t b) = 1 := by
  have hp : 0 < Int.gcd t b := Int.gcd_pos_of_ne_zero_right _ h
  have e1 := fT_mul t b
  have e2 := fB_mul t b
  have e : Int.gcd (dv t b * fT t b) (dv t b * fB t b) = (dv t b).natAbs * Int.gcd (fT t b) (fB t b) := Int.gcd_mul_left ..
  rw [e1, e2] at e
  have hn : (dv t b).natAbs = Int.gcd t b := by unfold dv; split <;> simp
  rw [hn] at e
  exact Nat.eq_of_mul_eq_mul_left hp (by omega)
theorem q_fit {t b : Int} (h : b ≠ 0) : fT t b = (Rat.divInt t b).num ∧ fB t b = (((Rat.divInt t b).den : Nat) : Int) := by
  refine q_is (fB_pos h) (gcd_fT_fB h) ?_
  have e := Rat.divInt_mul_left (n := fT t b) (d := fB t b) (dv_ne (t := t) h)
  rw [fT_mul, fB_mul] at e
  exact e
theorem q_red (q : Rat) : Int.gcd q.num ((q.den : Nat) : Int) = 1 := by
  have := q.reduced
  simpa [Int.gcd, Nat.Coprime] using this
theorem q_pos (q : Rat) : 0 < ((q.den : Nat) : Int) := by
  have := q.den_nz
  omega
theorem q_add (x y : Rat) : Rat.divInt (x.num * y.den + y.num * x.den) (x.den * y.den) = x + y := by
  conv => rhs; rw [← Rat.num_divInt_den x, ← Rat.num_divInt_den y]
  rw [Rat.divInt_add_divInt _ _ (by have := q_pos x; omega) (by have := q_pos y; omega)]
theorem q_sub (x y : Rat) : Rat.divInt (x.num * y.den - y.num * x.den) (x.den * y.den) = x - y := by
  conv => rhs; rw [← Rat.num_divInt_den x, ← Rat.num_divInt_den y]
  rw [Rat.divInt_sub_divInt _ _ (by have := q_pos x; omega) (by have := q_pos y; omega)]
theorem q_mul (x y : Rat) : Rat.divInt (x.num * y.num) (x.den * y.den) = x * y := by
  conv => rhs; rw [← Rat.num_divInt_den x, ← Rat.num_divInt_den y]
  rw [Rat.divInt_mul_divInt]
theorem q_inv (y : Rat) : Rat.divInt y.den y.num = y⁻¹ := by
  conv => rhs; rw [← Rat.num_divInt_den y]
  rw [Rat.inv_divInt]
theorem q_div (x y : Rat) : Rat.divInt (x.num * y.den) (x.den * y.num) = x / y := by
  rw [Rat.div_def, ← q_inv]
  conv => rhs; rw [← Rat.num_divInt_den x]
  rw [Rat.divInt_mul_divInt]
theorem q_neg (y : Rat) : (-y).num = -y.num ∧ (-y).den = y.den := ⟨rfl, rfl⟩
theorem q_lt (x y : Rat) : x < y ↔ x.num * y.den < y.num * x.den := Rat.lt_iff x y
theorem fd_mul {x g : Int} (h : g ∣ x) : g * x.fdiv g = x := Int.mul_fdiv_cancel' h
theorem quot_dvd {x g : Int} (h : g ∣ x) : x.fdiv g ∣ x := ⟨g, by rw [Int.mul_comm]; exact (fd_mul h).symm⟩
theorem cop_dvd {a b b' : Int} (h : Int.gcd a b = 1) (d : b' ∣ b) : Int.gcd a b' = 1 := by
  have h1 : Int.gcd a b' ∣ Int.gcd a b := Int.dvd_gcd (Int.gcd_dvd_left ..) (Int.dvd_trans (Int.gcd_dvd_right ..) d)
  rw [h] at h1
  exact Nat.dvd_one.mp h1
theorem cop_mul {a b c : Int} (h : Int.gcd a b = 1) (k : Int.gcd a c = 1) : Int.gcd a (b * c) = 1 := by
  show Nat.gcd a.natAbs (b * c).natAbs = 1
  rw [Int.natAbs_mul]
  exact Nat.Coprime.mul_right h k
theorem cop_add {a b c : Int} (h : Int.gcd a b = 1) : Int.gcd (a + c * b) b = 1 := by
  rw [Int.gcd_add_mul_right_left]; exact h
theorem cop_quot {a b : Int} (h : b ≠ 0) (g : Int) (hg : g = ((Int.gcd a b : Nat) : Int)) : Int.gcd (a.fdiv g) (b.fdiv g) = 1 := by
  have hp : 0 < Int.gcd a b := Int.gcd_pos_of_ne_zero_right _ h
  have e1 : g * a.fdiv g = a := fd_mul (by rw [hg]; exact Int.gcd_dvd_left ..)
  have e2 : g * b.fdiv g = b := fd_mul (by rw [hg]; exact Int.gcd_dvd_right ..)
  have e : Int.gcd (g * a.fdiv g) (g * b.fdiv g) = g.natAbs * Int.gcd (a.fdiv g) (b.fdiv g) := Int.gcd_mul_left ..
  rw [e1, e2] at e
  have hn : g.natAbs = Int.gcd a b := by rw [hg]; simp
  rw [hn] at e
  exact Nat.eq_of_mul_eq_mul_left hp (by omega)
theorem quot_pos {b g : Int} (hb : 0 < b) (hg : 0 < g) (d : g ∣ b) : 0 < b.fdiv g := by
  have e := fd_mul d
  refine Int.not_le.mp fun q => ?_
  have := Int.mul_nonpos_of_nonneg_of_nonpos (Int.le_of_lt hg) q
  omega
theorem gpos {a b : Int} (h : b ≠ 0) : 0 < ((Int.gcd a b : Nat) : Int) := by
  have := Int.gcd_pos_of_ne_zero_right a h
  omega
theorem q_plus (x y : Rat) (g t h : Int) (hg : g = ((Int.gcd ((x.den : Nat) : Int) ((y.den : Nat) : Int) : Nat) : Int)) (ht : t = x.num * ((y.den : Nat) : Int).fdiv g + y.num * ((x.den : Nat) : Int).fdiv g) (hh : h = ((Int.gcd t g : Nat) : Int)) :
    t.fdiv h = (x + y).num ∧ ((x.den : Nat) : Int).fdiv g * ((y.den : Nat) : Int).fdiv h = (((x + y).den : Nat) : Int) := by
  have hb := q_pos x
  have hd := q_pos y
  have rx := q_red x
  have ry := q_red y
  have ea := q_add x y
  revert hb hd rx ry hg ht ea
  generalize x.num = a
  generalize y.num = c
  generalize ((x.den : Nat) : Int) = b
  generalize ((y.den : Nat) : Int) = d
  intro hg ht hb hd rx ry ea
  have g0 : 0 < g := by rw [hg]; exact gpos (by omega)
  have h0 : 0 < h := by rw [hh]; exact gpos (by omega)
  have gb : g ∣ b := by rw [hg]; exact Int.gcd_dvd_left ..
  have gd : g ∣ d := by rw [hg]; exact Int.gcd_dvd_right ..
  have hht : h ∣ t := by rw [hh]; exact Int.gcd_dvd_left ..
  have hhg : h ∣ g := by rw [hh]; exact Int.gcd_dvd_right ..
  have eb := fd_mul gb
  have ed := fd_mul gd
  have et := fd_mul hht
  have eg := fd_mul hhg
  have b0 := quot_pos hb g0 gb
  have d0 := quot_pos hd g0 gd
  have k0 := quot_pos g0 h0 hhg
  have cbd : Int.gcd (b.fdiv g) (d.fdiv g) = 1 := cop_quot (by omega) g hg
  have ctg : Int.gcd (t.fdiv h) (g.fdiv h) = 1 := cop_quot (by omega) h hh
  have dh : d.fdiv h = g.fdiv h * d.fdiv g := by
    have e := fd_mul (Int.dvd_trans hhg gd)
    have e2 : h * (g.fdiv h * d.fdiv g) = d := by rw [← Int.mul_assoc, eg, ed]
    exact Int.eq_of_mul_eq_mul_left (by omega) (e.trans e2.symm)
  have ct1 : Int.gcd t (b.fdiv g) = 1 := by
    rw [ht]
    refine cop_add ?_
    rw [Int.gcd_comm]
    exact cop_mul (by rw [Int.gcd_comm]; exact cop_dvd rx ⟨g, by rw [Int.mul_comm]; exact eb.symm⟩) cbd
  have ct2 : Int.gcd t (d.fdiv g) = 1 := by
    rw [ht, Int.add_comm]
    refine cop_add ?_
    rw [Int.gcd_comm]
    exact cop_mul (by rw [Int.gcd_comm]; exact cop_dvd ry ⟨g, by rw [Int.mul_comm]; exact ed.symm⟩) (by rw [Int.gcd_comm]; exact cbd)
  have sub : ∀ z, Int.gcd t z = 1 → Int.gcd (t.fdiv h) z = 1 := fun z hz => by
    rw [Int.gcd_comm] at hz ⊢
    exact cop_dvd hz ⟨h, by rw [Int.mul_comm]; exact et.symm⟩
  rw [dh]
  refine q_is ?_ ?_ ?_
  · exact Int.mul_pos b0 (Int.mul_pos k0 d0)
  · exact cop_mul (sub _ ct1) (cop_mul ctg (sub _ ct2))
  · rw [← ea]
    have z := Rat.divInt_mul_left (n := t.fdiv h) (d := b.fdiv g * (g.fdiv h * d.fdiv g)) (a := g * h) (by have := Int.mul_pos g0 h0; omega)
    rw [← z]
    congr 1
    · rw [Int.mul_assoc, et, ht, Int.mul_add]
      congr 1
      · rw [← Int.mul_assoc, Int.mul_comm g, Int.mul_assoc, ed]
      · rw [← Int.mul_assoc, Int.mul_comm g, Int.mul_assoc, eb]
    · rw [show g * h * (b.fdiv g * (g.fdiv h * d.fdiv g)) = (g * b.fdiv g) * ((h * g.fdiv h) * d.fdiv g) by grind, eb, eg, ed]
theorem q_times (x y : Rat) (f s : Int) (hf : f = ((Int.gcd x.num ((y.den : Nat) : Int) : Nat) : Int)) (hs : s = ((Int.gcd y.num ((x.den : Nat) : Int) : Nat) : Int)) :
    x.num.fdiv f * y.num.fdiv s = (x * y).num ∧ ((x.den : Nat) : Int).fdiv s * ((y.den : Nat) : Int).fdiv f = (((x * y).den : Nat) : Int) := by
  have hb := q_pos x
  have hd := q_pos y
  have rx := q_red x
  have ry := q_red y
  have ea := q_mul x y
  revert hb hd rx ry hf hs ea
  generalize x.num = a
  generalize y.num = c
  generalize ((x.den : Nat) : Int) = b
  generalize ((y.den : Nat) : Int) = d
  intro hf hs hb hd rx ry ea
  have f0 : 0 < f := by rw [hf]; exact gpos (by omega)
  have s0 : 0 < s := by rw [hs]; exact gpos (by omega)
  have fa : f ∣ a := by rw [hf]; exact Int.gcd_dvd_left ..
  have fd : f ∣ d := by rw [hf]; exact Int.gcd_dvd_right ..
  have sc : s ∣ c := by rw [hs]; exact Int.gcd_dvd_left ..
  have sb : s ∣ b := by rw [hs]; exact Int.gcd_dvd_right ..
  have ea' := fd_mul fa
  have ed := fd_mul fd
  have ec := fd_mul sc
  have eb := fd_mul sb
  have c1 : Int.gcd (a.fdiv f) (d.fdiv f) = 1 := cop_quot (by omega) f hf
  have c2 : Int.gcd (c.fdiv s) (b.fdiv s) = 1 := cop_quot (by omega) s hs
  have c3 : Int.gcd (a.fdiv f) (b.fdiv s) = 1 := by
    refine cop_dvd (b := b) ?_ (quot_dvd sb)
    rw [Int.gcd_comm] at rx ⊢
    exact cop_dvd rx (quot_dvd fa)
  have c4 : Int.gcd (c.fdiv s) (d.fdiv f) = 1 := by
    refine cop_dvd (b := d) ?_ (quot_dvd fd)
    rw [Int.gcd_comm] at ry ⊢
    exact cop_dvd ry (quot_dvd sc)
  refine q_is (Int.mul_pos (quot_pos hb s0 sb) (quot_pos hd f0 fd)) ?_ ?_
  · rw [Int.gcd_comm]
    refine cop_mul ?_ ?_
    · rw [Int.gcd_comm]; exact cop_mul c3 c1
    · rw [Int.gcd_comm]; exact cop_mul c2 c4
  · rw [← ea]
    have z := Rat.divInt_mul_left (n := a.fdiv f * c.fdiv s) (d := b.fdiv s * d.fdiv f) (a := f * s) (by have := Int.mul_pos f0 s0; omega)
    rw [← z]
    congr 1
    · rw [show f * s * (a.fdiv f * c.fdiv s) = (f * a.fdiv f) * (s * c.fdiv s) by grind, ea', ec]
    · rw [show f * s * (b.fdiv s * d.fdiv f) = (s * b.fdiv s) * (f * d.fdiv f) by grind, eb, ed]
theorem q_dv (a b : Int) : Rat.divInt a b = (a : Rat) / (b : Rat) := by
  have h := q_div (a : Rat) (b : Rat)
  have e1 : (a : Rat).num * (((b : Rat).den : Nat) : Int) = a := by show a * 1 = a; omega
  have e2 : (((a : Rat).den : Nat) : Int) * (b : Rat).num = b := by show 1 * b = b; omega
  rw [e1, e2] at h
  exact h
theorem q_wpos {i : Int} (h : 1 ≤ i) : (0 : Rat) < (i : Rat) := by
  have : ((0 : Int) : Rat) < (i : Rat) := Rat.intCast_lt_intCast.mpr (by omega)
  exact this
theorem q_divpos {a b : Int} (ha : 0 < a) (hb : 0 < b) : (0 : Rat) < Rat.divInt a b := by
  rw [q_dv]
  rw [Rat.div_def]
  exact Rat.mul_pos (q_wpos (by omega)) (Rat.inv_pos.mpr (q_wpos (by omega)))
end Kw
set_option Elab.async false
set_option linter.all false
set_option maxRecDepth 100000
set_option maxHeartbeats 4000000
namespace Kw
open PySem PySem.Spec PyProof.Rows L2
noncomputable abbrev FQ (K : PySem.W.Frag) (H : Hp) (p : Addr) (x : Rat) : Prop := SqT K H p [.int x.num, .int ((x.den : Nat) : Int)]
section
variable {K : PySem.W.Frag} {H H' : Hp} {p q : Addr} {x y : Rat} {m n : Nat}
theorem FQ.cast (h : FQ K H p x) (e : x = y) : FQ K H p y := e ▸ h
theorem FQ.dp (h : FQ K H p x) : Dp K H (.ref p) (.tuple [.int x.num, .int ((x.den : Nat) : Int)]) := .tup h (.cons (.int _) (.cons (.int _) .nil))
theorem FQ.fit {t b : Int} (h : b ≠ 0) (e : SqT K H p [.int (fT t b), .int (fB t b)]) : FQ K H p (Rat.divInt t b) := by
  obtain ⟨e1, e2⟩ := q_fit (t := t) h
  rw [e1, e2] at e
  exact e
theorem FQ.ofInt {i : Int} (h : SqT K H p [.int i, .int 1]) : FQ K H p (i : Rat) := h
theorem FQ.ofNeg {i : Int} (h : SqT K H p [.int i, .int ((x.den : Nat) : Int)]) (e : i = -x.num) : FQ K H p (-x) := by
  subst e
  exact h
theorem FQ.lit {t b : Int} (h : SqT K H p [.int t, .int b]) (e1 : 0 < b) (e2 : Int.gcd t b = 1) : FQ K H p (Rat.divInt t b) := by
  obtain ⟨z1, z2⟩ := q_of e1 e2
  unfold FQ
  rw [z1, z2]
  exact h
noncomputable def FB (n : Nat) (x : Rat) : Prop := Bd n x.num ∧ Bd n ((x.den : Nat) : Int)
theorem FB.mono (h : FB m x) (l : m ≤ n) : FB n x := ⟨h.1.mono l, h.2.mono l⟩
theorem FB.cast (h : FB n x) (e : x = y) : FB n y := e ▸ h
theorem FB.fit {t b : Int} (h : b ≠ 0) (g1 : Bd n t) (g2 : Bd n b) : FB n (Rat.divInt t b) := by
  obtain ⟨e1, e2⟩ := q_fit (t := t) h
  refine ⟨?_, ?_⟩
  · rw [← e1]; exact bd_fT h g1
  · rw [← e2]; exact bd_fB h g2
theorem q_ne (x : Rat) : ((x.den : Nat) : Int) ≠ 0 := by have := q_pos x; omega
theorem q_num_ne (h : x ≠ 0) : x.num ≠ 0 := fun e => h (Rat.num_eq_zero.mp e)
theorem FB.add (h : FB m x) (g : FB n y) : FB (m + n + 1) (x + y) := by
  rw [← q_add]
  exact FB.fit (Int.mul_ne_zero (q_ne x) (q_ne y)) ((h.1.mul g.2).add ((g.1.mul h.2).mono (by omega))) ((h.2.mul g.2).mono (by omega))
theorem FB.sub (h : FB m x) (g : FB n y) : FB (m + n + 1) (x - y) := by
  rw [← q_sub]
  exact FB.fit (Int.mul_ne_zero (q_ne x) (q_ne y)) ((h.1.mul g.2).sub ((g.1.mul h.2).mono (by omega))) ((h.2.mul g.2).mono (by omega))
theorem FB.mul (h : FB m x) (g : FB n y) : FB (m + n) (x * y) := by
  rw [← q_mul]
  exact FB.fit (Int.mul_ne_zero (q_ne x) (q_ne y)) (h.1.mul g.1) (h.2.mul g.2)
theorem FB.div (h : FB m x) (g : FB n y) (y0 : y ≠ 0) : FB (m + n) (x / y) := by
  rw [← q_div]
  exact FB.fit (Int.mul_ne_zero (q_ne x) (q_num_ne y0)) (h.1.mul g.2) (h.2.mul g.1)
theorem FB.neg (h : FB n x) : FB n (-x) := by
  refine ⟨?_, h.2⟩
  have := h.1
  unfold Bd at this ⊢
  rw [(q_neg x).1]
  omega
theorem FB.ofInt {i : Int} (h : Bd n i) (l : 64 ≤ n) : FB n (i : Rat) := ⟨h, (Bd.small (i := 1) (by decide) (by decide)).mono l⟩
theorem bd_quot {b g : Int} (hb : Bd n b) (d : g ∣ b) (g0 : g ≠ 0) : Bd n (b.fdiv g) := by
  refine hb.of_le ?_
  have e := fd_mul d
  have q := natAbs_le_mul (x := b.fdiv g) g0
  rw [e] at q
  exact q
theorem bd_gcdR {a b : Int} (h : b ≠ 0) (hb : Bd n b) : Bd n ((Int.gcd a b : Nat) : Int) := by
  refine hb.of_le ?_
  have hd : Int.gcd a b ∣ b.natAbs := Nat.gcd_dvd_right _ _
  have := Nat.le_of_dvd (by omega) hd
  omega
end
theorem But.fresh {b : Addr} {H H' : Hp} (h : H b = none) (s : But b H H') : Same H H' := fun a o e => s a o (ne_of_none e h) e
theorem atI_mem (ns : List Int) (d : Int) (lo : 0 ≤ d) (hi : d < (ns.length : Int)) : ∃ v, atI (ns.map V.int) d = some (.int v) ∧ v ∈ ns := by
  have hk : d.toNat < ns.length := by omega
  have ek : d = ((d.toNat : Nat) : Int) := by omega
  have z : atI (ns.map V.int) ((d.toNat : Nat) : Int) = some (.int ns[d.toNat]) := atI_nat (by rw [List.getElem?_map, List.getElem?_eq_getElem hk] <;> rfl)
  rw [← ek] at z
  exact ⟨_, z, List.getElem_mem hk⟩
theorem Scr.same {K : PySem.W.Frag} {H H' : Hp} {a : Addr} (h : Scr K H a) (s : Same H H') : Scr K H' a := by
  obtain ⟨ns, x, y⟩ := h
  exact ⟨ns, s.seq x, y⟩
theorem Fn.imp {P : Program} {w : World} {K : PySem.W.Frag} {mg : Str → Option Value} {base : Heap} {k : Nat} {x : Str} {ps : List Str} {sp sp' : Sp} (F : Fn P w K mg base k x ps sp) (h : ∀ vs H Q E, sp' vs H Q E → sp vs H Q E) : Fn P w K mg base k x ps sp' := by
  obtain ⟨f, fd, g, r⟩ := F.ex
  exact ⟨f, fd, g.imp h, r⟩
theorem if_not {c : Prop} [Decidable c] {A B : Prop} (h1 : ¬ c → A) (h2 : c → B) : if (!decide c) = true then A else B := by
  by_cases e : c
  · rw [decide_eq_true e]; exact iteF (h2 e)
  · rw [decide_eq_false e]; exact iteT (h1 e)
section
variable {X : Cx}
noncomputable def rAl (K : PySem.W.Frag) (r : Bool) : V → V → Hp → VK → Prop := fun x y H Q => ∃ d, Dp K H x d ∧ Dp K H y d ∧ d.canLay0 = true ∧ Nat.ble d.depth 60 = true ∧ Q (.bl r) H
theorem op_neA {K : PySem.W.Frag} (hK : X.K = K) (hu : X.A.units + 100 < cLine) : OpR X (compareOp .NotEq) (rAl K false) := by
  intro pins s σ H x y v u Q I rx ry h
  obtain ⟨d, hx, hy, c, dep, q⟩ := h
  refine op_neD hK hu pins s σ H x y v u Q I rx ry ⟨d, d, hx, hy, c, c, ?_, ?_⟩
  · have := Nat.le_of_ble_eq_true dep
    omega
  · rw [SeqAt.eqv_refl d c]
    exact q
theorem q_list {x y : Rat} : ([x.num, ((x.den : Nat) : Int)] = [y.num, ((y.den : Nat) : Int)]) ↔ x = y := by
  constructor
  · intro e
    simp only [List.cons.injEq, and_true] at e
    exact Rat.ext e.1 (by omega)
  · intro e
    rw [e]
theorem op_eqQ {K : PySem.W.Frag} (hK : X.K = K) (hu : X.A.units + 100 < cLine) : OpR X (compareOp .Eq) (fun a b H Q => ∃ (p q : Addr) (x y : Rat), a = .ref p ∧ b = .ref q ∧ FQ K H p x ∧ FQ K H q y ∧ Q (.bl (decide (x = y))) H) := by
  subst hK
  intro pins s σ H a b v u Q I rx ry h
  obtain ⟨p, q, x, y, rfl, rfl, hx, hy, k⟩ := h
  refine op_eqTI (by omega) pins s σ H _ _ v u Q I rx ry ⟨p, q, [x.num, ((x.den : Nat) : Int)], [y.num, ((y.den : Nat) : Int)], rfl, rfl, hx, hy, ?_⟩
  rw [decide_eq_decide.mpr q_list]
  exact k
end
end Kw
set_option Elab.async false
set_option linter.all false
set_option maxRecDepth 100000
set_option maxHeartbeats 4000000
namespace Kw
open PySem PySem.Spec PyProof.Rows L2
section
variable {X : Cx}
noncomputable def rBits : V → List V → Hp → VK → Prop := fun x vs H Q => ∃ i : Int, x = .int i ∧ vs = [] ∧ Q (.int ((Builtin.Int.intBits i : Nat) : Int)) H
theorem mt_bits : MtR X "int.bit_length" rBits := by
  intro pins s σ H x vs v us Q I rx rv h
  obtain ⟨i, rfl, rfl, q⟩ := h
  obtain ⟨t, rfl⟩ := rx
  cases rv
  exact call_gives PySem.F.slot_int_bit_length (typeIs_int s i t) PySem.F.entry_int_bit_length (PySem.F.args_int_bit_length_1 _) (PySem.AutoIntG2.int_bit_length_int_0 i t) ⟨.int ((Builtin.Int.intBits i : Nat) : Int), H, I.tok _, ⟨_, rfl⟩, q⟩
end
noncomputable def spGcdB : Sp := fun vs H Q _ => ∃ a b : Int, vs = [.int a, .int b] ∧ Bd 4000 b ∧ Q (.int ((Int.gcd a b : Nat) : Int)) H
theorem short_min {a b : Int} (h : Bd 4000 b) : ¬ (((Builtin.Int.intBits (if (if b < 0 then -b else b) < (if a < 0 then -a else a) then (if b < 0 then -b else b) else (if a < 0 then -a else a)) : Nat) : Int) > 4000) := by
  have l : Bd 4000 (if (if b < 0 then -b else b) < (if a < 0 then -a else a) then (if b < 0 then -b else b) else (if a < 0 then -a else a)) := by
    refine h.of_le ?_
    split <;> split <;> (try split) <;> omega
  have := l.bits
  omega
end Kw
set_option Elab.async false
set_option linter.all false
set_option maxRecDepth 100000
set_option maxHeartbeats 4000000
namespace Kw
open PySem PySem.Spec PyProof.Rows L2
theorem q_invp {y : Rat} (h : 0 < y.num) : (y⁻¹).num = ((y.den : Nat) : Int) ∧ (((y⁻¹).den : Nat) : Int) = y.num := by
  have e : y⁻¹ = Rat.inv y := rfl
  rw [e]
  unfold Rat.inv
  rw [dif_neg (by omega), dif_pos h]
  exact ⟨rfl, by show ((y.num.natAbs : Nat) : Int) = y.num; omega⟩
theorem q_invn {y : Rat} (h : y.num < 0) : (y⁻¹).num = -((y.den : Nat) : Int) ∧ (((y⁻¹).den : Nat) : Int) = -y.num := by
  have e : y⁻¹ = Rat.inv y := rfl
  rw [e]
  unfold Rat.inv
  rw [dif_pos h]
  exact ⟨rfl, by show ((y.num.natAbs : Nat) : Int) = -y.num; omega⟩
theorem FB.inv {n : Nat} {y : Rat} (h : FB n y) (y0 : y ≠ 0) : FB n y⁻¹ := (FB.fit (q_num_ne y0) h.2 h.1).cast (q_inv y)
end Kw
namespace Kw
open PySem PySem.Spec PyProof.Rows L2
end Kw
namespace Kw
end Kw
set_option Elab.async false
set_option linter.all false
set_option maxRecDepth 100000
set_option maxHeartbeats 4000000
namespace Kw
open PySem PySem.Spec PyProof.Rows L2
noncomputable def Al2 {β : Type} (R : V → β → Prop) : List V → List β → Prop
  | [], [] => True
  | x :: xs, b :: bs => R x b ∧ Al2 R xs bs
  | _, _ => False
section
variable {β : Type} {R R' : V → β → Prop}
theorem Al2.imp (h : ∀ x b, R x b → R' x b) : ∀ {xs : List V} {bs : List β}, Al2 R xs bs → Al2 R' xs bs
  | [], [], _ => trivial
  | _ :: _, _ :: _, z => ⟨h _ _ z.1, Al2.imp h z.2⟩
  | [], _ :: _, z => z.elim
  | _ :: _, [], z => z.elim
theorem Al2.len : ∀ {xs : List V} {bs : List β}, Al2 R xs bs → xs.length = bs.length
  | [], [], _ => rfl
  | _ :: _, _ :: _, z => by simp [Al2.len z.2]
  | [], _ :: _, z => z.elim
  | _ :: _, [], z => z.elim
theorem Al2.get : ∀ {xs : List V} {bs : List β} {i : Nat} {x : V}, Al2 R xs bs → xs[i]? = some x → ∃ b, bs[i]? = some b ∧ R x b
  | [], _, _, _, _, e => by simp at e
  | _ :: _, [], _, _, z, _ => z.elim
  | _ :: _, b :: _, 0, _, z, e => by
    simp only [List.getElem?_cons_zero, Option.some.injEq] at e
    subst e
    exact ⟨b, rfl, z.1⟩
  | _ :: _, _ :: _, i + 1, _, z, e => by
    simp only [List.getElem?_cons_succ] at e
    obtain ⟨b, h1, h2⟩ := Al2.get z.2 e
    exact ⟨b, by simpa using h1, h2⟩
theorem Al2.snoc : ∀ {xs : List V} {bs : List β} {x : V} {b : β}, Al2 R xs bs → R x b → Al2 R (xs ++ [x]) (bs ++ [b])
  | [], [], _, _, _, h => ⟨h, trivial⟩
  | _ :: _, _ :: _, _, _, z, h => ⟨z.1, Al2.snoc z.2 h⟩
  | [], _ :: _, _, _, z, _ => z.elim
  | _ :: _, [], _, _, z, _ => z.elim
theorem take_snoc {bs : List β} {i : Nat} {b : β} (h : bs[i]? = some b) : bs.take (i + 1) = bs.take i ++ [b] := by
  rw [List.take_add_one, h]
  rfl
end
noncomputable def FrQ (K : PySem.W.Frag) (H : Hp) (n : Nat) (x : V) (q : Rat) : Prop := ∃ p, x = .ref p ∧ FQ K H p q ∧ FB n q
noncomputable def BdQ (K : PySem.W.Frag) (H : Hp) (n : Nat) (x : V) (b : Rat × Rat × Int) : Prop := ∃ p a c, x = .ref p ∧ SqT K H p [.ref a, .ref c, .int b.2.2] ∧ FQ K H a b.1 ∧ FQ K H c b.2.1 ∧ FB n b.1 ∧ FB n b.2.1 ∧ 1 ≤ b.2.2 ∧ b.2.2 ≤ 10000
section
variable {K : PySem.W.Frag} {H H' : Hp} {n m : Nat} {x : V} {q : Rat} {b : Rat × Rat × Int}
theorem FrQ.same (h : FrQ K H n x q) (s : Same H H') : FrQ K H' n x q := by
  obtain ⟨p, e, g, d⟩ := h
  exact ⟨p, e, Kw.Same.tup s g, d⟩
theorem BdQ.same (h : BdQ K H n x b) (s : Same H H') : BdQ K H' n x b := by
  obtain ⟨p, a, c, e, h1, h2, h3, r⟩ := h
  exact ⟨p, a, c, e, Kw.Same.tup s h1, Kw.Same.tup s h2, Kw.Same.tup s h3, r⟩
theorem frs_same {xs : List V} {qs : List Rat} (h : Al2 (FrQ K H n) xs qs) (s : Same H H') : Al2 (FrQ K H' n) xs qs := Al2.imp (fun _ _ z => z.same s) h
theorem bds_same {xs : List V} {bs : List (Rat × Rat × Int)} (h : Al2 (BdQ K H n) xs bs) (s : Same H H') : Al2 (BdQ K H' n) xs bs := Al2.imp (fun _ _ z => z.same s) h
end
section
variable {X : Cx} {K : PySem.W.Frag}
noncomputable def tGlobT (K : PySem.W.Frag) (t b : Int) : TE := fun _ H Q => ∀ N, (∀ H1, SqT K H1 N [.int t, .int b]) → Q (.ref N) H
theorem pe_globT {x : Str} {t b : Int} {pos : Pos} (hK : X.K = K) (hg : Gl X x) (hm : ∃ N, X.mg x = some (.ref N) ∧ ∀ H, SqT K H N [.int t, .int b]) (hd : (x == ("__debug__" : Str)) = false := by decide) : PE X (.Name x pos) (tGlobT K t b) := by
  obtain ⟨N, hm, hN⟩ := hm
  intro pins s σ H Q I h
  exact pe_glob hg hm (v := .ref N) rfl hd pins s σ H Q I (h N hN)
theorem sqt_const {A : Addr} {o : Option Addr} {t b : Int} {k1 k2 : Tok} {n : Nat} {sl : Array (Option Value)} (h : K.lookup A = some ⟨.type "tuple", o, .seq #[.int t k1, .int b k2] n, sl⟩) : ∀ H, SqT K H A [.int t, .int b] := fun H =>
  .inr ⟨_, _, _, h, rfl, rfl, by show 2 ≤ sizeLine; decide, .cons ⟨_, rfl⟩ (.cons ⟨_, rfl⟩ .nil)⟩
end
end Kw
set_option Elab.async false
set_option linter.all false
set_option maxRecDepth 100000
set_option maxHeartbeats 4000000
namespace Kw
open PySem PySem.Spec PyProof.Rows L2
section
variable {pr : Program} {wd : World} {Ar : Around} {Er : Value → Shared → Prop}
end
section
variable {X : Cx} {pos : Pos}
end
end Kw
set_option Elab.async false
set_option linter.all false
set_option maxRecDepth 100000
set_option maxHeartbeats 4000000
namespace Kw
open PySem PySem.Spec PyProof.Rows L2
section
variable {K : PySem.W.Frag} {te : TE} {σ : L2.St} {H : Hp} {Q : VK} {idx : List Nat}
end
end Kw
set_option Elab.async false
set_option linter.all false
set_option maxRecDepth 100000
set_option maxHeartbeats 4000000
namespace Kw
open PySem PySem.Spec PyProof.Rows L2
section
variable {K : PySem.W.Frag} {H H' : Hp} {n : Nat} {x : V} {q : Rat} {b : Rat × Rat × Int} {c : Addr} {zs xs : List V} {bs : List (Rat × Rat × Int)}
theorem FrQ.but (h : FrQ K H n x q) (s : But c H H') (hc : H c = some (.lst zs)) : FrQ K H' n x q := by
  obtain ⟨p, e, g, d⟩ := h
  exact ⟨p, e, s.tup hc g, d⟩
theorem BdQ.but (h : BdQ K H n x b) (s : But c H H') (hc : H c = some (.lst zs)) : BdQ K H' n x b := by
  obtain ⟨p, a, e, z, h1, h2, h3, r⟩ := h
  exact ⟨p, a, e, z, s.tup hc h1, s.tup hc h2, s.tup hc h3, r⟩
theorem bds_but (h : Al2 (BdQ K H n) xs bs) (s : But c H H') (hc : H c = some (.lst zs)) : Al2 (BdQ K H' n) xs bs := Al2.imp (fun _ _ z => z.but s hc) h
theorem frs_but {qs : List Rat} (h : Al2 (FrQ K H n) xs qs) (s : But c H H') (hc : H c = some (.lst zs)) : Al2 (FrQ K H' n) xs qs := Al2.imp (fun _ _ z => z.but s hc) h
noncomputable def frD (q : Rat) : PyData := .tuple [.int q.num, .int ((q.den : Nat) : Int)]
noncomputable def bdD (b : Rat × Rat × Int) : PyData := .tuple [frD b.1, frD b.2.1, .int b.2.2]
theorem BdQ.dp (h : BdQ K H n x b) : Dp K H x (bdD b) := by
  obtain ⟨p, a, e, rfl, h1, h2, h3, r⟩ := h
  exact .tup h1 (.cons (FQ.dp h2) (.cons (FQ.dp h3) (.cons (.int _) .nil)))
theorem bds_dp : ∀ {xs : List V} {bs : List (Rat × Rat × Int)}, Al2 (BdQ K H n) xs bs → Dps K H xs (bs.map bdD)
  | [], [], _ => .nil
  | _ :: _, _ :: _, z => .cons z.1.dp (bds_dp z.2)
  | [], _ :: _, z => z.elim
  | _ :: _, [], z => z.elim
theorem bds_lay : ∀ bs : List (Rat × Rat × Int), PyData.canLayAll0 (bs.map bdD) = true
  | [] => rfl
  | b :: bs => by
    show (PyData.canLay0 (bdD b) && PyData.canLayAll0 (bs.map bdD)) = true
    rw [bds_lay bs]
    rfl
theorem bds_deep : ∀ bs : List (Rat × Rat × Int), PyData.depthAll (bs.map bdD) ≤ 2
  | [] => Nat.zero_le _
  | b :: bs => by
    show max (PyData.depth (bdD b)) (PyData.depthAll (bs.map bdD)) ≤ 2
    have e : PyData.depth (bdD b) = 2 := rfl
    rw [e]
    have := bds_deep bs
    omega
theorem bds_ok (bs : List (Rat × Rat × Int)) : (PyData.list (bs.map bdD)).canLay0 = true ∧ Nat.ble (PyData.list (bs.map bdD)).depth 60 = true := by
  refine ⟨bds_lay bs, Nat.ble_eq_true_of_le ?_⟩
  have : (PyData.list (bs.map bdD)).depth = PyData.depthAll (bs.map bdD) + 1 := rfl
  have := bds_deep bs
  omega
theorem newB {H : Hp} {p : Addr} (o : HO) : ∃ H', upd H p o = H' ∧ But p H H' ∧ H' p = some o := ⟨_, rfl, but_upd _, upd_same⟩
theorem none_of_but {H H' : Hp} {a c : Addr} (s : But c H H') (h : H' a = none) (n : a ≠ c) : H a = none := by
  cases e : H a with
  | none => rfl
  | some o => have := s _ _ n e; rw [h] at this; cases this
noncomputable def Asc (bs : List (Rat × Rat × Int)) : Prop := List.Pairwise (fun a b => a.1 < b.1) bs
theorem Asc.snoc (h : Asc bs) (k : ∀ a ∈ bs, a.1 < b.1) : Asc (bs ++ [b]) := by
  unfold Asc
  rw [List.pairwise_append]
  exact ⟨h, List.pairwise_singleton _ _, fun a ha z hz => by rw [List.mem_singleton.mp hz]; exact k a ha⟩
end
section
theorem same_then_but {H H1 H2 : Hp} {c : Addr} (n : H c = none) (s : Same H H1) (t : But c H1 H2) : Same H H2 := fun a o e => t a o (ne_of_none e n) (s a o e)
end
theorem most_of (ns : List Int) (N : Int) (h : 1 ≤ N) : ∃ m : Int, (if (if N < (((ns.map V.int).length : Nat) : Int) then N else (((ns.map V.int).length : Nat) : Int)) > 1 then (if N < (((ns.map V.int).length : Nat) : Int) then N else (((ns.map V.int).length : Nat) : Int)) else 1) = m ∧ 1 ≤ m ∧ m ≤ N := by
  refine ⟨_, rfl, ?_⟩
  split
  · split <;> omega
  · omega
end Kw
set_option Elab.async false
set_option linter.all false
set_option maxRecDepth 100000
set_option maxHeartbeats 4000000
namespace Kw
open PySem PySem.Spec PyProof.Rows L2
section
variable {X : Cx} {pins : List (Addr × Obj)} {σ : L2.St} {H : Hp} {s : Shared} {N ns xs : List Str} {scope : Scope} {cl : List (Str × Addr)} {C : Addr} {fp : List Addr} {idx : List Nat}
end
section
variable {X : Cx} {elt iter tg : Expr} {ifs : List Expr} {xs : List Str} {pos : Pos} {scope : Scope} {cl : List (Str × Addr)} {wi : TI} {g : TG} {tt : TT} {te : TE} {ns : List Str} {idx : List Nat}
end
section
variable {K : PySem.W.Frag} {te : TE} {tt : TT} {g : TG} {σ : L2.St} {H : Hp} {Q : VK} {idx : List Nat} {k : Nat}
end
section
variable {X : Cx} {pos : Pos}
end
end Kw
set_option Elab.async false
set_option linter.all false
set_option maxRecDepth 100000
set_option maxHeartbeats 4000000
namespace Kw
open PySem PySem.Spec PyProof.Rows L2
end Kw
set_option Elab.async false
set_option linter.all false
set_option maxRecDepth 100000
set_option maxHeartbeats 4000000
namespace Kw
open PySem PySem.Spec PyProof.Rows L2
section
variable {prog : Program} {w : World} {A : Around} {E : Value → Shared → Prop} {h : Heap} {g : Array GenState} {d : Drawn} {t : Nat} {os : OsState} {C f : Addr} {K : PySem.W.Frag}
end
end Kw
namespace Kw
open PySem PySem.Spec PyProof.Rows L2
section
variable {prog : Program} {w : World} {A : Around} {E : Value → Shared → Prop} {h : Heap} {g : Array GenState} {d : Drawn} {t : Nat} {os : OsState} {C e : Addr} {K : PySem.W.Frag} {oe : Obj} {vs : Array Value}
end
end Kw
namespace Kw
open PySem PySem.Spec PyProof.Rows L2 PySem.Builtin PySem.Builtin.ObjectAttr
section
variable {prog : Program} {w : World} {A : Around} {R : Result → Shared → Prop} {s : Shared} {K : PySem.W.Frag} {x C : Addr} {ox : Obj} {od : Option Obj} {name : Str} {tk : Tok} {v : Value}
end
end Kw
set_option Elab.async false
set_option linter.all false
set_option maxRecDepth 100000
set_option maxHeartbeats 4000000
namespace Kw
open PySem PySem.Spec PyProof.Rows L2 PySem.Builtin PySem.Builtin.ObjectAttr
section
variable {prog : Program} {w : World} {A : Around} {R : Result → Shared → Prop} {s : Shared} {K : PySem.W.Frag} {x C : Addr} {ox : Obj} {od : Option Obj} {name : Str} {tk : Tok} {v : Value}
end
end Kw
set_option Elab.async false
set_option linter.all false
set_option maxRecDepth 100000
set_option maxHeartbeats 4000000
namespace Kw
open PySem PySem.Spec PyProof.Rows L2 PySem.Builtin PySem.Builtin.ObjectAttr
section
variable {prog : Program} {w : World} {A : Around} {E : Value → Shared → Prop} {s : Shared} {K : PySem.W.Frag} {x C : Addr} {ox : Obj} {odx : Obj} {name : Str} {v : Value}
end
end Kw
set_option Elab.async false
set_option linter.all false
set_option maxRecDepth 100000
set_option maxHeartbeats 4000000
namespace Kw
open PySem PySem.Spec PyProof.Rows L2
section
variable {P : Program} {w : World} {H : Hp} {h : Heap} {x C d : Addr} {od : Option Addr} {fs : List (Str × V)}
end
section
variable {P : Program} {w : World} {K : PySem.W.Frag} {mg : Str → Option Value} {base : Heap} {C : Addr} {qual : Str} {st : Stmt} {N ps : List Str} {k : Nat} {sp : Sp}
end
section
variable {X : Cx} {pins : List (Addr × Obj)} {σ : L2.St} {H : Hp} {s : Shared} {k k' : Nat} {f C CK : Addr} {fd : FuncData} {ps : List Str} {sp : Sp} {E : XK} {x : Str} {p pos apos : Pos} {e : Expr} {es : List Expr} {t : TA}
variable {o value : Expr} {f : Str} {pos' : Pos} {ta tv : TE}
end
end Kw
set_option Elab.async false
set_option linter.all false
set_option maxRecDepth 100000
set_option maxHeartbeats 4000000
namespace Kw
open PySem PySem.Spec PyProof.Rows L2
end Kw
set_option Elab.async false
set_option linter.all false
set_option maxRecDepth 100000
set_option maxHeartbeats 4000000
namespace Kw
open PySem PySem.Spec PyProof.Rows L2
section
variable {X : Cx} {E : XK} {e : Expr} {te : TE} {pos : Pos}
variable {o : Expr} {f : Str} {ta : TE}
end
end Kw
set_option Elab.async false
set_option linter.all false
set_option maxRecDepth 100000
set_option maxHeartbeats 4000000
namespace Kw
open PySem PySem.Spec PyProof.Rows L2
section
variable {X : Cx} {pins pins' : List (Addr × Obj)} {σ : L2.St} {H : Hp} {s : Shared} {E0 : Value → Shared → Prop}
end
section
variable {X : Cx} {pins : List (Addr × Obj)} {H : Hp} {s : Shared} {hc : Heap} {x CA : Addr} {od : Option Addr}
end
section
variable {X : Cx} {pins : List (Addr × Obj)} {σ : L2.St} {H : Hp} {s : Shared}
end
section
variable {X : Cx} {j : Nat} {n xK : Str} {CK : Addr} {ts : TS} {b₀ : Stmt} {suite : List Stmt} {kp hpos pos : Pos} {rest : List ExceptHandler} {tr : Ends → Addr → Option Addr → Hp → Prop}
variable {body : List Stmt} {tb : XK → TS} {th : Ends → Addr → Option Addr → Hp → Prop} {h₀ : ExceptHandler} {hs : List ExceptHandler}
end
end Kw
set_option Elab.async false
set_option linter.all false
set_option maxRecDepth 100000
set_option maxHeartbeats 4000000
namespace Kw
open PySem PySem.Spec PyProof.Rows L2
theorem list_ins {prog : Program} {w : World} {A : Around} {E : Value → Shared → Prop} {s : Shared} {l : Addr} {items : Array Value} {n : Nat} {x : Int} {t : Tok} {y : Value} {Q : Value → Shared → Prop} (e : s.heap.get? l = some { cls := .type "list", dict := none, data := .seq items n, slots := #[] })
    (hf : ¬ (!Builtin.List.listFitsIndex x) = true) (hz : items.size ≤ sizeLine)
    (want : ∀ f : Array Value → Array Value, (∀ xs, f xs = (xs.extract 0 (if x < 0 then (x + (xs.size : Int)).toNat else min x.toNat xs.size)).push y ++ xs.extract (if x < 0 then (x + (xs.size : Int)).toNat else min x.toNat xs.size)) → Q .none { s with heap := s.heap.update l (Obj.mapSeq f), toks := s.toks }) :
    wpAny (model prog w) A (call (.builtin "list.insert") [.ref l, .int x t, y]) Q E s :=
  call_meets PySem.F.slot_list_insert ⟨_, e, rfl⟩ PySem.F.entry_list_insert (PySem.F.args_list_insert_3 _ _ _) (PySem.AutoSeq1.list_insert_list_int_val_1 l _ n x t y hf hz) ⟨e, want _ fun _ => rfl⟩
section
variable {X : Cx}
noncomputable def rInsert : V → List V → Hp → VK → Prop := fun x vs H Q => ∃ l xs y, ∃ k : Nat, x = .ref l ∧ vs = [.int (k : Int), y] ∧ H l = some (.lst xs) ∧ k ≤ xs.length ∧ xs.length < sizeLine ∧ Q .non (upd H l (.lst (xs.take k ++ y :: xs.drop k)))
theorem mt_insert : MtM X "list.insert" rInsert := by
  intro pins s σ H x vs v us Q I rx rv h
  obtain ⟨l, xs, y, k, rfl, rfl, hH, hk, hz, q⟩ := h
  cases rx
  obtain ⟨u1, u2, rfl, r1, r2⟩ := vals2 rv
  obtain ⟨t, rfl⟩ := r1
  obtain ⟨z, its, n, r, hl, e⟩ := I.lstM hH
  have hk2 : k ≤ its.length := by omega
  have s2 := sizeLine_eq
  have hf : Builtin.List.listFitsIndex (k : Int) = true := by
    unfold Builtin.List.listFitsIndex
    rw [Bool.and_eq_true, decide_eq_true_iff, decide_eq_true_iff]
    omega
  have nf : ¬ (!Builtin.List.listFitsIndex (k : Int)) = true := by rw [hf]; exact Bool.false_ne_true
  have sz : its.toArray.size ≤ sizeLine := by rw [List.size_toArray]; omega
  refine list_ins e nf sz fun f hfx => ?_
  refine ⟨.non, _, I.lset (its' := its.take k ++ u2 :: its.drop k) hH e ?_ ((r.take k).append (.cons r2 (r.drop k))) ?_, rfl, q⟩
  · have ek : (if (k : Int) < 0 then ((k : Int) + (its.toArray.size : Int)).toNat else min (k : Int).toNat its.toArray.size) = k := by
      rw [if_neg (by omega), List.size_toArray]
      omega
    rw [hfx, ek]
    exact PySem.W.kl_ins_eq its k u2
  · rw [List.length_append, List.length_cons, List.length_take, List.length_drop]
    omega
end
section
variable {K : PySem.W.Frag} {idx : List Nat} {tt : TT} {te : TE} {σ : L2.St} {H : Hp} {Q : VK}
end
end Kw
set_option Elab.async false
set_option linter.all false
set_option maxRecDepth 100000
set_option maxHeartbeats 4000000
namespace Kw
open PySem PySem.Spec PyProof.Rows L2
section
variable {S : V → Prop} {lt : V → V → Bool} {x y : V} {row : List V}
end
end Kw
set_option Elab.async false
set_option linter.all false
set_option maxRecDepth 100000
set_option maxHeartbeats 4000000
namespace Kw
open PySem PySem.Spec PyProof.Rows L2
section
variable {K : PySem.W.Frag} {H H' : Hp} {c : Addr} {x : V} {k k' : Int × Int} {xs ys : List V} {key : V → Int × Int}
end
end Kw
set_option Elab.async false
set_option linter.all false
set_option maxRecDepth 100000
set_option maxHeartbeats 4000000
namespace Kw
open PySem PySem.Spec PyProof.Rows L2
section
variable {K : PySem.W.Frag} {H H' : Hp} {b c : Addr} {x : V} {xs ys : List V}
end
end Kw
namespace Kw
open PySem PySem.Spec PyProof.Rows L2
end Kw
namespace Kw
open PySem PySem.Spec PyProof.Rows L2
end Kw
namespace Kw
open PySem PySem.Spec PyProof.Rows L2
end Kw
namespace Kw
open PySem PySem.Spec PyProof.Rows L2
theorem g_go {i : Nat} {x : V} {σ : L2.St} {H : Hp} {Q : L2.St → Hp → Prop} (h : Q (σ.set i (some x)) H) : gName i x σ H Q := h
end Kw
set_option Elab.async false
set_option linter.all false
set_option maxRecDepth 100000
set_option maxHeartbeats 4000000
namespace Kw
open PySem PySem.Spec PyProof.Rows L2
noncomputable abbrev Bod := Rat × Rat × Int
theorem atI_z {xs : List V} {j : Nat} {x : V} (h : xs[j]? = some x) : atI xs (0 + (j : Int)) = some x := by
  rw [Int.zero_add]
  exact atI_nat h
section
variable {K : PySem.W.Frag} {te : TE} {tt : TT} {σ : L2.St} {H : Hp} {Q : VK} {idx : List Nat} {n : Nat}
end
section
variable {K : PySem.W.Frag} {H : Hp} {m n : Nat} {x : V} {b : Bod}
theorem BdQ.mono (h : BdQ K H m x b) (l : m ≤ n) : BdQ K H n x b := by
  obtain ⟨p, a, c, e, h1, h2, h3, d1, d2, r⟩ := h
  exact ⟨p, a, c, e, h1, h2, h3, d1.mono l, d2.mono l, r⟩
theorem bds_mono {xs : List V} {bs : List Bod} (h : Al2 (BdQ K H m) xs bs) (l : m ≤ n) : Al2 (BdQ K H n) xs bs := Al2.imp (fun _ _ z => z.mono l) h
end
end Kw
set_option Elab.async false
set_option linter.all false
set_option maxRecDepth 100000
set_option maxHeartbeats 4000000
namespace Kw
open PySem PySem.Spec PyProof.Rows L2
noncomputable def Six (B : Int) (x : Rat) : Prop := ∃ n : Int, x = (n : Rat) / 6 ∧ -B ≤ n ∧ n ≤ B
section
variable {B C : Int} {x y : Rat}
theorem Six.add (h : Six B x) (g : Six C y) : Six (B + C) (x + y) := by
  obtain ⟨n, rfl, a, b⟩ := h
  obtain ⟨m, rfl, c, d⟩ := g
  refine ⟨n + m, ?_, by omega, by omega⟩
  rw [Rat.intCast_add]
  grind
theorem Six.mono (h : Six B x) (l : B ≤ C) : Six C x := by
  obtain ⟨n, e, a, b⟩ := h
  exact ⟨n, e, by omega, by omega⟩
theorem six_dv (n : Int) : Rat.divInt n 6 = (n : Rat) / 6 := q_dv n 6
theorem Six.fb (h : Six B x) (l : B ≤ 1000000000) : FB 64 x := by
  obtain ⟨n, rfl, a, b⟩ := h
  rw [← six_dv]
  exact FB.fit (by decide) (Bd.small (by omega) (by omega)) (Bd.small (by decide) (by decide))
theorem six_fit {n d N : Int} (d1 : 1 ≤ d) (d3 : d ≤ 3) (a : -N ≤ n) (b : n ≤ N) : Six (6 * N) (Rat.divInt n d) := by
  rw [q_dv]
  rcases (show d = 1 ∨ d = 2 ∨ d = 3 by omega) with rfl | rfl | rfl
  · refine ⟨6 * n, ?_, by omega, by omega⟩
    rw [Rat.intCast_mul]
    show (n : Rat) / 1 = 6 * n / 6
    grind
  · refine ⟨3 * n, ?_, by omega, by omega⟩
    rw [Rat.intCast_mul]
    show (n : Rat) / 2 = 3 * n / 6
    grind
  · refine ⟨2 * n, ?_, by omega, by omega⟩
    rw [Rat.intCast_mul]
    show (n : Rat) / 3 = 2 * n / 6
    grind
end
end Kw
set_option Elab.async false
set_option linter.all false
set_option maxRecDepth 100000
set_option maxHeartbeats 4000000
namespace Kw
open PySem PySem.Spec PyProof.Rows L2
noncomputable def Ahd (a b : Bod) : Prop := a.1 < b.1 ∨ (a.1 = b.1 ∧ a.2.1 < b.2.1)
noncomputable instance (a b : Bod) : Decidable (Ahd a b) := inferInstanceAs (Decidable (a.1 < b.1 ∨ (a.1 = b.1 ∧ a.2.1 < b.2.1)))
noncomputable def ltI (bs : List Bod) (i j : Nat) : Bool := match bs[i]?, bs[j]? with
  | some a, some b => decide (Ahd a b)
  | _, _ => false
theorem ltI_of {bs : List Bod} {i j : Nat} {a b : Bod} (h : bs[i]? = some a) (g : bs[j]? = some b) : ltI bs i j = decide (Ahd a b) := by
  unfold ltI
  rw [h, g]
noncomputable def insN (lt : Nat → Nat → Bool) (k : Nat) : List Nat → List Nat
  | [] => [k]
  | y :: ys => if lt y k = true then y :: insN lt k ys else k :: y :: ys
noncomputable def ordN (lt : Nat → Nat → Bool) : Nat → List Nat
  | 0 => []
  | n + 1 => insN lt n (ordN lt n)
theorem insN_mem {lt : Nat → Nat → Bool} {k : Nat} : ∀ (os : List Nat) (z : Nat), z ∈ insN lt k os → z = k ∨ z ∈ os
  | [], z, h => .inl (List.mem_singleton.mp h)
  | y :: ys, z, h => by
    unfold insN at h
    split at h
    · rcases List.mem_cons.mp h with e | e
      · exact .inr (by rw [e]; exact List.mem_cons_self)
      · rcases insN_mem ys z e with w | w
        · exact .inl w
        · exact .inr (List.mem_cons_of_mem _ w)
    · rcases List.mem_cons.mp h with e | e
      · exact .inl e
      · exact .inr e
theorem ordN_lt (lt : Nat → Nat → Bool) : ∀ n, ∀ z ∈ ordN lt n, z < n
  | 0, z, h => nomatch h
  | n + 1, z, h => by
    rcases insN_mem _ _ h with e | e
    · omega
    · have := ordN_lt lt n z e
      omega
noncomputable def permQ (bs : List Bod) (os : List Nat) : List Bod := os.filterMap fun k => bs[k]?
noncomputable def sortQ (bs : List Bod) : List Bod := permQ bs (ordN (ltI bs) bs.length)
end Kw
set_option maxRecDepth 100000
set_option linter.all false
namespace Kw
end Kw
namespace Kw
end Kw
set_option Elab.async false
set_option linter.all false
set_option maxRecDepth 100000
set_option maxHeartbeats 4000000
namespace Kw
open PySem PySem.Spec PyProof.Rows L2
end Kw
namespace Kw
open PySem PySem.Spec PyProof.Rows L2
end Kw
namespace Kw
open PySem PySem.Spec PyProof.Rows L2
end Kw
set_option Elab.async false
set_option linter.all false
set_option maxRecDepth 100000
set_option maxHeartbeats 4000000
namespace Kw
open PySem PySem.Spec PyProof.Rows L2
section
variable {idx : List Nat} {tt : TT} {te : TE} {σ : L2.St} {H : Hp} {Q : VK}
end
end Kw
set_option Elab.async false
set_option linter.all false
set_option maxRecDepth 100000
set_option maxHeartbeats 4000000
namespace Kw
open PySem PySem.Spec PyProof.Rows L2
section
variable {X : Cx}
end
end Kw
namespace Kw
open PySem PySem.Spec PyProof.Rows L2
section
variable {X : Cx} {pos : Pos}
end
theorem insN_perm (lt : Nat → Nat → Bool) (k : Nat) : ∀ os : List Nat, (insN lt k os).Perm (k :: os)
  | [] => List.Perm.refl _
  | y :: ys => by
    unfold insN
    split
    · exact ((insN_perm lt k ys).cons y).trans (List.Perm.swap k y ys)
    · exact List.Perm.refl _
theorem ordN_perm (lt : Nat → Nat → Bool) : ∀ n : Nat, (ordN lt n).Perm (List.range n)
  | 0 => List.Perm.refl _
  | n + 1 => by
    show (insN lt n (ordN lt n)).Perm _
    rw [List.range_succ]
    exact (insN_perm lt n _).trans (((ordN_perm lt n).cons n).trans (List.perm_append_singleton n _).symm)
end Kw
set_option Elab.async false
set_option linter.all false
set_option maxRecDepth 100000
set_option maxHeartbeats 4000000
namespace Kw
open PySem PySem.Spec PyProof.Rows L2
theorem Ahd.trans' {a b c : Bod} (h1 : ¬ Ahd b a) (h2 : ¬ Ahd c b) : ¬ Ahd c a := by
  unfold Ahd at *
  grind
theorem Ahd.asym {a b : Bod} (h : Ahd a b) : ¬ Ahd b a := by
  unfold Ahd at *
  grind
noncomputable def SrtB (bs : List Bod) : Prop := bs.Pairwise fun a b => ¬ Ahd b a
theorem SrtB.uniq {bs cs : List Bod} {w : Int} (hb : ∀ b ∈ bs, b.2.2 = w) (hc : ∀ c ∈ cs, c.2.2 = w) (s1 : SrtB bs) (s2 : SrtB cs) (p : bs.Perm cs) : bs = cs := by
  refine List.Perm.eq_of_pairwise (le := fun a b => ¬ Ahd b a) (fun a b ha hb' h1 h2 => ?_) s1 s2 p
  have e1 := hb a ha
  have e2 := hc b hb'
  have z : a.1 = b.1 ∧ a.2.1 = b.2.1 := by
    unfold Ahd at h1 h2
    grind
  refine Prod.ext z.1 (Prod.ext z.2 (e1.trans e2.symm))
theorem insN_srt {lt : Nat → Nat → Bool} (tr : ∀ a b c, lt b a = false → lt c b = false → lt c a = false) (as : ∀ a b, lt a b = true → lt b a = false) (k : Nat) : ∀ os : List Nat, os.Pairwise (fun a b => lt b a = false) → (insN lt k os).Pairwise (fun a b => lt b a = false)
  | [], _ => List.pairwise_singleton ..
  | y :: ys, h => by
    unfold insN
    have h' := List.pairwise_cons.mp h
    split
    · rename_i e
      refine List.pairwise_cons.mpr ⟨fun z hz => ?_, insN_srt tr as k ys h'.2⟩
      rcases insN_mem ys z hz with w | w
      · subst w
        exact as _ _ e
      · exact h'.1 z w
    · rename_i e
      have e' : lt y k = false := by simpa using e
      refine List.pairwise_cons.mpr ⟨fun z hz => ?_, h⟩
      rcases List.mem_cons.mp hz with w | w
      · subst w
        exact e'
      · exact tr k y z e' (h'.1 z w)
theorem ordN_srt {lt : Nat → Nat → Bool} (tr : ∀ a b c, lt b a = false → lt c b = false → lt c a = false) (as : ∀ a b, lt a b = true → lt b a = false) : ∀ n : Nat, (ordN lt n).Pairwise (fun a b => lt b a = false)
  | 0 => List.Pairwise.nil
  | n + 1 => insN_srt tr as n _ (ordN_srt tr as n)
theorem permQ_map {bs : List Bod} : ∀ {os : List Nat}, (∀ k ∈ os, k < bs.length) → ∃ f : Nat → Bod, (∀ k, k < bs.length → bs[k]? = some (f k)) ∧ permQ bs os = os.map f := by
  intro os h
  refine ⟨fun k => bs.getD k (0, 0, 0), fun k hk => by show bs[k]? = some (bs.getD k (0, 0, 0)); rw [List.getD_eq_getElem?_getD, List.getElem?_eq_getElem hk]; rfl, ?_⟩
  induction os with
  | nil => rfl
  | cons k os ih =>
    have hk := h k (by simp)
    show (k :: os).filterMap (fun k => bs[k]?) = _
    rw [List.filterMap_cons, List.getElem?_eq_getElem hk]
    show bs[k] :: permQ bs os = _
    rw [ih fun j hj => h j (by simp [hj]), List.map_cons]
    congr 1
    rw [List.getD_eq_getElem?_getD, List.getElem?_eq_getElem hk]
    rfl
theorem permQ_range (bs : List Bod) : permQ bs (List.range bs.length) = bs := by
  obtain ⟨f, hf, e⟩ := permQ_map (bs := bs) (os := List.range bs.length) fun k hk => List.mem_range.mp hk
  rw [e]
  refine List.ext_getElem? fun i => ?_
  rw [List.getElem?_map]
  by_cases c : i < bs.length
  · rw [List.getElem?_range c, hf i c]
    rfl
  · rw [List.getElem?_eq_none (by rw [List.length_range]; omega), List.getElem?_eq_none (by omega)]
    rfl
theorem sortQ_perm (bs : List Bod) : (sortQ bs).Perm bs := by
  have p : (permQ bs (ordN (ltI bs) bs.length)).Perm (permQ bs (List.range bs.length)) := (ordN_perm (ltI bs) bs.length).filterMap _
  rw [permQ_range] at p
  exact p
theorem sortQ_srt (bs : List Bod) : SrtB (sortQ bs) := by
  have ol := ordN_lt (ltI bs) bs.length
  obtain ⟨f, hf, e⟩ := permQ_map (bs := bs) (os := ordN (ltI bs) bs.length) ol
  unfold SrtB sortQ
  rw [e, List.pairwise_map]
  have q := ordN_perm (ltI bs) bs.length
  have lt' : ∀ i j, i < bs.length → j < bs.length → ltI bs i j = decide (Ahd (f i) (f j)) := fun i j hi hj => ltI_of (hf i hi) (hf j hj)
  have same : ∀ n, n ≤ bs.length → ordN (ltI bs) n = ordN (fun i j => decide (Ahd (f i) (f j))) n := by
    have ins : ∀ (k : Nat) (os : List Nat), k < bs.length → (∀ z ∈ os, z < bs.length) → insN (ltI bs) k os = insN (fun i j => decide (Ahd (f i) (f j))) k os := fun k os hk => by
      induction os with
      | nil => intro _; rfl
      | cons y ys ih =>
        intro hz
        unfold insN
        rw [lt' y k (hz y (by simp)) hk, ih fun z h => hz z (by simp [h])]
    intro n
    induction n with
    | zero => intro _; rfl
    | succ n ih =>
      intro h
      show insN (ltI bs) n (ordN (ltI bs) n) = insN _ n (ordN _ n)
      rw [ins n _ (by omega) fun z hz => by have := ordN_lt (ltI bs) n z hz; omega, ih (by omega)]
  rw [same _ (Nat.le_refl _)]
  refine (ordN_srt (lt := fun i j => decide (Ahd (f i) (f j))) (fun a b c h1 h2 => ?_) (fun a b h => ?_) bs.length).imp fun {a b} h => ?_
  · exact decide_eq_false (Ahd.trans' (of_decide_eq_false h1) (of_decide_eq_false h2))
  · exact decide_eq_false (Ahd.asym (of_decide_eq_true h))
  · exact of_decide_eq_false h
theorem sortQ_all {bs : List Bod} {w : Int} (h : ∀ b ∈ bs, b.2.2 = w) : ∀ b ∈ sortQ bs, b.2.2 = w := fun b hb => h b ((sortQ_perm bs).mem_iff.mp hb)
theorem sortQ_is {bs cs : List Bod} {w : Int} (hb : ∀ b ∈ bs, b.2.2 = w) (s : SrtB cs) (p : cs.Perm bs) : sortQ bs = cs :=
  SrtB.uniq (sortQ_all hb) (fun c hc => hb c (p.mem_iff.mp hc)) (sortQ_srt bs) s ((sortQ_perm bs).trans p.symm)
end Kw
set_option Elab.async false
set_option linter.all false
set_option maxRecDepth 100000
set_option maxHeartbeats 4000000
namespace Kw
open PySem PySem.Spec PyProof.Rows L2
theorem bds_fb {K : PySem.W.Frag} {H : Hp} {n : Nat} : ∀ {xs : List V} {bs : List Bod}, Al2 (BdQ K H n) xs bs → ∀ b ∈ bs, FB n b.1 ∧ FB n b.2.1
  | [], [], _, b, hb => absurd hb (by simp)
  | _ :: _, c :: bs, z, b, hb => by
    rcases List.mem_cons.mp hb with e | e
    · subst e
      obtain ⟨_, _, _, _, _, _, _, d1, d2, _⟩ := z.1
      exact ⟨d1, d2⟩
    · exact bds_fb z.2 b e
end Kw
set_option Elab.async false
set_option linter.all false
set_option maxRecDepth 100000
set_option maxHeartbeats 4000000
namespace Kw
open PySem PySem.Spec PyProof.Rows L2
theorem dvLow {t b m : Int} (hb : 0 < b) (h : m * b ≤ t) : (m : Rat) ≤ Rat.divInt t b := by
  rw [Rat.divInt_eq_div]
  have b0 : (0 : Rat) < (b : Rat) := Rat.intCast_lt_intCast.mpr hb
  refine Rat.not_lt.mp fun c => ?_
  have e : (t : Rat) / b * b = t := Rat.div_mul_cancel (Rat.ne_of_gt b0)
  have c2 := Rat.mul_lt_mul_of_pos_right c b0
  rw [e, ← Rat.intCast_mul] at c2
  have := Rat.intCast_lt_intCast.mp c2
  omega
theorem dvLt {t b m : Int} (hb : 0 < b) (h : t < m * b) : Rat.divInt t b < (m : Rat) := by
  rw [Rat.divInt_eq_div]
  have b0 : (0 : Rat) < (b : Rat) := Rat.intCast_lt_intCast.mpr hb
  refine Rat.not_le.mp fun c => ?_
  have e : (t : Rat) / b * b = t := Rat.div_mul_cancel (Rat.ne_of_gt b0)
  have c2 := Rat.mul_le_mul_of_nonneg_right c (Rat.le_of_lt b0)
  rw [e, ← Rat.intCast_mul] at c2
  have := Rat.intCast_le_intCast.mp c2
  omega
theorem fl_dv {a b : Int} (hb : 0 < b) : ((a.fdiv b : Int) : Rat) ≤ Rat.divInt a b ∧ Rat.divInt a b < ((a.fdiv b : Int) : Rat) + 1 := by
  have e : a.fdiv b = a / b := Int.fdiv_eq_ediv_of_nonneg _ (by omega)
  have h1 := Int.mul_ediv_add_emod a b
  have h2 := Int.emod_nonneg a (Int.ne_of_gt hb)
  have h3 := Int.emod_lt_of_pos a hb
  refine ⟨dvLow hb ?_, ?_⟩
  · rw [e, Int.mul_comm]
    omega
  · have z : Rat.divInt a b < ((a.fdiv b + 1 : Int) : Rat) := by
      refine dvLt hb ?_
      rw [e, Int.add_mul, Int.one_mul, Int.mul_comm (a / b)]
      omega
    rw [Rat.intCast_add] at z
    exact z
theorem q_numpos {y : Rat} (h : 0 < y) : 0 < y.num := by
  have z := (q_lt 0 y).mp h
  have e1 : (0 : Rat).num = 0 := rfl
  have e2 : (0 : Rat).den = 1 := rfl
  rw [e1, e2] at z
  omega
theorem q_numneg {y : Rat} : y.num < 0 ↔ y < 0 := by
  have z := q_lt y 0
  have e1 : (0 : Rat).num = 0 := rfl
  have e2 : (0 : Rat).den = 1 := rfl
  rw [e1, e2] at z
  refine ⟨fun h => z.mpr (by omega), fun h => ?_⟩
  have := z.mp h
  omega
theorem led_in {x y : Rat} {k : Int} (hy : 0 < y) (h1 : (k : Rat) ≤ x / y) (h2 : x / y < (k : Rat) + 1) : 0 ≤ x - k * y ∧ x - k * y < y := by
  have e : x / y * y = x := Rat.div_mul_cancel (Rat.ne_of_gt hy)
  have c1 := Rat.mul_le_mul_of_nonneg_right h1 (Rat.le_of_lt hy)
  have c2 := Rat.mul_lt_mul_of_pos_right h2 hy
  rw [e] at c1 c2
  grind
theorem fl_div {x y : Rat} (hy : 0 < y) : 0 ≤ x - ((Int.fdiv (x.num * (y.den : Int)) ((x.den : Int) * y.num) : Int) : Rat) * y ∧ x - ((Int.fdiv (x.num * (y.den : Int)) ((x.den : Int) * y.num) : Int) : Rat) * y < y := by
  have b0 : 0 < (x.den : Int) * y.num := Int.mul_pos (by have := x.den_pos; omega) (q_numpos hy)
  have z := fl_dv (a := x.num * (y.den : Int)) b0
  rw [q_div] at z
  exact led_in hy z.1 z.2
theorem fl_own {x y : Rat} (hy : 0 < y) : 0 ≤ x - (((x / y).num.fdiv ((x / y).den : Int) : Int) : Rat) * y ∧ x - (((x / y).num.fdiv ((x / y).den : Int) : Int) : Rat) * y < y := by
  have b0 : 0 < ((x / y).den : Int) := by have := (x / y).den_pos; omega
  have z := fl_dv (a := (x / y).num) b0
  rw [Rat.num_divInt_den] at z
  exact led_in hy z.1 z.2
noncomputable def spotQ (x y : Rat) : Rat := x - ((Int.fdiv (x.num * (y.den : Int)) ((x.den : Int) * y.num) : Int) : Rat) * y
theorem spot_in {x y : Rat} (hy : 0 < y) : 0 ≤ spotQ x y ∧ spotQ x y < y := fl_div hy
theorem spot_is {x y : Rat} {k : Int} (hy : 0 < y) (h : 0 ≤ x - k * y ∧ x - k * y < y) : x - k * y = spotQ x y := by
  have z := fl_div (x := x) hy
  unfold spotQ
  generalize Int.fdiv (x.num * (y.den : Int)) ((x.den : Int) * y.num) = j at z ⊢
  have e : k = j := by
    rcases Int.lt_trichotomy k j with c | c | c
    · have c1 : ((k + 1 : Int) : Rat) ≤ (j : Rat) := Rat.intCast_le_intCast.mpr (by omega)
      have c2 := Rat.mul_le_mul_of_nonneg_right c1 (Rat.le_of_lt hy)
      rw [Rat.intCast_add] at c2
      grind
    · exact c
    · have c1 : ((j + 1 : Int) : Rat) ≤ (k : Rat) := Rat.intCast_le_intCast.mpr (by omega)
      have c2 := Rat.mul_le_mul_of_nonneg_right c1 (Rat.le_of_lt hy)
      rw [Rat.intCast_add] at c2
      grind
  rw [e]
theorem fdiv_bd {a b : Int} {n : Nat} (hb : 0 < b) (h : Bd n a) : Bd n (a.fdiv b) := by
  refine h.of_le ?_
  rw [Int.fdiv_eq_ediv_of_nonneg _ (by omega)]
  exact Int.natAbs_ediv_le_natAbs a b
noncomputable def absQ (v : Rat) : Rat := if v < 0 then -v else v
theorem FQ.abs {K : PySem.W.Frag} {H : Hp} {p : Addr} {v : Rat} (h : SqT K H p [.int (if v.num < 0 then -v.num else v.num), .int ((v.den : Nat) : Int)]) : FQ K H p (absQ v) := by
  have e : v.num < 0 ↔ v < 0 := q_numneg
  unfold absQ
  by_cases c : v < 0
  · rw [if_pos (e.mpr c)] at h
    rw [if_pos c]
    exact h
  · rw [if_neg (fun z => c (e.mp z))] at h
    rw [if_neg c]
    exact h
theorem FQ.negabs {K : PySem.W.Frag} {H : Hp} {p : Addr} {v : Rat} (h : SqT K H p [.int (0 - (if v.num < 0 then -v.num else v.num)), .int ((v.den : Nat) : Int)]) : FQ K H p (-absQ v) := by
  have e : v.num < 0 ↔ v < 0 := q_numneg
  refine FQ.ofNeg (x := absQ v) ?_ (Int.zero_sub _)
  unfold absQ
  by_cases c : v < 0
  · rw [if_pos (e.mpr c)] at h
    rw [if_pos c]
    exact h
  · rw [if_neg (fun z => c (e.mp z))] at h
    rw [if_neg c]
    exact h
theorem FB.abs {n : Nat} {v : Rat} (h : FB n v) : FB n (absQ v) := by
  unfold absQ
  split
  · exact FB.neg h
  · exact h
theorem absQ_pos {v : Rat} (h : v ≠ 0) : 0 < absQ v := by
  unfold absQ
  split <;> grind
noncomputable def foldQ (L t : Rat) (b : Bod) : Bod :=
  let s := spotQ (b.1 + b.2.1 * t) (L + L)
  if s = 0 then (s, absQ b.2.1, b.2.2) else if s = L then (s, -absQ b.2.1, b.2.2) else if L < s then (L + L - s, -b.2.1, b.2.2) else (s, b.2.1, b.2.2)
section
variable {β : Type} {R : V → β → Prop} {xs : List V} {bs : List β}
end
theorem srt_ins {bs : List Bod} {c : Bod} {k : Nat} (h : SrtB bs) (lo : ∀ i a, i < k → bs[i]? = some a → Ahd a c) (hi : ∀ a, bs[k]? = some a → ¬ Ahd a c) : SrtB (bs.take k ++ c :: bs.drop k) := by
  unfold SrtB at *
  have h' := h
  rw [← List.take_append_drop k bs] at h'
  obtain ⟨p1, p2, p3⟩ := List.pairwise_append.mp h'
  have lo' : ∀ a ∈ bs.take k, Ahd a c := fun a ha => by
    obtain ⟨i, hi'⟩ := List.mem_iff_getElem?.mp ha
    rw [List.getElem?_take] at hi'
    split at hi'
    · exact lo i a (by assumption) hi'
    · cases hi'
  have hi2 : ∀ a ∈ bs.drop k, ¬ Ahd a c := fun a ha => by
    cases e : bs.drop k with
    | nil => rw [e] at ha; cases ha
    | cons d ds =>
      have hd : bs[k]? = some d := by
        have z := congrArg (·[0]?) e
        simpa [List.getElem?_drop] using z
      have nd := hi d hd
      rw [e] at ha p2
      rcases List.mem_cons.mp ha with rfl | ha
      · exact nd
      · exact Ahd.trans' nd ((List.pairwise_cons.mp p2).1 a ha)
  refine List.pairwise_append.mpr ⟨p1, List.pairwise_cons.mpr ⟨hi2, p2⟩, fun a ha b hb => ?_⟩
  rcases List.mem_cons.mp hb with rfl | hb
  · exact (lo' a ha).asym
  · exact p3 a ha b hb
theorem perm_ins (bs : List Bod) (c : Bod) (k : Nat) : (bs.take k ++ c :: bs.drop k).Perm (bs ++ [c]) := by
  have z : (bs.take k ++ c :: bs.drop k).Perm (c :: (bs.take k ++ bs.drop k)) := List.perm_middle
  rw [List.take_append_drop] at z
  exact z.trans (List.perm_append_singleton c bs).symm
theorem al_ins {K : PySem.W.Frag} {H : Hp} {m : Nat} {v : V} {c : Bod} : ∀ (n : Nat) {ys : List V} {cs : List Bod}, Al2 (BdQ K H m) ys cs → BdQ K H m v c → Al2 (BdQ K H m) (ys.take n ++ v :: ys.drop n) (cs.take n ++ c :: cs.drop n)
  | 0, ys, cs, h, g => by simpa using (show Al2 (BdQ K H m) (v :: ys) (c :: cs) from ⟨g, h⟩)
  | n + 1, [], [], h, g => ⟨g, trivial⟩
  | n + 1, [], _ :: _, h, g => h.elim
  | n + 1, _ :: _, [], h, g => h.elim
  | n + 1, y :: ys, b :: cs, h, g => ⟨h.1, al_ins n h.2 g⟩
theorem bd_same {K : PySem.W.Frag} {H H' : Hp} {m : Nat} {v : V} {c : Bod} (h : BdQ K H m v c) (s : Same H H') : BdQ K H' m v c := (bds_same (xs := [v]) (bs := [c]) ⟨h, trivial⟩ s).1
noncomputable def Inrm (L : Rat) (b : Bod) : Prop := 0 < b.1 ∧ b.1 < L
end Kw
set_option Elab.async false
set_option linter.all false
set_option maxRecDepth 100000
set_option maxHeartbeats 4000000
namespace Kw
open PySem PySem.Spec PyProof.Rows L2
theorem spot_back {x y : Rat} (hy : 0 < y) : ∃ k : Int, spotQ x y = x - k * y := ⟨_, rfl⟩
theorem spot_self {x y : Rat} (h0 : 0 ≤ x) (h1 : x < y) : spotQ x y = x := by
  have hy : 0 < y := by grind
  have z := spot_is (x := x) (y := y) (k := 0) hy (by rw [show ((0 : Int) : Rat) = 0 from rfl]; grind)
  rw [← z, show ((0 : Int) : Rat) = 0 from rfl]
  grind
theorem spot_round {x y : Rat} (hy : 0 < y) (k : Int) : spotQ (x + k * y) y = spotQ x y := by
  obtain ⟨j, hj⟩ := spot_back (x := x) hy
  have si := spot_in (x := x) hy
  have e : (x + k * y) - ((k + j : Int) : Rat) * y = spotQ x y := by
    rw [hj, Rat.intCast_add]
    grind
  rw [← e] at si
  rw [← spot_is hy si, e]
theorem spot_add {x y w : Rat} (hy : 0 < y) : spotQ (spotQ x y + w) y = spotQ (x + w) y := by
  obtain ⟨j, hj⟩ := spot_back (x := x) hy
  rw [hj]
  have e : x - (j : Rat) * y + w = (x + w) + ((-j : Int) : Rat) * y := by
    rw [Rat.intCast_neg]
    grind
  rw [e, spot_round hy]
theorem spot_eq {x z y : Rat} (hy : 0 < y) (h : spotQ x y = spotQ z y) : ∃ k : Int, x - z = k * y := by
  obtain ⟨i, hi⟩ := spot_back (x := x) hy
  obtain ⟨j, hj⟩ := spot_back (x := z) hy
  refine ⟨i - j, ?_⟩
  rw [Rat.intCast_sub]
  rw [hi, hj] at h
  grind
noncomputable def FitW (S : List Rat) (R w : Rat) : Prop := ∀ s ∈ S, spotQ (s + w) R ∈ S
theorem FitW.add {S : List Rat} {R a b : Rat} (hR : 0 < R) (h : FitW S R a) (g : FitW S R b) : FitW S R (a + b) := fun s hs => by
  have z := g _ (h s hs)
  rw [spot_add hR] at z
  rwa [show s + a + b = s + (a + b) by grind] at z
theorem FitW.rounds {S : List Rat} {R : Rat} (hR : 0 < R) (hS : ∀ s ∈ S, 0 ≤ s ∧ s < R) (k : Int) : FitW S R (k * R) := fun s hs => by
  rw [spot_round hR, spot_self (hS s hs).1 (hS s hs).2]
  exact hs
theorem FitW.times {S : List Rat} {R a : Rat} (hR : 0 < R) (hS : ∀ s ∈ S, 0 ≤ s ∧ s < R) (h : FitW S R a) : ∀ n : Nat, FitW S R ((n : Rat) * a)
  | 0 => by
    have z := FitW.rounds hR hS 0
    rwa [show ((0 : Int) : Rat) * R = ((0 : Nat) : Rat) * a by
      show (0 : Rat) * R = (0 : Rat) * a
      grind] at z
  | n + 1 => by
    have z := FitW.add hR (FitW.times hR hS h n) h
    rwa [show ((n : Nat) : Rat) * a + a = ((n + 1 : Nat) : Rat) * a by
      rw [Rat.natCast_add]
      show (n : Rat) * a + a = ((n : Rat) + 1) * a
      grind] at z
theorem nodup_le {l : List Rat} : ∀ {m : List Rat}, l.Nodup → (∀ x ∈ l, x ∈ m) → l.length ≤ m.length := by
  induction l with
  | nil => intro m _ _; exact Nat.zero_le _
  | cons x l ih =>
    intro m hn hs
    obtain ⟨h1, h2⟩ := List.nodup_cons.mp hn
    have hx := hs x List.mem_cons_self
    have z := ih (m := m.erase x) h2 fun y hy => (List.mem_erase_of_ne (show y ≠ x from fun e => h1 (by rw [← e]; exact hy))).mpr (hs y (List.mem_cons_of_mem _ hy))
    rw [List.length_erase_of_mem hx] at z
    have : 0 < m.length := List.length_pos_of_mem hx
    rw [List.length_cons]
    omega
theorem FitW.order {S : List Rat} {R w : Rat} (hR : 0 < R) (hS : ∀ s ∈ S, 0 ≤ s ∧ s < R) (hn : S ≠ []) (h : FitW S R w) : ∃ m : Nat, 1 ≤ m ∧ m ≤ S.length ∧ ∃ k : Int, (m : Rat) * w = k * R := by
  obtain ⟨s0, h0⟩ := List.exists_mem_of_ne_nil S hn
  refine Classical.byContradiction fun no => ?_
  have ne : ∀ i j : Nat, i < j → j ≤ S.length → spotQ (s0 + (i : Rat) * w) R ≠ spotQ (s0 + (j : Rat) * w) R := fun i j hij hj e => by
    obtain ⟨k, hk⟩ := spot_eq hR e
    refine no ⟨j - i, by omega, by omega, -k, ?_⟩
    have hc : ((j - i : Nat) : Rat) = (j : Rat) - (i : Rat) := by
      have e1 : ((j - i : Nat) : Rat) + (i : Rat) = (j : Rat) := by
        rw [← Rat.natCast_add, Nat.sub_add_cancel (by omega)]
      grind
    rw [hc, Rat.intCast_neg]
    grind
  have nd : ((List.range (S.length + 1)).map fun i : Nat => spotQ (s0 + (i : Rat) * w) R).Nodup := by
    refine List.pairwise_iff_getElem.mpr fun i j hi hj hij => ?_
    simp only [List.length_map, List.length_range] at hi hj
    simp only [List.getElem_map, List.getElem_range]
    exact ne i j hij (by omega)
  have z := nodup_le (m := S) nd fun x hx => by
    obtain ⟨i, _, rfl⟩ := List.mem_map.mp hx
    exact FitW.times hR hS h i s0 h0
  simp only [List.length_map, List.length_range] at z
  omega
theorem FitW.neg {S : List Rat} {R w : Rat} (hR : 0 < R) (hS : ∀ s ∈ S, 0 ≤ s ∧ s < R) (hn : S ≠ []) (h : FitW S R w) : FitW S R (-w) := by
  obtain ⟨m, m1, _, k, hk⟩ := FitW.order hR hS hn h
  have z := FitW.add hR (FitW.times hR hS h (m - 1)) (FitW.rounds hR hS (-k))
  have hc : ((m - 1 : Nat) : Rat) = (m : Rat) - 1 := by
    have e1 : ((m - 1 : Nat) : Rat) + ((1 : Nat) : Rat) = (m : Rat) := by
      rw [← Rat.natCast_add, Nat.sub_add_cancel m1]
    have e2 : ((1 : Nat) : Rat) = 1 := rfl
    grind
  rw [hc, Rat.intCast_neg] at z
  rwa [show ((m : Rat) - 1) * w + -(k : Rat) * R = -w by grind] at z
theorem FitW.ints {S : List Rat} {R w : Rat} (hR : 0 < R) (hS : ∀ s ∈ S, 0 ≤ s ∧ s < R) (hn : S ≠ []) (h : FitW S R w) (u : Int) : FitW S R ((u : Rat) * w) := by
  rcases Int.le_total 0 u with c | c
  · have z := FitW.times hR hS h u.toNat
    rwa [show ((u.toNat : Nat) : Rat) = (u : Rat) by
      have : ((u.toNat : Nat) : Int) = u := Int.toNat_of_nonneg c
      conv => rhs; rw [← this]
      rfl] at z
  · have z := FitW.times hR hS (FitW.neg hR hS hn h) (-u).toNat
    rwa [show (((-u).toNat : Nat) : Rat) * -w = (u : Rat) * w by
      have e : (((-u).toNat : Nat) : Int) = -u := Int.toNat_of_nonneg (by omega)
      have e2 : (((-u).toNat : Nat) : Rat) = ((-u : Int) : Rat) := by
        conv => rhs; rw [← e]
        rfl
      rw [e2, Rat.intCast_neg]
      grind] at z
theorem FitW.few {S : List Rat} {R : Rat} (hR : 0 < R) (hS : ∀ s ∈ S, 0 ≤ s ∧ s < R) (hn : S ≠ []) {q : Nat} (q1 : 1 ≤ q) (h : FitW S R (R / (q : Rat))) : q ≤ S.length := by
  obtain ⟨s0, h0⟩ := List.exists_mem_of_ne_nil S hn
  have q0 : (0 : Rat) < (q : Rat) := by
    have : ((0 : Int) : Rat) < ((q : Int) : Rat) := Rat.intCast_lt_intCast.mpr (by omega)
    exact this
  have eq : R / (q : Rat) * (q : Rat) = R := Rat.div_mul_cancel (Rat.ne_of_gt q0)
  have ne : ∀ i j : Nat, i < j → j < q → spotQ (s0 + (i : Rat) * (R / (q : Rat))) R ≠ spotQ (s0 + (j : Rat) * (R / (q : Rat))) R := fun i j hij hj e => by
    obtain ⟨k, hk⟩ := spot_eq hR e
    have h1 : ((i : Rat) - (j : Rat)) * R = (k : Rat) * (q : Rat) * R := by
      have : ((i : Rat) - (j : Rat)) * (R / (q : Rat)) = (k : Rat) * R := by grind
      have h2 : ((i : Rat) - (j : Rat)) * (R / (q : Rat)) * (q : Rat) = (k : Rat) * R * (q : Rat) := by rw [this]
      have h3 : ((i : Rat) - (j : Rat)) * (R / (q : Rat)) * (q : Rat) = ((i : Rat) - (j : Rat)) * (R / (q : Rat) * (q : Rat)) := by grind
      rw [h3, eq] at h2
      grind
    have h4 : (i : Rat) - (j : Rat) = (k : Rat) * (q : Rat) := by
      have h5 : ((i : Rat) - (j : Rat) - (k : Rat) * (q : Rat)) * R = 0 := by grind
      rcases Rat.mul_eq_zero.mp h5 with h6 | h6
      · grind
      · grind
    have h7 : (((i : Int) - (j : Int) : Int) : Rat) = ((k * (q : Int) : Int) : Rat) := by
      rw [Rat.intCast_sub, Rat.intCast_mul]
      exact h4
    have h8 : (i : Int) - (j : Int) = k * (q : Int) := Rat.intCast_inj.mp h7
    have kn : k < 0 := by
      refine Int.not_le.mp fun c => ?_
      have := Int.mul_nonneg c (show (0 : Int) ≤ (q : Int) by omega)
      omega
    have : k * (q : Int) ≤ -1 * (q : Int) := Int.mul_le_mul_of_nonneg_right (by omega) (by omega)
    omega
  have nd : ((List.range q).map fun i : Nat => spotQ (s0 + (i : Rat) * (R / (q : Rat))) R).Nodup := by
    refine List.pairwise_iff_getElem.mpr fun i j hi hj hij => ?_
    simp only [List.length_map, List.length_range] at hi hj
    simp only [List.getElem_map, List.getElem_range]
    exact ne i j hij hj
  have z := nodup_le (m := S) nd fun x hx => by
    obtain ⟨i, _, rfl⟩ := List.mem_map.mp hx
    exact FitW.times hR hS h i s0 h0
  simpa only [List.length_map, List.length_range] using z
theorem rat_pos {q : Nat} (h : 1 ≤ q) : (0 : Rat) < (q : Rat) := by
  have : ((0 : Int) : Rat) < ((q : Int) : Rat) := Rat.intCast_lt_intCast.mpr (by omega)
  exact this
theorem least_nat {p : Nat → Prop} (h : ∃ n, p n) : ∃ n, p n ∧ ∀ m, p m → n ≤ m := by
  obtain ⟨n, hn⟩ := h
  induction n using Nat.strongRecOn with
  | _ n ih =>
    by_cases c : ∃ m, m < n ∧ p m
    · obtain ⟨m, hm, pm⟩ := c
      exact ih m hm pm
    · exact ⟨n, hn, fun m pm => Nat.not_lt.mp fun lt => c ⟨m, lt, pm⟩⟩
noncomputable def facN : Nat → Nat
  | 0 => 1
  | n + 1 => (n + 1) * facN n
theorem facN_pos : ∀ n, 1 ≤ facN n
  | 0 => Nat.le_refl 1
  | n + 1 => Nat.mul_pos (Nat.succ_pos n) (facN_pos n)
theorem facN_dvd {m : Nat} (h : 1 ≤ m) : ∀ {n : Nat}, m ≤ n → ∃ c, facN n = m * c
  | 0, l => absurd l (by omega)
  | n + 1, l => by
    by_cases c : m = n + 1
    · exact ⟨facN n, by rw [c]; rfl⟩
    · obtain ⟨d, hd⟩ := facN_dvd h (n := n) (by omega)
      refine ⟨(n + 1) * d, ?_⟩
      show (n + 1) * facN n = _
      rw [hd, ← Nat.mul_assoc, Nat.mul_comm (n + 1) m, Nat.mul_assoc]
theorem FitW.all {S : List Rat} {R : Rat} (hR : 0 < R) (hS : ∀ s ∈ S, 0 ≤ s ∧ s < R) (hn : S ≠ []) : ∃ q : Nat, 1 ≤ q ∧ q ≤ S.length ∧ (∀ w, FitW S R w ↔ ∃ k : Int, w = k * (R / (q : Rat))) ∧ ∀ p : Nat, 1 ≤ p → FitW S R (R / (p : Rat)) → p ≤ q := by
  have N1 : 1 ≤ facN S.length := facN_pos _
  have dv : ∀ m : Nat, 1 ≤ m → m ≤ S.length → ∃ c : Nat, facN S.length = m * c := fun m m1 ml => facN_dvd m1 ml
  generalize facN S.length = N at N1 dv
  have N0 := rat_pos N1
  have eN : R / (N : Rat) * (N : Rat) = R := Rat.div_mul_cancel (Rat.ne_of_gt N0)
  have form : ∀ w, FitW S R w → ∃ b : Int, w = (b : Rat) * (R / (N : Rat)) := fun w hw => by
    obtain ⟨m, m1, ml, k, hk⟩ := FitW.order hR hS hn hw
    obtain ⟨c, hc⟩ := dv m m1 ml
    refine ⟨(c : Int) * k, ?_⟩
    have h1 : (N : Rat) * w = ((c : Rat) * (k : Rat)) * R := by
      have e : (N : Rat) = (m : Rat) * (c : Rat) := by rw [hc, Rat.natCast_mul]
      rw [e]
      have : (m : Rat) * (c : Rat) * w = (c : Rat) * ((m : Rat) * w) := by grind
      rw [this, hk]
      grind
    have h2 : (N : Rat) * w = (N : Rat) * (((c : Rat) * (k : Rat)) * (R / (N : Rat))) := by
      rw [h1]
      have : (N : Rat) * (((c : Rat) * (k : Rat)) * (R / (N : Rat))) = ((c : Rat) * (k : Rat)) * (R / (N : Rat) * (N : Rat)) := by grind
      rw [this, eN]
    have h3 : (N : Rat) * (w - ((c : Rat) * (k : Rat)) * (R / (N : Rat))) = 0 := by grind
    rw [Rat.intCast_mul]
    rcases Rat.mul_eq_zero.mp h3 with h4 | h4
    · grind
    · have : (((c : Int)) : Rat) = (c : Rat) := rfl
      rw [this]
      grind
  have exN : FitW S R (((N : Nat) : Rat) * (R / (N : Rat))) := by
    rw [show ((N : Nat) : Rat) * (R / (N : Rat)) = ((1 : Int) : Rat) * R by
      have : ((1 : Int) : Rat) = 1 := rfl
      rw [this]
      grind]
    exact FitW.rounds hR hS 1
  obtain ⟨a, ⟨a1, ha⟩, least⟩ := least_nat (p := fun a => 1 ≤ a ∧ FitW S R ((a : Rat) * (R / (N : Rat)))) ⟨N, N1, exN⟩
  have mult : ∀ b : Int, FitW S R ((b : Rat) * (R / (N : Rat))) → ∃ k : Int, b = k * (a : Int) := fun b hb => by
    refine ⟨b / (a : Int), ?_⟩
    have dm := Int.mul_ediv_add_emod b (a : Int)
    have r0 := Int.emod_nonneg b (show (a : Int) ≠ 0 by omega)
    have r1 := Int.emod_lt_of_pos b (show (0 : Int) < (a : Int) by omega)
    have z := FitW.add hR hb (FitW.ints hR hS hn ha (-(b / (a : Int))))
    by_cases c : b % (a : Int) = 0
    · rw [Int.mul_comm]
      omega
    · exfalso
      have le := least (b % (a : Int)).toNat ⟨by omega, by
        have e1 : (((b % (a : Int)).toNat : Nat) : Int) = b % (a : Int) := Int.toNat_of_nonneg r0
        have e2 : (((b % (a : Int)).toNat : Nat) : Rat) = ((b % (a : Int) : Int) : Rat) := by
          conv => rhs; rw [← e1]
          rfl
        rw [e2, show ((b % (a : Int) : Int) : Rat) = (b : Rat) - (a : Rat) * ((b / (a : Int) : Int) : Rat) by
          have e3 : (b % (a : Int) : Int) = b - (a : Int) * (b / (a : Int)) := by omega
          rw [e3, Rat.intCast_sub, Rat.intCast_mul]
          rfl]
        rw [Rat.intCast_neg] at z
        rwa [show (b : Rat) * (R / (N : Rat)) + -((b / (a : Int) : Int) : Rat) * ((a : Rat) * (R / (N : Rat))) = ((b : Rat) - (a : Rat) * ((b / (a : Int) : Int) : Rat)) * (R / (N : Rat)) by grind] at z⟩
      omega
  obtain ⟨k, hk⟩ := mult (N : Int) exN
  have a0 := rat_pos a1
  have k1 : 1 ≤ k := by
    refine Int.not_lt.mp fun c => ?_
    have : k * (a : Int) ≤ 0 := Int.mul_nonpos_of_nonpos_of_nonneg (by omega) (by omega)
    omega
  obtain ⟨q, rfl⟩ : ∃ q : Nat, k = (q : Int) := ⟨k.toNat, by omega⟩
  have q1 : 1 ≤ q := by omega
  have q0 := rat_pos q1
  have Nq : (N : Rat) = (q : Rat) * (a : Rat) := by
    have : ((N : Int) : Rat) = (((q : Int) * (a : Int) : Int) : Rat) := by rw [hk]
    rw [Rat.intCast_mul] at this
    exact this
  have step : (a : Rat) * (R / (N : Rat)) = R / (q : Rat) := by
    have e1 : (q : Rat) * ((a : Rat) * (R / (N : Rat))) = R := by
      have : (q : Rat) * ((a : Rat) * (R / (N : Rat))) = R / (N : Rat) * ((q : Rat) * (a : Rat)) := by grind
      rw [this, ← Nq, eN]
    have e2 : R / (q : Rat) * (q : Rat) = R := Rat.div_mul_cancel (Rat.ne_of_gt q0)
    have e3 : (q : Rat) * ((a : Rat) * (R / (N : Rat)) - R / (q : Rat)) = 0 := by grind
    rcases Rat.mul_eq_zero.mp e3 with h4 | h4
    · grind
    · grind
  have fq : FitW S R (R / (q : Rat)) := by rw [← step]; exact ha
  have iff : ∀ w, FitW S R w ↔ ∃ k : Int, w = k * (R / (q : Rat)) := fun w => by
    constructor
    · intro hw
      obtain ⟨b, rfl⟩ := form w hw
      obtain ⟨k, rfl⟩ := mult b hw
      refine ⟨k, ?_⟩
      rw [← step, Rat.intCast_mul]
      have : (((a : Int)) : Rat) = (a : Rat) := rfl
      rw [this]
      grind
    · rintro ⟨k, rfl⟩
      exact FitW.ints hR hS hn fq k
  refine ⟨q, q1, FitW.few hR hS hn q1 fq, iff, fun p p1 hp => ?_⟩
  obtain ⟨k, hk'⟩ := (iff _).mp hp
  have p0 := rat_pos p1
  have e1 : R / (p : Rat) * (p : Rat) = R := Rat.div_mul_cancel (Rat.ne_of_gt p0)
  have e2 : R / (q : Rat) * (q : Rat) = R := Rat.div_mul_cancel (Rat.ne_of_gt q0)
  have e3 : (q : Rat) * R = (k : Rat) * (p : Rat) * R := by
    have : (k : Rat) * (R / (q : Rat)) * (p : Rat) = R := by rw [← hk', e1]
    have h5 : (k : Rat) * (R / (q : Rat)) * (p : Rat) * (q : Rat) = R * (q : Rat) := by rw [this]
    have h6 : (k : Rat) * (R / (q : Rat)) * (p : Rat) * (q : Rat) = (k : Rat) * (p : Rat) * (R / (q : Rat) * (q : Rat)) := by grind
    rw [h6, e2] at h5
    grind
  have e4 : ((q : Rat) - (k : Rat) * (p : Rat)) * R = 0 := by grind
  have e5 : (q : Rat) = (k : Rat) * (p : Rat) := by
    rcases Rat.mul_eq_zero.mp e4 with h6 | h6
    · grind
    · grind
  have e6 : (q : Int) = k * (p : Int) := by
    have h7 : (((q : Int)) : Rat) = ((k * (p : Int) : Int) : Rat) := by
      rw [Rat.intCast_mul]
      exact e5
    exact Rat.intCast_inj.mp h7
  have kp : 1 ≤ k := by
    refine Int.not_lt.mp fun c => ?_
    have : k * (p : Int) ≤ 0 := Int.mul_nonpos_of_nonpos_of_nonneg (by omega) (by omega)
    omega
  have : 1 * (p : Int) ≤ k * (p : Int) := Int.mul_le_mul_of_nonneg_right kp (by omega)
  omega
end Kw
set_option Elab.async false
set_option linter.all false
set_option maxRecDepth 100000
set_option maxHeartbeats 4000000
namespace Kw
open PySem PySem.Spec PyProof.Rows L2
noncomputable def MulQ (a t : Rat) : Prop := ∃ k : Int, t = k * a
theorem num_den (x : Rat) : x * (((x.den : Nat) : Int) : Rat) = (x.num : Rat) := by
  have d0 : (0 : Rat) < (((x.den : Nat) : Int) : Rat) := rat_pos x.den_pos
  have e : x = (x.num : Rat) / (((x.den : Nat) : Int) : Rat) := by
    rw [← q_dv, Rat.num_divInt_den]
  have := Rat.div_mul_cancel (a := (x.num : Rat)) (Rat.ne_of_gt d0)
  rw [← e] at this
  exact this
theorem mul_iff {a t : Rat} (ha : 0 < a) : MulQ a t ↔ a.num.natAbs ∣ t.num.natAbs ∧ t.den ∣ a.den := by
  have an := num_den a
  have tn := num_den t
  have ca : a.num.natAbs.Coprime a.den := a.reduced
  have ct : t.num.natAbs.Coprime t.den := t.reduced
  constructor
  · rintro ⟨k, hk⟩
    have e : t.num * ((a.den : Nat) : Int) = k * a.num * ((t.den : Nat) : Int) := by
      have h : ((t.num * ((a.den : Nat) : Int) : Int) : Rat) = ((k * a.num * ((t.den : Nat) : Int) : Int) : Rat) := by
        rw [Rat.intCast_mul, Rat.intCast_mul, Rat.intCast_mul, ← tn, ← an]
        have h2 : t * (((t.den : Nat) : Int) : Rat) * (((a.den : Nat) : Int) : Rat) = (k : Rat) * a * (((t.den : Nat) : Int) : Rat) * (((a.den : Nat) : Int) : Rat) := by rw [hk]
        grind
      exact Rat.intCast_inj.mp h
    have en : t.num.natAbs * a.den = k.natAbs * a.num.natAbs * t.den := by
      have := congrArg Int.natAbs e
      rw [Int.natAbs_mul, Int.natAbs_mul, Int.natAbs_mul, Int.natAbs_natCast, Int.natAbs_natCast] at this
      exact this
    refine ⟨?_, ?_⟩
    · have h : a.num.natAbs ∣ t.num.natAbs * a.den := ⟨k.natAbs * t.den, by rw [en, Nat.mul_comm k.natAbs, Nat.mul_assoc]⟩
      exact ca.dvd_of_dvd_mul_right h
    · have h : t.den ∣ t.num.natAbs * a.den := ⟨k.natAbs * a.num.natAbs, by rw [en, Nat.mul_comm]⟩
      exact ct.symm.dvd_of_dvd_mul_left h
  · rintro ⟨h1, h2⟩
    obtain ⟨i, hi⟩ := Int.natAbs_dvd_natAbs.mp h1
    obtain ⟨j, hj⟩ := h2
    refine ⟨i * (j : Int), ?_⟩
    have a0 : (((a.den : Nat) : Int) : Rat) = (((t.den : Nat) : Int) : Rat) * (((j : Nat) : Int) : Rat) := by
      rw [hj, ← Rat.intCast_mul]
      rfl
    have d0 : (0 : Rat) < (((t.den : Nat) : Int) : Rat) := rat_pos t.den_pos
    have h3 : t * (((t.den : Nat) : Int) : Rat) = ((i * (j : Int) : Int) : Rat) * a * (((t.den : Nat) : Int) : Rat) := by
      rw [tn, hi, Rat.intCast_mul, ← an, a0, Rat.intCast_mul]
      grind
    have h4 : (t - ((i * (j : Int) : Int) : Rat) * a) * (((t.den : Nat) : Int) : Rat) = 0 := by grind
    rcases Rat.mul_eq_zero.mp h4 with h5 | h5
    · grind
    · grind
noncomputable def lcmQ (a b : Rat) : Rat := Rat.divInt ((Nat.lcm a.num.natAbs b.num.natAbs : Nat) : Int) ((Nat.gcd a.den b.den : Nat) : Int)
theorem lcm_parts {a b : Rat} : (lcmQ a b).num = ((Nat.lcm a.num.natAbs b.num.natAbs : Nat) : Int) ∧ (lcmQ a b).den = Nat.gcd a.den b.den := by
  have g0 : 0 < Nat.gcd a.den b.den := Nat.gcd_pos_of_pos_left _ a.den_pos
  have ca : a.num.natAbs.Coprime a.den := a.reduced
  have cb : b.num.natAbs.Coprime b.den := b.reduced
  have c1 : a.num.natAbs.Coprime (Nat.gcd a.den b.den) := Nat.Coprime.coprime_dvd_right (Nat.gcd_dvd_left _ _) ca
  have c2 : b.num.natAbs.Coprime (Nat.gcd a.den b.den) := Nat.Coprime.coprime_dvd_right (Nat.gcd_dvd_right _ _) cb
  have c3 : (Nat.lcm a.num.natAbs b.num.natAbs).Coprime (Nat.gcd a.den b.den) := Nat.Coprime.coprime_dvd_left (Nat.lcm_dvd_mul _ _) (Nat.Coprime.mul_left c1 c2)
  have z := q_of (n := ((Nat.lcm a.num.natAbs b.num.natAbs : Nat) : Int)) (d := ((Nat.gcd a.den b.den : Nat) : Int)) (by omega) c3
  exact ⟨z.1, by have := z.2; unfold lcmQ; omega⟩
theorem lcm_pos {a b : Rat} (ha : 0 < a) (hb : 0 < b) : 0 < lcmQ a b := by
  have g0 : 0 < Nat.gcd a.den b.den := Nat.gcd_pos_of_pos_left _ a.den_pos
  have a0 := q_numpos ha
  have b0 := q_numpos hb
  have l0 : 0 < Nat.lcm a.num.natAbs b.num.natAbs := Nat.lcm_pos (by omega) (by omega)
  exact q_divpos (by omega) (by omega)
theorem lcm_mul {a b t : Rat} (ha : 0 < a) (hb : 0 < b) : MulQ (lcmQ a b) t ↔ MulQ a t ∧ MulQ b t := by
  rw [mul_iff (lcm_pos ha hb), mul_iff ha, mul_iff hb, lcm_parts.1, lcm_parts.2, Int.natAbs_natCast]
  constructor
  · rintro ⟨h1, h2⟩
    exact ⟨⟨Nat.dvd_trans (Nat.dvd_lcm_left _ _) h1, Nat.dvd_trans h2 (Nat.gcd_dvd_left _ _)⟩, ⟨Nat.dvd_trans (Nat.dvd_lcm_right _ _) h1, Nat.dvd_trans h2 (Nat.gcd_dvd_right _ _)⟩⟩
  · rintro ⟨⟨h1, h2⟩, ⟨h3, h4⟩⟩
    exact ⟨Nat.lcm_dvd h1 h3, Nat.dvd_gcd h2 h4⟩
theorem mul_part {T : Rat} (hT : 0 < T) {n p : Nat} (p1 : 1 ≤ p) : MulQ T ((n : Rat) * T * Rat.divInt 1 (p : Int)) ↔ p ∣ n := by
  have p0 := rat_pos p1
  have e : Rat.divInt 1 (p : Int) * (p : Rat) = 1 := by
    rw [q_dv]
    exact Rat.div_mul_cancel (a := ((1 : Int) : Rat)) (Rat.ne_of_gt p0)
  constructor
  · rintro ⟨k, hk⟩
    have h1 : (n : Rat) * T = (k : Rat) * T * (p : Rat) := by
      have : (n : Rat) * T * Rat.divInt 1 (p : Int) * (p : Rat) = (k : Rat) * T * (p : Rat) := by rw [hk]
      have h2 : (n : Rat) * T * Rat.divInt 1 (p : Int) * (p : Rat) = (n : Rat) * T * (Rat.divInt 1 (p : Int) * (p : Rat)) := by grind
      rw [h2, e] at this
      grind
    have h3 : ((n : Rat) - (k : Rat) * (p : Rat)) * T = 0 := by grind
    have h4 : (n : Rat) = (k : Rat) * (p : Rat) := by
      rcases Rat.mul_eq_zero.mp h3 with h5 | h5
      · grind
      · grind
    have h6 : (((n : Int)) : Rat) = ((k * (p : Int) : Int) : Rat) := by
      rw [Rat.intCast_mul]
      exact h4
    have h7 : (n : Int) = k * (p : Int) := Rat.intCast_inj.mp h6
    exact Int.natCast_dvd_natCast.mp ⟨k, by rw [h7, Int.mul_comm]⟩
  · rintro ⟨c, rfl⟩
    refine ⟨(c : Int), ?_⟩
    have : (((p * c : Nat)) : Rat) = (p : Rat) * (c : Rat) := Rat.natCast_mul p c
    rw [this]
    have h2 : (p : Rat) * (c : Rat) * T * Rat.divInt 1 (p : Int) = (c : Rat) * T * (Rat.divInt 1 (p : Int) * (p : Rat)) := by grind
    rw [h2, e]
    have : (((c : Int)) : Rat) = (c : Rat) := rfl
    rw [this]
    grind
theorem cop_of {p n : Nat} (hp : ∀ d, d < p + 1 → d ∣ p → d = 1 ∨ d = p) (p1 : 1 ≤ p) (h : ¬ p ∣ n) : n.Coprime p := by
  have g := Nat.gcd_dvd_right n p
  have l := Nat.le_of_dvd p1 g
  rcases hp _ (by omega) g with e | e
  · exact e
  · exact absurd (e ▸ Nat.gcd_dvd_left n p) h
theorem down_end {n : Nat} (h : n ∣ facN 12) (h2 : ¬ 2 ∣ n) (h3 : ¬ 3 ∣ n) (h5 : ¬ 5 ∣ n) (h7 : ¬ 7 ∣ n) (h11 : ¬ 11 ∣ n) : n = 1 := by
  have c2 := cop_of (p := 2) (by decide) (by decide) h2
  have c3 := cop_of (p := 3) (by decide) (by decide) h3
  have c5 := cop_of (p := 5) (by decide) (by decide) h5
  have c7 := cop_of (p := 7) (by decide) (by decide) h7
  have c11 := cop_of (p := 11) (by decide) (by decide) h11
  have e : facN 12 = 2 ^ 10 * 3 ^ 5 * 5 ^ 2 * 7 * 11 := by decide +kernel
  have c : n.Coprime (facN 12) := by
    rw [e]
    exact Nat.Coprime.mul_right (Nat.Coprime.mul_right (Nat.Coprime.mul_right (Nat.Coprime.mul_right (Nat.Coprime.pow_right 10 c2) (Nat.Coprime.pow_right 5 c3)) (Nat.Coprime.pow_right 2 c5)) c7) c11
  exact Nat.Coprime.eq_one_of_dvd c h
end Kw
set_option Elab.async false
set_option linter.all false
set_option maxRecDepth 100000
set_option maxHeartbeats 4000000
namespace Kw
open PySem PySem.Spec PyProof.Rows L2
noncomputable def ringQ (L : Rat) (b : Bod) : Rat := if b.2.1 < 0 then L + L - b.1 else b.1
theorem spot_neg {y R : Rat} (hR : 0 < R) : spotQ (-y) R = if spotQ y R = 0 then 0 else R - spotQ y R := by
  obtain ⟨k, hk⟩ := spot_back (x := y) hR
  have si := spot_in (x := y) hR
  by_cases c : spotQ y R = 0
  · rw [if_pos c]
    have e : -y - ((-k : Int) : Rat) * R = 0 := by rw [Rat.intCast_neg]; grind
    have z := spot_is (x := -y) (k := -k) hR (by rw [e]; exact ⟨Rat.le_refl, hR⟩)
    rw [← z, e]
  · rw [if_neg c]
    have e : -y - ((-k - 1 : Int) : Rat) * R = R - spotQ y R := by
      rw [Rat.intCast_sub, Rat.intCast_neg]
      have : ((1 : Int) : Rat) = 1 := rfl
      rw [this]
      grind
    have z := spot_is (x := -y) (k := -k - 1) hR (by rw [e]; grind)
    rw [← z, e]
theorem abs_neg (v : Rat) : absQ (-v) = absQ v := by
  unfold absQ
  by_cases c : v < 0
  · rw [if_pos c, if_neg (by grind)]
  · rw [if_neg c]
    by_cases d : -v < 0
    · rw [if_pos d]
      grind
    · rw [if_neg d]
      grind
theorem abs_abs (v : Rat) : absQ (absQ v) = absQ v := by
  by_cases c : v < 0
  · rw [show absQ v = -v by unfold absQ; rw [if_pos c], abs_neg]
    unfold absQ
    rw [if_pos c]
  · have e : absQ v = v := by unfold absQ; rw [if_neg c]
    rw [e, e]
theorem fold_pace (L t : Rat) (b : Bod) : absQ (foldQ L t b).2.1 = absQ b.2.1 := by
  unfold foldQ
  dsimp only
  split
  · exact abs_abs _
  · split
    · exact (abs_neg _).trans (abs_abs _)
    · split
      · exact abs_neg _
      · rfl
theorem fold_in {L t : Rat} (hL : 0 < L) (b : Bod) : 0 ≤ (foldQ L t b).1 ∧ (foldQ L t b).1 ≤ L := by
  have si := spot_in (x := b.1 + b.2.1 * t) (y := L + L) (by grind)
  unfold foldQ
  dsimp only
  generalize spotQ (b.1 + b.2.1 * t) (L + L) = s at si
  split
  · grind
  · split
    · grind
    · split <;> grind
theorem ring_fold {L t : Rat} (hL : 0 < L) {b : Bod} (hv : b.2.1 ≠ 0) : ringQ L (foldQ L t b) = spotQ (ringQ L b + absQ b.2.1 * t) (L + L) := by
  have hR : 0 < L + L := by grind
  have si := spot_in (x := b.1 + b.2.1 * t) hR
  by_cases c : b.2.1 < 0
  · have e1 : ringQ L b + absQ b.2.1 * t = -(b.1 + b.2.1 * t) + ((1 : Int) : Rat) * (L + L) := by
      unfold ringQ absQ
      rw [if_pos c, if_pos c]
      have : ((1 : Int) : Rat) = 1 := rfl
      rw [this]
      grind
    rw [e1, spot_round hR, spot_neg hR]
    have ab : absQ b.2.1 = -b.2.1 := by unfold absQ; rw [if_pos c]
    unfold foldQ
    dsimp only
    generalize spotQ (b.1 + b.2.1 * t) (L + L) = s at si
    unfold ringQ
    by_cases s0 : s = 0
    · rw [if_pos s0, if_pos s0, ab]
      dsimp only
      rw [if_neg (by grind)]
      exact s0
    · rw [if_neg s0, if_neg s0]
      by_cases sL : s = L
      · rw [if_pos sL, ab]
        dsimp only
        rw [if_pos (by grind)]
      · rw [if_neg sL]
        by_cases sl : L < s
        · rw [if_pos sl]
          dsimp only
          rw [if_neg (by grind)]
        · rw [if_neg sl]
          dsimp only
          rw [if_pos c]
  · have e1 : ringQ L b + absQ b.2.1 * t = b.1 + b.2.1 * t := by
      unfold ringQ absQ
      rw [if_neg c, if_neg c]
    rw [e1]
    have ab : absQ b.2.1 = b.2.1 := by unfold absQ; rw [if_neg c]
    unfold foldQ
    dsimp only
    generalize spotQ (b.1 + b.2.1 * t) (L + L) = s at si
    unfold ringQ
    by_cases s0 : s = 0
    · rw [if_pos s0, ab]
      dsimp only
      rw [if_neg c]
    · rw [if_neg s0]
      by_cases sL : s = L
      · rw [if_pos sL, ab]
        dsimp only
        rw [if_pos (by grind)]
        grind
      · rw [if_neg sL]
        by_cases sl : L < s
        · rw [if_pos sl]
          dsimp only
          rw [if_pos (by grind)]
          grind
        · rw [if_neg sl]
          dsimp only
          rw [if_neg c]
theorem ring_one {L : Rat} (hL : 0 < L) {a b : Bod} (ha : 0 ≤ a.1 ∧ a.1 ≤ L) (hb : Inrm L b) (hv : b.2.1 ≠ 0) (p : absQ a.2.1 = absQ b.2.1) (r : ringQ L a = ringQ L b) (w : a.2.2 = b.2.2) : a = b := by
  unfold Inrm at hb
  unfold ringQ at r
  unfold absQ at p
  have h : a.1 = b.1 ∧ a.2.1 = b.2.1 := by
    by_cases c1 : a.2.1 < 0
    · rw [if_pos c1] at r p
      by_cases c2 : b.2.1 < 0
      · rw [if_pos c2] at r p
        grind
      · rw [if_neg c2] at r p
        grind
    · rw [if_neg c1] at r p
      by_cases c2 : b.2.1 < 0
      · rw [if_pos c2] at r p
        grind
      · rw [if_neg c2] at r p
        grind
  exact Prod.ext h.1 (Prod.ext h.2 w)
noncomputable def spotsQ (L : Rat) (bs : List Bod) (c : Rat) : List Rat := (bs.filter fun b => decide (absQ b.2.1 = c)).map (ringQ L)
theorem mem_spots {L c s : Rat} {bs : List Bod} : s ∈ spotsQ L bs c ↔ ∃ b ∈ bs, absQ b.2.1 = c ∧ ringQ L b = s := by
  unfold spotsQ
  rw [List.mem_map]
  constructor
  · rintro ⟨b, hb, e⟩
    obtain ⟨h1, h2⟩ := List.mem_filter.mp hb
    exact ⟨b, h1, of_decide_eq_true h2, e⟩
  · rintro ⟨b, h1, h2, e⟩
    exact ⟨b, List.mem_filter.mpr ⟨h1, decide_eq_true h2⟩, e⟩
theorem spots_in {L c : Rat} (hL : 0 < L) {bs : List Bod} (hi : ∀ b ∈ bs, Inrm L b) : ∀ s ∈ spotsQ L bs c, 0 ≤ s ∧ s < L + L := fun s hs => by
  obtain ⟨b, hb, _, rfl⟩ := mem_spots.mp hs
  have := hi b hb
  unfold Inrm at this
  unfold ringQ
  split <;> grind
noncomputable def RoundQ (L : Rat) (bs : List Bod) (t : Rat) : Prop := (bs.map (foldQ L t)).Perm bs
theorem perm_of {l : List Bod} : ∀ {m : List Bod}, l.Nodup → (∀ x ∈ l, x ∈ m) → l.length = m.length → l.Perm m := by
  induction l with
  | nil =>
    intro m _ _ e
    rw [List.eq_nil_of_length_eq_zero e.symm]
  | cons x l ih =>
    intro m hn hs e
    obtain ⟨h1, h2⟩ := List.nodup_cons.mp hn
    have hx := hs x List.mem_cons_self
    have z := ih (m := m.erase x) h2 (fun y hy => (List.mem_erase_of_ne (show y ≠ x from fun q => h1 (by rw [← q]; exact hy))).mpr (hs y (List.mem_cons_of_mem _ hy))) (by
      rw [List.length_erase_of_mem hx]
      rw [List.length_cons] at e
      omega)
    exact (List.Perm.cons x z).trans (List.perm_cons_erase hx).symm
theorem abs_zero {v : Rat} : absQ v = 0 ↔ v = 0 := by
  unfold absQ
  by_cases c : v < 0
  · rw [if_pos c]
    grind
  · rw [if_neg c]
theorem fold_still {L t : Rat} {b : Bod} (hb : Inrm L b) (h : b.2.1 = 0) : foldQ L t b = b := by
  unfold Inrm at hb
  have e : spotQ (b.1 + b.2.1 * t) (L + L) = b.1 := by
    rw [show b.1 + b.2.1 * t = b.1 by rw [h]; grind]
    exact spot_self (by grind) (by grind)
  unfold foldQ
  dsimp only
  rw [e, if_neg (by grind), if_neg (by grind), if_neg (by grind)]
theorem round_iff {L : Rat} (hL : 0 < L) {bs : List Bod} {W : Int} (hi : ∀ b ∈ bs, Inrm L b) (hw : ∀ b ∈ bs, b.2.2 = W) (nd : bs.Nodup) (t : Rat) : RoundQ L bs t ↔ ∀ c, 0 < c → FitW (spotsQ L bs c) (L + L) (c * t) := by
  have hR : 0 < L + L := by grind
  have fw : ∀ b : Bod, (foldQ L t b).2.2 = b.2.2 := fun b => by
    unfold foldQ
    dsimp only
    split
    · rfl
    · split
      · rfl
      · split <;> rfl
  constructor
  · intro pm c c0 s hs
    obtain ⟨b, hb, pc, rfl⟩ := mem_spots.mp hs
    have hv : b.2.1 ≠ 0 := fun z => by
      rw [abs_zero.mpr z] at pc
      grind
    have hf : foldQ L t b ∈ bs := pm.mem_iff.mp (List.mem_map_of_mem hb)
    rw [← pc, ← ring_fold hL hv]
    exact mem_spots.mpr ⟨_, hf, fold_pace L t b, rfl⟩
  · intro fit
    have into : ∀ b ∈ bs, foldQ L t b ∈ bs := fun b hb => by
      by_cases hv : b.2.1 = 0
      · rw [fold_still (hi b hb) hv]
        exact hb
      · have c0 : 0 < absQ b.2.1 := absQ_pos hv
        have z := fit _ c0 _ (mem_spots.mpr ⟨b, hb, rfl, rfl⟩)
        rw [← ring_fold hL hv] at z
        obtain ⟨b', hb', pc, rc⟩ := mem_spots.mp z
        have hv' : b'.2.1 ≠ 0 := fun y => by
          rw [abs_zero.mpr y] at pc
          grind
        have e := ring_one hL (fold_in hL b) (hi b' hb') hv' ((fold_pace L t b).trans pc.symm) rc.symm (by rw [fw, hw b hb, hw b' hb'])
        rw [e]
        exact hb'
    have inj : ∀ a ∈ bs, ∀ b ∈ bs, foldQ L t a = foldQ L t b → a = b := fun a ha b hb e => by
      have pp : absQ a.2.1 = absQ b.2.1 := by rw [← fold_pace L t a, e, fold_pace]
      by_cases hv : a.2.1 = 0
      · have hv' : b.2.1 = 0 := abs_zero.mp (by rw [← pp]; exact abs_zero.mpr hv)
        rw [fold_still (hi a ha) hv, fold_still (hi b hb) hv'] at e
        exact e
      · have hv' : b.2.1 ≠ 0 := fun y => hv (abs_zero.mp (by rw [pp]; exact abs_zero.mpr y))
        have r : spotQ (ringQ L a + absQ a.2.1 * t) (L + L) = spotQ (ringQ L b + absQ a.2.1 * t) (L + L) := by
          rw [← ring_fold hL hv, e, ring_fold hL hv', pp]
        obtain ⟨k, hk⟩ := spot_eq hR r
        have ra := spots_in hL hi (ringQ L a) (mem_spots.mpr ⟨a, ha, rfl, rfl⟩)
        have rb := spots_in hL hi (ringQ L b) (mem_spots.mpr ⟨b, hb, rfl, rfl⟩)
        have rr : ringQ L a = ringQ L b := by
          have h1 := spot_self ra.1 ra.2
          have h2 := spot_self rb.1 rb.2
          have h3 := spot_round (x := ringQ L b) hR k
          have h4 : ringQ L b + (k : Rat) * (L + L) = ringQ L a := by grind
          rw [h4, h1, h2] at h3
          exact h3
        have ia := hi a ha
        unfold Inrm at ia
        exact ring_one hL ⟨by grind, by grind⟩ (hi b hb) hv' pp rr (by rw [hw a ha, hw b hb])
    refine perm_of ?_ (fun x hx => ?_) (List.length_map ..)
    · refine List.pairwise_map.mpr ?_
      exact List.Pairwise.imp_of_mem (fun {a b} ha hb ne e => ne (inj a ha b hb e)) nd
    · obtain ⟨b, hb, rfl⟩ := List.mem_map.mp hx
      exact into b hb
theorem mul_pos_nat {T t : Rat} (hT : 0 < T) (h0 : 0 < t) (m : MulQ T t) : ∃ n : Nat, 1 ≤ n ∧ t = (n : Rat) * T := by
  obtain ⟨k, hk⟩ := m
  have k1 : 1 ≤ k := by
    refine Int.not_lt.mp fun c => ?_
    have h1 : (k : Rat) ≤ ((0 : Int) : Rat) := Rat.intCast_le_intCast.mpr (by omega)
    have h2 := Rat.mul_le_mul_of_nonneg_right h1 (Rat.le_of_lt hT)
    have h3 : ((0 : Int) : Rat) = 0 := rfl
    rw [h3] at h2
    grind
  refine ⟨k.toNat, by omega, ?_⟩
  have e : ((k.toNat : Nat) : Int) = k := Int.toNat_of_nonneg (by omega)
  have e2 : ((k.toNat : Nat) : Rat) = (k : Rat) := by
    conv => rhs; rw [← e]
    rfl
  rw [e2]
  exact hk
theorem down_start {T t : Rat} (hT : 0 < T) (h0 : 0 < t) (m : MulQ T t) (d : MulQ t (((facN 12 : Nat) : Rat) * T)) : ∃ n : Nat, 1 ≤ n ∧ t = (n : Rat) * T ∧ n ∣ facN 12 := by
  obtain ⟨n, n1, hn⟩ := mul_pos_nat hT h0 m
  refine ⟨n, n1, hn, ?_⟩
  obtain ⟨k, hk⟩ := d
  rw [hn] at hk
  have h1 : (((facN 12 : Nat) : Rat) - (k : Rat) * (n : Rat)) * T = 0 := by grind
  have h2 : ((facN 12 : Nat) : Rat) = (k : Rat) * (n : Rat) := by
    rcases Rat.mul_eq_zero.mp h1 with h3 | h3
    · grind
    · grind
  have h4 : (((facN 12 : Nat) : Int) : Rat) = ((k * (n : Int) : Int) : Rat) := by
    rw [Rat.intCast_mul]
    exact h2
  have h5 : ((facN 12 : Nat) : Int) = k * (n : Int) := Rat.intCast_inj.mp h4
  exact Int.natCast_dvd_natCast.mp ⟨k, by rw [h5, Int.mul_comm]⟩
theorem pace_mul {R c t : Rat} (c0 : 0 < c) {q : Nat} : (∃ k : Int, c * t = k * (R / (q : Rat))) ↔ MulQ (R / (q : Rat) / c) t := by
  have e : R / (q : Rat) / c * c = R / (q : Rat) := Rat.div_mul_cancel (Rat.ne_of_gt c0)
  constructor
  · rintro ⟨k, hk⟩
    refine ⟨k, ?_⟩
    have h : (t - (k : Rat) * (R / (q : Rat) / c)) * c = 0 := by grind
    rcases Rat.mul_eq_zero.mp h with h3 | h3
    · grind
    · grind
  · rintro ⟨k, rfl⟩
    refine ⟨k, ?_⟩
    rw [← e]
    grind
theorem mul_self (a : Rat) : MulQ a a := ⟨1, by have : ((1 : Int) : Rat) = 1 := rfl; rw [this]; grind⟩
theorem mul_one_of {a b : Rat} (ha : 0 < a) (hb : 0 < b) (h : MulQ a b) (g : MulQ b a) : a = b := by
  obtain ⟨n, n1, hn⟩ := mul_pos_nat ha hb h
  obtain ⟨m, m1, hm⟩ := mul_pos_nat hb ha g
  have h1 : ((m : Rat) * (n : Rat) - 1) * a = 0 := by grind
  have h2 : (m : Rat) * (n : Rat) = 1 := by
    rcases Rat.mul_eq_zero.mp h1 with h3 | h3
    · grind
    · grind
  have h4 : (((m * n : Nat) : Int) : Rat) = ((1 : Int) : Rat) := by
    have : (((m * n : Nat)) : Rat) = (m : Rat) * (n : Rat) := Rat.natCast_mul m n
    show (((m * n : Nat)) : Rat) = _
    rw [this, h2]
    rfl
  have h5 : ((m * n : Nat) : Int) = 1 := Rat.intCast_inj.mp h4
  have h6 : m * n = 1 := by omega
  have h7 : n = 1 := Nat.eq_one_of_mul_eq_one_left h6
  rw [hn, h7]
  have : ((1 : Nat) : Rat) = 1 := rfl
  rw [this]
  grind
end Kw
set_option Elab.async false
set_option linter.all false
set_option maxRecDepth 100000
set_option maxHeartbeats 4000000
namespace Kw
open PySem PySem.Spec PyProof.Rows L2
theorem cap_three {X : Cx} {scope : Scope} {cl : List (Str × Addr)} {y y' y'' : Str} {j j' j'' : Nat} {c c' c'' : Addr} (h1 : X.N[j]? = some y) (h2 : X.env.kindOf y = some .cell) (h3 : X.env.cells.lookup y = some c) (h4 : cl.lookup y = some c)
    (h5 : (relabel scope X.env).names.lookup y = some .cell ∨ (relabel scope X.env).names.lookup y = some .free)
    (g1 : X.N[j']? = some y') (g2 : X.env.kindOf y' = some .cell) (g3 : X.env.cells.lookup y' = some c') (g4 : cl.lookup y' = some c')
    (g5 : (relabel scope X.env).names.lookup y' = some .cell ∨ (relabel scope X.env).names.lookup y' = some .free)
    (k1 : X.N[j'']? = some y'') (k2 : X.env.kindOf y'' = some .cell) (k3 : X.env.cells.lookup y'' = some c'') (k4 : cl.lookup y'' = some c'')
    (k5 : (relabel scope X.env).names.lookup y'' = some .cell ∨ (relabel scope X.env).names.lookup y'' = some .free) : Capt X scope cl [y, y', y''] [j, j', j''] :=
  ⟨rfl, fun k z h => by
    match k with
    | 0 => cases h; exact ⟨j, c, rfl, h1, h2, h3, h4, h5⟩
    | 1 => cases h; exact ⟨j', c', rfl, g1, g2, g3, g4, g5⟩
    | 2 => cases h; exact ⟨j'', c'', rfl, k1, k2, k3, k4, k5⟩
    | k + 3 => simp at h⟩
theorem cl_three {cells : List (PySem.Str × PySem.Addr)} {y1 y2 y3 : PySem.Str} {c1 c2 c3 : PySem.Addr} (h1 : cells.lookup y1 = some c1) (h2 : cells.lookup y2 = some c2) (h3 : cells.lookup y3 = some c3) : ∀ y c, List.lookup y [(y1, c1), (y2, c2), (y3, c3)] = some c → cells.lookup y = some c := by
  intro y c e
  rw [List.lookup_cons] at e
  split at e
  · rename_i q
    have e1 : y = y1 := by simpa using q
    cases e
    rw [e1]
    exact h1
  · rw [List.lookup_cons] at e
    split at e
    · rename_i q
      have e1 : y = y2 := by simpa using q
      cases e
      rw [e1]
      exact h2
    · rw [List.lookup_cons] at e
      split at e
      · rename_i q
        have e1 : y = y3 := by simpa using q
        cases e
        rw [e1]
        exact h3
      · cases e
end Kw
set_option Elab.async false
set_option linter.all false
set_option maxRecDepth 100000
namespace L2
open PySem PySem.Spec PyProof.Rows
section
variable {κ : Type} [DecidableEq κ]
noncomputable def valV (kvs : List (κ × V)) (k : κ) : Option V := (kvs.find? fun kv => decide (kv.1 = k)).map (·.2)
theorem valV_pos {p : κ × V} {r : List (κ × V)} {k : κ} (e : p.1 = k) : valV (p :: r) k = some p.2 := by simp [valV, List.find?_cons, e]
theorem valV_neg {p : κ × V} {r : List (κ × V)} {k : κ} (e : ¬ p.1 = k) : valV (p :: r) k = valV r k := by simp [valV, List.find?_cons, e]
theorem KV.val {kvs : List (κ × V)} {vs : List (κ × Value)} (r : KV kvs vs) (k : κ) : RelO (valV kvs k) (valueAt vs k) := by
  unfold KV at r
  induction r with
  | nil => exact True.intro
  | @cons p q ps qs h t ih =>
    obtain ⟨h1, h2⟩ := h
    by_cases e : p.1 = k
    · have e' : q.1 = k := h1.symm.trans e
      have b : valueAt (q :: qs) k = some q.2 := by simp [valueAt, List.find?_cons, e']
      rw [valV_pos e, b]; exact h2
    · have e' : ¬ q.1 = k := fun z => e (h1.trans z)
      have b : valueAt (q :: qs) k = valueAt qs k := by simp [valueAt, List.find?_cons, e']
      rw [valV_neg e, b]; exact ih
end
theorem kV_is {P : Program} {w : World} {k : Key} {u : Value} (r : RelV (kV k) u) : (mixKind P w).is k u = true := by
  cases k with
  | inl i => obtain ⟨t, e⟩ := (show ∃ t, u = Value.int i t from r); subst e; exact mixKind_int P w i t
  | inr x => obtain ⟨t, e⟩ := (show ∃ t, u = Value.str x t from r); subst e; exact mixKind_str P w x t
theorem items_are {P : Program} {w : World} : ∀ {ks : List Key} {us : List Value}, Vals (ks.map kV) us → ItemsAre (mixKind P w) ks us
  | [], _, r => by rw [List.map_nil] at r; cases r; exact .nil
  | k :: ks, _, r => by
    rw [List.map_cons] at r
    cases r with
    | cons h t => exact .cons (kV_is h) (items_are t)
noncomputable abbrev KT (H : Hp) : List (List Key × V) → List (List Key × Addr × Value) → Prop := Paired fun p q => p.1 = q.1 ∧ H q.2.1 = some (.tup (p.1.map kV)) ∧ RelV p.2 q.2.2
theorem KT.val {H : Hp} {kvs : List (List Key × V)} {xs : List (List Key × Addr × Value)} (r : KT H kvs xs) (k : List Key) : RelO (valV kvs k) ((atKey xs k).map (·.2)) := by
  induction r with
  | nil => exact True.intro
  | @cons p q ps qs h t ih =>
    obtain ⟨h1, _, h2⟩ := h
    by_cases e : p.1 = k
    · have e' : q.1 = k := h1.symm.trans e
      have b : atKey (q :: qs) k = some q.2 := by simp [atKey, List.find?_cons, e']
      rw [valV_pos e, b]; exact h2
    · have e' : ¬ q.1 = k := fun z => e (h1.trans z)
      have b : atKey (q :: qs) k = atKey qs k := by simp [atKey, List.find?_cons, e']
      rw [valV_neg e, b]; exact ih
theorem KT.keeps {H H' : Hp} {kvs : List (List Key × V)} {xs : List (List Key × Addr × Value)} (r : KT H kvs xs) (ht : ∀ b ys, H b = some (.tup ys) → H' b = some (.tup ys)) : KT H' kvs xs :=
  Paired.mapP r fun _ _ z => ⟨z.1, ht _ _ z.2.1, z.2.2⟩
section
variable {P : Program} {w : World} {H : Hp} {h : Heap} {a : Addr}
theorem rd_of {u : HO} (ok : HOk P w H h) (e : Rd H a u) : ObjOk P w H h a u := e.ok ok
theorem dk_rd {kvs : List (Key × V)} (ok : HOk P w H h) (e : Rd H a (.dK kvs)) : kvs.length ≤ sizeLine ∧ (a == sysModules) = false ∧ ∃ vs, KV kvs vs ∧ h.DictOf (mixKind P w) a vs :=
  show ObjOk P w H h a (.dK kvs) from rd_of ok e
theorem key_of {ks : List Key} (ok : HOk P w H h) (e : H a = some (.tup (ks.map kV))) : (tupleKind (mixKind P w)).is h ks a := by
  obtain ⟨_, its, r, o, h1, h2, n, h3⟩ := (show ObjOk P w H h a (.tup (ks.map kV)) from ok a _ e)
  exact ⟨o, its.toArray, n, h1, h2, h3, by simpa using items_are r⟩
theorem dt_rd {kvs : List (List Key × V)} (ok : HOk P w H h) (e : Rd H a (.dT kvs)) : kvs.length ≤ sizeLine ∧ (a == sysModules) = false ∧
    ∃ xs, KT H kvs xs ∧ h.DictOfH (tupleKind (mixKind P w)) a xs := by
  obtain ⟨z, y, xs, r, o, es, ep, h1, h2, h3, h4, h5⟩ := (show ObjOk P w H h a (.dT kvs) from rd_of ok e)
  refine ⟨z, y, xs, r, o, es, ep, h1, h2, h3, h4, fun x hx => ?_, h5⟩
  have all : ∀ {l : List (List Key × V)} {m : List (List Key × Addr × Value)}, KT H l m → ∀ x ∈ m, (tupleKind (mixKind P w)).is h x.1 x.2.1 := by
    intro l m q
    induction q with
    | nil => intro x hx; exact nomatch hx
    | @cons p q ps qs hq t ih =>
      intro x hx
      rcases List.mem_cons.mp hx with e | hx
      · subst e
        exact key_of ok (by rw [← hq.1]; exact hq.2.1)
      · exact ih x hx
  exact all r x hx
theorem dt_of {kvs : List (List Key × V)} (ok : HOk P w H h) (e : H a = some (.dT kvs)) : kvs.length ≤ sizeLine ∧ (a == sysModules) = false ∧
    ∃ xs, KT H kvs xs ∧ h.DictOfH (tupleKind (mixKind P w)) a xs := dt_rd ok (.inl e)
end
noncomputable def DGet (H : Hp) (a : Addr) (y : V) (r : Option V) : Prop :=
  (∃ kvs k, Rd H a (.dK kvs) ∧ y = kV k ∧ r = valV kvs k) ∨ ∃ kvs k b, Rd H a (.dT kvs) ∧ y = .ref b ∧ H b = some (.tup (k.map kV)) ∧ r = valV kvs k
section
variable {X : Cx} {pins : List (Addr × Obj)} {σ : St} {H : Hp} {s : Shared} {a : Addr} {y v : V} {u r : Value} {o : Option V} {A : Around} {E : Value → Shared → Prop}
theorem Inv.big (I : Inv X pins σ H s) : sysModules < s.heap.objs.size := by
  have h : mainGlobals < s.heap.objs.size := (I.mod.glob.keeps I.bk).lt
  exact Nat.lt_trans (by decide) h
theorem d_getItem {Q : Value → Shared → Prop} (hu : A.units + 1 < cLine) (I : Inv X pins σ H s) (g : DGet H a y (some v)) (ry : RelV y u) (h : ∀ w' s', Inv X pins σ H s' → RelV v w' → Q w' s') :
    wpAny (model X.prog X.w) A (getItem (.ref a) u) Q E s := by
  rcases g with ⟨kvs, k, e, ey, l⟩ | ⟨kvs, k, b, e, ey, eb, l⟩
  · subst ey
    obtain ⟨z, hd, vs, rel, dd⟩ := dk_rd I.hok e
    obtain ⟨w', hw, rw'⟩ := RelO.some_of (v := v) (o := valueAt vs k) (by rw [l]; exact rel.val k)
    exact wpAny_getItem_of (kV_is ry) dd.mapOf hw (h w' _ (I.tok _) rw')
  · subst ey
    cases (show u = Value.ref b from ry)
    obtain ⟨z, hd, xs, rel, dd⟩ := dt_rd I.hok e
    obtain ⟨w', hw, rw'⟩ := RelO.some_of (v := v) (o := (atKey xs k).map (·.2)) (by rw [l]; exact rel.val k)
    obtain ⟨p, hp, hp2⟩ := Option.map_eq_some_iff.mp hw
    refine wpAny_getItem_heap (tupleKind_room_in1 hu) (key_of I.hok eb) dd hp ?_
    rw [hp2]
    exact h w' _ (I.tok _) rw'
theorem d_write {h' : Heap} {t' : Nat} {ob : HO} (I : Inv X pins σ H s) (mu : Mut (H a)) (hs : Heap.SameBut a s.heap h') (he : ∃ q, h'.get? a = some q) (new : ObjOk X.prog X.w (upd H a ob) h' a ob) :
    Inv X pins σ (upd H a ob) { s with heap := h', toks := t' } :=
  I.write (x := a) (e := a) mu (.inl rfl) (fun b q hb z => (hs.2 b hb).trans z) he new
end
section
variable {X : Cx} {pins : List (Addr × Obj)} {σ : St} {H : Hp} {s : Shared} {a : Addr} {kvs : List (Key × V)} {k : Key} {u : Value} {A : Around} {E : Value → Shared → Prop}
end
noncomputable def NoSl (i : Expr) : Prop := ∀ ov iv, subscripted i false ov iv = operate [ov, iv] (getItem ov iv)
theorem subD_of {prog : Program} {w : World} {A : Around} {E : Value → Shared → Prop} {s : Shared} {env : Env} {value slice : Expr} {pos : Pos} {T id : String} {Q : Value → Shared → Prop}
    (hl : typeLookup (.type T) "__getitem__" = pure (some (.builtin id))) (hs : NoSl slice)
    (h : wpAny (model prog w) A (eval value env) (fun o s₁ => wpAny (model prog w) A (eval slice env) (fun i s₂ => s₂.TypeIs o T ∧ wpAny (model prog w) A (getItem o i) Q E s₂) E s₁) E s) :
    wpAny (model prog w) A (eval (.Subscript value slice pos) env) Q E s := by
  refine Subscript_ (wpAny_mono h (fun o s₁ h₁ => wpAny_mono h₁ (fun i s₂ h₂ => ?_) fun _ _ x => x) fun _ _ x => x)
  obtain ⟨hT, h₂⟩ := h₂
  unfold subscriptTail
  refine wpAny_bind ?_
  rw [getitemInPython_of_ne hT.not_modules]
  refine wpAny_bind (wpAny_specialOf hT hl ?_)
  have fin : wpAny (model prog w) A (subscripted slice false o i) (fun r s₃ => wpAny (model prog w) A (letTemporaryGo value o r >>= fun _ => pure r) Q E s₃) E s₂ := by
    rw [hs o i]
    exact wpAny_operating (wpAny_mono h₂ (fun r s₃ h₃ => wpAny_bind (wpAny_letTemporaryGo (wpAny_pure h₃))) fun _ _ x => x)
  first
    | exact wpAny_pure (wpAny_bind fin)
    | exact wpAny_bind (wpAny_pure (wpAny_bind fin))
    | exact wpAny_bind fin
theorem dict_typeIs {X : Cx} {pins : List (Addr × Obj)} {σ : St} {H : Hp} {s : Shared} {a : Addr} {y : V} {o : Option V} (I : Inv X pins σ H s) (g : DGet H a y o) : s.TypeIs (.ref a) "dict" := by
  rcases g with ⟨kvs, k, e, _, _⟩ | ⟨kvs, k, b, e, _, _, _⟩
  · obtain ⟨_, _, vs, _, dd⟩ := dk_rd I.hok e
    exact dd.typeIs
  · obtain ⟨_, _, xs, _, dd⟩ := dt_rd I.hok e
    exact dd.typeIs
noncomputable def tDGet (td ty : TE) : TE := fun σ H Q => td σ H fun x H1 => ty σ H1 fun y H2 => ∃ a v, x = .ref a ∧ DGet H2 a y (some v) ∧ Q v H2
section
variable {X : Cx} {o i e value : Expr} {pos pos' tpos : Pos} {td ty tv : TE}
theorem pe_dget (hu : X.A.units + 1 < cLine) (ho : PE X o td) (hi : PE X i ty) (hs : NoSl i) : PE X (.Subscript o i pos) (tDGet td ty) := by
  intro pins s σ H Q I h
  refine subD_of PySem.F.slot_dict_getitem.lookup hs (thn (ho pins s σ H _ I h) fun u s1 ⟨x, H1, I1, rx, q1⟩ => thn (hi pins s1 σ H1 _ I1 q1) fun iv s2 zz => ?_)
  obtain ⟨y, H2, I2, ry, a, v, ex, g, q2⟩ := zz
  subst ex
  obtain rfl : u = Value.ref a := rx
  exact ⟨dict_typeIs I2 g, d_getItem hu I2 g ry fun w' s3 I3 rw' => ⟨v, H2, I3, rw', q2⟩⟩
end
theorem dt_empty {P : Program} {w : World} {H : Hp} (h : Heap) (hb : sysModules < h.objs.size) : ObjOk P w H (h.push { cls := .type "dict", data := .dict #[] }) h.objs.size (.dT []) :=
  ⟨Nat.zero_le _, beq_eq_false_iff_ne.mpr (Ne.symm (Nat.ne_of_lt hb)), [], .nil, _, #[], 0, Heap.get?_push_size _ rfl, ⟨rfl, rfl, rfl⟩, rfl, rfl, List.nodup_nil⟩
noncomputable def tDNewT : TE := fun _ H Q => ∀ p, H p = none → Q (.ref p) (upd H p (.dT []))
section
variable {X : Cx} {pos : Pos}
theorem pe_dnewT : PE X (.Dict [] [] pos) tDNewT := fun pins s σ H Q I h =>
  wpAny_Dict_empty ⟨.ref s.heap.objs.size, _, I.laid (a := s.heap.objs.size) (o := .dT []) (t' := s.toks) (fun _ _ q => Heap.get?_push_of_some _ q) (Nat.le_refl _) (dt_empty s.heap I.big), rfl, h _ (I.hok.fresh (Nat.le_refl _))⟩
end
end L2
set_option Elab.async false
set_option linter.all false
set_option maxRecDepth 100000
set_option maxHeartbeats 4000000
namespace Kw
open PySem PySem.Spec PyProof.Rows L2
section
variable {prog : Program} {w : World} {K : Type} [DecidableEq K] {knd : HeapKind prog w K} {A : Around} {E : Value → Shared → Prop} {s : Shared}
theorem setdef_heap {d a : Addr} {xs : List (K × Addr × Value)} {k : K} {v : Value} {Q : Value → Shared → Prop} (hu : knd.room A) (hkey : knd.is s.heap k a) (hm : s.heap.DictOfH knd d xs) (hsz : xs.length ≤ sizeLine)
    (h1 : ∀ p, atKey xs k = some p → Q p.2 { s with toks := s.toks + knd.draws k })
    (h2 : atKey xs k = none → ∀ h', h'.DictOfH knd d (xs ++ [(k, a, v)]) → Heap.SameBut d s.heap h' → Q v { s with heap := h', toks := s.toks + knd.draws k }) :
    wpAny (model prog w) A (dictSetDefault d (.ref a) v) Q E s := by
  obtain ⟨o, es, ep, ho, hc, hd, he, his, hn⟩ := hm
  unfold dictSetDefault
  try with_reducible refine wpAny_holding ?_
  refine wpAny_bind (knd.pyHash hu hkey ?_)
  refine wpAny_bind (wpAny_dictFind_heap (s := { s with toks := s.toks + knd.draws k }) hu hkey ho hd he his hn ?_ ?_)
  · intro hno
    have hnone := atKey_none_of_get hno
    have hnot : k ∉ xs.map (·.1) := not_mem_keys_of_get hno
    refine wpAny_bind (wpAny_rule (wpAny_bind (wpAny_updateDictKeys (hz := by have e := size_of_entries he; omega) (s := { s with toks := s.toks + knd.draws k }) ho hd (wpAny_pure (h2 hnone _ ⟨_, _, ep + 1, Heap.get?_update_self _ ho (Obj.isFreed_of_dict (Obj.data_mapDictKeys hd _)),
      hc.mapDictKeys _, Obj.data_mapDictKeys hd _, ?_, ?_, ?_⟩ (Heap.SameBut.update ..))))))
    · simp [he, entryOfKey]
    · intro x hx
      rcases List.mem_append.mp hx with hx | hx
      · exact knd.keeps (his x hx) ho hd (Heap.SameBut.update ..)
      · simp only [List.mem_singleton] at hx
        subst hx
        exact knd.keeps hkey ho hd (Heap.SameBut.update ..)
    · rw [List.map_append, List.nodup_append]
      refine ⟨hn, by simp, ?_⟩
      intro x hx y hy
      simp only [List.map_cons, List.map_nil, List.mem_singleton] at hy
      subst hy
      exact fun e => hnot (e ▸ hx)
  · intro j p hj
    refine wpAny_bind (wpAny_dictEntries (s := { s with toks := s.toks + knd.draws k }) ho hd ?_)
    rw [entry_at he j, hj]
    exact wpAny_bind (wpAny_rule (wpAny_pure (h1 p (atKey_of_get hn hj))))
theorem meetsH_setdef (d a : Addr) (hd : (d == sysModules) = false) (dflt : Value) :
    MeetsIn prog w (Builtin.«dict.setdefault» ⟨[.ref d, .ref a, dflt], []⟩) (fun A R s => knd.room A.in1 ∧ ∃ k xs, knd.is s.heap k a ∧ s.heap.DictOfH knd d xs ∧ xs.length ≤ sizeLine ∧
      (∀ p, atKey xs k = some p → R (.ok (.ret p.2)) { s with toks := s.toks + knd.draws k }) ∧
      (atKey xs k = none → ∀ h', h'.DictOfH knd d (xs ++ [(k, a, dflt)]) → Heap.SameBut d s.heap h' → R (.ok (.ret dflt)) { s with heap := h', toks := s.toks + knd.draws k })) :=
  .of_wp fun A R s ⟨hu, k, xs, hkey, hm, hz, h1, h2⟩ => by
    unfold Builtin.«dict.setdefault»
    refine wpAny_bind ?_
    unfold Builtin.Dict.keyAndDefault
    refine wpAny_bind (wpAny_notOrdered_dict hm.typeIs ?_)
    show wpAny _ _ (pure (d, Value.ref a, some dflt)) _ _ s
    refine wpAny_pure ?_
    show wpAny _ _ (if (d == sysModules) = true then _ else (dictSetDefault d (.ref a) dflt >>= _)) _ _ s
    rw [if_neg (by rw [hd]; exact Bool.false_ne_true)]
    exact wpAny_bind (setdef_heap hu hkey hm hz (fun p hp => wpAny_pure ⟨p.2, rfl, h1 p hp⟩) fun hn h' hm' hs' => wpAny_pure ⟨dflt, rfl, h2 hn h' hm' hs'⟩)
theorem iter_raw {d : Addr} {od : Obj} {es : Array DictEntry} {ep : Nat} {Q : Value → Shared → Prop} (hd : (d == sysModules) = false) (ho : s.heap.get? d = some od) (hc : od.ExactDict) (hdat : od.data = .dict es ep)
    (hQ : Q (.ref s.heap.objs.size) { s with heap := s.heap.push { cls := .type "dict_keyiterator", data := .fields #[.ref d, .int 0 0, .int es.size 0, .int ep 0] } }) :
    wpAny (model prog w) A (pyIter (.ref d)) Q E s := by
  have hT : s.TypeIs (.ref d) "dict" := ⟨od, ho, hc.1⟩
  refine wpAny_pyIter_slot hT F.slot_dict_iter (wpAny_call_entry F.slot_dict_iter hT F.entry_dict_iter ?_ (F.args_dict_iter_1 _))
  unfold Builtin.«dict.__iter__»
  refine wpAny_bind ?_
  unfold Builtin.Dict.dictSlotNone
  refine wpAny_bind (wpAny_notOrdered_dict hT ?_)
  show wpAny _ _ (pure (Value.ref d)) _ _ s
  refine wpAny_pure ?_
  show wpAny _ _ (Builtin.Dict.showsAll d >>= _) _ _ s
  unfold Builtin.Dict.showsAll
  rw [if_neg (by rw [hd]; exact Bool.false_ne_true)]
  refine wpAny_bind (wpAny_pure ?_)
  refine wpAny_bind (wpAny_dictEntries ho hdat ?_)
  refine wpAny_bind (wpAny_dictEpoch ho hdat ?_)
  refine wpAny_bind (wpAny_newObj_type (wpAny_pure ⟨_, rfl, "dict_keyiterator", _, ⟨_, Heap.get?_push_size _ rfl, rfl⟩, F.slot_dict_keyiterator_next.lookup, ?_⟩))
  simpa [rawInt] using hQ
theorem next_raw {it d : Addr} {i ep : Nat} {od : Obj} {es : Array DictEntry} {Q : Option Value → Shared → Prop} (hit : s.heap.IsKeyIter it d i es.size ep) (hod : s.heap.get? d = some od) (hdd : od.data = .dict es ep) (hlt : i < es.size)
    (hQ : ∀ h', h'.IsKeyIter it d (i + 1) es.size ep → Heap.SameBut it s.heap h' → Q (some es[i].key) { s with heap := h' }) :
    wpAny (model prog w) A (pyNext (.ref it)) Q E s := by
  obtain ⟨o, ho, hc, hd⟩ := id hit
  unfold pyNext
  refine wpAny_bind (wpAny_attempt (wpAny_callSpecial?_slot (name := Str.ofString "__next__") hit.typeIs F.slot_dict_keyiterator_next
    (wpAny_call_entry F.slot_dict_keyiterator_next hit.typeIs F.entry_dict_keyiterator_next ?_ (F.args_dict_keyiterator_next_1 _))))
  refine wpAny_bind (wpAny_pure ?_)
  refine wpAny_bind ?_
  refine wpAny_bind ?_
  first | refine wpAny_bind (wpAny_typeNameOfWhole_keyiter hit.typeIs (wpAny_pure ?_)) | refine wpAny_bind (wpAny_typeNameOf_keyiter hit.typeIs (wpAny_pure ?_))
  refine wpAny_bind (wpAny_fieldsOf ho hd ?_)
  have hown : Builtin.Dict_items.ownsTuple "dict_keyiterator" = false := by decide
  simp only [hown, Bool.false_eq_true, if_false]
  show wpAny _ _ (if (Value.ref d == Value.none) = true then _ else _) _ _ s
  rw [if_neg (show ¬ ((Value.ref d == Value.none) = true) from Bool.false_ne_true)]
  refine wpAny_bind (wpAny_pure ?_)
  refine wpAny_bind (wpAny_dictEntries hod hdd ?_)
  rw [if_neg (by simp)]
  refine wpAny_bind (wpAny_pure ?_)
  refine wpAny_bind (wpAny_dictEpoch hod hdd ?_)
  rw [if_neg (by simp)]
  refine wpAny_pure ?_
  simp only [show ¬ ((i : Int) < 0) from by omega, if_false, Int.toNat_natCast, Array.getElem?_eq_getElem hlt]
  refine wpAny_bind ?_
  first | refine wpAny_bind (wpAny_typeNameOfWhole_keyiter hit.typeIs (wpAny_pure ?_)) | refine wpAny_bind (wpAny_typeNameOf_keyiter hit.typeIs (wpAny_pure ?_))
  refine wpAny_bind (wpAny_isOneOf_keyiter hit.typeIs ?_)
  show wpAny _ _ (setField (.ref it) 1 (rawInt ((i : Int) + 1)) >>= _) _ _ s
  refine wpAny_bind (wpAny_setField ho hd (by simp) ?_)
  have hit' : (s.heap.update it (Obj.mapFields (·.setIfInBounds 1 (rawInt ((i : Int) + 1))))).IsKeyIter it d (i + 1) es.size ep :=
    ⟨_, Heap.get?_update_self _ ho (Obj.isFreed_of_fields (Obj.data_mapFields hd _)), (Obj.cls_mapFields ..).trans hc, by rw [Obj.data_mapFields hd]; simp [rawInt]⟩
  refine wpAny_bind (wpAny_holding ?_)
  refine wpAny_bind (wpAny_isOneOf_keyiter (s := { s with heap := s.heap.update it (Obj.mapFields (·.setIfInBounds 1 (rawInt ((i : Int) + 1)))) }) hit'.typeIs ?_)
  show wpAny _ _ (pure es[i].key) _ _ _
  exact wpAny_pure (wpAny_pure ⟨_, rfl, wpAny_pure (hQ _ hit' (Heap.SameBut.update ..))⟩)
theorem end_raw {it d : Addr} {i ep : Nat} {od : Obj} {es : Array DictEntry} {Q : Option Value → Shared → Prop} (hh : A.handled = none) (hit : s.heap.IsKeyIter it d i es.size ep) (hod : s.heap.get? d = some od) (hdd : od.data = .dict es ep) (hge : es.size ≤ i)
    (hQ : ∀ h', Heap.ExtBut it s.heap h' → Q none { s with heap := h' }) : wpAny (model prog w) A (pyNext (.ref it)) Q E s := by
  obtain ⟨o, ho, hc, hd⟩ := id hit
  unfold pyNext
  refine wpAny_bind (wpAny_attempt (wpAny_callSpecial?_slot (name := Str.ofString "__next__") hit.typeIs F.slot_dict_keyiterator_next
    (wpAny_call_entry F.slot_dict_keyiterator_next hit.typeIs F.entry_dict_keyiterator_next ?_ (F.args_dict_keyiterator_next_1 _))))
  refine wpAny_bind (wpAny_pure ?_)
  refine wpAny_bind ?_
  refine wpAny_bind ?_
  first | refine wpAny_bind (wpAny_typeNameOfWhole_keyiter hit.typeIs (wpAny_pure ?_)) | refine wpAny_bind (wpAny_typeNameOf_keyiter hit.typeIs (wpAny_pure ?_))
  refine wpAny_bind (wpAny_fieldsOf ho hd ?_)
  have hown : Builtin.Dict_items.ownsTuple "dict_keyiterator" = false := by decide
  simp only [hown, Bool.false_eq_true, if_false]
  show wpAny _ _ (if (Value.ref d == Value.none) = true then _ else _) _ _ s
  rw [if_neg (show ¬ ((Value.ref d == Value.none) = true) from Bool.false_ne_true)]
  refine wpAny_bind (wpAny_pure ?_)
  refine wpAny_bind (wpAny_dictEntries hod hdd ?_)
  rw [if_neg (by simp)]
  refine wpAny_bind (wpAny_pure ?_)
  refine wpAny_bind (wpAny_dictEpoch hod hdd ?_)
  rw [if_neg (by simp)]
  refine wpAny_pure ?_
  simp only [show ¬ ((i : Int) < 0) from by omega, if_false, Int.toNat_natCast, Array.getElem?_eq_none hge]
  refine wpAny_bind ?_
  first | refine wpAny_bind (wpAny_typeNameOfWhole_keyiter hit.typeIs (wpAny_pure ?_)) | refine wpAny_bind (wpAny_typeNameOf_keyiter hit.typeIs (wpAny_pure ?_))
  show wpAny _ _ (setField (.ref it) 0 .none >>= _) _ _ s
  refine wpAny_bind (wpAny_setField ho hd (by simp) ?_)
  show wpAny _ _ (newExc (.type "StopIteration") [] >>= _) _ _ _
  refine wpAny_bind ?_
  simp only [newExc, newTuple]
  refine wpAny_bind (wpAny_newObj_type ?_ (by size_fits))
  refine wpAny_bind (m := firstArgMember _ _) (wpAny_of_eq (a := Value.none) (by first | rfl | (simp only [firstArgMember]; rfl)) ?_)
  refine wpAny_newObj_type ?_ (by size_fits)
  simp only [raiseNew]
  refine wpAny_bind (wpAny_handled ?_)
  rw [show A.in1.handled = none from hh]
  refine wpAny_bind (wpAny_pure (wpAny_throw ?_))
  refine wpAny_bind (wpAny_isInstance (T := "StopIteration") (b := true) ⟨_, Heap.get?_push_size _ rfl, rfl⟩ isSubtype_stop ?_)
  exact wpAny_pure (hQ _ (((Heap.SameBut.update ..).extBut.push _).push _))
end
theorem u1_of {n : Nat} (h : n + 100 < cLine) : n + 1 < cLine := by omega
noncomputable def rSetD : V → List V → Hp → VK → Prop := fun x vs H Q => ∃ (a : Addr) (kvs : List (List Key × V)) (k : List Key) (b : Addr) (r : V), x = .ref a ∧ vs = [.ref b, r] ∧ H a = some (.dT kvs) ∧ H b = some (.tup (k.map kV)) ∧ kvs.length < sizeLine ∧ (∀ v, valV kvs k = some v → Q v H) ∧ (valV kvs k = none → Q r (upd H a (.dT (kvs ++ [(k, r)]))))
theorem mt_setdef {X : Cx} (hu : X.A.units + 1 < cLine) : MtR X "dict.setdefault" rSetD := by
  intro pins s σ H x vs v us Q I rx rv h
  obtain ⟨a, kvs, k, b, r, rfl, rfl, hH, hb, hz, q1, q2⟩ := h
  cases rx
  obtain ⟨u1, u2, rfl, r1, r2⟩ := rv.two
  cases r1
  obtain ⟨z, hd, xs, rel, dd⟩ := dt_of I.hok hH
  have hl := Paired.length rel
  refine call_meetsIn PySem.F.slot_dict_setdefault dd.typeIs PySem.F.entry_dict_setdefault (PySem.F.args_dict_setdefault_3 _ _ _) (meetsH_setdef (knd := tupleKind (mixKind X.prog X.w)) a b hd u2)
    ⟨tupleKind_room_in1 hu, k, xs, key_of I.hok hb, dd, by omega, fun p hp => ?_, fun hn h' dd' hs => ?_⟩
  · have rk := rel.val k
    rw [hp] at rk
    cases hv : valV kvs k with
    | none => rw [hv] at rk; exact (show False from rk).elim
    | some v => rw [hv] at rk; exact ⟨v, H, I.tok _, rk, q1 v hv⟩
  · have rk := rel.val k
    rw [hn] at rk
    have hv : valV kvs k = none := by
      cases hv : valV kvs k with
      | none => rfl
      | some v => rw [hv] at rk; exact (show False from rk).elim
    obtain ⟨q, es, ep, hq, h2, h3, h4, _, h5⟩ := dd'
    refine ⟨r, _, d_write (ob := .dT (kvs ++ [(k, r)])) I (by rw [hH]; exact True.intro) hs ⟨q, hq⟩ ⟨by rw [List.length_append, List.length_singleton]; omega, hd, _, (KT.keeps (Paired.snoc rel ⟨rfl, hb, r2⟩) fun c ys ec => ?_), q, es, ep, hq, h2, h3, h4, h5⟩, r2, q2 hv⟩
    rw [upd_ne (ne_of ec hH (fun z => nomatch z))]
    exact ec
noncomputable def Itd (a : Addr) (o : Obj) (kvs : List (List Key × V)) : It :=
  ⟨fun i H => H a = some (.frz o (.dT kvs)) ∧ i < kvs.length, fun i H x H' => H' = H ∧ ∃ (b : Addr) (kv : List Key × V), kvs[i]? = some kv ∧ x = .ref b ∧ H b = some (.tup (kv.1.map kV)), fun i H => H a = some (.frz o (.dT kvs)) ∧ kvs.length ≤ i⟩
theorem kt_get {H : Hp} : ∀ {kvs : List (List Key × V)} {xs : List (List Key × Addr × Value)}, KT H kvs xs → ∀ {i : Nat} {kv : List Key × V}, kvs[i]? = some kv → ∃ x, xs[i]? = some x ∧ H x.2.1 = some (.tup (kv.1.map kV)) := by
  intro kvs xs r
  induction r with
  | nil => intro i kv h; simp at h
  | @cons p q ps qs h t ih =>
    intro i kv hk
    cases i with
    | zero =>
      simp only [List.getElem?_cons_zero, Option.some.injEq] at hk
      subst hk
      exact ⟨q, rfl, h.2.1⟩
    | succ j =>
      simp only [List.getElem?_cons_succ] at hk
      exact ih hk
theorem turn_dict {P : Program} {w : World} {K : PySem.W.Frag} {tg : Expr} (a it : Addr) (o : Obj) (es : Array DictEntry) (ep : Nat) (kvs : List (List Key × V)) (hd : o.data = .dict es ep) (hl : es.size = kvs.length) : Turn P w K tg (Itd a o kvs) [it] it (fun i h => h.IsKeyIter it a i es.size ep) where
  mem := by simp
  obj := fun i h st b hb => by
    have e : b = it := by simpa using hb
    subst e
    obtain ⟨o, e, c, d⟩ := st
    exact ⟨o, e, fun v z => by rw [d] at z; cases z⟩
  keep := fun i h h' st k => st.at fun o e => k it (by simp) o e
  item := by
    intro X hP hw hK hc i pins s σ H E I hf st hg
    subst hP hw hK
    obtain ⟨hq, hi⟩ := hg
    obtain ⟨ho, _, _, xs, rel, o', es', ep', ho', _, hd', he', _⟩ := (show s.heap.get? a = some o ∧ ObjOk X.prog X.w H s.heap a (.dT kvs) from I.hok a _ hq)
    rw [ho] at ho'
    cases ho'
    rw [hd] at hd'
    cases hd'
    obtain ⟨f0, f1, f2, f3, f4, f5⟩ := hf it (by simp)
    have hlt : i < es.size := by omega
    refine next_raw st ho hd hlt fun h' st' sb => ?_
    have I1 : Inv X pins σ H { s with heap := h' } := I.turned (t' := s.toks) (fun b o hb e => (sb.2 b hb).trans e) f0 f1 f3 f4 f5
    obtain ⟨ob, e, c, d⟩ := id st'
    obtain ⟨x, hx, hb⟩ := kt_get rel (List.getElem?_eq_getElem hi)
    have ek : es[i].key = .ref x.2.1 := by
      have z := entry_at (knd := tupleKind (mixKind X.prog X.w)) he' i
      rw [hx, Array.getElem?_eq_getElem hlt] at z
      have z' := Option.some.inj z
      rw [z']
      rfl
    rw [ek]
    exact ⟨_, rfl, go_of (s := { s with heap := h' }) e c d (by decide) ⟨.ref x.2.1, H, I1, rfl, ⟨rfl, _, _, List.getElem?_eq_getElem hi, rfl, hb⟩, st', fun b hb => (hf b hb).1⟩⟩
  done := by
    intro X hP hw hK hc i pins s σ H E I hf st hg
    subst hP hw hK
    obtain ⟨hq, hi⟩ := hg
    obtain ⟨ho, _⟩ := (show s.heap.get? a = some o ∧ ObjOk X.prog X.w H s.heap a (.dT kvs) from I.hok a _ hq)
    obtain ⟨f0, f1, f2, f3, f4, f5⟩ := hf it (by simp)
    exact end_raw (I.ok.hd hc) st ho hd (by omega) fun h' eb => ⟨rfl, I.turned (t' := s.toks) (fun b o hb e => eb b o hb e) f0 f1 f3 f4 f5⟩
  self := fun _ _ _ _ _ st h => wpAny_pyIter_keyiter st h
noncomputable def iDict (tl : TE) : TI := fun σ H R => tl σ H fun x H1 => ∃ (a : Addr) (kvs : List (List Key × V)), x = .ref a ∧ H1 a = some (.dT kvs) ∧ ∀ o, R (Itd a o kvs) (upd H1 a (.frz o (.dT kvs)))
theorem pi_dict {X : Cx} {tg : Expr} {l : Expr} {tl : TE} (hl : PE X l tl) : PI X tg l (iDict tl) := by
  intro pins s σ H R I h
  refine thn (hl pins s σ H _ I h) fun v s1 zz => ?_
  obtain ⟨x, H1, I1, r1, q1⟩ := zz
  obtain ⟨a, kvs, rfl, hq, q⟩ := q1
  cases r1
  obtain ⟨hz, hm, xs, rel, o, es, ep, ho, hc, hd, he, hn⟩ := (show ObjOk X.prog X.w H1 s1.heap a (.dT kvs) from I1.hok a _ hq)
  have len : es.size = kvs.length := by rw [size_of_entries he, Paired.length rel]
  have kp : ∀ c ys, H1 c = some (HO.tup ys) → upd H1 a (.frz o (.dT kvs)) c = some (.tup ys) := fun c ys ec => by
    rw [upd_ne (ne_of ec hq (fun z => nomatch z))]
    exact ec
  have I2 : Inv X pins σ (upd H1 a (.frz o (.dT kvs))) { s1 with heap := s1.heap, toks := s1.toks } := d_write I1 (by rw [hq]; exact True.intro) ⟨rfl, fun _ _ => rfl⟩ ⟨o, ho⟩ ⟨ho, hz, hm, xs, KT.keeps rel kp, o, es, ep, ho, hc, hd, he, hn⟩
  refine iter_raw hm ho hc hd ?_
  refine ⟨s1.heap.objs.size, [s1.heap.objs.size], _, _, _, rfl, I2.kept (t' := s1.toks) fun b o e => Heap.get?_push_of_some _ e, turn_dict a _ o es ep kvs hd len, ⟨_, Heap.get?_push_size _ rfl, rfl, rfl⟩, fun b hb => ?_, q o⟩
  have e : b = s1.heap.objs.size := by simpa using hb
  subst e
  exact I2.fpOk (Nat.le_refl _) (I2.hok.fresh (Nat.le_refl _))
theorem for_dict {a : Addr} {o : Obj} {kvs : List (List Key × V)} {g : TG} {tb : TS} {D : Ends} {σ : L2.St} {H : Hp} (Pv : Nat → L2.St → Hp → Prop) (h0 : Pv 0 σ H) (hl : ∀ i σ H, i ≤ kvs.length → Pv i σ H → H a = some (.frz o (.dT kvs)))
    (hs : ∀ i kv b σ H, kvs[i]? = some kv → H b = some (.tup (kv.1.map kV)) → Pv i σ H → g (.ref b) σ H fun σ2 H2 => tb { D with nx := Pv (i + 1), ct := Pv (i + 1), bk := D.nx } σ2 H2) (hd : ∀ σ H, Pv kvs.length σ H → D.nx σ H) :
    ∃ W : Nat → Nat → L2.St → Hp → Prop, (∃ m, W 0 m σ H) ∧ ∀ i m σ H, W i m σ H →
      ((Itd a o kvs).stop i H ∧ D.nx σ H) ∨ ((Itd a o kvs).go i H ∧ ∃ N : L2.St → Hp → Prop, (∀ σ' H', N σ' H' → ∃ m', m' < m ∧ W (i + 1) m' σ' H') ∧ ∀ x H', (Itd a o kvs).yld i H x H' → g x σ H' fun σ2 H2 => tb { D with nx := N, ct := N, bk := D.nx } σ2 H2) := by
  refine ⟨fun i m σ H => m = kvs.length - i ∧ i ≤ kvs.length ∧ Pv i σ H, ⟨kvs.length, by simp, Nat.zero_le _, h0⟩, ?_⟩
  rintro i m σ H ⟨rfl, hi, p⟩
  have q := hl i σ H hi p
  by_cases hlt : i < kvs.length
  · refine .inr ⟨⟨q, hlt⟩, Pv (i + 1), fun σ' H' p' => ⟨kvs.length - (i + 1), by omega, rfl, hlt, p'⟩, fun x H' y => ?_⟩
    obtain ⟨e, b, kv, hk, ex, hb⟩ := y
    subst e ex
    exact hs i kv b σ _ hk hb p
  · have e : i = kvs.length := by omega
    subst e
    exact .inl ⟨⟨q, Nat.le_refl _⟩, hd σ H p⟩
noncomputable def frd (q : Rat) : PyData := .tuple [.int q.num, .int ((q.den : Nat) : Int)]
theorem frs_dp {K : PySem.W.Frag} {H : Hp} {n : Nat} : ∀ {xs : List V} {qs : List Rat}, Al2 (FrQ K H n) xs qs → Dps K H xs (qs.map frd)
  | [], [], _ => .nil
  | _ :: _, _ :: _, z => by
    obtain ⟨⟨p, rfl, g, _⟩, r⟩ := z
    exact .cons g.dp (frs_dp r)
  | [], _ :: _, z => z.elim
  | _ :: _, [], z => z.elim
theorem frs_lay : ∀ qs : List Rat, PyData.canLayAll0 (qs.map frd) = true
  | [] => rfl
  | q :: qs => by
    show (PyData.canLay0 (frd q) && PyData.canLayAll0 (qs.map frd)) = true
    rw [frs_lay qs]
    rfl
theorem eqv_2 (a b c d : Int) : PyData.eqv (.tuple [.int a, .int b]) (.tuple [.int c, .int d]) = (decide (a = c) && decide (b = d)) := by
  show ((a == c) && ((b == d) && true)) = _
  rw [Bool.and_true]
  congr 1
theorem frs_any (q : Rat) : ∀ qs : List Rat, ((qs.map frd).any fun z => PyData.eqv z (frd q)) = decide (q ∈ qs)
  | [] => rfl
  | r :: qs => by
    rw [List.map_cons, List.any_cons, frs_any q qs]
    have e : PyData.eqv (frd r) (frd q) = decide (q = r) := by
      have z := eqv_2 r.num ((r.den : Nat) : Int) q.num ((q.den : Nat) : Int)
      refine z.trans ?_
      rw [← Bool.decide_and]
      refine decide_eq_decide.mpr ⟨fun h => (Rat.ext h.1 (by omega)).symm, fun h => by rw [h]; exact ⟨rfl, rfl⟩⟩
    rw [e]
    simp [List.mem_cons]
noncomputable def rInL (K : PySem.W.Frag) : V → V → Hp → VK → Prop := fun x y H Q => ∃ (p : Addr) (q : Rat) (l : Addr) (xs : List V) (qs : List Rat) (n : Nat), x = .ref p ∧ y = .ref l ∧ FQ K H p q ∧ H l = some (.lst xs) ∧ Al2 (FrQ K H n) xs qs ∧ Q (.bl (decide (q ∈ qs))) H
theorem op_inL {X : Cx} {K : PySem.W.Frag} (hK : X.K = K) (hu : X.A.units + 100 < cLine) : OpR X (compareOp .In) (rInL K) := by
  subst hK
  intro pins s σ H x y v u Q I rx ry h
  obtain ⟨p, q, l, xs, qs, n, rfl, rfl, g, hl, al, k⟩ := h
  obtain ⟨as, ra⟩ := (FQ.dp g).reads I rx
  obtain ⟨bs, rb⟩ := (Dp.lst (SqL.of hl) (frs_dp al)).reads I ry
  refine SeqAt.in_list_reads rb ra (frs_lay qs) rfl ?_ ⟨.bl _, H, I, rfl, ?_⟩
  · have : PyData.depth (.tuple [.int q.num, .int ((q.den : Nat) : Int)]) = 1 := rfl
    omega
  · have e := frs_any q qs
    have e2 : ((qs.map frd).any fun y => y.eqv (PyData.tuple [PyData.int q.num, PyData.int ((q.den : Nat) : Int)])) = decide (q ∈ qs) := e
    rw [e2]
    exact k
theorem op_neQ {X : Cx} {K : PySem.W.Frag} (hK : X.K = K) (hu : X.A.units + 100 < cLine) : OpR X (compareOp .NotEq) (fun a b H Q => ∃ (p q : Addr) (x y : Rat), a = .ref p ∧ b = .ref q ∧ FQ K H p x ∧ FQ K H q y ∧ Q (.bl (!decide (x = y))) H) := by
  intro pins s σ H a b v u Q I rx ry h
  obtain ⟨p, q, x, y, rfl, rfl, hx, hy, k⟩ := h
  refine op_neD hK hu pins s σ H _ _ v u Q I rx ry ⟨_, _, FQ.dp hx, FQ.dp hy, rfl, rfl, Nat.le_trans (Nat.min_le_left _ _) (show (1 : Nat) ≤ 60 by decide), ?_⟩
  rw [eqv_2, ← Bool.decide_and]
  have e : (x.num = y.num ∧ ((x.den : Nat) : Int) = ((y.den : Nat) : Int)) ↔ x = y := ⟨fun h => Rat.ext h.1 (by omega), fun h => by rw [h]; exact ⟨rfl, rfl⟩⟩
  rw [decide_eq_decide.mpr e]
  exact k
end Kw
set_option Elab.async false
set_option linter.all false
set_option maxRecDepth 100000
set_option maxHeartbeats 4000000
namespace Kw
open PySem PySem.Spec PyProof.Rows L2
theorem half_fb {B C : Int} {x y : Rat} (h : Six B x) (g : Six C y) (l : B ≤ 1000000000) (l' : C ≤ 1000000000) : FB 64 (x - y * Rat.divInt 1 2) := by
  obtain ⟨n, rfl, a, b⟩ := h
  obtain ⟨m, rfl, c, d⟩ := g
  have e : (n : Rat) / 6 - (m : Rat) / 6 * Rat.divInt 1 2 = Rat.divInt (2 * n - m) 12 := by
    rw [q_dv, q_dv, Rat.intCast_sub, Rat.intCast_mul]
    show (n : Rat) / 6 - (m : Rat) / 6 * (1 / 2) = (2 * n - m) / 12
    grind
  rw [e]
  exact FB.fit (by decide) (Bd.small (by omega) (by omega)) (Bd.small (by decide) (by decide))
theorem abs_num (v : Rat) : (absQ v).num = (if v.num < 0 then -v.num else v.num) ∧ (absQ v).den = v.den := by
  have e : v.num < 0 ↔ v < 0 := q_numneg
  unfold absQ
  by_cases c : v < 0
  · rw [if_pos (e.mpr c), if_pos c]
    exact ⟨rfl, rfl⟩
  · rw [if_neg (fun z => c (e.mp z)), if_neg c]
    exact ⟨rfl, rfl⟩
theorem abs_pos {v : Rat} (h : v ≠ 0) : 0 < absQ v := by
  unfold absQ
  split <;> grind
theorem gcd_lcm {a b : Int} (ha : 0 < a) (hb : 0 < b) : a.fdiv ((Int.gcd a b : Nat) : Int) * b = ((Nat.lcm a.natAbs b.natAbs : Nat) : Int) ∧ (a * b).fdiv ((Int.gcd a b : Nat) : Int) = ((Nat.lcm a.natAbs b.natAbs : Nat) : Int) := by
  obtain ⟨x, rfl⟩ : ∃ x : Nat, a = (x : Int) := ⟨a.toNat, by omega⟩
  obtain ⟨y, rfl⟩ : ∃ y : Nat, b = (y : Int) := ⟨b.toNat, by omega⟩
  have g0 : 0 < Nat.gcd x y := Nat.gcd_pos_of_pos_left _ (by omega)
  have e : Int.gcd (x : Int) (y : Int) = Nat.gcd x y := rfl
  rw [e, Int.natAbs_natCast, Int.natAbs_natCast]
  have h1 : Nat.lcm x y = x / Nat.gcd x y * y := by
    rw [Nat.lcm, Nat.mul_comm, Nat.mul_div_assoc _ (Nat.gcd_dvd_left x y), Nat.mul_comm]
  have h2 : Nat.lcm x y = x * y / Nat.gcd x y := rfl
  constructor
  · rw [Int.fdiv_eq_ediv_of_nonneg _ (by omega), h1]
    push_cast
    rfl
  · rw [Int.fdiv_eq_ediv_of_nonneg _ (by omega), h2]
    push_cast
    rfl
theorem lcm_is {a b : Rat} (ha : 0 < a) (hb : 0 < b) : Rat.divInt (a.num.fdiv ((Int.gcd a.num b.num : Nat) : Int) * b.num) ((Int.gcd ((a.den : Nat) : Int) ((b.den : Nat) : Int) : Nat) : Int) = lcmQ a b ∧ Rat.divInt ((a.num * b.num).fdiv ((Int.gcd a.num b.num : Nat) : Int)) ((Int.gcd ((a.den : Nat) : Int) ((b.den : Nat) : Int) : Nat) : Int) = lcmQ a b := by
  have z := gcd_lcm (q_numpos ha) (q_numpos hb)
  rw [z.1, z.2]
  exact ⟨rfl, rfl⟩
theorem lcm_fb {a b : Rat} {n m : Nat} (ha : 0 < a) (hb : 0 < b) (da : FB n a) (db : FB m b) : FB (n + m) (lcmQ a b) := by
  have a0 := q_numpos ha
  have b0 := q_numpos hb
  refine ⟨?_, ?_⟩
  · rw [lcm_parts.1]
    refine (da.1.mul db.1).of_le ?_
    rw [Int.natAbs_natCast, Int.natAbs_mul]
    exact Nat.le_of_dvd (Nat.mul_pos (by omega) (by omega)) (Nat.lcm_dvd_mul _ _)
  · rw [lcm_parts.2]
    refine (da.2.mono (Nat.le_add_right _ _)).of_le ?_
    rw [Int.natAbs_natCast, Int.natAbs_natCast]
    exact Nat.le_of_dvd a.den_pos (Nat.gcd_dvd_left _ _)
theorem lcm_self {a t : Rat} (ha : 0 < a) : MulQ (lcmQ a a) t ↔ MulQ a t := by
  rw [lcm_mul ha ha]
  exact ⟨fun h => h.1, fun h => ⟨h, h⟩⟩
theorem fit_mul {S : List Rat} {R c : Rat} (hR : 0 < R) (hS : ∀ s ∈ S, 0 ≤ s ∧ s < R) (hn : S ≠ []) (c0 : 0 < c) {q : Nat} (h : ∀ w, FitW S R w ↔ ∃ k : Int, w = k * (R / (q : Rat))) (t : Rat) : FitW S R (c * t) ↔ MulQ (R / (q : Rat) / c) t := by
  rw [h (c * t)]
  exact pace_mul c0
theorem nat_pos {q : Nat} (h : 1 ≤ q) : (0 : Rat) < (q : Rat) := rat_pos h
theorem qdiv_pos {R c : Rat} (hR : 0 < R) (hc : 0 < c) : 0 < R / c := by
  rw [Rat.div_def]
  exact Rat.mul_pos hR (Rat.inv_pos.mpr hc)
noncomputable def Goes (L : Rat) (bs l : List Bod) (t : Rat) : Prop := ∀ b ∈ l, b.2.1 ≠ 0 → FitW (spotsQ L bs (absQ b.2.1)) (L + L) (absQ b.2.1 * t)
theorem spots_ne {L : Rat} {bs : List Bod} {b : Bod} (h : b ∈ bs) : spotsQ L bs (absQ b.2.1) ≠ [] := by
  intro e
  have z : ringQ L b ∈ spotsQ L bs (absQ b.2.1) := mem_spots.mpr ⟨b, h, rfl, rfl⟩
  rw [e] at z
  exact nomatch z
theorem round_goes {L : Rat} (hL : 0 < L) {bs : List Bod} {W : Int} (hi : ∀ b ∈ bs, Inrm L b) (hw : ∀ b ∈ bs, b.2.2 = W) (nd : bs.Nodup) (t : Rat) : RoundQ L bs t ↔ Goes L bs bs t := by
  rw [round_iff hL hi hw nd t]
  constructor
  · intro h b hb hv
    exact h _ (abs_pos hv)
  · intro h c c0 s hs
    obtain ⟨b, hb, e, _⟩ := mem_spots.mp hs
    subst e
    have hv : b.2.1 ≠ 0 := fun z => by rw [z] at c0; exact absurd c0 (by decide)
    exact h b hb hv s hs
theorem goes_T {L : Rat} (hL : 0 < L) {bs : List Bod} (hi : ∀ b ∈ bs, Inrm L b) : ∀ l : List Bod, (∀ b ∈ l, b ∈ bs) → (∃ b ∈ l, b.2.1 ≠ 0) → ∃ T : Rat, 0 < T ∧ ∀ t, Goes L bs l t ↔ MulQ T t
  | [], _, h => by obtain ⟨b, hb, _⟩ := h; exact nomatch hb
  | b :: l, sub, h => by
    have LL : 0 < L + L := by grind
    have one : b.2.1 ≠ 0 → ∃ T : Rat, 0 < T ∧ ∀ t, FitW (spotsQ L bs (absQ b.2.1)) (L + L) (absQ b.2.1 * t) ↔ MulQ T t := fun hv => by
      have hb := sub b (List.mem_cons_self ..)
      obtain ⟨q, q1, _, hq, _⟩ := FitW.all LL (spots_in hL hi) (spots_ne (L := L) hb)
      exact ⟨_, qdiv_pos (qdiv_pos LL (nat_pos q1)) (abs_pos hv), fit_mul LL (spots_in hL hi) (spots_ne hb) (abs_pos hv) hq⟩
    have cons : ∀ t, Goes L bs (b :: l) t ↔ (b.2.1 ≠ 0 → FitW (spotsQ L bs (absQ b.2.1)) (L + L) (absQ b.2.1 * t)) ∧ Goes L bs l t := fun t => by
      constructor
      · intro g
        exact ⟨g b (List.mem_cons_self ..), fun c hc => g c (List.mem_cons_of_mem _ hc)⟩
      · rintro ⟨g1, g2⟩ c hc hv
        rcases List.mem_cons.mp hc with rfl | hc
        · exact g1 hv
        · exact g2 c hc hv
    by_cases hb : b.2.1 = 0
    · obtain ⟨T, T0, hT⟩ := goes_T hL hi l (fun c hc => sub c (List.mem_cons_of_mem _ hc)) (by
        obtain ⟨c, hc, hv⟩ := h
        rcases List.mem_cons.mp hc with rfl | hc
        · exact absurd hb hv
        · exact ⟨c, hc, hv⟩)
      refine ⟨T, T0, fun t => ?_⟩
      rw [cons t, hT t]
      exact ⟨fun z => z.2, fun z => ⟨fun y => absurd hb y, z⟩⟩
    · obtain ⟨T1, T10, h1⟩ := one hb
      by_cases hl : ∃ c ∈ l, c.2.1 ≠ 0
      · obtain ⟨T, T0, hT⟩ := goes_T hL hi l (fun c hc => sub c (List.mem_cons_of_mem _ hc)) hl
        refine ⟨lcmQ T1 T, lcm_pos T10 T0, fun t => ?_⟩
        rw [cons t, hT t, lcm_mul T10 T0, ← h1 t]
        exact ⟨fun z => ⟨z.1 hb, z.2⟩, fun z => ⟨fun _ => z.1, z.2⟩⟩
      · refine ⟨T1, T10, fun t => ?_⟩
        rw [cons t, ← h1 t]
        exact ⟨fun z => z.1 hb, fun z => ⟨fun _ => z, fun c hc hv => absurd ⟨c, hc, hv⟩ hl⟩⟩
noncomputable def Owns (L : Rat) (l : List Bod) (t : Rat) : Prop := ∀ b ∈ l, b.2.1 ≠ 0 → MulQ ((L + L) / absQ b.2.1) t
theorem owns_start {L : Rat} (hL : 0 < L) {bs : List Bod} (hi : ∀ b ∈ bs, Inrm L b) (l12 : bs.length ≤ 12) {T T0 : Rat} (hT : 0 < T) (h0 : 0 < T0) (g : ∀ t, Goes L bs bs t ↔ MulQ T t) (o : ∀ t, Owns L bs t ↔ MulQ T0 t) :
    ∃ n : Nat, 1 ≤ n ∧ T0 = (n : Rat) * T ∧ n ∣ facN 12 := by
  have LL : 0 < L + L := by grind
  refine down_start hT h0 ((g T0).mp fun b hb hv => ?_) ((o _).mp fun b hb hv => ?_)
  · obtain ⟨k, e⟩ := (o T0).mpr (mul_self T0) b hb hv
    have c0 := abs_pos hv
    have e2 : absQ b.2.1 * T0 = (k : Rat) * (L + L) := by
      rw [e, Rat.div_def]
      have := Rat.mul_inv_cancel (absQ b.2.1) (by grind)
      grind
    rw [e2]
    exact FitW.rounds LL (spots_in hL hi) k
  · have c0 := abs_pos hv
    have f := (g T).mpr (mul_self T) b hb hv
    obtain ⟨q, q1, ql, hq, _⟩ := FitW.all LL (spots_in hL hi) (spots_ne (L := L) hb)
    obtain ⟨k, e⟩ := (hq _).mp f
    have q12 : q ≤ 12 := by
      have z : (spotsQ L bs (absQ b.2.1)).length ≤ bs.length := by
        unfold spotsQ
        rw [List.length_map]
        exact List.length_filter_le _ _
      omega
    obtain ⟨c, hc⟩ := facN_dvd q1 q12
    refine ⟨k * (c : Int), ?_⟩
    have q0 := nat_pos q1
    have i1 := Rat.mul_inv_cancel (absQ b.2.1) (by grind)
    have i2 := Rat.mul_inv_cancel (q : Rat) (by grind)
    rw [Rat.div_def] at e
    rw [hc, Rat.div_def, Rat.intCast_mul]
    have cc : (((c : Nat) : Int) : Rat) = (c : Rat) := rfl
    have nq : ((q * c : Nat) : Rat) = (q : Rat) * (c : Rat) := by push_cast; rfl
    rw [cc, nq]
    grind
theorem asc_srt {bs : List Bod} (h : Asc bs) : SrtB bs := by
  refine List.Pairwise.imp ?_ h
  intro a b hab hba
  unfold Ahd at hba
  grind
theorem asc_nodup {bs : List Bod} (h : Asc bs) : bs.Nodup := by
  refine List.Pairwise.imp ?_ h
  intro a b hab e
  rw [e] at hab
  exact absurd hab (by grind)
theorem sort_round {L t : Rat} {bs : List Bod} {W : Int} (hw : ∀ b ∈ bs, b.2.2 = W) (h : Asc bs) (fw : ∀ b ∈ bs.map (foldQ L t), b.2.2 = W) : sortQ (bs.map (foldQ L t)) = bs ↔ RoundQ L bs t := by
  constructor
  · intro e
    have p := sortQ_perm (bs.map (foldQ L t))
    rw [e] at p
    exact p.symm
  · intro p
    exact sortQ_is fw (asc_srt h) p.symm
theorem fold_shift {L t x v : Rat} {m : Int} (hL : 0 < L) (k : Int) : foldQ L t (x - (k : Rat) * (L + L), v, m) = foldQ L t (x, v, m) := by
  have LL : 0 < L + L := by grind
  have e : spotQ (x - (k : Rat) * (L + L) + v * t) (L + L) = spotQ (x + v * t) (L + L) := by
    have z := spot_round (x := x + v * t) LL (-k)
    rw [← z]
    congr 1
    rw [Rat.intCast_neg]
    grind
  unfold foldQ
  dsimp only
  rw [e]
noncomputable def keyQ (c : Rat) : List Key := [.inl c.num, .inl ((c.den : Nat) : Int)]
noncomputable def kvQ (e : Rat × Addr) : List Key × V := (keyQ e.1, .ref e.2)
theorem keyQ_inj {c d : Rat} (h : keyQ c = keyQ d) : c = d := by
  unfold keyQ at h
  injection h with h1 h2
  injection h1 with h1
  injection h2 with h2 _
  injection h2 with h2
  exact Rat.ext h1 (by omega)
theorem val_some {c : Rat} {v : V} : ∀ {ds : List (Rat × Addr)}, valV (ds.map kvQ) (keyQ c) = some v → ∃ e ∈ ds, e.1 = c ∧ v = .ref e.2
  | [], h => nomatch h
  | e :: ds, h => by
    rw [List.map_cons] at h
    by_cases q : (kvQ e).1 = keyQ c
    · rw [valV_pos q] at h
      cases h
      exact ⟨e, List.mem_cons_self .., keyQ_inj q, rfl⟩
    · rw [valV_neg q] at h
      obtain ⟨e', h1, h2⟩ := val_some h
      exact ⟨e', List.mem_cons_of_mem _ h1, h2⟩
theorem val_none {c : Rat} : ∀ {ds : List (Rat × Addr)}, valV (ds.map kvQ) (keyQ c) = none → ∀ e ∈ ds, e.1 ≠ c
  | [], _ => fun e h => nomatch h
  | e :: ds, h => by
    rw [List.map_cons] at h
    by_cases q : (kvQ e).1 = keyQ c
    · rw [valV_pos q] at h
      cases h
    · rw [valV_neg q] at h
      intro e' he
      rcases List.mem_cons.mp he with rfl | he
      · intro z
        exact q (by rw [← z]; rfl)
      · exact val_none h e' he
theorem spots_snoc {L c : Rat} {bs : List Bod} {b : Bod} : spotsQ L (bs ++ [b]) c = spotsQ L bs c ++ (if absQ b.2.1 = c then [ringQ L b] else []) := by
  unfold spotsQ
  rw [List.filter_append, List.map_append]
  congr 1
  by_cases e : absQ b.2.1 = c
  · rw [if_pos e]
    simp [e]
  · rw [if_neg e]
    simp [e]
noncomputable def DI (K : PySem.W.Frag) (H0 H : Hp) (L : Rat) (bs : List Bod) (d : Addr) (ds : List (Rat × Addr)) : Prop :=
  H d = some (.dT (ds.map kvQ)) ∧ (∀ e ∈ ds, H0 e.2 = none ∧ e.2 ≠ d ∧ (∃ ys, H e.2 = some (.lst ys) ∧ Al2 (FrQ K H 200) ys (spotsQ L bs e.1)) ∧ ∃ b ∈ bs, b.2.1 ≠ 0 ∧ absQ b.2.1 = e.1) ∧
  (∀ b ∈ bs, b.2.1 ≠ 0 → ∃ e ∈ ds, e.1 = absQ b.2.1) ∧ (∀ e ∈ ds, ∀ e' ∈ ds, (e.1 = e'.1 → e = e') ∧ (e.2 = e'.2 → e = e')) ∧ ds.length ≤ bs.length
section
variable {K : PySem.W.Frag} {H0 H H' : Hp} {L : Rat} {bs : List Bod} {b : Bod} {d : Addr} {ds : List (Rat × Addr)}
theorem DI.same (h : DI K H0 H L bs d ds) (s : Same H H') : DI K H0 H' L bs d ds := by
  obtain ⟨h1, h2, h3, h4, h5⟩ := h
  refine ⟨s _ _ h1, fun e he => ?_, h3, h4, h5⟩
  obtain ⟨a, b, ⟨ys, c, al⟩, z⟩ := h2 e he
  exact ⟨a, b, ⟨ys, s _ _ c, frs_same al s⟩, z⟩
theorem DI.still (h : DI K H0 H L bs d ds) (hb : b.2.1 = 0) : DI K H0 H L (bs ++ [b]) d ds := by
  obtain ⟨h1, h2, h3, h4, h5⟩ := h
  refine ⟨h1, fun e he => ?_, fun b' hb' hv => ?_, h4, by rw [List.length_append]; omega⟩
  · obtain ⟨a, ne, ⟨ys, c, al⟩, b', hb', hv, e1⟩ := h2 e he
    refine ⟨a, ne, ⟨ys, c, ?_⟩, b', List.mem_append_left _ hb', hv, e1⟩
    have z : absQ b.2.1 ≠ e.1 := fun z => by
      rw [hb, abs_zero.mpr rfl, ← e1] at z
      exact hv (abs_zero.mp z.symm)
    rw [spots_snoc, if_neg z, List.append_nil]
    exact al
  · rcases List.mem_append.mp hb' with z | z
    · exact h3 b' z hv
    · rw [List.mem_singleton.mp z] at hv
      exact absurd hb hv
theorem DI.old {e : Rat × Addr} {ys : List V} {r : V} (h : DI K H0 H L bs d ds) (hv : b.2.1 ≠ 0) (he : e ∈ ds) (e1 : e.1 = absQ b.2.1) (hy : H e.2 = some (.lst ys)) (one : FrQ K H 200 r (ringQ L b)) (s : But e.2 H H') (hy' : H' e.2 = some (.lst (ys ++ [r]))) : DI K H0 H' L (bs ++ [b]) d ds := by
  obtain ⟨h1, h2, h3, h4, h5⟩ := h
  refine ⟨s _ _ (Ne.symm (h2 e he).2.1) h1, fun e' he' => ?_, fun b' hb' hv' => ?_, h4, by rw [List.length_append]; omega⟩
  · obtain ⟨a, ne, ⟨ys', c, al⟩, b', hb', hv', e1'⟩ := h2 e' he'
    refine ⟨a, ne, ?_, b', List.mem_append_left _ hb', hv', e1'⟩
    by_cases q : e' = e
    · subst q
      rw [hy] at c
      cases c
      refine ⟨_, hy', ?_⟩
      rw [spots_snoc, if_pos e1.symm]
      exact frs_but (Al2.snoc al one) s hy
    · have n2 : e'.2 ≠ e.2 := fun z => q ((h4 e' he' e he).2 z)
      have n1 : absQ b.2.1 ≠ e'.1 := fun z => q ((h4 e' he' e he).1 (z.symm.trans e1.symm))
      refine ⟨ys', s _ _ n2 c, ?_⟩
      rw [spots_snoc, if_neg n1, List.append_nil]
      exact frs_but al s hy
  · rcases List.mem_append.mp hb' with z | z
    · exact h3 b' z hv'
    · rw [List.mem_singleton.mp z]
      exact ⟨e, he, e1⟩
theorem tup_keep {p : Addr} {xs : List V} {c : Addr} {o : HO} (hc : H c = some o) (ho : ∀ ys, o ≠ .tup ys) (ho2 : ∀ ob ys, o ≠ .frz ob (.tup ys)) (s : But c H H') (h : SqT K H p xs) : SqT K H' p xs := by
  rcases h with (h | ⟨ob, h⟩) | h
  · exact .inl (.inl (s _ _ (ne_of h hc (by intro z; exact ho _ z.symm)) h))
  · exact .inl (.inr ⟨ob, s _ _ (ne_of h hc (by intro z; exact ho2 _ _ z.symm)) h⟩)
  · exact .inr h
theorem frs_dict {n : Nat} {xs : List V} {qs : List Rat} {c : Addr} {kvs : List (List Key × V)} (h : Al2 (FrQ K H n) xs qs) (s : But c H H') (hc : H c = some (.dT kvs)) : Al2 (FrQ K H' n) xs qs :=
  Al2.imp (fun _ _ z => by
    obtain ⟨p, e, g, dd⟩ := z
    exact ⟨p, e, tup_keep hc (fun _ z => nomatch z) (fun _ _ z => nomatch z) s g, dd⟩) h
theorem DI.new {l : Addr} {r : V} (h : DI K H0 H L bs d ds) (hv : b.2.1 ≠ 0) (no : ∀ e ∈ ds, e.1 ≠ absQ b.2.1) (l0 : H0 l = none) (ld : l ≠ d) (le : ∀ e ∈ ds, e.2 ≠ l) {H1 H2 : Hp} (s1 : But d H H1) (hd1 : H1 d = some (.dT (ds.map kvQ ++ [(keyQ (absQ b.2.1), .ref l)]))) (hl1 : H1 l = some (.lst []))
    (s2 : Same H1 H2) (one : FrQ K H2 200 r (ringQ L b)) (s3 : But l H2 H') (hl : H' l = some (.lst ([] ++ [r]))) : DI K H0 H' L (bs ++ [b]) d (ds ++ [(absQ b.2.1, l)]) := by
  obtain ⟨h1, h2, h3, h4, h5⟩ := h
  have hl2 := s2 _ _ hl1
  refine ⟨?_, fun e he => ?_, fun b' hb' hv' => ?_, fun e he e' he' => ?_, by rw [List.length_append, List.length_append, List.length_singleton, List.length_singleton]; omega⟩
  · rw [List.map_append]
    exact s3 _ _ (Ne.symm ld) (s2 _ _ hd1)
  · rcases List.mem_append.mp he with z | z
    · obtain ⟨a, ne, ⟨ys, c, al⟩, b', hb', hv', e1⟩ := h2 e z
      refine ⟨a, ne, ⟨ys, s3 _ _ (le e z) (s2 _ _ (s1 _ _ ne c)), ?_⟩, b', List.mem_append_left _ hb', hv', e1⟩
      rw [spots_snoc, if_neg (Ne.symm (no e z)), List.append_nil]
      exact frs_but (frs_same (frs_dict al s1 h1) s2) s3 hl2
    · rw [List.mem_singleton.mp z]
      have nil : spotsQ L bs (absQ b.2.1) = [] := by
        cases q : spotsQ L bs (absQ b.2.1) with
        | nil => rfl
        | cons x xs =>
          exfalso
          have hx : x ∈ spotsQ L bs (absQ b.2.1) := by rw [q]; exact List.mem_cons_self ..
          obtain ⟨b', hb', e1, _⟩ := mem_spots.mp hx
          have hv' : b'.2.1 ≠ 0 := fun z => by
            rw [z, abs_zero.mpr rfl] at e1
            exact hv (abs_zero.mp e1.symm)
          obtain ⟨e, he, e2⟩ := h3 b' hb' hv'
          exact no e he (e2.trans e1)
      refine ⟨l0, ld, ⟨_, hl, ?_⟩, b, List.mem_append_right _ (List.mem_singleton.mpr rfl), hv, rfl⟩
      rw [spots_snoc, if_pos rfl, nil]
      exact ⟨one.but s3 hl2, trivial⟩
  · rcases List.mem_append.mp hb' with z | z
    · obtain ⟨e, he, e1⟩ := h3 b' z hv'
      exact ⟨e, List.mem_append_left _ he, e1⟩
    · rw [List.mem_singleton.mp z]
      exact ⟨_, List.mem_append_right _ (List.mem_singleton.mpr rfl), rfl⟩
  · rcases List.mem_append.mp he with z | z <;> rcases List.mem_append.mp he' with z' | z'
    · exact h4 e z e' z'
    · rw [List.mem_singleton.mp z']
      exact ⟨fun q => absurd q (no e z), fun q => absurd q (le e z)⟩
    · rw [List.mem_singleton.mp z]
      exact ⟨fun q => absurd q.symm (no e' z'), fun q => absurd q.symm (le e' z')⟩
    · rw [List.mem_singleton.mp z, List.mem_singleton.mp z']
      exact ⟨fun _ => rfl, fun _ => rfl⟩
theorem DI.goes {t : Rat} (h : DI K H0 H L bs d ds) : Goes L bs bs t ↔ ∀ e ∈ ds, FitW (spotsQ L bs e.1) (L + L) (e.1 * t) := by
  obtain ⟨h1, h2, h3, h4, h5⟩ := h
  constructor
  · intro g e he
    obtain ⟨_, _, _, b, hb, hv, e1⟩ := h2 e he
    rw [← e1]
    exact g b hb hv
  · intro g b hb hv
    obtain ⟨e, he, e1⟩ := h3 b hb hv
    rw [← e1]
    exact g e he
theorem DI.val {e : Rat × Addr} (h : DI K H0 H L bs d ds) (he : e ∈ ds) : valV (ds.map kvQ) (keyQ e.1) = some (.ref e.2) := by
  obtain ⟨h1, h2, h3, h4, h5⟩ := h
  cases q : valV (ds.map kvQ) (keyQ e.1) with
  | none => exact absurd rfl (val_none q e he)
  | some v =>
    obtain ⟨e', he', e1, rfl⟩ := val_some q
    rw [(h4 e' he' e he).1 e1]
end
theorem fold_exit {L t x v z0 y w : Rat} {m : Int} (hL : 0 < L) (hz : x + v * t = z0) (z1 : 0 < z0) (z3 : z0 < L + L + L) (alt : (y = z0 ∧ w = v) ∨ (L < z0 ∧ y = L + L - z0 ∧ w = -v) ∨ (L + L < z0 ∧ y = z0 - (L + L) ∧ w = v)) (y0 : 0 ≤ y) (y1 : y ≤ L) :
    foldQ L t (x, v, m) = if y = 0 then (y, absQ w, m) else if y = L then (y, -absQ w, m) else (y, w, m) := by
  have LL : 0 < L + L := by grind
  have fo : foldQ L t (x, v, m) = if spotQ z0 (L + L) = 0 then (spotQ z0 (L + L), absQ v, m) else if spotQ z0 (L + L) = L then (spotQ z0 (L + L), -absQ v, m) else if L < spotQ z0 (L + L) then (L + L - spotQ z0 (L + L), -v, m) else (spotQ z0 (L + L), v, m) := by unfold foldQ; dsimp only; rw [hz]
  rw [fo]
  have lo : z0 < L + L → spotQ z0 (L + L) = z0 := fun h => spot_self (by grind) h
  have hi : L + L ≤ z0 → spotQ z0 (L + L) = z0 - (L + L) := fun h => by
    have e := spot_round (x := z0 - (L + L)) LL 1
    have e1 : z0 - (L + L) + ((1 : Int) : Rat) * (L + L) = z0 := by have z : ((1 : Int) : Rat) = 1 := rfl; rw [z]; grind
    rw [e1] at e
    rw [e]
    exact spot_self (by grind) (by grind)
  rcases alt with ⟨rfl, rfl⟩ | ⟨h1, rfl, rfl⟩ | ⟨h1, rfl, rfl⟩
  · have n0 : ¬ y = 0 := by grind
    have n2 : ¬ L < y := by grind
    rw [lo (by grind), if_neg n0, if_neg n0]
    by_cases c : y = L
    · rw [if_pos c, if_pos c]
    · rw [if_neg c, if_neg c, if_neg n2]
  · by_cases c : z0 = L + L
    · have e1 : z0 - (L + L) = 0 := by grind
      have e2 : L + L - z0 = 0 := by grind
      rw [hi (by grind), if_pos e1, if_pos e2, abs_neg, e1, e2]
    · have a1 : ¬ z0 = 0 := by grind
      have a2 : ¬ z0 = L := by grind
      have a3 : ¬ L + L - z0 = 0 := by grind
      have a4 : ¬ L + L - z0 = L := by grind
      rw [lo (by grind), if_neg a1, if_neg a2, if_pos h1, if_neg a3, if_neg a4]
  · have a1 : ¬ z0 - (L + L) = 0 := by grind
    have a2 : ¬ z0 - (L + L) = L := by grind
    have a3 : ¬ L < z0 - (L + L) := by grind
    rw [hi (by grind), if_neg a1, if_neg a1, if_neg a2, if_neg a2, if_neg a3]
noncomputable def flK (L t v : Rat) : Int := (v * t / (L + L)).num.fdiv (((v * t / (L + L)).den : Nat) : Int)
noncomputable def shB (L t : Rat) (b : Bod) : Bod := (b.1 - ((flK L t b.2.1 : Int) : Rat) * (L + L), b.2.1, b.2.2)
theorem shB_in {L t : Rat} (hL : 0 < L) {b : Bod} (hb : Inrm L b) : 0 < (shB L t b).1 + (shB L t b).2.1 * t ∧ (shB L t b).1 + (shB L t b).2.1 * t < L + L + L := by
  have LL : 0 < L + L := by grind
  have z := fl_own (x := b.2.1 * t) LL
  have e : (shB L t b).1 + (shB L t b).2.1 * t = b.1 + (b.2.1 * t - ((flK L t b.2.1 : Int) : Rat) * (L + L)) := by
    unfold shB
    dsimp only
    grind
  rw [e]
  unfold Inrm at hb
  unfold flK
  grind
theorem shB_fold {L t : Rat} (hL : 0 < L) (bs : List Bod) : (bs.map (shB L t)).map (foldQ L t) = bs.map (foldQ L t) := by
  rw [List.map_map]
  refine List.map_congr_left fun b _ => ?_
  exact fold_shift hL _
theorem eqv_fr (a b : Rat) : PyData.eqv (frD a) (frD b) = decide (a = b) := by
  refine (eqv_2 a.num ((a.den : Nat) : Int) b.num ((b.den : Nat) : Int)).trans ?_
  rw [← Bool.decide_and]
  exact decide_eq_decide.mpr ⟨fun h => Rat.ext h.1 (by omega), fun h => by rw [h]; exact ⟨rfl, rfl⟩⟩
theorem eqv_bd (a b : Bod) : PyData.eqv (bdD a) (bdD b) = decide (a = b) := by
  show (PyData.eqv (frD a.1) (frD b.1) && (PyData.eqv (frD a.2.1) (frD b.2.1) && ((a.2.2 == b.2.2) && true))) = _
  have e : (a.2.2 == b.2.2) = decide (a.2.2 = b.2.2) := rfl
  rw [eqv_fr, eqv_fr, Bool.and_true, e, ← Bool.decide_and, ← Bool.decide_and]
  refine decide_eq_decide.mpr ⟨fun h => ?_, fun h => by rw [h]; exact ⟨rfl, rfl, rfl⟩⟩
  obtain ⟨a1, a2, a3⟩ := a
  obtain ⟨b1, b2, b3⟩ := b
  obtain ⟨h1, h2, h3⟩ := h
  dsimp only at h1 h2 h3
  rw [h1, h2, h3]
theorem eqv_bds : ∀ (as bs : List Bod), PyData.eqv (.list (as.map bdD)) (.list (bs.map bdD)) = decide (as = bs)
  | [], [] => rfl
  | [], _ :: _ => rfl
  | _ :: _, [] => rfl
  | a :: as, b :: bs => by
    show (PyData.eqv (bdD a) (bdD b) && PyData.eqv (.list (as.map bdD)) (.list (bs.map bdD))) = _
    rw [eqv_bd, eqv_bds as bs, ← Bool.decide_and]
    exact decide_eq_decide.mpr ⟨fun h => by rw [h.1, h.2], fun h => by injection h with h1 h2; exact ⟨h1, h2⟩⟩
noncomputable def DueV (K : PySem.W.Frag) (H : Hp) (L : Rat) (bs : List Bod) (v : V) : Prop := ((∀ b ∈ bs, b.2.1 = 0) ∧ v = .non) ∨ ((∃ b ∈ bs, b.2.1 ≠ 0) ∧ ∃ (r : Addr) (T : Rat), v = .ref r ∧ FQ K H r T ∧ 0 < T ∧ ∀ t, Goes L bs bs t ↔ MulQ T t)
theorem DueV.same {K : PySem.W.Frag} {H H' : Hp} {L : Rat} {bs : List Bod} {v : V} (h : DueV K H L bs v) (s : Same H H') : DueV K H' L bs v := by
  rcases h with h | ⟨h, r, T, e, g, z⟩
  · exact .inl h
  · exact .inr ⟨h, r, T, e, Kw.Same.tup s g, z⟩
theorem DueV.dp {K : PySem.W.Frag} {H : Hp} {L : Rat} {bs : List Bod} {v u : V} (h : DueV K H L bs v) (g : DueV K H L bs u) : ∃ d, Dp K H v d ∧ Dp K H u d ∧ d.canLay0 = true ∧ Nat.ble d.depth 60 = true := by
  rcases h with ⟨a, rfl⟩ | ⟨⟨b, hb, hv⟩, r, T, rfl, gT, T0, hT⟩
  · rcases g with ⟨_, rfl⟩ | ⟨⟨b, hb, hv⟩, _⟩
    · exact ⟨_, .non, .non, rfl, rfl⟩
    · exact absurd (a b hb) hv
  · rcases g with ⟨a, _⟩ | ⟨_, r', T', rfl, gT', T0', hT'⟩
    · exact absurd (a b hb) hv
    · have e : T = T' := mul_one_of T0 T0' ((hT T').mp ((hT' T').mpr (mul_self T'))) ((hT' T).mp ((hT T).mpr (mul_self T)))
      subst e
      exact ⟨_, gT.dp, gT'.dp, rfl, rfl⟩
theorem DueV.still {K : PySem.W.Frag} {H : Hp} {L : Rat} {bs : List Bod} {v : V} (h : DueV K H L bs v) (a : ∀ b ∈ bs, b.2.1 = 0) : v = .non := by
  rcases h with ⟨_, e⟩ | ⟨⟨b, hb, hv⟩, _⟩
  · exact e
  · exact absurd (a b hb) hv
theorem fac12 : facN 12 = 479001600 := by decide +kernel
theorem part_T {T : Rat} {n p : Nat} (p1 : 1 ≤ p) (h : p ∣ n) : ∃ j : Nat, n = p * j ∧ (n : Rat) * T * Rat.divInt 1 (p : Int) = (j : Rat) * T := by
  obtain ⟨j, rfl⟩ := h
  refine ⟨j, rfl, ?_⟩
  have p0 := rat_pos p1
  have e : ((p * j : Nat) : Rat) = (p : Rat) * (j : Rat) := by push_cast; rfl
  have i1 := Rat.mul_inv_cancel (p : Rat) (by grind)
  rw [e, q_dv]
  have c : (((p : Nat) : Int) : Rat) = (p : Rat) := rfl
  have o : ((1 : Int) : Rat) = 1 := rfl
  rw [c, o, Rat.div_def]
  grind
theorem small_nat {n : Nat} (h : n ≤ 479001600) : FB 64 (n : Rat) := (FB.ofInt (i := (n : Int)) (Bd.small (by omega) (by omega)) (by decide))
theorem unit_fb {p : Nat} (h1 : 1 ≤ p) (h : p ≤ 100) : FB 64 (Rat.divInt 1 (p : Int)) := FB.fit (by omega) (Bd.small (by decide) (by decide)) (Bd.small (by omega) (by omega))
theorem owns_mov {L t : Rat} {l : List Bod} {b : Bod} (hv : b.2.1 ≠ 0) : Owns L (l ++ [b]) t ↔ Owns L l t ∧ MulQ ((L + L) / absQ b.2.1) t := by
  constructor
  · intro h
    exact ⟨fun c hc => h c (List.mem_append_left _ hc), h b (List.mem_append_right _ (List.mem_singleton.mpr rfl)) hv⟩
  · rintro ⟨h1, h2⟩ c hc hv'
    rcases List.mem_append.mp hc with z | z
    · exact h1 c z hv'
    · rw [List.mem_singleton.mp z]
      exact h2
theorem owns_still {L t : Rat} {l : List Bod} {b : Bod} (hv : b.2.1 = 0) : Owns L (l ++ [b]) t ↔ Owns L l t := by
  constructor
  · intro h c hc
    exact h c (List.mem_append_left _ hc)
  · intro h c hc hv'
    rcases List.mem_append.mp hc with z | z
    · exact h c z hv'
    · rw [List.mem_singleton.mp z] at hv'
      exact absurd hv hv'
theorem owns_none {L t : Rat} {l : List Bod} (h : ∀ b ∈ l, b.2.1 = 0) : Owns L l t := fun b hb hv => absurd (h b hb) hv
noncomputable def stB (b : Bod) : Bod := (b.1, ((0 : Int) : Rat), b.2.2)
end Kw
set_option Elab.async false
set_option linter.all false
set_option maxRecDepth 100000
set_option maxHeartbeats 4000000
namespace Prf
open PySem PySem.Spec PyProof.Rows L2 Kw
noncomputable def top (i : Nat) : Stmt := PySem.Challenge.pw_knockwright_k57_the_round.main.body.getD i (.Pass ⟨0, 0, 0, 0⟩)
structure Tx (K : PySem.W.Frag) (mg : Str → Option Value) : Prop where
  b_isinstance : mg "isinstance" = none
  b_int : mg "int" = none
  b_bool : mg "bool" = none
  b_abs : mg "abs" = none
  b_len : mg "len" = none
  b_divmod : mg "divmod" = none
  b_range : mg "range" = none
  b_max : mg "max" = none
  b_min : mg "min" = none
  b_all : mg "all" = none
  k_LONG_BITS : ∃ t, mg "LONG_BITS" = some (.int 4000 t)
  k_NOUGHT : ∃ N, mg "NOUGHT" = some (.ref N) ∧ ∀ H, SqT K H N [.int 0, .int 1]
  k_TWO : ∃ N, mg "TWO" = some (.ref N) ∧ ∀ H, SqT K H N [.int 2, .int 1]
section
variable {P : Program} {w : World} {K : PySem.W.Frag} {mg : Str → Option Value} {base : Heap}
theorem sc_is_whole : FnScope ["thing"] ["thing"] (defScope (top 7)) := ⟨rfl, rfl, rfl, by decide +kernel, rfl, by decide +kernel, by decide +kernel⟩
theorem ok_is_whole (D : Df K mg "is_whole" (top 7) ["thing"]) (T : Tx K mg) : Fn P w K mg base 1 "is_whole" ["thing"] (spWhole K) := by
  refine D.ok0 sc_is_whole (fun vs H Q E h => ?_) (fun f cdv A outer s H vs Q E hr h => ?_)
  · obtain ⟨x, t, b1, b2, rfl, _⟩ := h
    rfl
  obtain ⟨x, t, b1, b2, rfl, ty, k1, k2, q⟩ := h
  refine ⟨_, (pss_one (ps_ret (pe_and (pe_callB call_isinst (by rfl) T.b_isinstance PyProof.Rows.Boot.«isinstance» (pa_cons (pv 0) (pa_cons (pe_bty (by rfl) T.b_int PyProof.Rows.Boot.«int») pa_nil))) (pe_one (pe_not (pe_callB call_isinst (by rfl) T.b_isinstance PyProof.Rows.Boot.«isinstance» (pa_cons (pv 0) (pa_cons (pe_bty (by rfl) T.b_bool PyProof.Rows.Boot.«bool») pa_nil)))))))), ?_⟩
  refine ⟨_, rfl, x, _, b1, rfl, .inl ⟨_, rfl⟩, ⟨t, ty, k1⟩, b1, rfl, ?_⟩
  cases b1 with
  | false => exact iteF q
  | true => exact iteT ⟨_, rfl, x, _, b2, rfl, .inl ⟨_, rfl⟩, ⟨t, ty, k2⟩, b2, rfl, q⟩
theorem sc_common_divisor : FnScope ["one", "other", "great", "small", "steps", "rest"] ["one", "other"] (defScope (top 9)) := ⟨rfl, rfl, rfl, by decide +kernel, rfl, by decide +kernel, by decide +kernel⟩
theorem ok_common_divisor (D : Df K mg "common_divisor" (top 9) ["one", "other"]) (T : Tx K mg) : Fn P w K mg base 1 "common_divisor" ["one", "other"] spGcdB := by
  refine D.ok0 sc_common_divisor (fun vs H Q E h => ?_) (fun f cdv A outer s H vs Q E hr h => ?_)
  · obtain ⟨a, b, rfl, _⟩ := h
    rfl
  obtain ⟨a, b, rfl, hb, q⟩ := h
  refine ⟨_, (pss_cons (ps_set (i := 2) sc_common_divisor.nd rfl (Or.inl rfl) (pe_callB call_abs (by rfl) T.b_abs PyProof.Rows.Boot.«abs» (pa_cons (pv 0) pa_nil)))
      (pss_cons (ps_set (i := 3) sc_common_divisor.nd rfl (Or.inl rfl) (pe_callB call_abs (by rfl) T.b_abs PyProof.Rows.Boot.«abs» (pa_cons (pv 1) pa_nil)))
      (pss_cons (ps_while PassesOwn.never (pt_cmpR op_gt (pe_bm0 PySem.F.plainAttrs_int PySem.F.slot_int_bit_length PySem.F.type_int_bit_length mt_bits (pe_callB (call_min2 rfl) (by rfl) T.b_min PyProof.Rows.Boot.«min» (pa_cons (pv 2) (pa_cons (pv 3) pa_nil)))) (pe_globI (by rfl) T.k_LONG_BITS) (nomark _)) pss_never)
      (pss_cons (ps_while PassesOwn.never (pt_cmpR op_gt (pv 3) pe_int (nomark _)) (pss_cons (ps_set (i := 5) sc_common_divisor.nd rfl (Or.inl rfl) (pe_op op_mod (pv 2) (pv 3)))
      (pss_cons (ps_set (i := 2) sc_common_divisor.nd rfl (Or.inl rfl) (pv 3))
      (pss_one (ps_set (i := 3) sc_common_divisor.nd rfl (Or.inl rfl) (pv 5))))))
      (pss_one (ps_ret (pv 2))))))), ?_⟩
  refine ⟨_, rfl, _, rfl, _, rfl, _, rfl, ?_⟩
  refine ⟨fun m σ' H' => ∃ r1 r2 : Option V, σ' = [some (.int a), some (.int b), some (.int (if a < 0 then -a else a)), some (.int (if b < 0 then -b else b)), r1, r2] ∧ H' = H, ⟨0, _, _, rfl, rfl⟩, ?_⟩
  rintro m σ' H' ⟨r1, r2, rfl, rfl⟩
  refine ⟨_, rfl, _, rfl, _, _, rfl, rfl, _, rfl, rfl, _, _, rfl, rfl, _, rfl, ?_⟩
  refine if_dec (fun c => absurd c (short_min hb)) (fun _ => ?_)
  refine ⟨fun m σ' H2 => ∃ g s : Int, ∃ r1 r2 : Option V, σ' = [some (.int a), some (.int b), some (.int g), some (.int s), r1, r2] ∧ H2 = H' ∧ 0 ≤ g ∧ 0 ≤ s ∧ m = s.toNat ∧ Int.gcd g s = Int.gcd a b, ⟨_, _, _, _, _, rfl, rfl, abs_nn a, abs_nn b, rfl, gcd_abs a b⟩, ?_⟩
  rintro m σ' H2 ⟨g, s, r1, r2, rfl, rfl, hg, hs, rfl, e⟩
  refine ⟨_, rfl, _, _, rfl, rfl, _, rfl, ?_⟩
  refine if_dec (fun c => ?_) (fun c => ?_)
  · refine ⟨_, fun _ _ n => n, ?_⟩
    refine ⟨_, rfl, _, rfl, _, _, rfl, rfl, c, _, rfl, _, rfl, ?_⟩
    have l := Int.emod_lt_of_pos g c
    have l0 := Int.emod_nonneg g (show s ≠ 0 by omega)
    exact ⟨_, by omega, s, g % s, _, _, rfl, rfl, by omega, l0, rfl, (gcd_step g s hg c).trans e⟩
  · refine ⟨_, rfl, ?_⟩
    have s0 : s = 0 := by omega
    subst s0
    have z := gcd_end g hg
    rw [e] at z
    rw [← z]
    exact q
noncomputable def sp_fraction (K : PySem.W.Frag) : Sp := fun vs H Q _ => ∃ (a : Int) (b : Int), vs = [.int a, .int b] ∧ Bd 4000 b ∧ b ≠ 0 ∧ (∀ (p_r : Addr) (H1 : Hp), Same H H1 → FQ K H1 p_r (Rat.divInt a b) → Q (.ref p_r) H1)
theorem sc_fraction : FnScope ["top", "bottom", "divisor"] ["top", "bottom"] (defScope (top 10)) := ⟨rfl, rfl, rfl, by decide +kernel, rfl, by decide +kernel, by decide +kernel⟩
theorem ok_fraction (D : Df K mg "fraction" (top 10) ["top", "bottom"]) (T : Tx K mg) (F_is_whole : Fn P w K mg base 1 "is_whole" ["thing"] (spWhole K)) (F_common_divisor : Fn P w K mg base 1 "common_divisor" ["one", "other"] spGcdB) :
    Fn P w K mg base 2 "fraction" ["top", "bottom"] (sp_fraction K) := by
  refine D.ok0 sc_fraction (fun vs H Q E h => ?_) (fun f cdv A outer s H vs Q E hr h => ?_)
  · obtain ⟨a, b, rfl, _⟩ := h
    rfl
  obtain ⟨a, b, rfl, hb, c, hq⟩ := h
  refine ⟨_, (pss_cons (ps_if (pw_or (pt_not (pt_val (pe_fn F_is_whole (by decide) hr (by rfl) passE0 (pa_cons (pv 0) pa_nil)) (fun _ => rfl))) (pw_or1 (pt_not (pt_val (pe_fn F_is_whole (by decide) hr (by rfl) passE0 (pa_cons (pv 1) pa_nil)) (fun _ => rfl))))).pt (pss_one ps_never) pss_nil)
      (pss_cons (ps_if (pt_cmpR op_eq (pv 1) pe_int (nomark _)) (pss_one ps_never) pss_nil)
      (pss_cons (ps_set (i := 2) sc_fraction.nd rfl (Or.inl rfl) (pe_fn F_common_divisor (by decide) hr (by rfl) passE0 (pa_cons (pv 0) (pa_cons (pv 1) pa_nil))))
      (pss_cons (ps_if (pt_cmpR op_lt (pv 1) pe_int (nomark _)) (pss_one (ps_set (i := 2) sc_fraction.nd rfl (Or.inl rfl) (pe_un un_neg (pv 2)))) pss_nil)
      (pss_one (ps_ret (pe_tup (pa_cons (pe_op op_fdivB (pv 0) (pv 2)) (pa_cons (pe_op op_fdivB (pv 1) (pv 2)) pa_nil))))))))), ?_⟩
  refine ⟨_, rfl, _, _, true, false, rfl, .int a, kit_int_int, kit_int_bool, _, rfl, ?_⟩
  refine iteF ⟨_, rfl, _, _, true, false, rfl, .int b, kit_int_int, kit_int_bool, _, rfl, ?_⟩
  refine iteF ⟨_, rfl, rfl, _, rfl, ?_⟩
  refine if_decI (fun z => absurd z c) (fun _ => ?_)
  refine ⟨_, rfl, _, rfl, a, b, rfl, hb, ?_⟩
  have hd : (if b < 0 then -((Int.gcd a b : Nat) : Int) else ((Int.gcd a b : Nat) : Int)) = dv a b := rfl
  have lg := (bd_dv (t := a) c (hb.mono (n := 9000) (by decide))).log
  refine ⟨_, rfl, _, _, rfl, rfl, _, rfl, ?_⟩
  refine if_dec (fun n => ?_) (fun n => ?_)
  · rw [if_pos n] at hd
    refine ⟨_, rfl, _, rfl, ?_⟩
    dsimp only
    rw [hd]
    refine ⟨_, rfl, _, rfl, _, _, rfl, rfl, ⟨dv_ne c, lg⟩, _, rfl, _, rfl, _, _, rfl, rfl, ⟨dv_ne c, lg⟩, by show 2 ≤ sizeLine; decide, ?_⟩
    exact rd_new fun p H' sm hp => hq p H' sm (FQ.fit c (SqT.of hp))
  · rw [if_neg n] at hd
    rw [hd]
    refine ⟨_, rfl, _, rfl, _, _, rfl, rfl, ⟨dv_ne c, lg⟩, _, rfl, _, rfl, _, _, rfl, rfl, ⟨dv_ne c, lg⟩, by show 2 ≤ sizeLine; decide, ?_⟩
    exact rd_new fun p H' sm hp => hq p H' sm (FQ.fit c (SqT.of hp))
noncomputable def sp_plus (K : PySem.W.Frag) : Sp := fun vs H Q _ => ∃ (p_x : Addr) (x : Rat) (p_y : Addr) (y : Rat), vs = [.ref p_x, .ref p_y] ∧ FQ K H p_x x ∧ FB 8900 x ∧ FQ K H p_y y ∧ FB 4000 y ∧ (∀ (p_r : Addr) (H1 : Hp), Same H H1 → FQ K H1 p_r (x + y) → Q (.ref p_r) H1)
theorem sc_plus : FnScope ["one", "other", "shared", "top", "divisor"] ["one", "other"] (defScope (top 11)) := ⟨rfl, rfl, rfl, by decide +kernel, rfl, by decide +kernel, by decide +kernel⟩
theorem ok_plus (D : Df K mg "plus" (top 11) ["one", "other"]) (T : Tx K mg) (F_common_divisor : Fn P w K mg base 1 "common_divisor" ["one", "other"] spGcdB) : Fn P w K mg base 2 "plus" ["one", "other"] (sp_plus K) := by
  refine D.ok0 sc_plus (fun vs H Q E h => ?_) (fun f cdv A outer s H vs Q E hr h => ?_)
  · obtain ⟨p, x, q, y, rfl, _⟩ := h
    rfl
  obtain ⟨p, x, q, y, rfl, hp, ⟨ha, hb⟩, hq, ⟨hc, hd⟩, k⟩ := h
  refine ⟨_, (pss_cons (ps_set (i := 2) sc_plus.nd rfl (Or.inl rfl) (pe_fn F_common_divisor (by decide) hr (by rfl) passE0 (pa_cons (pe_ix ix_tup (pv 0) pe_int (fun _ _ => rfl)) (pa_cons (pe_ix ix_tup (pv 1) pe_int (fun _ _ => rfl)) pa_nil))))
      (pss_cons (ps_set (i := 3) sc_plus.nd rfl (Or.inl rfl) (pe_op op_add (pe_op op_mulB (pe_ix ix_tup (pv 0) pe_int (fun _ _ => rfl)) (pe_op op_fdivB (pe_ix ix_tup (pv 1) pe_int (fun _ _ => rfl)) (pv 2))) (pe_op op_mulB (pe_ix ix_tup (pv 1) pe_int (fun _ _ => rfl)) (pe_op op_fdivB (pe_ix ix_tup (pv 0) pe_int (fun _ _ => rfl)) (pv 2)))))
      (pss_cons (ps_set (i := 4) sc_plus.nd rfl (Or.inl rfl) (pe_fn F_common_divisor (by decide) hr (by rfl) passE0 (pa_cons (pv 3) (pa_cons (pv 2) pa_nil))))
      (pss_one (ps_ret (pe_tup (pa_cons (pe_op op_fdivB (pv 3) (pv 4)) (pa_cons (pe_op op_mulB (pe_op op_fdivB (pe_ix ix_tup (pv 0) pe_int (fun _ _ => rfl)) (pv 2)) (pe_op op_fdivB (pe_ix ix_tup (pv 1) pe_int (fun _ _ => rfl)) (pv 4))) pa_nil)))))))), ?_⟩
  refine ⟨_, rfl, p, _, _, _, rfl, rfl, hp, rfl, _, rfl, q, _, _, _, rfl, rfl, hq, rfl, _, _, rfl, hd, ?_⟩
  have g0 := gpos (a := ((x.den : Nat) : Int)) (q_ne y)
  have bg := bd_gcdR (a := ((x.den : Nat) : Int)) (q_ne y) hd
  have dg1 : (((Int.gcd ((x.den : Nat) : Int) ((y.den : Nat) : Int) : Nat) : Int)) ∣ ((x.den : Nat) : Int) := Int.gcd_dvd_left ..
  have dg2 : (((Int.gcd ((x.den : Nat) : Int) ((y.den : Nat) : Int) : Nat) : Int)) ∣ ((y.den : Nat) : Int) := Int.gcd_dvd_right ..
  generalize hg : ((Int.gcd ((x.den : Nat) : Int) ((y.den : Nat) : Int) : Nat) : Int) = g at g0 bg dg1 dg2 ⊢
  have g1 : g ≠ 0 := by omega
  have lg := (bg.mono (n := 9000) (by decide)).log
  have b1 := bd_quot hd dg2 g1
  have b2 := bd_quot hb dg1 g1
  refine ⟨_, rfl, p, _, _, _, rfl, rfl, hp, rfl, _, rfl, q, _, _, _, rfl, rfl, hq, rfl, _, rfl, _, _, rfl, rfl, ⟨g1, lg⟩, _, _, rfl, rfl, ha.ok b1 (by decide), _, rfl, q, _, _, _, rfl, rfl, hq, rfl, _, rfl, p, _, _, _, rfl, rfl, hp, rfl, _, rfl, _, _, rfl, rfl, ⟨g1, lg⟩, _, _, rfl, rfl, hc.ok b2 (by decide), _, _, rfl, rfl, ?_⟩
  dsimp only
  have bt := (ha.mul b1).add (hc.mul b2)
  generalize ht : x.num * ((y.den : Nat) : Int).fdiv g + y.num * ((x.den : Nat) : Int).fdiv g = t at bt ⊢
  refine ⟨_, rfl, _, rfl, _, _, rfl, bg, ?_⟩
  have h0 := gpos (a := t) g1
  have bh := bd_gcdR (a := t) g1 bg
  have dh : ((Int.gcd t g : Nat) : Int) ∣ g := Int.gcd_dvd_right ..
  generalize hh : ((Int.gcd t g : Nat) : Int) = h at h0 bh dh ⊢
  have h1 : h ≠ 0 := by omega
  have lh := (bh.mono (n := 9000) (by decide)).log
  have b3 := bd_quot hd (Int.dvd_trans dh dg2) h1
  refine ⟨_, rfl, _, rfl, _, _, rfl, rfl, ⟨h1, lh⟩, _, rfl, p, _, _, _, rfl, rfl, hp, rfl, _, rfl, _, _, rfl, rfl, ⟨g1, lg⟩, _, rfl, q, _, _, _, rfl, rfl, hq, rfl, _, rfl, _, _, rfl, rfl, ⟨h1, lh⟩, _, _, rfl, rfl, b2.ok b3 (by decide), by show 2 ≤ sizeLine; decide, ?_⟩
  refine rd_new fun r H1 sm hr1 => k r H1 sm ?_
  obtain ⟨e1, e2⟩ := q_plus x y g t h hg.symm ht.symm hh.symm
  have z := SqT.of (K := K) hr1
  dsimp only at z
  rw [e1, e2] at z
  exact z
noncomputable def sp_minus (K : PySem.W.Frag) : Sp := fun vs H Q _ => ∃ (p_x : Addr) (x : Rat) (p_y : Addr) (y : Rat), vs = [.ref p_x, .ref p_y] ∧ FQ K H p_x x ∧ FB 8900 x ∧ FQ K H p_y y ∧ FB 4000 y ∧ (∀ (p_r : Addr) (H1 : Hp), Same H H1 → FQ K H1 p_r (x - y) → Q (.ref p_r) H1)
theorem sc_minus : FnScope ["one", "other"] ["one", "other"] (defScope (top 12)) := ⟨rfl, rfl, rfl, by decide +kernel, rfl, by decide +kernel, by decide +kernel⟩
theorem ok_minus (D : Df K mg "minus" (top 12) ["one", "other"]) (T : Tx K mg) (F_plus : Fn P w K mg base 2 "plus" ["one", "other"] (sp_plus K)) : Fn P w K mg base 3 "minus" ["one", "other"] (sp_minus K) := by
  refine D.ok0 sc_minus (fun vs H Q E h => ?_) (fun f cdv A outer s H vs Q E hr h => ?_)
  · obtain ⟨p_x, x, p_y, y, rfl, _⟩ := h
    rfl
  obtain ⟨p_x, x, p_y, y, rfl, g_x, d_x, g_y, d_y, k0⟩ := h
  refine ⟨_, (pss_one (ps_ret (pe_fn F_plus (by decide) hr (by rfl) passE0 (pa_cons (pv 0) (pa_cons (pe_tup (pa_cons (pe_un un_neg (pe_ix ix_tup (pv 1) pe_int (fun _ _ => rfl))) (pa_cons (pe_ix ix_tup (pv 1) pe_int (fun _ _ => rfl)) pa_nil))) pa_nil))))), ?_⟩
  refine ⟨_, rfl, _, rfl, p_y, _, _, _, rfl, rfl, g_y, rfl, _, rfl, _, rfl, p_y, _, _, _, rfl, rfl, g_y, rfl, by show 2 ≤ sizeLine; decide, ?_⟩
  intro p1 n1
  obtain ⟨H1, q1, s1, e1⟩ := newO n1 (.tup [.int ((-(y).num)), .int ((((y).den : Nat) : Int))])
  rw [q1]
  clear q1
  have h1 := SqT.of (K := K) e1
  have g1 : FQ K H1 p1 (-(y)) := by exact FQ.ofNeg h1 (by omega)
  replace g_x := (Kw.Same.tup s1 g_x)
  refine ⟨_, _, _, _, rfl, g_x, (FB.mono d_x (by decide)), g1, (FB.mono (FB.neg d_y) (by decide)), fun p_r2 H2 s2 g_r2 => ?_⟩
  have d_r2 : FB 12901 (x + ((-(y)))) := (FB.mono (FB.add d_x (FB.neg d_y)) (by decide))
  have e3 : ((x + ((-(y)))) : Rat) = x - y := by grind
  exact k0 _ _ (s1.trans s2) (FQ.cast g_r2 e3)
noncomputable def sp_times (K : PySem.W.Frag) : Sp := fun vs H Q _ => ∃ (p_x : Addr) (x : Rat) (p_y : Addr) (y : Rat), vs = [.ref p_x, .ref p_y] ∧ FQ K H p_x x ∧ FB 4000 x ∧ FQ K H p_y y ∧ FB 4000 y ∧ (∀ (p_r : Addr) (H1 : Hp), Same H H1 → FQ K H1 p_r (x * y) → Q (.ref p_r) H1)
theorem sc_times : FnScope ["one", "other", "first", "second"] ["one", "other"] (defScope (top 13)) := ⟨rfl, rfl, rfl, by decide +kernel, rfl, by decide +kernel, by decide +kernel⟩
theorem ok_times (D : Df K mg "times" (top 13) ["one", "other"]) (T : Tx K mg) (F_common_divisor : Fn P w K mg base 1 "common_divisor" ["one", "other"] spGcdB) : Fn P w K mg base 2 "times" ["one", "other"] (sp_times K) := by
  refine D.ok0 sc_times (fun vs H Q E h => ?_) (fun f cdv A outer s H vs Q E hr h => ?_)
  · obtain ⟨p, x, q, y, rfl, _⟩ := h
    rfl
  obtain ⟨p, x, q, y, rfl, hp, ⟨ha, hb⟩, hq, ⟨hc, hd⟩, k⟩ := h
  refine ⟨_, (pss_cons (ps_set (i := 2) sc_times.nd rfl (Or.inl rfl) (pe_fn F_common_divisor (by decide) hr (by rfl) passE0 (pa_cons (pe_ix ix_tup (pv 0) pe_int (fun _ _ => rfl)) (pa_cons (pe_ix ix_tup (pv 1) pe_int (fun _ _ => rfl)) pa_nil))))
      (pss_cons (ps_set (i := 3) sc_times.nd rfl (Or.inl rfl) (pe_fn F_common_divisor (by decide) hr (by rfl) passE0 (pa_cons (pe_ix ix_tup (pv 1) pe_int (fun _ _ => rfl)) (pa_cons (pe_ix ix_tup (pv 0) pe_int (fun _ _ => rfl)) pa_nil))))
      (pss_one (ps_ret (pe_tup (pa_cons (pe_op op_mulB (pe_op op_fdivB (pe_ix ix_tup (pv 0) pe_int (fun _ _ => rfl)) (pv 2)) (pe_op op_fdivB (pe_ix ix_tup (pv 1) pe_int (fun _ _ => rfl)) (pv 3))) (pa_cons (pe_op op_mulB (pe_op op_fdivB (pe_ix ix_tup (pv 0) pe_int (fun _ _ => rfl)) (pv 3)) (pe_op op_fdivB (pe_ix ix_tup (pv 1) pe_int (fun _ _ => rfl)) (pv 2))) pa_nil))))))), ?_⟩
  refine ⟨_, rfl, p, _, _, _, rfl, rfl, hp, rfl, _, rfl, q, _, _, _, rfl, rfl, hq, rfl, _, _, rfl, hd, ?_⟩
  have f0 := gpos (a := x.num) (q_ne y)
  have bf := bd_gcdR (a := x.num) (q_ne y) hd
  have df1 : ((Int.gcd x.num ((y.den : Nat) : Int) : Nat) : Int) ∣ x.num := Int.gcd_dvd_left ..
  have df2 : ((Int.gcd x.num ((y.den : Nat) : Int) : Nat) : Int) ∣ ((y.den : Nat) : Int) := Int.gcd_dvd_right ..
  generalize hf : ((Int.gcd x.num ((y.den : Nat) : Int) : Nat) : Int) = f1 at f0 bf df1 df2 ⊢
  refine ⟨_, rfl, q, _, _, _, rfl, rfl, hq, rfl, _, rfl, p, _, _, _, rfl, rfl, hp, rfl, _, _, rfl, hb, ?_⟩
  have s0 := gpos (a := y.num) (q_ne x)
  have bs := bd_gcdR (a := y.num) (q_ne x) hb
  have ds1 : ((Int.gcd y.num ((x.den : Nat) : Int) : Nat) : Int) ∣ y.num := Int.gcd_dvd_left ..
  have ds2 : ((Int.gcd y.num ((x.den : Nat) : Int) : Nat) : Int) ∣ ((x.den : Nat) : Int) := Int.gcd_dvd_right ..
  generalize hs : ((Int.gcd y.num ((x.den : Nat) : Int) : Nat) : Int) = s1 at s0 bs ds1 ds2 ⊢
  have f1' : f1 ≠ 0 := by omega
  have s1' : s1 ≠ 0 := by omega
  have lf := (bf.mono (n := 9000) (by decide)).log
  have ls := (bs.mono (n := 9000) (by decide)).log
  refine ⟨_, rfl, p, _, _, _, rfl, rfl, hp, rfl, _, rfl, _, _, rfl, rfl, ⟨f1', lf⟩, _, rfl, q, _, _, _, rfl, rfl, hq, rfl, _, rfl, _, _, rfl, rfl, ⟨s1', ls⟩, _, _, rfl, rfl, (bd_quot ha df1 f1').ok (bd_quot hc ds1 s1') (by decide), _, rfl, p, _, _, _, rfl, rfl, hp, rfl, _, rfl, _, _, rfl, rfl, ⟨s1', ls⟩, _, rfl, q, _, _, _, rfl, rfl, hq, rfl, _, rfl, _, _, rfl, rfl, ⟨f1', lf⟩, _, _, rfl, rfl, (bd_quot hb ds2 s1').ok (bd_quot hd df2 f1') (by decide), by show 2 ≤ sizeLine; decide, ?_⟩
  refine rd_new fun r H1 sm hr1 => k r H1 sm ?_
  obtain ⟨e1, e2⟩ := q_times x y f1 s1 hf.symm hs.symm
  have z := SqT.of (K := K) hr1
  dsimp only at z
  rw [e1, e2] at z
  exact z
noncomputable def sp_over (K : PySem.W.Frag) : Sp := fun vs H Q _ => ∃ (p_x : Addr) (x : Rat) (p_y : Addr) (y : Rat), vs = [.ref p_x, .ref p_y] ∧ FQ K H p_x x ∧ FB 4000 x ∧ FQ K H p_y y ∧ FB 4000 y ∧ y ≠ 0 ∧ (∀ (p_r : Addr) (H1 : Hp), Same H H1 → FQ K H1 p_r (x / y) → Q (.ref p_r) H1)
theorem sc_over : FnScope ["one", "other", "flipped"] ["one", "other"] (defScope (top 14)) := ⟨rfl, rfl, rfl, by decide +kernel, rfl, by decide +kernel, by decide +kernel⟩
theorem ok_over (D : Df K mg "over" (top 14) ["one", "other"]) (T : Tx K mg) (F_times : Fn P w K mg base 2 "times" ["one", "other"] (sp_times K)) : Fn P w K mg base 3 "over" ["one", "other"] (sp_over K) := by
  refine D.ok0 sc_over (fun vs H Q E h => ?_) (fun f cdv A outer s H vs Q E hr h => ?_)
  · obtain ⟨p, x, q, y, rfl, _⟩ := h
    rfl
  obtain ⟨p, x, q, y, rfl, hp, dx, hq, dy, y0, k⟩ := h
  refine ⟨_, (pss_cons (ps_if (pt_cmpR op_eq (pe_ix ix_tup (pv 1) pe_int (fun _ _ => rfl)) pe_int (nomark _)) (pss_one ps_never) pss_nil)
      (pss_cons (ps_set (i := 2) sc_over.nd rfl (Or.inl rfl) (pe_ifExp (pt_cmpR op_gt (pe_ix ix_tup (pv 1) pe_int (fun _ _ => rfl)) pe_int (nomark _)) (pe_tup (pa_cons (pe_ix ix_tup (pv 1) pe_int (fun _ _ => rfl)) (pa_cons (pe_ix ix_tup (pv 1) pe_int (fun _ _ => rfl)) pa_nil))) (pe_tup (pa_cons (pe_un un_neg (pe_ix ix_tup (pv 1) pe_int (fun _ _ => rfl))) (pa_cons (pe_un un_neg (pe_ix ix_tup (pv 1) pe_int (fun _ _ => rfl))) pa_nil)))))
      (pss_one (ps_ret (pe_fn F_times (by decide) hr (by rfl) passE0 (pa_cons (pv 0) (pa_cons (pv 2) pa_nil))))))), ?_⟩
  have n0 := q_num_ne y0
  refine ⟨_, rfl, q, _, _, _, rfl, rfl, hq, rfl, rfl, _, rfl, ?_⟩
  refine if_decI (fun z => absurd z n0) (fun _ => ?_)
  refine ⟨_, rfl, q, _, _, _, rfl, rfl, hq, rfl, _, _, rfl, rfl, _, rfl, ?_⟩
  refine if_dec (fun c => ?_) (fun c => ?_)
  · refine ⟨_, rfl, q, _, _, _, rfl, rfl, hq, rfl, _, rfl, q, _, _, _, rfl, rfl, hq, rfl, by show 2 ≤ sizeLine; decide, ?_⟩
    intro p1 n1
    obtain ⟨H1, q1, s1, e1⟩ := newO n1 (.tup [.int ((y.den : Nat) : Int), .int y.num])
    rw [q1]
    clear q1
    have g1 : FQ K H1 p1 y⁻¹ := by
      have z := SqT.of (K := K) e1
      rw [← (q_invp c).1, ← (q_invp c).2] at z
      exact z
    refine ⟨_, rfl, _, rfl, p, x, p1, y⁻¹, rfl, Kw.Same.tup s1 hp, dx, g1, FB.inv dy y0, fun r H3 s3 g3 => ?_⟩
    exact k r H3 (s1.trans s3) (g3.cast (Rat.div_def x y).symm)
  · have c' : y.num < 0 := by omega
    refine ⟨_, rfl, q, _, _, _, rfl, rfl, hq, rfl, _, rfl, _, rfl, q, _, _, _, rfl, rfl, hq, rfl, _, rfl, by show 2 ≤ sizeLine; decide, ?_⟩
    intro p2 n2
    obtain ⟨H2, q2, s2, e2⟩ := newO n2 (.tup [.int (-((y.den : Nat) : Int)), .int (-y.num)])
    rw [q2]
    clear q2
    have g1 : FQ K H2 p2 y⁻¹ := by
      have z := SqT.of (K := K) e2
      rw [← (q_invn c').1, ← (q_invn c').2] at z
      exact z
    refine ⟨_, rfl, _, rfl, p, x, p2, y⁻¹, rfl, Kw.Same.tup s2 hp, dx, g1, FB.inv dy y0, fun r H3 s3 g3 => ?_⟩
    exact k r H3 (s2.trans s3) (g3.cast (Rat.div_def x y).symm)
noncomputable def sp_under (K : PySem.W.Frag) : Sp := fun vs H Q _ => ∃ (p_x : Addr) (x : Rat) (p_y : Addr) (y : Rat), vs = [.ref p_x, .ref p_y] ∧ FQ K H p_x x ∧ FB 8900 x ∧ FQ K H p_y y ∧ FB 8900 y ∧ (∀  (H1 : Hp), Same H H1 → Q (.bl (decide (x < y))) H1)
theorem sc_under : FnScope ["one", "other"] ["one", "other"] (defScope (top 15)) := ⟨rfl, rfl, rfl, by decide +kernel, rfl, by decide +kernel, by decide +kernel⟩
theorem ok_under (D : Df K mg "under" (top 15) ["one", "other"]) (T : Tx K mg) : Fn P w K mg base 1 "under" ["one", "other"] (sp_under K) := by
  refine D.ok0 sc_under (fun vs H Q E h => ?_) (fun f cdv A outer s H vs Q E hr h => ?_)
  · obtain ⟨p_x, x, p_y, y, rfl, _⟩ := h
    rfl
  obtain ⟨p_x, x, p_y, y, rfl, g_x, d_x, g_y, d_y, k0⟩ := h
  refine ⟨_, (pss_one (ps_ret (pe_cmpR op_lt (pe_op op_mulB (pe_ix ix_tup (pv 0) pe_int (fun _ _ => rfl)) (pe_ix ix_tup (pv 1) pe_int (fun _ _ => rfl))) (pe_op op_mulB (pe_ix ix_tup (pv 1) pe_int (fun _ _ => rfl)) (pe_ix ix_tup (pv 0) pe_int (fun _ _ => rfl))) (nomark _)))), ?_⟩
  refine ⟨_, rfl, p_x, _, _, _, rfl, rfl, g_x, rfl, _, rfl, p_y, _, _, _, rfl, rfl, g_y, rfl, _, _, rfl, rfl, (d_x.1.ok d_y.2 (by decide)), _, rfl, p_y, _, _, _, rfl, rfl, g_y, rfl, _, rfl, p_x, _, _, _, rfl, rfl, g_x, rfl, _, _, rfl, rfl, (d_y.1.ok d_x.2 (by decide)), _, _, rfl, rfl, ?_⟩
  try dsimp only
  rw [show decide (((x).num * (((y).den : Nat) : Int)) < ((y).num * (((x).den : Nat) : Int))) = decide (x < y) from decide_eq_decide.mpr (by exact (q_lt x y).symm)]
  exact k0 _ (Same.refl _)
theorem none_of_sm {H H1 : Hp} {a : Addr} (s : Same H H1) (n : H1 a = none) : H a = none := by
  cases e : H a with
  | none => rfl
  | some o => have := s _ _ e; rw [n] at this; cases this
noncomputable def sp_refuse_unlike (K : PySem.W.Frag) : Sp := fun vs H Q _ => ∃ (p : Addr) (xs : List V) (bs : List Bod) (w : Int), vs = [.ref p] ∧ H p = some (.lst xs) ∧ Al2 (BdQ K H 1990) xs bs ∧ 1 ≤ bs.length ∧ bs.length ≤ 12 ∧ (∀ b ∈ bs, b.2.2 = w) ∧ ∀ H1, Same H H1 → Q .non H1
theorem sc_refuse_unlike : FnScope ["world", "number"] ["world"] (defScope (top 18)) := ⟨rfl, rfl, rfl, by decide +kernel, rfl, by decide +kernel, by decide +kernel⟩
theorem ok_refuse_unlike (D : Df K mg "refuse_unlike" (top 18) ["world"]) (T : Tx K mg) : Fn P w K mg base 1 "refuse_unlike" ["world"] (sp_refuse_unlike K) := by
  refine D.ok0 sc_refuse_unlike (fun vs H Q E h => ?_) (fun f cdv A outer s H vs Q E hr h => ?_)
  · obtain ⟨p, xs, bs, w, rfl, _⟩ := h
    rfl
  obtain ⟨p, xs, bs, w, rfl, hp, al, l1, l12, hw, k⟩ := h
  refine ⟨_, (pss_one (ps_for PassesOwn.never rfl (pi_range2 (by rfl) T.b_range (pa_cons pe_int (pa_cons (pe_callB call_len (by rfl) T.b_len PyProof.Rows.Boot.«len» (pa_cons (pv 0) pa_nil)) pa_nil))) (pg_name (i := 1) sc_refuse_unlike.nd rfl (Or.inl rfl)) (pss_one (ps_if (pt_cmpR op_ne (pe_ix ix_tup (pe_ix ix_list (pv 0) (pv 1) (fun _ _ => rfl)) pe_int (fun _ _ => rfl)) (pe_ix ix_tup (pe_ix ix_list (pv 0) pe_int (fun _ _ => rfl)) pe_int (fun _ _ => rfl)) (nomark _)) (pss_one ps_never) pss_nil)))), ?_⟩
  have hz := Al2.len al
  refine ⟨_, rfl, _, _, rfl, .inl ⟨_, SqL.of hp, rfl⟩, _, _, rfl, ⟨by decide, by decide, by omega, by omega⟩, for_range (lo := 1) (fun i σ1 H1 => ∃ r : Option V, σ1 = [some (.ref p), r] ∧ H1 = H) ⟨_, rfl, rfl⟩ ?_ ?_⟩
  · rintro i σ1 H1 hi ⟨r, rfl, eH⟩
    subst eH
    have hi' : 1 + i < xs.length := by omega
    obtain ⟨x, hx⟩ : ∃ x, xs[1 + i]? = some x := ⟨_, List.getElem?_eq_getElem hi'⟩
    obtain ⟨x0, hx0⟩ : ∃ x, xs[0]? = some x := ⟨_, List.getElem?_eq_getElem (by omega)⟩
    obtain ⟨b, hb, p1, a1, c1, rfl, e1, _⟩ := Al2.get al hx
    obtain ⟨b0, hb0, p0, a0, c0, rfl, e0, _⟩ := Al2.get al hx0
    have atx : atI xs (1 + (i : Int)) = some (.ref p1) := by
      have z := atI_nat hx
      rwa [show (((1 + i : Nat)) : Int) = 1 + (i : Int) by omega] at z
    have at0 : atI xs 0 = some (.ref p0) := atI_nat hx0
    refine ⟨_, rfl, _, rfl, p, _, _, _, rfl, rfl, SqL.of hp, atx, p1, _, _, _, rfl, rfl, e1, rfl, _, rfl, p, _, _, _, rfl, rfl, SqL.of hp, at0, p0, _, _, _, rfl, rfl, e0, rfl, rfl, _, rfl, ?_⟩
    refine if_neI (fun c => absurd ((hw b (List.mem_of_getElem? hb)).trans (hw b0 (List.mem_of_getElem? hb0)).symm) c) (fun _ => ?_)
    exact ⟨_, rfl, rfl⟩
  · rintro σ1 H1 ⟨r, rfl, eH⟩
    subst eH
    exact k _ (Same.refl _)
noncomputable def sp_refuse_outside (K : PySem.W.Frag) : Sp := fun vs H Q _ => ∃ (p : Addr) (xs : List V) (bs : List Bod) (q : Addr) (L : Rat), vs = [.ref p, .ref q] ∧ H p = some (.lst xs) ∧ Al2 (BdQ K H 64) xs bs ∧ bs.length ≤ 12 ∧ FQ K H q L ∧ FB 64 L ∧ (∀ b ∈ bs, Inrm L b) ∧ ∀ H1, Same H H1 → Q .non H1
theorem sc_refuse_outside : FnScope ["world", "length", "number", "place"] ["world", "length"] (defScope (top 21)) := ⟨rfl, rfl, rfl, by decide +kernel, rfl, by decide +kernel, by decide +kernel⟩
theorem ok_refuse_outside (D : Df K mg "refuse_outside" (top 21) ["world", "length"]) (T : Tx K mg) (F_under : Fn P w K mg base 1 "under" ["one", "other"] (sp_under K)) : Fn P w K mg base 2 "refuse_outside" ["world", "length"] (sp_refuse_outside K) := by
  refine D.ok0 sc_refuse_outside (fun vs H Q E h => ?_) (fun f cdv A outer s H vs Q E hr h => ?_)
  · obtain ⟨p, xs, bs, q, L, rfl, _⟩ := h
    rfl
  obtain ⟨p, xs, bs, q, L, rfl, hp, al, l12, gL, dL, ins, k⟩ := h
  refine ⟨_, (pss_one (ps_for PassesOwn.never rfl (pi_range1 (by rfl) T.b_range (pa_cons (pe_callB call_len (by rfl) T.b_len PyProof.Rows.Boot.«len» (pa_cons (pv 0) pa_nil)) pa_nil)) (pg_name (i := 2) sc_refuse_outside.nd rfl (Or.inl rfl)) (pss_cons (ps_set (i := 3) sc_refuse_outside.nd rfl (Or.inl rfl) (pe_ix ix_tup (pe_ix ix_list (pv 0) (pv 2) (fun _ _ => rfl)) pe_int (fun _ _ => rfl)))
      (pss_one (ps_if (pw_or (pt_not (pt_val (pe_fn F_under (by decide) hr (by rfl) passE0 (pa_cons (pe_globT (K := K) rfl (by rfl) T.k_NOUGHT) (pa_cons (pv 3) pa_nil))) (fun _ => rfl))) (pw_or1 (pt_not (pt_val (pe_fn F_under (by decide) hr (by rfl) passE0 (pa_cons (pv 3) (pa_cons (pv 1) pa_nil))) (fun _ => rfl))))).pt (pss_one ps_never) pss_nil))))), ?_⟩
  have hz := Al2.len al
  refine ⟨_, rfl, _, _, rfl, .inl ⟨_, SqL.of hp, rfl⟩, _, rfl, by omega, by omega, for_range (n := xs.length) (fun i σ1 H1 => ∃ u2 u3 : Option V, σ1 = [some (.ref p), some (.ref q), u2, u3] ∧ Same H H1) ⟨_, _, rfl, Same.refl _⟩ ?_ ?_⟩
  · rintro i σ1 H1 hi ⟨u2, u3, rfl, s1⟩
    obtain ⟨x, hx⟩ : ∃ x, xs[i]? = some x := ⟨_, List.getElem?_eq_getElem hi⟩
    obtain ⟨b, hb, p1, a1, c1, rfl, e1, e2, e3, d1, d2, _⟩ := Al2.get (bds_same al s1) hx
    have hin := ins b (List.mem_of_getElem? hb)
    refine ⟨_, rfl, _, rfl, p, _, _, _, rfl, rfl, SqL.of (s1 _ _ hp), atI_z hx, p1, _, _, _, rfl, rfl, e1, rfl, ?_⟩
    refine fun N hN => ?_
    have gN : FQ K H1 N (((0 : Int)) : Rat) := hN _
    have dN : FB 8900 (((0 : Int)) : Rat) := (FB.ofInt (Bd.small (i := 0) (by decide) (by decide)) (by decide)).mono (by decide)
    have eN : (((0 : Int)) : Rat) = 0 := rfl
    refine ⟨_, rfl, _, _, _, _, rfl, gN, dN, e2, d1.mono (by decide), fun H2 s2 => ⟨_, rfl, ?_⟩⟩
    refine if_not (fun c => absurd hin.1 (by rw [eN] at c; exact c)) (fun c => ?_)
    refine ⟨_, rfl, _, rfl, _, _, _, _, rfl, Kw.Same.tup s2 e2, d1.mono (by decide), Kw.Same.tup (s1.trans s2) gL, dL.mono (by decide), fun H3 s3 => ⟨_, rfl, ?_⟩⟩
    refine if_not (fun c2 => absurd hin.2 c2) (fun c2 => ?_)
    exact ⟨_, _, rfl, s1.trans (s2.trans s3)⟩
  · rintro σ1 H1 ⟨u2, u3, rfl, s1⟩
    exact k _ s1
noncomputable def sp_led_back (K : PySem.W.Frag) : Sp := fun vs H Q _ => ∃ (p : Addr) (x : Rat) (q : Addr) (y : Rat), vs = [.ref p, .ref q] ∧ FQ K H p x ∧ FB 800 x ∧ FQ K H q y ∧ FB 300 y ∧ 0 < y ∧ ∀ (r : Addr) (H1 : Hp), Same H H1 → FQ K H1 r (spotQ x y) → FB 2300 (spotQ x y) → Q (.ref r) H1
theorem sc_led_back : FnScope ["place", "ring", "often"] ["place", "ring"] (defScope (top 22)) := ⟨rfl, rfl, rfl, by decide +kernel, rfl, by decide +kernel, by decide +kernel⟩
theorem ok_led_back (D : Df K mg "led_back" (top 22) ["place", "ring"]) (T : Tx K mg) (F_times : Fn P w K mg base 2 "times" ["one", "other"] (sp_times K)) (F_minus : Fn P w K mg base 3 "minus" ["one", "other"] (sp_minus K)) : Fn P w K mg base 4 "led_back" ["place", "ring"] (sp_led_back K) := by
  refine D.ok0 sc_led_back (fun vs H Q E h => ?_) (fun f cdv A outer s H vs Q E hr h => ?_)
  · obtain ⟨p, x, q, y, rfl, _⟩ := h
    rfl
  obtain ⟨p, x, q, y, rfl, hp, dx, hq, dy, y0, k⟩ := h
  refine ⟨_, (pss_cons (ps_set (i := 2) sc_led_back.nd rfl (Or.inl rfl) (pe_op op_fdivB (pe_op op_mulB (pe_ix ix_tup (pv 0) pe_int (fun _ _ => rfl)) (pe_ix ix_tup (pv 1) pe_int (fun _ _ => rfl))) (pe_op op_mulB (pe_ix ix_tup (pv 0) pe_int (fun _ _ => rfl)) (pe_ix ix_tup (pv 1) pe_int (fun _ _ => rfl)))))
      (pss_one (ps_ret (pe_fn F_minus (by decide) hr (by rfl) passE0 (pa_cons (pv 0) (pa_cons (pe_fn F_times (by decide) hr (by rfl) passE0 (pa_cons (pe_tup (pa_cons (pv 2) (pa_cons pe_int pa_nil))) (pa_cons (pv 1) pa_nil))) pa_nil)))))), ?_⟩
  have b0 : 0 < ((x.den : Nat) : Int) * y.num := Int.mul_pos (by have := x.den_pos; omega) (q_numpos y0)
  have bo : Bd (800 + 300) (Int.fdiv (x.num * ((y.den : Nat) : Int)) (((x.den : Nat) : Int) * y.num)) := fdiv_bd b0 (dx.1.mul dy.2)
  refine ⟨_, rfl, p, _, _, _, rfl, rfl, hp, rfl, _, rfl, q, _, _, _, rfl, rfl, hq, rfl, _, _, rfl, rfl, dx.1.ok dy.2 (by omega), _, rfl, p, _, _, _, rfl, rfl, hp, rfl, _, rfl, q, _, _, _, rfl, rfl, hq, rfl, _, _, rfl, rfl, dx.2.ok dy.1 (by omega), _, _, rfl, rfl, ⟨by omega, ((dx.2.mul dy.1).mono (by decide)).log⟩, ?_⟩
  refine ⟨_, rfl, _, rfl, by show 2 ≤ sizeLine; decide, ?_⟩
  intro p2 n2
  obtain ⟨H2, q2, s2, e2⟩ := newO n2 (.tup [.int (Int.fdiv (x.num * ((y.den : Nat) : Int)) (((x.den : Nat) : Int) * y.num)), .int 1])
  rw [q2]
  clear q2
  have g2 := FQ.ofInt (SqT.of (K := K) e2)
  have d2 := FB.ofInt bo (by decide)
  refine ⟨_, rfl, p2, _, q, y, rfl, g2, d2.mono (by decide), Kw.Same.tup s2 hq, dy.mono (by decide), fun r3 H3 s3 g3 => ?_⟩
  have d3 := FB.mul d2 dy
  refine ⟨p, x, r3, _, rfl, Kw.Same.tup (s2.trans s3) hp, dx.mono (by decide), g3, d3.mono (by decide), fun r4 H4 s4 g4 => ?_⟩
  exact k r4 H4 (s2.trans (s3.trans s4)) g4 ((FB.sub dx d3).mono (by decide))
noncomputable def sp_pace_of (K : PySem.W.Frag) : Sp := fun vs H Q _ => ∃ (p a c : Addr) (v : Rat) (m : Int), vs = [.ref p] ∧ SqT K H p [.ref a, .ref c, .int m] ∧ FQ K H c v ∧ ∀ (r : Addr) (H1 : Hp), Same H H1 → H1 r = some (.tup ((keyQ (absQ v)).map kV)) → Q (.ref r) H1
theorem sc_pace_of : FnScope ["body"] ["body"] (defScope (top 23)) := ⟨rfl, rfl, rfl, by decide +kernel, rfl, by decide +kernel, by decide +kernel⟩
theorem ok_pace_of (D : Df K mg "pace_of" (top 23) ["body"]) (T : Tx K mg) : Fn P w K mg base 1 "pace_of" ["body"] (sp_pace_of K) := by
  refine D.ok0 sc_pace_of (fun vs H Q E h => ?_) (fun f cdv A outer s H vs Q E hr h => ?_)
  · obtain ⟨p, a, c, v, m, rfl, _⟩ := h
    rfl
  obtain ⟨p, a, c, v, m, rfl, hp, gc, k⟩ := h
  refine ⟨_, (pss_one (ps_ret (pe_tup (pa_cons (pe_callB call_abs (by rfl) T.b_abs PyProof.Rows.Boot.«abs» (pa_cons (pe_ix ix_tup (pe_ix ix_tup (pv 0) pe_int (fun _ _ => rfl)) pe_int (fun _ _ => rfl)) pa_nil)) (pa_cons (pe_ix ix_tup (pe_ix ix_tup (pv 0) pe_int (fun _ _ => rfl)) pe_int (fun _ _ => rfl)) pa_nil))))), ?_⟩
  refine ⟨_, rfl, p, _, _, _, rfl, rfl, hp, rfl, c, _, _, _, rfl, rfl, gc, rfl, _, rfl, _, rfl, p, _, _, _, rfl, rfl, hp, rfl, c, _, _, _, rfl, rfl, gc, rfl, by show 2 ≤ sizeLine; decide, ?_⟩
  intro p2 n2
  obtain ⟨H2, q2, s2, e2⟩ := newO n2 (.tup [.int (if v.num < 0 then -v.num else v.num), .int ((v.den : Nat) : Int)])
  rw [q2]
  clear q2
  rw [← (abs_num v).1, ← (abs_num v).2] at e2
  exact k p2 H2 s2 e2
noncomputable def sp_ring_spot (K : PySem.W.Frag) : Sp := fun vs H Q _ => ∃ (p a c : Addr) (x v : Rat) (m : Int) (q : Addr) (L : Rat), vs = [.ref p, .ref q] ∧ SqT K H p [.ref a, .ref c, .int m] ∧ FQ K H a x ∧ FQ K H c v ∧ FB 64 x ∧ FB 64 v ∧ FQ K H q (L + L) ∧ FB 130 (L + L) ∧ ∀ (r : Addr) (H1 : Hp), Same H H1 → FQ K H1 r (ringQ L (x, v, m)) → FB 200 (ringQ L (x, v, m)) → Q (.ref r) H1
theorem sc_ring_spot : FnScope ["body", "ring"] ["body", "ring"] (defScope (top 24)) := ⟨rfl, rfl, rfl, by decide +kernel, rfl, by decide +kernel, by decide +kernel⟩
theorem ok_ring_spot (D : Df K mg "ring_spot" (top 24) ["body", "ring"]) (T : Tx K mg) (F_minus : Fn P w K mg base 3 "minus" ["one", "other"] (sp_minus K)) (F_under : Fn P w K mg base 1 "under" ["one", "other"] (sp_under K)) : Fn P w K mg base 4 "ring_spot" ["body", "ring"] (sp_ring_spot K) := by
  refine D.ok0 sc_ring_spot (fun vs H Q E h => ?_) (fun f cdv A outer s H vs Q E hr h => ?_)
  · obtain ⟨p, a, c, x, v, m, q, L, rfl, _⟩ := h
    rfl
  obtain ⟨p, a, c, x, v, m, q, L, rfl, hp, ga, gc, da, dc, gR, dR, k⟩ := h
  refine ⟨_, (pss_one (ps_ret (pe_ifExp (pt_val (pe_fn F_under (by decide) hr (by rfl) passE0 (pa_cons (pe_ix ix_tup (pv 0) pe_int (fun _ _ => rfl)) (pa_cons (pe_globT (K := K) rfl (by rfl) T.k_NOUGHT) pa_nil))) (fun _ => rfl)) (pe_fn F_minus (by decide) hr (by rfl) passE0 (pa_cons (pv 1) (pa_cons (pe_ix ix_tup (pv 0) pe_int (fun _ _ => rfl)) pa_nil))) (pe_ix ix_tup (pv 0) pe_int (fun _ _ => rfl))))), ?_⟩
  refine ⟨_, rfl, p, _, _, _, rfl, rfl, hp, rfl, fun N hN => ?_⟩
  have gN : FQ K H N (((0 : Int)) : Rat) := hN _
  have dN : FB 8900 (((0 : Int)) : Rat) := (FB.ofInt (Bd.small (i := 0) (by decide) (by decide)) (by decide)).mono (by decide)
  have eN : (((0 : Int)) : Rat) = 0 := rfl
  refine ⟨c, v, N, _, rfl, gc, dc.mono (by decide), gN, dN, fun H1 s1 => ⟨_, rfl, ?_⟩⟩
  have ri : ringQ L (x, v, m) = if v < 0 then L + L - x else x := rfl
  rw [ri] at k
  refine if_dec (fun cn => ?_) (fun cn => ?_)
  · rw [eN] at cn
    rw [if_pos cn] at k
    have hp1 := Kw.Same.tup s1 hp
    refine ⟨_, rfl, _, rfl, p, _, _, _, rfl, rfl, hp1, rfl, q, _, a, x, rfl, Kw.Same.tup s1 gR, dR.mono (by decide), Kw.Same.tup s1 ga, da.mono (by decide), fun r2 H2 s2 g2 => ?_⟩
    exact k r2 H2 (s1.trans s2) g2 ((FB.sub dR da).mono (by decide))
  · rw [eN] at cn
    rw [if_neg cn] at k
    have hp1 := Kw.Same.tup s1 hp
    refine ⟨_, rfl, p, _, _, _, rfl, rfl, hp1, rfl, ?_⟩
    exact k a H1 s1 (Kw.Same.tup s1 ga) (da.mono (by decide))
noncomputable def sp_fits (K : PySem.W.Frag) : Sp := fun vs H Q _ => ∃ (p : Addr) (xs : List V) (S : List Rat) (u : Addr) (y : Rat) (q : Addr) (R : Rat), vs = [.ref p, .ref u, .ref q] ∧ H p = some (.lst xs) ∧ Al2 (FrQ K H 200) xs S ∧ S.length ≤ 12 ∧ FQ K H u y ∧ FB 200 y ∧ FQ K H q R ∧ FB 130 R ∧ 0 < R ∧ ∀ (b : Bool) (H1 : Hp), (b = true ↔ FitW S R y) → Same H H1 → Q (.bl b) H1
theorem sc_fits : FnScope ["spots", "way", "ring"] ["spots", "way", "ring"] (defScope (top 25)) := ⟨rfl, rfl, rfl, by decide +kernel, rfl, by decide +kernel, by decide +kernel⟩
theorem ok_fits (D : Df K mg "fits" (top 25) ["spots", "way", "ring"]) (T : Tx K mg) (F_led_back : Fn P w K mg base 4 "led_back" ["place", "ring"] (sp_led_back K)) (F_plus : Fn P w K mg base 2 "plus" ["one", "other"] (sp_plus K)) : Fn P w K mg base 5 "fits" ["spots", "way", "ring"] (sp_fits K) := by
  refine D.ok0 sc_fits (fun vs H Q E h => ?_) (fun f cdv A outer s H vs Q E hr h => ?_)
  · obtain ⟨p, xs, S, u, y, q, R, rfl, _⟩ := h
    rfl
  obtain ⟨p, xs, S, u, y, q, R, rfl, hp, al, l12, gw, dw, gR, dR, R0, k⟩ := h
  refine ⟨_, (pss_one (ps_ret (pe_callB (call_all (K := K) rfl rfl) (by rfl) T.b_all PyProof.Rows.Boot.«all» (pa_cons (@pe_lc _ _ _ _ _ _ _ _ _ _ ["spots", "ring", "way"] [0, 2, 1] rfl (pi_list (pv 0)) rfl (by decide) rfl (by decide) rfl (by decide) (cap_three (j := 0) (j' := 2) (j'' := 1) rfl rfl rfl rfl (.inl rfl) rfl rfl rfl rfl (.inl rfl) rfl rfl rfl rfl (.inl rfl)) (cl_three rfl rfl rfl) (cap_fr rfl) (fun C z Hc fp => (pe_cmpR (op_inL (K := K) rfl (u100 hr)) (pe_fn F_led_back (by decide) hr (by rfl) passE0 (pa_cons (pe_fn F_plus (by decide) hr (by rfl) passE0 (pa_cons (pv 0) (pa_cons (pv 3) pa_nil))) (pa_cons (pv 2) pa_nil))) (pv 1) (by first | rfl | with_unfolding_all rfl))) (fun _ => rfl)) pa_nil)))), ?_⟩
  have hz := Al2.len al
  refine ⟨_, rfl, p, rfl, ⟨_, SqL.of hp⟩, lc_list (K := K) (xs := xs) (fun i ys H1 => i ≤ xs.length ∧ Same H H1 ∧ ys = ((S.take i).map fun s => decide (spotQ (s + y) R ∈ S)).map V.bl) ⟨Nat.zero_le _, Same.refl H, rfl⟩ (by rw [hz]; exact Nat.le_trans l12 (by decide)) (fun i ys H1 z => by obtain ⟨l, _, e⟩ := z; rw [e]; simp; omega) (fun i ys H1 z => by obtain ⟨_, g, _⟩ := z; exact SqL.of (g _ _ hp)) ?_ ?_⟩
  · rintro i x ys H1 Q1 hx ⟨hl, sm, hy⟩ kq
    have hi : i < xs.length := (List.getElem?_eq_some_iff.mp hx).1
    obtain ⟨s, hs, ps, rfl, gs, ds⟩ := Al2.get (frs_same al sm) hx
    refine ⟨_, rfl, _, rfl, ps, s, u, y, rfl, gs, ds.mono (by decide), Kw.Same.tup sm gw, dw.mono (by decide), fun r2 H2 s2 g2 => ?_⟩
    have d2 := FB.add ds dw
    have sm2 := sm.trans s2
    refine ⟨_, rfl, r2, _, q, R, rfl, g2, d2.mono (by decide), Kw.Same.tup sm2 gR, dR.mono (by decide), R0, fun r3 H3 s3 g3 d3 => ?_⟩
    have sm3 := sm2.trans s3
    refine ⟨_, rfl, r3, _, p, xs, S, 200, rfl, rfl, g3, sm3 _ _ hp, frs_same al sm3, ?_⟩
    refine kq _ _ ⟨hi, sm3, ?_⟩
    rw [hy, take_snoc hs, List.map_append, List.map_append]
    rfl
  · rintro ys H1 ⟨_, sm, hy⟩ pl hpl
    rw [hz, List.take_length] at hy
    obtain ⟨H2, q2, s2, e2⟩ := newO hpl (.lst ys)
    rw [q2]
    clear q2
    rw [hy] at e2
    refine ⟨pl, _, rfl, SqL.of e2, k _ _ ?_ (sm.trans s2)⟩
    rw [List.all_eq_true]
    unfold FitW
    constructor
    · intro h s hs
      have z := h _ (List.mem_map.mpr ⟨s, hs, rfl⟩)
      exact of_decide_eq_true z
    · intro h b hb
      obtain ⟨s, hs, rfl⟩ := List.mem_map.mp hb
      exact decide_eq_true (h s hs)
noncomputable def sp_least_way (K : PySem.W.Frag) : Sp := fun vs H Q _ => ∃ (p : Addr) (xs : List V) (S : List Rat) (q : Addr) (R : Rat), vs = [.ref p, .ref q] ∧ H p = some (.lst xs) ∧ Al2 (FrQ K H 200) xs S ∧ 1 ≤ S.length ∧ S.length ≤ 12 ∧ (∀ s ∈ S, 0 ≤ s ∧ s < R) ∧ FQ K H q R ∧ FB 130 R ∧ 0 < R ∧ ∀ (n : Nat) (r : Addr) (H1 : Hp), 1 ≤ n → (∀ y, FitW S R y ↔ ∃ k : Int, y = k * (R / (n : Rat))) → Same H H1 → FQ K H1 r (R / (n : Rat)) → FB 194 (R / (n : Rat)) → Q (.ref r) H1
theorem sc_least_way : FnScope ["spots", "ring", "parts"] ["spots", "ring"] (defScope (top 26)) := ⟨rfl, rfl, rfl, by decide +kernel, rfl, by decide +kernel, by decide +kernel⟩
theorem ok_least_way (D : Df K mg "least_way" (top 26) ["spots", "ring"]) (T : Tx K mg) (F_fits : Fn P w K mg base 5 "fits" ["spots", "way", "ring"] (sp_fits K)) (F_over : Fn P w K mg base 3 "over" ["one", "other"] (sp_over K)) : Fn P w K mg base 6 "least_way" ["spots", "ring"] (sp_least_way K) := by
  refine D.ok0 sc_least_way (fun vs H Q E h => ?_) (fun f cdv A outer s H vs Q E hr h => ?_)
  · obtain ⟨p, xs, S, q, R, rfl, _⟩ := h
    rfl
  obtain ⟨p, xs, S, q, R, rfl, hp, al, l1, l12, inS, gR, dR, R0, k⟩ := h
  refine ⟨_, (pss_cons (ps_set (i := 2) sc_least_way.nd rfl (Or.inl rfl) (pe_callB call_len (by rfl) T.b_len PyProof.Rows.Boot.«len» (pa_cons (pv 0) pa_nil)))
      (pss_cons (ps_while PassesOwn.never (pt_not (pt_val (pe_fn F_fits (by decide) hr (by rfl) passE0 (pa_cons (pv 0) (pa_cons (pe_fn F_over (by decide) hr (by rfl) passE0 (pa_cons (pv 1) (pa_cons (pe_tup (pa_cons (pv 2) (pa_cons pe_int pa_nil))) pa_nil))) (pa_cons (pv 1) pa_nil)))) (fun _ => rfl))) (pss_one (ps_aug (i := 2) sc_least_way.nd rfl (Or.inl rfl) pe_int ip_sub)))
      (pss_one (ps_ret (pe_fn F_over (by decide) hr (by rfl) passE0 (pa_cons (pv 1) (pa_cons (pe_tup (pa_cons (pv 2) (pa_cons pe_int pa_nil))) pa_nil))))))), ?_⟩
  have hz := Al2.len al
  have hn : S ≠ [] := fun e => by rw [e] at l1; exact absurd l1 (by decide)
  obtain ⟨n, n1, nS, hall, most⟩ := FitW.all R0 inS hn
  refine ⟨_, rfl, _, _, rfl, .inl ⟨_, SqL.of hp, rfl⟩, ?_⟩
  refine ⟨fun m σ1 H1 => ∃ j : Nat, σ1 = [some (.ref p), some (.ref q), some (.int (j : Int))] ∧ Same H H1 ∧ m = j ∧ n ≤ j ∧ j ≤ S.length, ⟨_, xs.length, rfl, Same.refl _, rfl, by omega, by omega⟩, ?_⟩
  rintro m σ1 H1 ⟨j, rfl, s1, rfl, nj, jS⟩
  have j0 : ((m : Int) : Rat) ≠ 0 := by have := rat_pos (q := m) (by omega); have z : (((m : Nat) : Int) : Rat) = (m : Rat) := rfl; rw [z]; grind
  have ej : R / ((m : Int) : Rat) = R / (m : Rat) := rfl
  have dj : FB 64 ((m : Int) : Rat) := FB.ofInt (Bd.small (by omega) (by omega)) (by decide)
  refine ⟨_, rfl, _, rfl, _, rfl, by show 2 ≤ sizeLine; decide, ?_⟩
  intro p2 n2
  obtain ⟨H2, q2, s2, e2⟩ := newO n2 (.tup [.int (m : Int), .int 1])
  rw [q2]
  clear q2
  have g2 : FQ K H2 p2 ((m : Int) : Rat) := FQ.ofInt (SqT.of e2)
  have s12 := s1.trans s2
  refine ⟨q, R, p2, _, rfl, Kw.Same.tup s12 gR, dR.mono (by decide), g2, dj.mono (by decide), j0, fun r3 H3 s3 g3 => ?_⟩
  have d3 := FB.div dR dj j0
  have s13 := s12.trans s3
  refine ⟨_, rfl, p, xs, S, r3, _, q, R, rfl, s13 _ _ hp, frs_same al s13, l12, g3, d3.mono (by decide), Kw.Same.tup s13 gR, dR, R0, fun b H4 hb s4 => ⟨_, rfl, ?_⟩⟩
  have s14 := s13.trans s4
  rw [ej] at hb
  cases b with
  | false =>
    have nf : ¬ FitW S R (R / (m : Rat)) := fun z => Bool.noConfusion (hb.mpr z)
    refine iteT ?_
    have ne : n ≠ m := fun e => nf ((hall _).mpr ⟨1, by rw [e]; have z : ((1 : Int) : Rat) = 1 := rfl; rw [z]; grind⟩)
    refine ⟨_, fun _ _ n => n, ?_⟩
    refine ⟨_, rfl, _, _, rfl, rfl, ?_⟩
    exact ⟨m - 1, by omega, m - 1, by rw [show ((m - 1 : Nat) : Int) = (m : Int) - 1 by omega]; rfl, s14, rfl, by omega, by omega⟩
  | true =>
    have fit := hb.mp rfl
    refine iteF ?_
    have em : m = n := by have := most m (by omega) fit; omega
    subst em
    refine ⟨_, rfl, _, rfl, by show 2 ≤ sizeLine; decide, ?_⟩
    intro p5 n5
    obtain ⟨H5, q5, s5, e5⟩ := newO n5 (.tup [.int (m : Int), .int 1])
    rw [q5]
    clear q5
    have g5 : FQ K H5 p5 ((m : Int) : Rat) := FQ.ofInt (SqT.of e5)
    have s15 := s14.trans s5
    refine ⟨q, R, p5, _, rfl, Kw.Same.tup s15 gR, dR.mono (by decide), g5, dj.mono (by decide), j0, fun r6 H6 s6 g6 => ?_⟩
    exact k m r6 H6 n1 hall (s15.trans s6) g6 d3
noncomputable def sp_common_multiple (K : PySem.W.Frag) : Sp := fun vs H Q _ => ∃ (p : Addr) (x : Rat) (q : Addr) (y : Rat), vs = [.ref p, .ref q] ∧ FQ K H p x ∧ FB 4000 x ∧ FQ K H q y ∧ FB 4000 y ∧ 0 < x ∧ 0 < y ∧ ∀ (r : Addr) (H1 : Hp), Same H H1 → FQ K H1 r (lcmQ x y) → Q (.ref r) H1
theorem sc_common_multiple : FnScope ["one", "other", "top"] ["one", "other"] (defScope (top 27)) := ⟨rfl, rfl, rfl, by decide +kernel, rfl, by decide +kernel, by decide +kernel⟩
theorem ok_common_multiple (D : Df K mg "common_multiple" (top 27) ["one", "other"]) (T : Tx K mg) (F_common_divisor : Fn P w K mg base 1 "common_divisor" ["one", "other"] spGcdB) (F_fraction : Fn P w K mg base 2 "fraction" ["top", "bottom"] (sp_fraction K)) : Fn P w K mg base 3 "common_multiple" ["one", "other"] (sp_common_multiple K) := by
  refine D.ok0 sc_common_multiple (fun vs H Q E h => ?_) (fun f cdv A outer s H vs Q E hr h => ?_)
  · obtain ⟨p, x, q, y, rfl, _⟩ := h
    rfl
  obtain ⟨p, x, q, y, rfl, hp, dx, hq, dy, x0, y0, k⟩ := h
  refine ⟨_, (pss_cons (ps_set (i := 2) sc_common_multiple.nd rfl (Or.inl rfl) (pe_op op_mulB (pe_op op_fdivB (pe_ix ix_tup (pv 0) pe_int (fun _ _ => rfl)) (pe_fn F_common_divisor (by decide) hr (by rfl) passE0 (pa_cons (pe_ix ix_tup (pv 0) pe_int (fun _ _ => rfl)) (pa_cons (pe_ix ix_tup (pv 1) pe_int (fun _ _ => rfl)) pa_nil)))) (pe_ix ix_tup (pv 1) pe_int (fun _ _ => rfl))))
      (pss_one (ps_ret (pe_fn F_fraction (by decide) hr (by rfl) passE0 (pa_cons (pv 2) (pa_cons (pe_fn F_common_divisor (by decide) hr (by rfl) passE0 (pa_cons (pe_ix ix_tup (pv 0) pe_int (fun _ _ => rfl)) (pa_cons (pe_ix ix_tup (pv 1) pe_int (fun _ _ => rfl)) pa_nil))) pa_nil)))))), ?_⟩
  have nx := q_numpos x0
  have ny := q_numpos y0
  have g0 := gpos (a := x.num) (show y.num ≠ 0 by omega)
  have bg := bd_gcdR (a := x.num) (show y.num ≠ 0 by omega) dy.1
  have dg : ((Int.gcd x.num y.num : Nat) : Int) ∣ x.num := Int.gcd_dvd_left ..
  have li := (lcm_is x0 y0).1
  refine ⟨_, rfl, p, _, _, _, rfl, rfl, hp, rfl, _, rfl, p, _, _, _, rfl, rfl, hp, rfl, _, rfl, q, _, _, _, rfl, rfl, hq, rfl, _, _, rfl, dy.1, ?_⟩
  generalize hg : ((Int.gcd x.num y.num : Nat) : Int) = g at g0 bg dg li ⊢
  have g1 : g ≠ 0 := by omega
  refine ⟨_, _, rfl, rfl, ⟨g1, (bg.mono (n := 9000) (by decide)).log⟩, _, rfl, q, _, _, _, rfl, rfl, hq, rfl, _, _, rfl, rfl, (bd_quot dx.1 dg g1).ok dy.1 (by decide), ?_⟩
  refine ⟨_, rfl, _, rfl, p, _, _, _, rfl, rfl, hp, rfl, _, rfl, q, _, _, _, rfl, rfl, hq, rfl, _, _, rfl, dy.2, ?_⟩
  have h0 := gpos (a := ((x.den : Nat) : Int)) (q_ne y)
  have bh := bd_gcdR (a := ((x.den : Nat) : Int)) (q_ne y) dy.2
  refine ⟨_, _, rfl, bh, by omega, fun r H1 s1 g1 => ?_⟩
  exact k r H1 s1 (g1.cast li)
noncomputable def sp_spots_by_pace (K : PySem.W.Frag) : Sp := fun vs H Q _ => ∃ (p : Addr) (xs : List V) (bs : List Bod) (q : Addr) (L : Rat), vs = [.ref p, .ref q] ∧ H p = some (.lst xs) ∧ Al2 (BdQ K H 64) xs bs ∧ bs.length ≤ 12 ∧ FQ K H q (L + L) ∧ FB 130 (L + L) ∧ ∀ (d : Addr) (ds : List (Rat × Addr)) (H1 : Hp), Same H H1 → H d = none → DI K H H1 L bs d ds → Q (.ref d) H1
theorem sc_spots_by_pace : FnScope ["world", "ring", "spots", "body", "pace"] ["world", "ring"] (defScope (top 28)) := ⟨rfl, rfl, rfl, by decide +kernel, rfl, by decide +kernel, by decide +kernel⟩
theorem ok_spots_by_pace (D : Df K mg "spots_by_pace" (top 28) ["world", "ring"]) (T : Tx K mg) (F_pace_of : Fn P w K mg base 1 "pace_of" ["body"] (sp_pace_of K)) (F_ring_spot : Fn P w K mg base 4 "ring_spot" ["body", "ring"] (sp_ring_spot K)) : Fn P w K mg base 5 "spots_by_pace" ["world", "ring"] (sp_spots_by_pace K) := by
  refine D.ok0 sc_spots_by_pace (fun vs H Q E h => ?_) (fun f cdv A outer s H vs Q E hr h => ?_)
  · obtain ⟨p, xs, bs, q, L, rfl, _⟩ := h
    rfl
  obtain ⟨p, xs, bs, q, L, rfl, hp, al, l12, gR, dR, k⟩ := h
  refine ⟨_, (pss_cons (ps_set (i := 2) sc_spots_by_pace.nd rfl (Or.inl rfl) pe_dnewT)
      (pss_cons (ps_for PassesOwn.never rfl (pi_list (pv 0)) (pg_name (i := 3) sc_spots_by_pace.nd rfl (Or.inl rfl)) (pss_cons (ps_set (i := 4) sc_spots_by_pace.nd rfl (Or.inl rfl) (pe_fn F_pace_of (by decide) hr (by rfl) passE0 (pa_cons (pv 3) pa_nil)))
      (pss_one (ps_if (pt_cmpR (op_neQ (K := K) rfl (u100 hr)) (pv 4) (pe_globT (K := K) rfl (by rfl) T.k_NOUGHT) (nomark _)) (pss_one (ps_expr (pe_bm PySem.F.plainAttrs_list PySem.F.slot_list_append PySem.F.type_list_append mt_append (pe_bm PySem.F.plainAttrs_dict PySem.F.slot_dict_setdefault PySem.F.type_dict_setdefault (mt_setdef (u1_of (u100 hr))) (pv 2) (pa_cons (pv 4) (pa_cons (pe_lst pa_nil) pa_nil))) (pa_cons (pe_fn F_ring_spot (by decide) hr (by rfl) passE0 (pa_cons (pv 3) (pa_cons (pv 1) pa_nil))) pa_nil)))) pss_nil))))
      (pss_one (ps_ret (pv 2))))), ?_⟩
  have hz := Al2.len al
  refine fun d nd => ?_
  obtain ⟨H2, q2, s2, e2⟩ := newO nd (.dT [])
  rw [q2]
  clear q2
  have hp2 := s2 _ _ hp
  have np : p ≠ d := ne_of_none hp nd
  refine ⟨_, rfl, p, rfl, ⟨_, SqL.of hp2⟩, for_list (K := K) (a := p) (xs := xs) (fun i σ1 H1 => ∃ (u3 u4 : Option V) (ds : List (Rat × Addr)), σ1 = [some (.ref p), some (.ref q), some (.ref d), u3, u4] ∧ Same H H1 ∧ DI K H H1 L (bs.take i) d ds) ⟨_, _, [], rfl, s2, e2, (fun _ z => nomatch z), (fun _ z => nomatch z), (fun _ z => nomatch z), Nat.zero_le _⟩ (by rintro _ _ _ _ ⟨_, _, _, _, g, _⟩; exact SqL.of (g _ _ hp)) ?_ ?_⟩
  · rintro i x σ1 H3 hx ⟨u3, u4, ds, rfl, s3, di3⟩
    obtain ⟨b, hb, pb, pa, pc, rfl, x1, x2, x3, x4, x5, x6, x7⟩ := Al2.get (bds_same al s3) hx
    have hi : i < bs.length := (List.getElem?_eq_some_iff.mp hb).1
    have lt : (bs.take i).length ≤ i := by rw [List.length_take]; omega
    rw [take_snoc hb]
    refine ⟨_, rfl, pb, pa, pc, b.2.1, b.2.2, rfl, x1, x3, fun r4 H4 s4 e4 => ?_⟩
    have g4 : FQ K H4 r4 (absQ b.2.1) := SqT.of e4
    have di4 := di3.same s4
    have s04 := s3.trans s4
    refine ⟨_, rfl, fun N hN => ?_⟩
    have gN : FQ K H4 N (((0 : Int)) : Rat) := hN _
    have eN : (((0 : Int)) : Rat) = 0 := rfl
    refine ⟨_, _, _, _, rfl, rfl, g4, gN, _, rfl, ?_⟩
    refine if_not (fun c => ?_) (fun c => ?_)
    · rw [eN] at c
      have hv : b.2.1 ≠ 0 := fun z => c (by rw [z]; exact abs_zero.mpr rfl)
      refine ⟨_, rfl, .inr (.inr (.inl ⟨rfl, .inr ⟨_, di4.1⟩⟩)), _, rfl, by show 0 ≤ sizeLine; decide, ?_⟩
      intro p5 n5
      obtain ⟨H5, q5, s5, e5⟩ := newO n5 (.lst [])
      rw [q5]
      clear q5
      have di5 := di4.same s5
      have len5 : (ds.map kvQ).length < sizeLine := by rw [List.length_map]; exact Nat.lt_of_le_of_lt (Nat.le_trans di4.2.2.2.2 (show (bs.take i).length ≤ 12 by omega)) (by decide)
      refine ⟨d, ds.map kvQ, keyQ (absQ b.2.1), r4, .ref p5, rfl, rfl, di5.1, s5 _ _ e4, len5, fun v hv' => ?_, fun hn => ?_⟩
      · obtain ⟨e, he, e1, rfl⟩ := val_some hv'
        obtain ⟨n0, nd', ⟨ys, hy, aly⟩, _⟩ := di5.2.1 e he
        refine ⟨.inl ⟨rfl, _, SqL.of hy⟩, _, rfl, _, rfl, pb, pa, pc, b.1, b.2.1, b.2.2, q, L, rfl, Kw.Same.tup (s4.trans s5) x1, Kw.Same.tup (s4.trans s5) x2, Kw.Same.tup (s4.trans s5) x3, x4, x5, Kw.Same.tup (s04.trans s5) gR, dR, fun r6 H6 s6 g6 d6 => ?_⟩
        have hy6 := s6 _ _ hy
        have ly : ys.length < sizeLine := by
          rw [Al2.len aly]
          unfold spotsQ
          rw [List.length_map]
          exact Nat.lt_of_le_of_lt (Nat.le_trans (List.length_filter_le _ _) (show (bs.take i).length ≤ 12 by omega)) (by decide)
        refine ⟨e.2, _, _, rfl, rfl, hy6, ly, ?_⟩
        obtain ⟨H7, q7, s7, e7⟩ := newB (H := H6) (p := e.2) (.lst (ys ++ [.ref r6]))
        dsimp only
        rw [q7]
        clear q7
        have s06 := s04.trans (s5.trans s6)
        exact ⟨_, _, ds, rfl, same_then_but n0 s06 s7, (di5.same s6).old hv he e1 hy6 ⟨r6, rfl, g6, d6⟩ s7 e7⟩
      · have no := val_none hn
        obtain ⟨H6, q6, s6, e6⟩ := newB (H := H5) (p := d) (.dT (ds.map kvQ ++ [(keyQ (absQ b.2.1), .ref p5)]))
        rw [q6]
        clear q6
        have s05 := s04.trans s5
        have pd : p5 ≠ d := Ne.symm (ne_of_none di4.1 n5)
        have h56 := s6 _ _ pd e5
        have s06 : Same H H6 := same_then_but nd s05 s6
        have tk : ∀ {a : Addr} {zs : List V}, SqT K H4 a zs → SqT K H6 a zs := fun h => tup_keep di5.1 (fun _ z => nomatch z) (fun _ _ z => nomatch z) s6 (Kw.Same.tup s5 h)
        refine ⟨.inl ⟨rfl, _, SqL.of h56⟩, _, rfl, _, rfl, pb, pa, pc, b.1, b.2.1, b.2.2, q, L, rfl, tk (Kw.Same.tup s4 x1), tk (Kw.Same.tup s4 x2), tk (Kw.Same.tup s4 x3), x4, x5, Kw.Same.tup s06 gR, dR, fun r7 H7 s7 g7 d7 => ?_⟩
        have h57 := s7 _ _ h56
        refine ⟨p5, _, _, rfl, rfl, h57, by decide, ?_⟩
        obtain ⟨H8, q8, s8, e8⟩ := newB (H := H7) (p := p5) (.lst ([] ++ [.ref r7]))
        dsimp only
        rw [q8]
        clear q8
        have n50 : H p5 = none := none_of_sm s04 n5
        exact ⟨_, _, _, rfl, same_then_but n50 (s06.trans s7) s8, di5.new hv no n50 pd (fun e he => by obtain ⟨_, _, ⟨ys, hy, _⟩, _⟩ := di4.2.1 e he; exact ne_of_none hy n5) s6 e6 h56 s7 ⟨r7, rfl, g7, d7⟩ s8 e8⟩
    · rw [eN] at c
      exact ⟨_, _, ds, rfl, s04, di4.still (abs_zero.mp c)⟩
  · rintro σ1 H3 ⟨u3, u4, ds, rfl, s3, di3⟩
    rw [hz, List.take_length] at di3
    exact ⟨_, rfl, k d ds H3 s3 nd di3⟩
noncomputable def sp_round_of (K : PySem.W.Frag) : Sp := fun vs H Q _ => ∃ (p : Addr) (xs : List V) (bs : List Bod) (W : Int) (q : Addr) (L : Rat), vs = [.ref p, .ref q] ∧ H p = some (.lst xs) ∧ Al2 (BdQ K H 64) xs bs ∧ 1 ≤ bs.length ∧ bs.length ≤ 12 ∧ (∀ b ∈ bs, b.2.2 = W) ∧ FQ K H q L ∧ FB 64 L ∧ 0 < L ∧ (∀ b ∈ bs, Inrm L b) ∧ ∀ (v : V) (H1 : Hp), Same H H1 → DueV K H1 L bs v → Q v H1
theorem sc_round_of : FnScope ["world", "length", "ring", "spots", "whole", "pace", "moment"] ["world", "length"] (defScope (top 29)) := ⟨rfl, rfl, rfl, by decide +kernel, rfl, by decide +kernel, by decide +kernel⟩
theorem ok_round_of (D : Df K mg "round_of" (top 29) ["world", "length"]) (T : Tx K mg) (F_refuse_unlike : Fn P w K mg base 1 "refuse_unlike" ["world"] (sp_refuse_unlike K)) (F_refuse_outside : Fn P w K mg base 2 "refuse_outside" ["world", "length"] (sp_refuse_outside K)) (F_times : Fn P w K mg base 2 "times" ["one", "other"] (sp_times K)) (F_spots_by_pace : Fn P w K mg base 5 "spots_by_pace" ["world", "ring"] (sp_spots_by_pace K)) (F_over : Fn P w K mg base 3 "over" ["one", "other"] (sp_over K)) (F_least_way : Fn P w K mg base 6 "least_way" ["spots", "ring"] (sp_least_way K)) (F_common_multiple : Fn P w K mg base 3 "common_multiple" ["one", "other"] (sp_common_multiple K)) : Fn P w K mg base 7 "round_of" ["world", "length"] (sp_round_of K) := by
  refine D.ok0 sc_round_of (fun vs H Q E h => ?_) (fun f cdv A outer s H vs Q E hr h => ?_)
  · obtain ⟨p, xs, bs, W, q, L, rfl, _⟩ := h
    rfl
  obtain ⟨p, xs, bs, W, q, L, rfl, hp, al, l1, l12, hw, gL, dL, L0, ins, k⟩ := h
  refine ⟨_, (pss_cons (ps_expr (pe_fn F_refuse_unlike (by decide) hr (by rfl) passE0 (pa_cons (pv 0) pa_nil)))
      (pss_cons (ps_expr (pe_fn F_refuse_outside (by decide) hr (by rfl) passE0 (pa_cons (pv 0) (pa_cons (pv 1) pa_nil))))
      (pss_cons (ps_set (i := 2) sc_round_of.nd rfl (Or.inl rfl) (pe_fn F_times (by decide) hr (by rfl) passE0 (pa_cons (pe_globT (K := K) rfl (by rfl) T.k_TWO) (pa_cons (pv 1) pa_nil))))
      (pss_cons (ps_set (i := 3) sc_round_of.nd rfl (Or.inl rfl) (pe_fn F_spots_by_pace (by decide) hr (by rfl) passE0 (pa_cons (pv 0) (pa_cons (pv 2) pa_nil))))
      (pss_cons (ps_set (i := 4) sc_round_of.nd rfl (Or.inl rfl) pe_non)
      (pss_cons (ps_for PassesOwn.never rfl (pi_dict (pv 3)) (pg_name (i := 5) sc_round_of.nd rfl (Or.inl rfl)) (pss_cons (ps_set (i := 6) sc_round_of.nd rfl (Or.inl rfl) (pe_fn F_over (by decide) hr (by rfl) passE0 (pa_cons (pe_fn F_least_way (by decide) hr (by rfl) passE0 (pa_cons (pe_dget (u1_of (u100 hr)) (pv 3) (pv 5) (fun _ _ => rfl)) (pa_cons (pv 2) pa_nil))) (pa_cons (pv 5) pa_nil))))
      (pss_one (ps_set (i := 4) sc_round_of.nd rfl (Or.inl rfl) (pe_ifExp (pt_cmpR op_isN (pv 4) pe_non (nomark _)) (pv 6) (pe_fn F_common_multiple (by decide) hr (by rfl) passE0 (pa_cons (pv 4) (pa_cons (pv 6) pa_nil))))))))
      (pss_one (ps_ret (pv 4))))))))), ?_⟩
  have LL0 : 0 < L + L := by grind
  refine ⟨_, rfl, p, xs, bs, W, rfl, hp, bds_mono al (by decide), l1, l12, hw, fun H1 s1 => ?_⟩
  refine ⟨_, rfl, _, rfl, p, xs, bs, q, L, rfl, s1 _ _ hp, bds_same al s1, l12, Kw.Same.tup s1 gL, dL, ins, fun H2 s2 => ?_⟩
  have s02 := s1.trans s2
  refine fun N hN => ?_
  have gN : FQ K H2 N (((2 : Int)) : Rat) := hN _
  have dN : FB 64 (((2 : Int)) : Rat) := FB.ofInt (Bd.small (i := 2) (by decide) (by decide)) (by decide)
  refine ⟨_, rfl, N, _, q, L, rfl, gN, dN.mono (by decide), Kw.Same.tup s02 gL, dL.mono (by decide), fun r3 H3 s3 g3 => ?_⟩
  have e2L : (((2 : Int)) : Rat) * L = L + L := by have z : (((2 : Int)) : Rat) = 2 := rfl; rw [z]; grind
  have dR : FB 130 (L + L) := by rw [← e2L]; exact (FB.mul dN dL).mono (by decide)
  replace g3 : FQ K H3 r3 (L + L) := FQ.cast g3 e2L
  have s03 := s02.trans s3
  refine ⟨_, rfl, _, rfl, p, xs, bs, r3, L, rfl, s03 _ _ hp, bds_same al s03, l12, g3, dR, fun d ds H4 s4 nd di => ?_⟩
  have s04 := s03.trans s4
  have n0 : H d = none := none_of_sm s03 nd
  have inS := fun c => spots_in (c := c) L0 ins
  refine ⟨_, rfl, d, ds.map kvQ, rfl, di.1, fun o => ?_⟩
  obtain ⟨H5, q5, s5, e5⟩ := newB (H := H4) (p := d) (.frz o (.dT (ds.map kvQ)))
  rw [q5]
  clear q5
  have s05 : Same H H5 := same_then_but n0 s04 s5
  have g5 : FQ K H5 r3 (L + L) := tup_keep di.1 (fun _ z => nomatch z) (fun _ _ z => nomatch z) s5 (Kw.Same.tup s4 g3)
  refine for_dict (fun i σ' H' => ∃ (u5 u6 : Option V) (wh : V), σ' = [some (.ref p), some (.ref q), some (.ref r3), some (.ref d), some wh, u5, u6] ∧ Same H5 H' ∧ (i = 0 ∧ wh = .non ∨ 1 ≤ i ∧ ∃ (r : Addr) (T : Rat), wh = .ref r ∧ FQ K H' r T ∧ 0 < T ∧ FB (260 * i) T ∧ ∀ t, MulQ T t ↔ ∀ e ∈ ds.take i, FitW (spotsQ L bs e.1) (L + L) (e.1 * t))) ⟨_, _, _, rfl, Same.refl _, .inl ⟨rfl, rfl⟩⟩ (by rintro _ _ _ _ ⟨_, _, _, _, g, _⟩; exact g _ _ e5) ?_ ?_
  · rintro i kv b σ' H6 hk hb ⟨u5, u6, wh, rfl, s6, st⟩
    rw [List.getElem?_map] at hk
    obtain ⟨e, he, ekv⟩ := Option.map_eq_some_iff.mp hk
    subst ekv
    have hem := List.mem_of_getElem? he
    have hil : i < ds.length := (List.getElem?_eq_some_iff.mp he).1
    obtain ⟨_, ned, ⟨ys, hy, aly⟩, b', hb', hv', e1⟩ := di.2.1 e hem
    have dlen := di.2.2.2.2
    have gb : FQ K H6 b e.1 := SqT.of hb
    have de : FB 64 e.1 := by rw [← e1]; exact FB.abs (bds_fb al b' hb').2
    have ep : 0 < e.1 := by rw [← e1]; exact abs_pos hv'
    have e0 : e.1 ≠ 0 := by grind
    have hy6 := s6 _ _ (s5 _ _ ned hy)
    have al6 := frs_same (frs_dict aly s5 di.1) s6
    have lS : (spotsQ L bs e.1).length ≤ 12 := by
      unfold spotsQ
      rw [List.length_map]
      exact Nat.le_trans (List.length_filter_le _ _) l12
    have l1S : 1 ≤ (spotsQ L bs e.1).length := by
      have z := spots_ne (L := L) hb'
      rw [e1] at z
      exact List.length_pos_iff.mpr z
    refine ⟨_, rfl, _, rfl, d, .ref e.2, rfl, .inr ⟨_, keyQ e.1, b, .inr ⟨o, s6 _ _ e5⟩, rfl, hb, (di.val hem).symm⟩, _, rfl, e.2, ys, _, r3, _, rfl, hy6, al6, l1S, lS, inS e.1, Kw.Same.tup s6 g5, dR, LL0, fun n r7 H7 n1 hall s7 g7 d7 => ?_⟩
    refine ⟨_, rfl, r7, _, b, _, rfl, g7, d7.mono (by decide), Kw.Same.tup s7 gb, de.mono (by decide), e0, fun r8 H8 s8 g8 => ?_⟩
    have d8 : FB 260 ((L + L) / (n : Rat) / e.1) := (FB.div d7 de e0).mono (by decide)
    have p8 : 0 < (L + L) / (n : Rat) / e.1 := qdiv_pos (qdiv_pos LL0 (rat_pos n1)) ep
    have m8 : ∀ t, FitW (spotsQ L bs e.1) (L + L) (e.1 * t) ↔ MulQ ((L + L) / (n : Rat) / e.1) t := fun t => by
      rw [hall]
      exact pace_mul ep
    have tk : ∀ t, (∀ e' ∈ ds.take (i + 1), FitW (spotsQ L bs e'.1) (L + L) (e'.1 * t)) ↔ (∀ e' ∈ ds.take i, FitW (spotsQ L bs e'.1) (L + L) (e'.1 * t)) ∧ MulQ ((L + L) / (n : Rat) / e.1) t := fun t => by
      rw [take_snoc he, ← m8 t]
      constructor
      · intro h
        exact ⟨fun e' h' => h e' (List.mem_append_left _ h'), h e (List.mem_append_right _ (List.mem_singleton.mpr rfl))⟩
      · rintro ⟨h1, h2⟩ e' h'
        rcases List.mem_append.mp h' with z | z
        · exact h1 e' z
        · rw [List.mem_singleton.mp z]
          exact h2
    have s78 := s7.trans s8
    have s68 := s6.trans s78
    generalize hT : (L + L) / (n : Rat) / e.1 = M at g8 d8 p8 tk
    refine ⟨_, rfl, rfl, _, rfl, ?_⟩
    rcases st with ⟨rfl, rfl⟩ | ⟨i1, r, T, rfl, gT, T0, dT, hm⟩
    · refine if_dec (fun _ => ?_) (fun c => absurd rfl c)
      refine ⟨_, rfl, ?_⟩
      refine ⟨_, _, _, rfl, s68, .inr ⟨by decide, r8, M, rfl, g8, p8, d8, fun t => ?_⟩⟩
      rw [tk t]
      exact ⟨fun h => ⟨fun _ h' => (nomatch h'), h⟩, fun h => h.2⟩
    · refine if_dec (fun c => nomatch c) (fun _ => ?_)
      have i12 : i < 12 := by omega
      refine ⟨_, rfl, _, rfl, r, T, r8, M, rfl, Kw.Same.tup s78 gT, dT.mono (by omega), g8, d8.mono (by decide), T0, p8, fun r9 H9 s9 g9 => ?_⟩
      refine ⟨_, _, _, rfl, s68.trans s9, .inr ⟨by omega, r9, _, rfl, g9, lcm_pos T0 p8, (lcm_fb T0 p8 dT d8).mono (by omega), fun t => ?_⟩⟩
      rw [lcm_mul T0 p8, tk t, hm t]
  · rintro σ' H6 ⟨u5, u6, wh, rfl, s6, st⟩
    rw [List.length_map] at st
    refine ⟨_, rfl, ?_⟩
    rcases st with ⟨e0, rfl⟩ | ⟨i1, r, T, rfl, gT, T0, dT, hm⟩
    · refine k _ H6 (s05.trans s6) (.inl ⟨fun b hb => ?_, rfl⟩)
      by_cases hv : b.2.1 = 0
      · exact hv
      · obtain ⟨e, he, _⟩ := di.2.2.1 b hb hv
        rw [List.length_eq_zero_iff.mp e0] at he
        exact nomatch he
    · refine k _ H6 (s05.trans s6) (.inr ⟨?_, r, T, rfl, gT, T0, fun t => ?_⟩)
      · obtain ⟨_, _, _, b, hb, hv, _⟩ := di.2.1 ds[0] (List.getElem_mem _)
        exact ⟨b, hb, hv⟩
      · rw [hm t, List.take_length]
        exact di.goes
theorem sc_law_cell : FnScope ["_law_script", "_law_k"] ["_law_script", "_law_k"] (defScope (top 31)) := ⟨rfl, rfl, rfl, by decide +kernel, rfl, by decide +kernel, by decide +kernel⟩
theorem ok_law_cell (D : Df K mg "_law_cell" (top 31) ["_law_script", "_law_k"]) (T : Tx K mg) : Fn P w K mg base 1 "_law_cell" ["_law_script", "_law_k"] (spCell K) := by
  refine D.ok0 sc_law_cell (fun vs H Q E h => ?_) (fun f cdv A outer s H vs Q E hr h => ?_)
  · obtain ⟨a, k, rfl, _⟩ := h
    rfl
  obtain ⟨a, k, rfl, ⟨ns, hS, h63, hbd⟩, k0, k1, q⟩ := h
  refine ⟨_, (pss_cons (ps_if (pt_cmpR op_lt (pv 1) (pe_callB call_len (by rfl) T.b_len PyProof.Rows.Boot.«len» (pa_cons (pv 0) pa_nil)) (nomark _)) (pss_one (ps_ret (pe_ix ix_list (pv 0) (pv 1) (fun _ _ => rfl)))) pss_nil)
      (pss_one (ps_ret (pe_op op_add (pe_op op_mulB pe_int (pv 1)) pe_int)))), ?_⟩
  refine ⟨_, rfl, _, rfl, _, _, rfl, .inl ⟨_, hS, rfl⟩, _, _, rfl, rfl, _, rfl, ?_⟩
  refine if_dec (fun c => ?_) (fun c => ?_)
  · rw [List.length_map] at c
    have hk : k.toNat < ns.length := by omega
    have ek : k = ((k.toNat : Nat) : Int) := by omega
    have z : atI (ns.map V.int) ((k.toNat : Nat) : Int) = some (.int ns[k.toNat]) := atI_nat (by rw [List.getElem?_map, List.getElem?_eq_getElem hk] <;> rfl)
    rw [← ek] at z
    exact ⟨_, rfl, _, rfl, a, _, _, _, rfl, rfl, hS, z, q _ (hbd _ (List.getElem_mem hk))⟩
  · refine ⟨_, rfl, _, _, rfl, rfl, mulOk_smallL (by decide) (by decide), _, _, rfl, rfl, q _ ?_⟩
    exact (Bd.small (by omega) (by omega)).mono (by decide)
theorem sc_law_mix : FnScope ["_law_cell_here", "_law_k", "_law_number"] ["_law_cell_here", "_law_k"] (defScope (top 32)) := ⟨rfl, rfl, rfl, by decide +kernel, rfl, by decide +kernel, by decide +kernel⟩
theorem ok_law_mix (D : Df K mg "_law_mix" (top 32) ["_law_cell_here", "_law_k"]) (T : Tx K mg) : Fn P w K mg base 1 "_law_mix" ["_law_cell_here", "_law_k"] spMix := by
  refine D.ok0 sc_law_mix (fun vs H Q E h => ?_) (fun f cdv A outer s H vs Q E hr h => ?_)
  · obtain ⟨c, k, rfl, _⟩ := h
    rfl
  obtain ⟨c, k, rfl, hc, k0, k1, q⟩ := h
  refine ⟨_, (pss_cons (ps_set (i := 2) sc_law_mix.nd rfl (Or.inl rfl) (pe_op op_add (pe_op op_mulB (pe_op op_add (pv 0) pe_int) pe_int) (pe_op op_mulB pe_int (pv 1))))
      (pss_cons (ps_set (i := 2) sc_law_mix.nd rfl (Or.inl rfl) (pe_op op_add (pe_op op_mod (pe_op op_mulB (pv 2) (pv 2)) pe_int) (pv 1)))
      (pss_one (ps_ret (pe_op op_mod (pe_op op_mulB (pv 2) (pe_op op_add (pv 2) pe_int)) pe_int))))), ?_⟩
  have s1 : ∀ i : Int, -(2 ^ 64) < i → i < 2 ^ 64 → Bd 1048576 i := fun i h1 h2 => (Bd.small h1 h2).mono (by decide)
  have b1 : Bd 1048641 ((c + 1) * 40692) := ((hc.add (s1 1 (by decide) (by decide))).mul (Bd.small (i := 40692) (by decide) (by decide))).mono (by decide)
  have b2 : Bd 1048642 ((c + 1) * 40692 + 104729 * k) := (b1.add ((Bd.small (by omega) (by omega)).mono (by decide))).mono (by decide)
  refine ⟨_, rfl, _, _, rfl, rfl, _, _, rfl, rfl, mulOk_small (by decide) (by decide), _, rfl, _, _, rfl, rfl, mulOk_smallL (by decide) (by decide), _, _, rfl, rfl, ?_⟩
  refine ⟨_, rfl, _, rfl, _, _, rfl, rfl, b2.ok b2 (by decide), _, _, rfl, rfl, (by show (0 : Int) < 2147483399; decide), _, rfl, _, _, rfl, rfl, ?_⟩
  have e0 := Int.emod_nonneg (((c + 1) * 40692 + 104729 * k) * ((c + 1) * 40692 + 104729 * k)) (show (2147483399 : Int) ≠ 0 by decide)
  have e1 := Int.emod_lt_of_pos (((c + 1) * 40692 + 104729 * k) * ((c + 1) * 40692 + 104729 * k)) (show (0 : Int) < 2147483399 by decide)
  exact ⟨_, rfl, _, rfl, _, _, rfl, rfl, _, _, rfl, rfl, mulOk_smallL (by omega) (by omega), _, _, rfl, rfl, (by show (0 : Int) < 2147483563; decide), q _⟩
theorem sc_law_box : FnScope ["_law_script", "_law_k", "_law_here", "_law_number", "_law_j"] ["_law_script", "_law_k"] (defScope (top 33)) := ⟨rfl, rfl, rfl, by decide +kernel, rfl, by decide +kernel, by decide +kernel⟩
theorem ok_law_box (D : Df K mg "_law_box" (top 33) ["_law_script", "_law_k"]) (T : Tx K mg) (F_law_cell : Fn P w K mg base 1 "_law_cell" ["_law_script", "_law_k"] (spCell K)) (F_law_mix : Fn P w K mg base 1 "_law_mix" ["_law_cell_here", "_law_k"] spMix) :
    Fn P w K mg base 2 "_law_box" ["_law_script", "_law_k"] (spBox K) := by
  refine D.ok0 sc_law_box (fun vs H Q E h => ?_) (fun f cdv A outer s H vs Q E hr h => ?_)
  · obtain ⟨a, k, rfl, _⟩ := h
    rfl
  obtain ⟨a, k, rfl, hS, k0, k1, q⟩ := h
  refine ⟨_, (pss_cons (ps_set (i := 2) sc_law_box.nd rfl (Or.inl rfl) (pe_fn F_law_cell (by decide) hr (by rfl) passE0 (pa_cons (pv 0) (pa_cons (pv 1) pa_nil))))
      (pss_cons (ps_if (pt_cmpR op_eq (pe_op op_mod (pv 2) pe_int) pe_int (nomark _)) (pss_one (ps_ret (pe_lst (pa_cons (pe_op op_fdivB (pv 2) pe_int) pa_nil)))) pss_nil)
      (pss_cons (ps_set (i := 3) sc_law_box.nd rfl (Or.inl rfl) pe_int)
      (pss_cons (ps_for PassesOwn.never rfl (pi_range1 (by rfl) T.b_range (pa_cons pe_int pa_nil)) (pg_name (i := 4) sc_law_box.nd rfl (Or.inl rfl)) (pss_one (ps_set (i := 3) sc_law_box.nd rfl (Or.inl rfl) (pe_op op_add (pe_op op_mulB (pv 3) pe_int) (pe_fn F_law_mix (by decide) hr (by rfl) passE0 (pa_cons (pv 2) (pa_cons (pv 4) pa_nil)))))))
      (pss_one (ps_ret (pe_lst (pa_cons (pv 3) pa_nil)))))))), ?_⟩
  refine ⟨_, rfl, _, rfl, a, k, rfl, hS, k0, k1, fun c hc => ?_⟩
  refine ⟨_, rfl, _, _, rfl, rfl, (by show (0 : Int) < 2; decide), rfl, _, rfl, ?_⟩
  refine if_decI (fun z => ?_) (fun z => ?_)
  · refine ⟨_, rfl, _, _, rfl, rfl, ⟨by decide, by decide +kernel⟩, (by show 1 ≤ sizeLine; decide), fun p hp => ?_⟩
    exact q p _ _ hp (same_new hp _) upd_same
  refine ⟨_, rfl, by decide, by decide, for_range (n := 16) (fun i σ' H' => ∃ (n : Int) (r : Option V), σ' = [some (.ref a), some (.int k), some (.int c), some (.int n), r] ∧ H' = H) ⟨_, _, rfl, rfl⟩ ?_ ?_⟩
  · rintro i σ' H' hi ⟨n, r, rfl, rfl⟩
    refine ⟨_, rfl, _, _, rfl, rfl, mulOk_small (by decide) (by decide), _, rfl, _, rfl, c, _, rfl, hc, by omega, by omega, fun m => ?_⟩
    exact ⟨_, _, rfl, rfl, _, _, rfl, rfl⟩
  · rintro σ' H' ⟨n, r, rfl, rfl⟩
    refine ⟨_, rfl, (by show 1 ≤ sizeLine; decide), fun p hp => ?_⟩
    exact q p _ _ hp (same_new hp _) upd_same
theorem sc_law_take : FnScope ["_law_box_here", "_law_many", "_law_left", "_law_digit"] ["_law_box_here", "_law_many"] (defScope (top 34)) := ⟨rfl, rfl, rfl, by decide +kernel, rfl, by decide +kernel, by decide +kernel⟩
theorem ok_law_take (D : Df K mg "_law_take" (top 34) ["_law_box_here", "_law_many"]) (T : Tx K mg) : Fn P w K mg base 1 "_law_take" ["_law_box_here", "_law_many"] spTake := by
  refine D.ok0 sc_law_take (fun vs H Q E h => ?_) (fun f cdv A outer s H vs Q E hr h => ?_)
  · obtain ⟨b, m, n, rfl, _⟩ := h
    rfl
  obtain ⟨b, m, n, rfl, hb, m0, hm, q⟩ := h
  refine ⟨_, (pss_cons (ps_asg (pe_callB call_divmodB (by rfl) T.b_divmod PyProof.Rows.Boot.«divmod» (pa_cons (pe_ix ix_list (pv 0) pe_int (fun _ _ => rfl)) (pa_cons (pv 1) pa_nil))) (pg_tup rfl (pgs_cons (pg_name (i := 2) sc_law_take.nd rfl (Or.inl rfl)) (pgs_cons (pg_name (i := 3) sc_law_take.nd rfl (Or.inl rfl)) pgs_nil))))
      (pss_cons (ps_asg (pv 2) (pg_sub (pv 0) pe_int set_list))
      (pss_one (ps_ret (pv 3))))), ?_⟩
  refine ⟨_, rfl, b, _, _, _, rfl, rfl, SqL.of hb, rfl, _, rfl, n, m, rfl, ⟨m0, hm.log⟩, ?_⟩
  intro p hp0
  have sm := same_new hp0 (.tup [.int (n / m), .int (n % m)])
  have hp : upd H p (.tup [.int (n / m), .int (n % m)]) p = some (.tup [.int (n / m), .int (n % m)]) := upd_same
  refine ⟨p, _, rfl, SqT.of hp, rfl, _, _, rfl, _, _, rfl, rfl, ?_⟩
  refine ⟨_, rfl, _, rfl, b, _, _, 0, rfl, rfl, sm _ _ hb, rfl, _, rfl, ?_⟩
  have d0 := Int.emod_nonneg n (show m ≠ 0 by omega)
  have d1 := Int.emod_lt_of_pos n m0
  exact q (n % m) (n / m) _ d0 d1 ((But.of sm).trans (but_upd _)) upd_same
theorem sc_law_fit : FnScope ["_law_top", "_law_bottom", "_law_one", "_law_other"] ["_law_top", "_law_bottom"] (defScope (top 35)) := ⟨rfl, rfl, rfl, by decide +kernel, rfl, by decide +kernel, by decide +kernel⟩
theorem ok_law_fit0 (D : Df K mg "_law_fit" (top 35) ["_law_top", "_law_bottom"]) (T : Tx K mg) : Fn P w K mg base 1 "_law_fit" ["_law_top", "_law_bottom"] spFit := by
  refine D.ok0 sc_law_fit (fun vs H Q E h => ?_) (fun f cdv A outer s H vs Q E hr h => ?_)
  · obtain ⟨a, b, rfl, _⟩ := h
    rfl
  obtain ⟨a, b, rfl, c, hb, hq⟩ := h
  refine ⟨_, (pss_cons (ps_par (i := 2) (j := 3) rfl sc_law_fit.nd rfl rfl (by decide) rfl rfl (pa_cons (pe_callB call_abs (by rfl) T.b_abs PyProof.Rows.Boot.«abs» (pa_cons (pv 0) pa_nil)) (pa_cons (pe_callB call_abs (by rfl) T.b_abs PyProof.Rows.Boot.«abs» (pa_cons (pv 1) pa_nil)) pa_nil)) rfl)
      (pss_cons (ps_while PassesOwn.never (pt_cmpR op_gt (pv 3) pe_int (nomark _)) (pss_one (ps_par (i := 2) (j := 3) rfl sc_law_fit.nd rfl rfl (by decide) rfl rfl (pa_cons (pv 3) (pa_cons (pe_op op_mod (pv 2) (pv 3)) pa_nil)) rfl)))
      (pss_cons (ps_if (pt_cmpR op_lt (pv 1) pe_int (nomark _)) (pss_one (ps_set (i := 2) sc_law_fit.nd rfl (Or.inl rfl) (pe_op op_sub pe_int (pv 2)))) pss_nil)
      (pss_one (ps_ret (pe_tup (pa_cons (pe_op op_fdivB (pv 0) (pv 2)) (pa_cons (pe_op op_fdivB (pv 1) (pv 2)) pa_nil)))))))), ?_⟩
  refine ⟨_, rfl, _, rfl, _, rfl, _, rfl, _, _, rfl, ?_⟩
  refine ⟨fun m σ' H' => ∃ g s : Int, σ' = [some (.int a), some (.int b), some (.int g), some (.int s)] ∧ H' = H ∧ 0 ≤ g ∧ 0 ≤ s ∧ m = s.toNat ∧ Int.gcd g s = Int.gcd a b, ⟨_, _, _, rfl, rfl, abs_nn a, abs_nn b, rfl, gcd_abs a b⟩, ?_⟩
  rintro m σ' H' ⟨g, s, rfl, rfl, hg, hs, rfl, e⟩
  refine ⟨_, rfl, _, _, rfl, rfl, _, rfl, ?_⟩
  refine if_dec (fun c => ?_) (fun z => ?_)
  · refine ⟨_, fun _ _ n => n, ?_⟩
    refine ⟨_, rfl, _, rfl, _, rfl, _, _, rfl, rfl, c, _, _, rfl, ?_⟩
    have l := Int.emod_lt_of_pos g c
    have l0 := Int.emod_nonneg g (show s ≠ 0 by omega)
    exact ⟨_, by omega, s, g % s, rfl, rfl, by omega, l0, rfl, (gcd_step g s hg c).trans e⟩
  · have s0 : s = 0 := by omega
    subst s0
    have z := gcd_end g hg
    rw [e] at z
    subst z
    have hd : (if b < 0 then -((Int.gcd a b : Nat) : Int) else ((Int.gcd a b : Nat) : Int)) = dv a b := rfl
    have lg := (bd_dv (t := a) c hb).log
    refine ⟨_, rfl, _, _, rfl, rfl, _, rfl, ?_⟩
    refine if_dec (fun n => ?_) (fun n => ?_)
    · rw [if_pos n] at hd
      refine ⟨_, rfl, _, _, rfl, rfl, ?_⟩
      dsimp only
      rw [show (0 : Int) - ((Int.gcd a b : Nat) : Int) = dv a b by rw [← hd]; omega]
      refine ⟨_, rfl, _, rfl, _, _, rfl, rfl, ⟨dv_ne c, lg⟩, _, rfl, _, rfl, _, _, rfl, rfl, ⟨dv_ne c, lg⟩, by show 2 ≤ sizeLine; decide, ?_⟩
      exact rd_new fun p H' sm hp => hq p H' sm hp
    · rw [if_neg n] at hd
      rw [hd]
      refine ⟨_, rfl, _, rfl, _, _, rfl, rfl, ⟨dv_ne c, lg⟩, _, rfl, _, rfl, _, _, rfl, rfl, ⟨dv_ne c, lg⟩, by show 2 ≤ sizeLine; decide, ?_⟩
      exact rd_new fun p H' sm hp => hq p H' sm hp
noncomputable def sp_law_fit (K : PySem.W.Frag) : Sp := fun vs H Q _ => ∃ (a : Int) (b : Int), vs = [.int a, .int b] ∧ Bd 9000 b ∧ b ≠ 0 ∧ (∀ (p_r : Addr) (H1 : Hp), Same H H1 → FQ K H1 p_r (Rat.divInt a b) → Q (.ref p_r) H1)
theorem ok_law_fit (D : Df K mg "_law_fit" (top 35) ["_law_top", "_law_bottom"]) (T : Tx K mg) : Fn P w K mg base 1 "_law_fit" ["_law_top", "_law_bottom"] (sp_law_fit K) :=
  (ok_law_fit0 D T).imp fun vs H Q E h => by
    obtain ⟨a, b, rfl, hb, b0, k⟩ := h
    exact ⟨a, b, rfl, b0, hb, fun p H' s e => k p H' s (FQ.fit b0 (SqT.of e))⟩
noncomputable def sp_law_plus (K : PySem.W.Frag) : Sp := fun vs H Q _ => ∃ (p_x : Addr) (x : Rat) (n_x : Nat) (p_y : Addr) (y : Rat) (n_y : Nat), vs = [.ref p_x, .ref p_y] ∧ FQ K H p_x x ∧ FB n_x x ∧ FQ K H p_y y ∧ FB n_y y ∧ n_x + n_y ≤ 8950 ∧ (∀ (p_r : Addr) (H1 : Hp), Same H H1 → FQ K H1 p_r (x + y) → Q (.ref p_r) H1)
theorem sc_law_plus : FnScope ["_law_one", "_law_other"] ["_law_one", "_law_other"] (defScope (top 36)) := ⟨rfl, rfl, rfl, by decide +kernel, rfl, by decide +kernel, by decide +kernel⟩
theorem ok_law_plus (D : Df K mg "_law_plus" (top 36) ["_law_one", "_law_other"]) (T : Tx K mg) (F_law_fit : Fn P w K mg base 1 "_law_fit" ["_law_top", "_law_bottom"] (sp_law_fit K)) : Fn P w K mg base 2 "_law_plus" ["_law_one", "_law_other"] (sp_law_plus K) := by
  refine D.ok0 sc_law_plus (fun vs H Q E h => ?_) (fun f cdv A outer s H vs Q E hr h => ?_)
  · obtain ⟨p, x, n, q, y, m, rfl, _⟩ := h
    rfl
  obtain ⟨p, x, n, q, y, m, rfl, hp, dx, hq, dy, hn, k⟩ := h
  refine ⟨_, (pss_one (ps_ret (pe_fn F_law_fit (by decide) hr (by rfl) passE0 (pa_cons (pe_op op_add (pe_op op_mulB (pe_ix ix_tup (pv 0) pe_int (fun _ _ => rfl)) (pe_ix ix_tup (pv 1) pe_int (fun _ _ => rfl))) (pe_op op_mulB (pe_ix ix_tup (pv 1) pe_int (fun _ _ => rfl)) (pe_ix ix_tup (pv 0) pe_int (fun _ _ => rfl)))) (pa_cons (pe_op op_mulB (pe_ix ix_tup (pv 0) pe_int (fun _ _ => rfl)) (pe_ix ix_tup (pv 1) pe_int (fun _ _ => rfl))) pa_nil))))), ?_⟩
  refine ⟨_, rfl, p, _, _, _, rfl, rfl, hp, rfl, _, rfl, q, _, _, _, rfl, rfl, hq, rfl, _, _, rfl, rfl, dx.1.ok dy.2 (by omega), _, rfl, q, _, _, _, rfl, rfl, hq, rfl, _, rfl, p, _, _, _, rfl, rfl, hp, rfl, _, _, rfl, rfl, dy.1.ok dx.2 (by omega), _, _, rfl, rfl, _, rfl, p, _, _, _, rfl, rfl, hp, rfl, _, rfl, q, _, _, _, rfl, rfl, hq, rfl, _, _, rfl, rfl, dx.2.ok dy.2 (by omega), _, _, rfl, (dx.2.mul dy.2).mono (by omega), Int.mul_ne_zero (q_ne _) (q_ne _), fun r H1 s1 g1 => k r H1 s1 (FQ.cast g1 (q_add x y))⟩
noncomputable def sp_law_minus (K : PySem.W.Frag) : Sp := fun vs H Q _ => ∃ (p_x : Addr) (x : Rat) (n_x : Nat) (p_y : Addr) (y : Rat) (n_y : Nat), vs = [.ref p_x, .ref p_y] ∧ FQ K H p_x x ∧ FB n_x x ∧ FQ K H p_y y ∧ FB n_y y ∧ n_x + n_y ≤ 8950 ∧ (∀ (p_r : Addr) (H1 : Hp), Same H H1 → FQ K H1 p_r (x - y) → Q (.ref p_r) H1)
theorem sc_law_minus : FnScope ["_law_one", "_law_other"] ["_law_one", "_law_other"] (defScope (top 37)) := ⟨rfl, rfl, rfl, by decide +kernel, rfl, by decide +kernel, by decide +kernel⟩
theorem ok_law_minus (D : Df K mg "_law_minus" (top 37) ["_law_one", "_law_other"]) (T : Tx K mg) (F_law_fit : Fn P w K mg base 1 "_law_fit" ["_law_top", "_law_bottom"] (sp_law_fit K)) : Fn P w K mg base 2 "_law_minus" ["_law_one", "_law_other"] (sp_law_minus K) := by
  refine D.ok0 sc_law_minus (fun vs H Q E h => ?_) (fun f cdv A outer s H vs Q E hr h => ?_)
  · obtain ⟨p, x, n, q, y, m, rfl, _⟩ := h
    rfl
  obtain ⟨p, x, n, q, y, m, rfl, hp, dx, hq, dy, hn, k⟩ := h
  refine ⟨_, (pss_one (ps_ret (pe_fn F_law_fit (by decide) hr (by rfl) passE0 (pa_cons (pe_op op_sub (pe_op op_mulB (pe_ix ix_tup (pv 0) pe_int (fun _ _ => rfl)) (pe_ix ix_tup (pv 1) pe_int (fun _ _ => rfl))) (pe_op op_mulB (pe_ix ix_tup (pv 1) pe_int (fun _ _ => rfl)) (pe_ix ix_tup (pv 0) pe_int (fun _ _ => rfl)))) (pa_cons (pe_op op_mulB (pe_ix ix_tup (pv 0) pe_int (fun _ _ => rfl)) (pe_ix ix_tup (pv 1) pe_int (fun _ _ => rfl))) pa_nil))))), ?_⟩
  refine ⟨_, rfl, p, _, _, _, rfl, rfl, hp, rfl, _, rfl, q, _, _, _, rfl, rfl, hq, rfl, _, _, rfl, rfl, dx.1.ok dy.2 (by omega), _, rfl, q, _, _, _, rfl, rfl, hq, rfl, _, rfl, p, _, _, _, rfl, rfl, hp, rfl, _, _, rfl, rfl, dy.1.ok dx.2 (by omega), _, _, rfl, rfl, _, rfl, p, _, _, _, rfl, rfl, hp, rfl, _, rfl, q, _, _, _, rfl, rfl, hq, rfl, _, _, rfl, rfl, dx.2.ok dy.2 (by omega), _, _, rfl, (dx.2.mul dy.2).mono (by omega), Int.mul_ne_zero (q_ne _) (q_ne _), fun r H1 s1 g1 => k r H1 s1 (FQ.cast g1 (q_sub x y))⟩
noncomputable def sp_law_times (K : PySem.W.Frag) : Sp := fun vs H Q _ => ∃ (p_x : Addr) (x : Rat) (n_x : Nat) (p_y : Addr) (y : Rat) (n_y : Nat), vs = [.ref p_x, .ref p_y] ∧ FQ K H p_x x ∧ FB n_x x ∧ FQ K H p_y y ∧ FB n_y y ∧ n_x + n_y ≤ 8950 ∧ (∀ (p_r : Addr) (H1 : Hp), Same H H1 → FQ K H1 p_r (x * y) → Q (.ref p_r) H1)
theorem sc_law_times : FnScope ["_law_one", "_law_other"] ["_law_one", "_law_other"] (defScope (top 38)) := ⟨rfl, rfl, rfl, by decide +kernel, rfl, by decide +kernel, by decide +kernel⟩
theorem ok_law_times (D : Df K mg "_law_times" (top 38) ["_law_one", "_law_other"]) (T : Tx K mg) (F_law_fit : Fn P w K mg base 1 "_law_fit" ["_law_top", "_law_bottom"] (sp_law_fit K)) : Fn P w K mg base 2 "_law_times" ["_law_one", "_law_other"] (sp_law_times K) := by
  refine D.ok0 sc_law_times (fun vs H Q E h => ?_) (fun f cdv A outer s H vs Q E hr h => ?_)
  · obtain ⟨p, x, n, q, y, m, rfl, _⟩ := h
    rfl
  obtain ⟨p, x, n, q, y, m, rfl, hp, dx, hq, dy, hn, k⟩ := h
  refine ⟨_, (pss_one (ps_ret (pe_fn F_law_fit (by decide) hr (by rfl) passE0 (pa_cons (pe_op op_mulB (pe_ix ix_tup (pv 0) pe_int (fun _ _ => rfl)) (pe_ix ix_tup (pv 1) pe_int (fun _ _ => rfl))) (pa_cons (pe_op op_mulB (pe_ix ix_tup (pv 0) pe_int (fun _ _ => rfl)) (pe_ix ix_tup (pv 1) pe_int (fun _ _ => rfl))) pa_nil))))), ?_⟩
  refine ⟨_, rfl, p, _, _, _, rfl, rfl, hp, rfl, _, rfl, q, _, _, _, rfl, rfl, hq, rfl, _, _, rfl, rfl, dx.1.ok dy.1 (by omega), _, rfl, p, _, _, _, rfl, rfl, hp, rfl, _, rfl, q, _, _, _, rfl, rfl, hq, rfl, _, _, rfl, rfl, dx.2.ok dy.2 (by omega), _, _, rfl, (dx.2.mul dy.2).mono (by omega), Int.mul_ne_zero (q_ne _) (q_ne _), fun r H1 s1 g1 => k r H1 s1 (FQ.cast g1 (q_mul x y))⟩
noncomputable def sp_law_over (K : PySem.W.Frag) : Sp := fun vs H Q _ => ∃ (p_x : Addr) (x : Rat) (n_x : Nat) (p_y : Addr) (y : Rat) (n_y : Nat), vs = [.ref p_x, .ref p_y] ∧ FQ K H p_x x ∧ FB n_x x ∧ FQ K H p_y y ∧ FB n_y y ∧ n_x + n_y ≤ 8950 ∧ y ≠ 0 ∧ (∀ (p_r : Addr) (H1 : Hp), Same H H1 → FQ K H1 p_r (x / y) → Q (.ref p_r) H1)
theorem sc_law_over : FnScope ["_law_one", "_law_other"] ["_law_one", "_law_other"] (defScope (top 39)) := ⟨rfl, rfl, rfl, by decide +kernel, rfl, by decide +kernel, by decide +kernel⟩
theorem ok_law_over (D : Df K mg "_law_over" (top 39) ["_law_one", "_law_other"]) (T : Tx K mg) (F_law_fit : Fn P w K mg base 1 "_law_fit" ["_law_top", "_law_bottom"] (sp_law_fit K)) : Fn P w K mg base 2 "_law_over" ["_law_one", "_law_other"] (sp_law_over K) := by
  refine D.ok0 sc_law_over (fun vs H Q E h => ?_) (fun f cdv A outer s H vs Q E hr h => ?_)
  · obtain ⟨p, x, n, q, y, m, rfl, _⟩ := h
    rfl
  obtain ⟨p, x, n, q, y, m, rfl, hp, dx, hq, dy, hn, y0, k⟩ := h
  refine ⟨_, (pss_one (ps_ret (pe_fn F_law_fit (by decide) hr (by rfl) passE0 (pa_cons (pe_op op_mulB (pe_ix ix_tup (pv 0) pe_int (fun _ _ => rfl)) (pe_ix ix_tup (pv 1) pe_int (fun _ _ => rfl))) (pa_cons (pe_op op_mulB (pe_ix ix_tup (pv 0) pe_int (fun _ _ => rfl)) (pe_ix ix_tup (pv 1) pe_int (fun _ _ => rfl))) pa_nil))))), ?_⟩
  refine ⟨_, rfl, p, _, _, _, rfl, rfl, hp, rfl, _, rfl, q, _, _, _, rfl, rfl, hq, rfl, _, _, rfl, rfl, dx.1.ok dy.2 (by omega), _, rfl, p, _, _, _, rfl, rfl, hp, rfl, _, rfl, q, _, _, _, rfl, rfl, hq, rfl, _, _, rfl, rfl, dx.2.ok dy.1 (by omega), _, _, rfl, (dx.2.mul dy.1).mono (by omega), Int.mul_ne_zero (q_ne _) (q_num_ne y0), fun r H1 s1 g1 => k r H1 s1 (FQ.cast g1 (q_div x y))⟩
noncomputable def sp_law_less (K : PySem.W.Frag) : Sp := fun vs H Q _ => ∃ (p_x : Addr) (x : Rat) (p_y : Addr) (y : Rat), vs = [.ref p_x, .ref p_y] ∧ FQ K H p_x x ∧ FB 60000 x ∧ FQ K H p_y y ∧ FB 60000 y ∧ (∀  (H1 : Hp), Same H H1 → Q (.bl (decide (x < y))) H1)
theorem sc_law_less : FnScope ["_law_one", "_law_other"] ["_law_one", "_law_other"] (defScope (top 40)) := ⟨rfl, rfl, rfl, by decide +kernel, rfl, by decide +kernel, by decide +kernel⟩
theorem ok_law_less (D : Df K mg "_law_less" (top 40) ["_law_one", "_law_other"]) (T : Tx K mg) : Fn P w K mg base 1 "_law_less" ["_law_one", "_law_other"] (sp_law_less K) := by
  refine D.ok0 sc_law_less (fun vs H Q E h => ?_) (fun f cdv A outer s H vs Q E hr h => ?_)
  · obtain ⟨p_x, x, p_y, y, rfl, _⟩ := h
    rfl
  obtain ⟨p_x, x, p_y, y, rfl, g_x, d_x, g_y, d_y, k0⟩ := h
  refine ⟨_, (pss_one (ps_ret (pe_cmpR op_lt (pe_op op_mulB (pe_ix ix_tup (pv 0) pe_int (fun _ _ => rfl)) (pe_ix ix_tup (pv 1) pe_int (fun _ _ => rfl))) (pe_op op_mulB (pe_ix ix_tup (pv 1) pe_int (fun _ _ => rfl)) (pe_ix ix_tup (pv 0) pe_int (fun _ _ => rfl))) (nomark _)))), ?_⟩
  refine ⟨_, rfl, p_x, _, _, _, rfl, rfl, g_x, rfl, _, rfl, p_y, _, _, _, rfl, rfl, g_y, rfl, _, _, rfl, rfl, (d_x.1.ok d_y.2 (by decide)), _, rfl, p_y, _, _, _, rfl, rfl, g_y, rfl, _, rfl, p_x, _, _, _, rfl, rfl, g_x, rfl, _, _, rfl, rfl, (d_y.1.ok d_x.2 (by decide)), _, _, rfl, rfl, ?_⟩
  try dsimp only
  rw [show decide (((x).num * (((y).den : Nat) : Int)) < ((y).num * (((x).den : Nat) : Int))) = decide (x < y) from decide_eq_decide.mpr (by exact (q_lt x y).symm)]
  exact k0 _ (Same.refl _)
noncomputable def sp_law_small (K : PySem.W.Frag) : Sp := fun vs H Q _ => ∃ (bx : Addr) (n_bx : Int), vs = [.ref bx] ∧ H bx = some (.lst [.int n_bx]) ∧ (∀ (p_r : Addr) (r : Rat) (H1 : Hp) (n1 : Int), But bx H H1 → H1 bx = some (.lst [.int n1]) → FQ K H1 p_r (r) → FB 70 r → Six 72 r → Q (.ref p_r) H1)
theorem sc_law_small : FnScope ["_law_box_here"] ["_law_box_here"] (defScope (top 41)) := ⟨rfl, rfl, rfl, by decide +kernel, rfl, by decide +kernel, by decide +kernel⟩
theorem ok_law_small (D : Df K mg "_law_small" (top 41) ["_law_box_here"]) (T : Tx K mg) (F_law_take : Fn P w K mg base 1 "_law_take" ["_law_box_here", "_law_many"] spTake) (F_law_fit : Fn P w K mg base 1 "_law_fit" ["_law_top", "_law_bottom"] (sp_law_fit K)) : Fn P w K mg base 2 "_law_small" ["_law_box_here"] (sp_law_small K) := by
  refine D.ok0 sc_law_small (fun vs H Q E h => ?_) (fun f cdv A outer s H vs Q E hr h => ?_)
  · obtain ⟨bx, n_bx, rfl, _⟩ := h
    rfl
  obtain ⟨bx, n_bx, rfl, hb_bx, k0⟩ := h
  refine ⟨_, (pss_one (ps_ret (pe_fn F_law_fit (by decide) hr (by rfl) passE0 (pa_cons (pe_op op_sub (pe_fn F_law_take (by decide) hr (by rfl) passE0 (pa_cons (pv 0) (pa_cons pe_int pa_nil))) pe_int) (pa_cons (pe_ix ix_list (pe_lst (pa_cons pe_int (pa_cons pe_int (pa_cons pe_int (pa_cons pe_int pa_nil))))) (pe_fn F_law_take (by decide) hr (by rfl) passE0 (pa_cons (pv 0) (pa_cons pe_int pa_nil))) (fun _ _ => rfl)) pa_nil))))), ?_⟩
  refine ⟨_, rfl, _, _, _, rfl, hb_bx, (by decide +kernel), ((Bd.small (i := (25 : Int)) (by decide) (by decide)).mono (by decide)), fun d4 n4 H4 lo4 hi4 s4 hb4 => ?_⟩
  refine ⟨_, _, rfl, rfl, by show 4 ≤ sizeLine; decide, ?_⟩
  intro p5 n5
  obtain ⟨H5, q5, s5, e5⟩ := newO n5 (.lst [.int ((1 : Int)), .int ((1 : Int)), .int ((2 : Int)), .int ((3 : Int))])
  rw [q5]
  clear q5
  have hB6 := s5 _ _ hb4
  have h5 := SqL.of (K := K) e5
  have ap5 : p5 ≠ bx := fun z => by rw [z, hb4] at n5; cases n5
  refine ⟨_, rfl, _, _, _, rfl, hB6, (by decide +kernel), ((Bd.small (i := (4 : Int)) (by decide) (by decide)).mono (by decide)), fun d7 n7 H7 lo7 hi7 s7 hb7 => ?_⟩
  obtain ⟨v8, ev8, m9⟩ := atI_mem ([(1 : Int), (1 : Int), (2 : Int), (3 : Int)] : List Int) d7 (by omega) (by show _ < (4 : Int); omega)
  have bv8 : 1 ≤ v8 ∧ v8 ≤ 3 := (show ∀ z ∈ ([(1 : Int), (1 : Int), (2 : Int), (3 : Int)] : List Int), 1 ≤ z ∧ z ≤ 3 by decide +kernel) v8 m9
  replace h5 := (But.seq s7 ap5 h5)
  refine ⟨p5, _, _, _, rfl, rfl, h5, ev8, _, _, rfl, ((Bd.small (i := v8) (by omega) (by omega)).mono (by decide)), (by omega), fun p_r10 H10 s10 g_r10 => ?_⟩
  have hB11 := s10 _ _ hb7
  have d_r10 : FB 65 (Rat.divInt ((d4 - (12 : Int))) v8) := (FB.mono (FB.fit (by omega) ((Bd.sub ((Bd.small (i := d4) (by omega) (by omega)).mono (n := 64) (by decide)) ((Bd.small (i := (12 : Int)) (by decide) (by decide)).mono (n := 64) (by decide))).mono (n := 65) (by decide)) ((Bd.small (i := v8) (by omega) (by omega)).mono (n := 65) (by decide))) (by decide))
  exact k0 _ _ _ _ (s4.trans ((But.of s5).trans (s7.trans (But.of s10)))) hB11 g_r10 (FB.mono d_r10 (by decide)) (by exact (six_fit (N := 12) (by omega) (by omega) (by omega) (by omega)).mono (by decide))
noncomputable def FoldL (K : PySem.W.Frag) : Sp := fun vs H Q _ => ∃ (p a c : Addr) (x v : Rat) (m : Int) (q : Addr) (L : Rat) (u : Addr) (t : Rat), vs = [.ref p, .ref q, .ref u] ∧ SqT K H p [.ref a, .ref c, .int m] ∧ FQ K H a x ∧ FQ K H c v ∧ FB 3200 x ∧ FB 64 v ∧ 1 ≤ m ∧ m ≤ 10000 ∧ FQ K H q L ∧ FB 64 L ∧ 0 < L ∧ FQ K H u t ∧ FB 2800 t ∧ 0 < x + v * t ∧ x + v * t < L + L + L ∧ ∀ (r : Addr) (H1 : Hp), Same H H1 → BdQ K H1 6300 (.ref r) (foldQ L t (x, v, m)) → Q (.ref r) H1
theorem sc_law_folded : FnScope ["_law_body", "_law_length", "_law_moment", "_law_place", "_law_speed"] ["_law_body", "_law_length", "_law_moment"] (defScope (top 43)) := ⟨rfl, rfl, rfl, by decide +kernel, rfl, by decide +kernel, by decide +kernel⟩
theorem ok_law_folded (D : Df K mg "_law_folded" (top 43) ["_law_body", "_law_length", "_law_moment"]) (T : Tx K mg) (F_law_plus : Fn P w K mg base 2 "_law_plus" ["_law_one", "_law_other"] (sp_law_plus K)) (F_law_times : Fn P w K mg base 2 "_law_times" ["_law_one", "_law_other"] (sp_law_times K)) (F_law_minus : Fn P w K mg base 2 "_law_minus" ["_law_one", "_law_other"] (sp_law_minus K)) (F_law_less : Fn P w K mg base 1 "_law_less" ["_law_one", "_law_other"] (sp_law_less K)) : Fn P w K mg base 3 "_law_folded" ["_law_body", "_law_length", "_law_moment"] (FoldL K) := by
  refine D.ok0 sc_law_folded (fun vs H Q E h => ?_) (fun f cdv A outer s H vs Q E hr h => ?_)
  · obtain ⟨p, a, c, x, v, m, q, L, u, t, rfl, _⟩ := h
    rfl
  obtain ⟨p, a, c, x, v, m, q, L, u, t, rfl, hp, ga, gc, da, dc, m1, m2, gL, dL, L0, gt, dt, lo, hi, k⟩ := h
  refine ⟨_, (pss_cons (ps_set (i := 3) sc_law_folded.nd rfl (Or.inl rfl) (pe_fn F_law_plus (by decide) hr (by rfl) passE0 (pa_cons (pe_ix ix_tup (pv 0) pe_int (fun _ _ => rfl)) (pa_cons (pe_fn F_law_times (by decide) hr (by rfl) passE0 (pa_cons (pe_ix ix_tup (pv 0) pe_int (fun _ _ => rfl)) (pa_cons (pv 2) pa_nil))) pa_nil))))
      (pss_cons (ps_set (i := 4) sc_law_folded.nd rfl (Or.inl rfl) (pe_ix ix_tup (pv 0) pe_int (fun _ _ => rfl)))
      (pss_cons (ps_while PassesOwn.never (pw_or (pt_val (pe_fn F_law_less (by decide) hr (by rfl) passE0 (pa_cons (pv 3) (pa_cons (pe_tup (pa_cons pe_int (pa_cons pe_int pa_nil))) pa_nil))) (fun _ => rfl)) (pw_or1 (pt_val (pe_fn F_law_less (by decide) hr (by rfl) passE0 (pa_cons (pv 1) (pa_cons (pv 3) pa_nil))) (fun _ => rfl)))).pt (pss_cons (ps_if (pt_val (pe_fn F_law_less (by decide) hr (by rfl) passE0 (pa_cons (pv 3) (pa_cons (pe_tup (pa_cons pe_int (pa_cons pe_int pa_nil))) pa_nil))) (fun _ => rfl)) (pss_one (ps_set (i := 3) sc_law_folded.nd rfl (Or.inl rfl) (pe_tup (pa_cons (pe_op op_sub pe_int (pe_ix ix_tup (pv 3) pe_int (fun _ _ => rfl))) (pa_cons (pe_ix ix_tup (pv 3) pe_int (fun _ _ => rfl)) pa_nil))))) (pss_one (ps_set (i := 3) sc_law_folded.nd rfl (Or.inl rfl) (pe_fn F_law_minus (by decide) hr (by rfl) passE0 (pa_cons (pe_fn F_law_plus (by decide) hr (by rfl) passE0 (pa_cons (pv 1) (pa_cons (pv 1) pa_nil))) (pa_cons (pv 3) pa_nil))))))
      (pss_one (ps_set (i := 4) sc_law_folded.nd rfl (Or.inl rfl) (pe_tup (pa_cons (pe_op op_sub pe_int (pe_ix ix_tup (pv 4) pe_int (fun _ _ => rfl))) (pa_cons (pe_ix ix_tup (pv 4) pe_int (fun _ _ => rfl)) pa_nil)))))))
      (pss_cons (ps_if (pt_cmpR (op_eqQ (K := K) rfl (u100 hr)) (pv 3) (pe_tup (pa_cons pe_int (pa_cons pe_int pa_nil))) (nomark _)) (pss_one (ps_set (i := 4) sc_law_folded.nd rfl (Or.inl rfl) (pe_tup (pa_cons (pe_callB call_abs (by rfl) T.b_abs PyProof.Rows.Boot.«abs» (pa_cons (pe_ix ix_tup (pv 4) pe_int (fun _ _ => rfl)) pa_nil)) (pa_cons (pe_ix ix_tup (pv 4) pe_int (fun _ _ => rfl)) pa_nil))))) pss_nil)
      (pss_cons (ps_if (pt_cmpR (op_eqQ (K := K) rfl (u100 hr)) (pv 3) (pv 1) (nomark _)) (pss_one (ps_set (i := 4) sc_law_folded.nd rfl (Or.inl rfl) (pe_tup (pa_cons (pe_op op_sub pe_int (pe_callB call_abs (by rfl) T.b_abs PyProof.Rows.Boot.«abs» (pa_cons (pe_ix ix_tup (pv 4) pe_int (fun _ _ => rfl)) pa_nil))) (pa_cons (pe_ix ix_tup (pv 4) pe_int (fun _ _ => rfl)) pa_nil))))) pss_nil)
      (pss_one (ps_ret (pe_tup (pa_cons (pv 3) (pa_cons (pv 4) (pa_cons (pe_ix ix_tup (pv 0) pe_int (fun _ _ => rfl)) pa_nil))))))))))), ?_⟩
  have LL0 : 0 < L + L := by grind
  refine ⟨_, rfl, p, _, _, _, rfl, rfl, hp, rfl, _, rfl, p, _, _, _, rfl, rfl, hp, rfl, _, rfl, c, v, 64, u, t, 2800, rfl, gc, dc, gt, dt, by decide, fun r1 H1 s1 g1 => ?_⟩
  have d1 := FB.mul dc dt
  refine ⟨a, x, 3200, r1, _, _, rfl, Kw.Same.tup s1 ga, da, g1, d1, by decide, fun r2 H2 s2 g2 => ?_⟩
  have d2 : FB 6065 (x + v * t) := (FB.add da d1).mono (by decide)
  have sA := s1.trans s2
  have hp2 := Kw.Same.tup sA hp
  refine ⟨_, rfl, p, _, _, _, rfl, rfl, hp2, rfl, ?_⟩
  obtain ⟨z0, hz0⟩ : ∃ z0, x + v * t = z0 := ⟨_, rfl⟩
  rw [hz0] at g2 d2 lo hi
  have gc2 := Kw.Same.tup sA gc
  have gL2 := Kw.Same.tup sA gL
  have dLL : FB 129 (L + L) := FB.add dL dL
  have d0 : FB 60000 (((0 : Int)) : Rat) := (FB.ofInt (Bd.small (i := 0) (by decide) (by decide)) (by decide)).mono (by decide)
  have eN : (((0 : Int)) : Rat) = 0 := rfl
  refine ⟨fun n σ1 H8 => ∃ (pp ps : Addr) (y w' : Rat), σ1 = [some (.ref p), some (.ref q), some (.ref u), some (.ref pp), some (.ref ps)] ∧ Same H2 H8 ∧ FQ K H8 pp y ∧ FQ K H8 ps w' ∧ ((n = 2 ∧ y = z0 ∧ w' = v) ∨ (n = 1 ∧ L < z0 ∧ y = L + L - z0 ∧ w' = -v) ∨ (n = 0 ∧ L + L < z0 ∧ y = z0 - (L + L) ∧ w' = v)), ⟨2, r2, c, z0, v, rfl, Same.refl _, g2, gc2, .inl ⟨rfl, rfl, rfl⟩⟩, ?_⟩
  rintro n σ1 H8 ⟨pp, ps, y, w', rfl, s8, gp, gs, alt⟩
  have dy : FB 6300 y := by
    rcases alt with ⟨_, rfl, _⟩ | ⟨_, _, rfl, _⟩ | ⟨_, _, rfl, _⟩
    · exact d2.mono (by decide)
    · exact (FB.sub dLL d2).mono (by decide)
    · exact (FB.sub d2 dLL).mono (by decide)
  have dw : FB 64 w' := by
    rcases alt with ⟨_, _, rfl⟩ | ⟨_, _, _, rfl⟩ | ⟨_, _, _, rfl⟩
    · exact dc
    · exact FB.neg dc
    · exact dc
  refine ⟨_, rfl, by show 2 ≤ sizeLine; decide, ?_⟩
  intro p9 n9
  obtain ⟨H9, q9, s9, e9⟩ := newO n9 (.tup [.int 0, .int 1])
  rw [q9]
  clear q9
  have g9 : FQ K H9 p9 ((0 : Int) : Rat) := FQ.ofInt (SqT.of e9)
  refine ⟨pp, y, p9, _, rfl, Kw.Same.tup s9 gp, dy.mono (by decide), g9, d0, fun H10 s10 => ⟨_, rfl, ?_⟩⟩
  have s810 := s9.trans s10
  have s210 := s8.trans s810
  refine if_dec (fun cl => ?_) (fun cn => ?_)
  · rw [eN] at cl
    have alt1 : n = 1 ∧ L + L < z0 ∧ y = L + L - z0 ∧ w' = -v := by
      rcases alt with ⟨_, h1, _⟩ | ⟨h1, h2, h3, h4⟩ | ⟨_, h1, h2, _⟩
      · exfalso
        grind
      · exact ⟨h1, by grind, h3, h4⟩
      · exfalso
        grind
    obtain ⟨rfl, z2, rfl, rfl⟩ := alt1
    refine ⟨_, fun _ _ n => n, ?_⟩
    refine ⟨_, rfl, by show 2 ≤ sizeLine; decide, ?_⟩
    intro p12 n12
    obtain ⟨H12, q12, s12, e12⟩ := newO n12 (.tup [.int 0, .int 1])
    rw [q12]
    clear q12
    have g12 : FQ K H12 p12 ((0 : Int) : Rat) := FQ.ofInt (SqT.of e12)
    refine ⟨pp, _, p12, _, rfl, Kw.Same.tup (s810.trans s12) gp, dy.mono (by decide), g12, d0, fun H13 s13 => ⟨_, rfl, ?_⟩⟩
    refine if_dec (fun _ => ?_) (fun z => absurd cl (by rw [eN] at z; exact z))
    have s813 := s810.trans (s12.trans s13)
    have gp13 := Kw.Same.tup s813 gp
    have gs13 := Kw.Same.tup s813 gs
    refine ⟨_, rfl, pp, _, _, _, rfl, rfl, gp13, rfl, _, _, rfl, rfl, _, rfl, pp, _, _, _, rfl, rfl, gp13, rfl, by show 2 ≤ sizeLine; decide, ?_⟩
    intro p14 n14
    obtain ⟨H14, q14, s14, e14⟩ := newO n14 (.tup [.int (0 - (L + L - z0).num), .int (((L + L - z0).den : Nat) : Int)])
    rw [q14]
    clear q14
    have gs14 := Kw.Same.tup s14 gs13
    refine ⟨_, rfl, ps, _, _, _, rfl, rfl, gs14, rfl, _, _, rfl, rfl, _, rfl, ps, _, _, _, rfl, rfl, gs14, rfl, by show 2 ≤ sizeLine; decide, ?_⟩
    intro p16 n16
    obtain ⟨H16, q16, s16, e16⟩ := newO n16 (.tup [.int (0 - (-v).num), .int (((-v).den : Nat) : Int)])
    rw [q16]
    clear q16
    exact ⟨0, by decide, p14, p16, _, _, rfl, s8.trans (s813.trans (s14.trans s16)), FQ.cast (FQ.ofNeg (SqT.of (s16 _ _ e14)) (Int.zero_sub _)) (show -(L + L - z0) = z0 - (L + L) by grind), FQ.cast (FQ.ofNeg (SqT.of e16) (Int.zero_sub _)) (show - -v = v by grind), .inr (.inr ⟨rfl, z2, rfl, rfl⟩)⟩
  rw [eN] at cn
  refine ⟨_, rfl, _, rfl, q, L, pp, y, rfl, Kw.Same.tup s210 gL2, dL.mono (by decide), Kw.Same.tup s810 gp, dy.mono (by decide), fun H11 s11 => ⟨_, rfl, ?_⟩⟩
  have s811 := s810.trans s11
  have s211 := s8.trans s811
  refine if_dec (fun cl => ?_) (fun cl => ?_)
  · have alt1 : n = 2 ∧ y = z0 ∧ w' = v := by
      rcases alt with h | ⟨_, h1, h2, _⟩ | ⟨_, h1, h2, _⟩
      · exact h
      · exfalso
        grind
      · exfalso
        grind
    obtain ⟨rfl, rfl, rfl⟩ := alt1
    refine ⟨_, fun _ _ n => n, ?_⟩
    refine ⟨_, rfl, by show 2 ≤ sizeLine; decide, ?_⟩
    intro p12 n12
    obtain ⟨H12, q12, s12, e12⟩ := newO n12 (.tup [.int 0, .int 1])
    rw [q12]
    clear q12
    have g12 : FQ K H12 p12 ((0 : Int) : Rat) := FQ.ofInt (SqT.of e12)
    refine ⟨pp, y, p12, _, rfl, Kw.Same.tup (s811.trans s12) gp, dy.mono (by decide), g12, d0, fun H13 s13 => ⟨_, rfl, ?_⟩⟩
    refine if_dec (fun z => absurd z (by rw [eN]; exact cn)) (fun _ => ?_)
    have s813 := s811.trans (s12.trans s13)
    have gL13 := Kw.Same.tup (s8.trans s813) gL2
    refine ⟨_, rfl, _, rfl, q, L, 64, q, L, 64, rfl, gL13, dL, gL13, dL, by decide, fun r14 H14 s14 g14 => ?_⟩
    refine ⟨_, rfl, r14, _, _, pp, y, 6065, rfl, g14, dLL, Kw.Same.tup (s813.trans s14) gp, d2, by decide, fun r15 H15 s15 g15 => ?_⟩
    have s815 := s813.trans (s14.trans s15)
    have gs15 := Kw.Same.tup s815 gs
    refine ⟨_, rfl, ps, _, _, _, rfl, rfl, gs15, rfl, _, _, rfl, rfl, _, rfl, ps, _, _, _, rfl, rfl, gs15, rfl, by show 2 ≤ sizeLine; decide, ?_⟩
    intro p16 n16
    obtain ⟨H16, q16, s16, e16⟩ := newO n16 (.tup [.int (0 - w'.num), .int ((w'.den : Nat) : Int)])
    rw [q16]
    clear q16
    exact ⟨1, by decide, r15, p16, _, _, rfl, s8.trans (s815.trans s16), Kw.Same.tup s16 g15, FQ.ofNeg (SqT.of e16) (Int.zero_sub _), .inr (.inl ⟨rfl, cl, rfl, rfl⟩)⟩
  have y0 : 0 ≤ y := by grind
  have y1 : y ≤ L := by grind
  have fo := fold_exit (m := m) L0 hz0 lo hi (by
    rcases alt with ⟨_, h⟩ | ⟨_, h⟩ | ⟨_, h⟩
    · exact .inl h
    · exact .inr (.inl h)
    · exact .inr (.inr h)) y0 y1
  rw [fo] at k
  refine ⟨_, rfl, by show 2 ≤ sizeLine; decide, ?_⟩
  intro p12 n12
  obtain ⟨H12, q12, s12, e12⟩ := newO n12 (.tup [.int 0, .int 1])
  rw [q12]
  clear q12
  have g12 : FQ K H12 p12 ((0 : Int) : Rat) := FQ.ofInt (SqT.of e12)
  have s812 := s811.trans s12
  have gp12 := Kw.Same.tup s812 gp
  have gs12 := Kw.Same.tup s812 gs
  have s212 := s8.trans s812
  refine ⟨_, _, _, _, rfl, rfl, gp12, g12, _, rfl, ?_⟩
  refine if_dec (fun c0 => ?_) (fun c0 => ?_)
  · rw [eN] at c0
    rw [if_pos c0] at k
    refine ⟨_, rfl, ps, _, _, _, rfl, rfl, gs12, rfl, _, rfl, _, rfl, ps, _, _, _, rfl, rfl, gs12, rfl, by show 2 ≤ sizeLine; decide, ?_⟩
    intro p13 n13
    obtain ⟨H13, q13, s13, e13⟩ := newO n13 (.tup [.int (if w'.num < 0 then -w'.num else w'.num), .int ((w'.den : Nat) : Int)])
    rw [q13]
    clear q13
    have s213 := s212.trans s13
    refine ⟨_, rfl, _, rfl, _, _, _, _, rfl, rfl, Kw.Same.tup s13 gp12, Kw.Same.tup s213 gL2, _, rfl, ?_⟩
    refine if_dec (fun c1 => absurd c1 (by grind)) (fun _ => ?_)
    have hp13 := Kw.Same.tup s213 hp2
    refine ⟨_, rfl, _, rfl, _, rfl, p, _, _, _, rfl, rfl, hp13, rfl, by show 3 ≤ sizeLine; decide, ?_⟩
    intro p14 n14
    obtain ⟨H14, q14, s14, e14⟩ := newO n14 (.tup [.ref pp, .ref p13, .int m])
    rw [q14]
    clear q14
    exact k p14 H14 (sA.trans (s213.trans s14)) ⟨p14, pp, p13, rfl, SqT.of e14, Kw.Same.tup (s13.trans s14) gp12, Kw.Same.tup s14 (FQ.abs (SqT.of e13)), dy, (FB.abs dw).mono (by decide), m1, m2⟩
  · rw [eN] at c0
    rw [if_neg c0] at k
    refine ⟨_, rfl, _, rfl, _, _, _, _, rfl, rfl, gp12, Kw.Same.tup s212 gL2, _, rfl, ?_⟩
    refine if_dec (fun c1 => ?_) (fun c1 => ?_)
    · rw [if_pos c1] at k
      refine ⟨_, rfl, ps, _, _, _, rfl, rfl, gs12, rfl, _, rfl, _, _, rfl, rfl, _, rfl, ps, _, _, _, rfl, rfl, gs12, rfl, by show 2 ≤ sizeLine; decide, ?_⟩
      intro p13 n13
      obtain ⟨H13, q13, s13, e13⟩ := newO n13 (.tup [.int (0 - (if w'.num < 0 then -w'.num else w'.num)), .int ((w'.den : Nat) : Int)])
      rw [q13]
      clear q13
      have s213 := s212.trans s13
      have hp13 := Kw.Same.tup s213 hp2
      have ga : FQ K H13 p13 (-absQ w') := FQ.negabs (SqT.of e13)
      refine ⟨_, rfl, _, rfl, _, rfl, p, _, _, _, rfl, rfl, hp13, rfl, by show 3 ≤ sizeLine; decide, ?_⟩
      intro p14 n14
      obtain ⟨H14, q14, s14, e14⟩ := newO n14 (.tup [.ref pp, .ref p13, .int m])
      rw [q14]
      clear q14
      exact k p14 H14 (sA.trans (s213.trans s14)) ⟨p14, pp, p13, rfl, SqT.of e14, Kw.Same.tup (s13.trans s14) gp12, Kw.Same.tup s14 ga, dy, (FB.neg (FB.abs dw)).mono (by decide), m1, m2⟩
    · rw [if_neg c1] at k
      have hp12 := Kw.Same.tup s212 hp2
      refine ⟨_, rfl, _, rfl, _, rfl, p, _, _, _, rfl, rfl, hp12, rfl, by show 3 ≤ sizeLine; decide, ?_⟩
      intro p14 n14
      obtain ⟨H14, q14, s14, e14⟩ := newO n14 (.tup [.ref pp, .ref ps, .int m])
      rw [q14]
      clear q14
      exact k p14 H14 (sA.trans (s212.trans s14)) ⟨p14, pp, ps, rfl, SqT.of e14, Kw.Same.tup s14 gp12, Kw.Same.tup s14 gs12, dy, dw.mono (by decide), m1, m2⟩
noncomputable def sp_law_in_order (K : PySem.W.Frag) : Sp := fun vs H Q _ => ∃ (p_i a_i b_i : Addr) (x_i v_i : Rat) (m_i : Int) (p_j a_j b_j : Addr) (x_j v_j : Rat) (m_j : Int), vs = [.ref p_i, .ref p_j] ∧ SqT K H p_i [.ref a_i, .ref b_i, .int m_i] ∧ FQ K H a_i x_i ∧ FQ K H b_i v_i ∧ FB 6300 x_i ∧ FB 6300 v_i ∧ 1 ≤ m_i ∧ m_i ≤ 10000 ∧ SqT K H p_j [.ref a_j, .ref b_j, .int m_j] ∧ FQ K H a_j x_j ∧ FQ K H b_j v_j ∧ FB 6300 x_j ∧ FB 6300 v_j ∧ 1 ≤ m_j ∧ m_j ≤ 10000 ∧ (∀  (H1 : Hp), Same H H1 → Q (.bl (decide (x_i < x_j ∨ (x_i = x_j ∧ v_i < v_j)))) H1)
theorem sc_law_in_order : FnScope ["_law_one", "_law_other"] ["_law_one", "_law_other"] (defScope (top 44)) := ⟨rfl, rfl, rfl, by decide +kernel, rfl, by decide +kernel, by decide +kernel⟩
theorem ok_law_in_order (D : Df K mg "_law_in_order" (top 44) ["_law_one", "_law_other"]) (T : Tx K mg) (F_law_less : Fn P w K mg base 1 "_law_less" ["_law_one", "_law_other"] (sp_law_less K)) : Fn P w K mg base 2 "_law_in_order" ["_law_one", "_law_other"] (sp_law_in_order K) := by
  refine D.ok0 sc_law_in_order (fun vs H Q E h => ?_) (fun f cdv A outer s H vs Q E hr h => ?_)
  · obtain ⟨p_i, a_i, b_i, x_i, v_i, m_i, p_j, a_j, b_j, x_j, v_j, m_j, rfl, _⟩ := h
    rfl
  obtain ⟨p_i, a_i, b_i, x_i, v_i, m_i, p_j, a_j, b_j, x_j, v_j, m_j, rfl, h_i, gx_i, gv_i, dx_i, dv_i, lo_i, hi_i, h_j, gx_j, gv_j, dx_j, dv_j, lo_j, hi_j, k0⟩ := h
  refine ⟨_, (pss_cons (ps_if (pt_cmpR (op_eqQ (K := K) rfl (u100 hr)) (pe_ix ix_tup (pv 0) pe_int (fun _ _ => rfl)) (pe_ix ix_tup (pv 1) pe_int (fun _ _ => rfl)) (nomark _)) (pss_one (ps_ret (pe_fn F_law_less (by decide) hr (by rfl) passE0 (pa_cons (pe_ix ix_tup (pv 0) pe_int (fun _ _ => rfl)) (pa_cons (pe_ix ix_tup (pv 1) pe_int (fun _ _ => rfl)) pa_nil))))) pss_nil)
      (pss_one (ps_ret (pe_fn F_law_less (by decide) hr (by rfl) passE0 (pa_cons (pe_ix ix_tup (pv 0) pe_int (fun _ _ => rfl)) (pa_cons (pe_ix ix_tup (pv 1) pe_int (fun _ _ => rfl)) pa_nil)))))), ?_⟩
  refine ⟨_, rfl, p_i, _, _, _, rfl, rfl, h_i, rfl, _, rfl, p_j, _, _, _, rfl, rfl, h_j, rfl, _, _, _, _, rfl, rfl, gx_i, gx_j, _, rfl, ?_⟩
  refine if_dec (fun c12 => ?_) (fun c12 => ?_)
  · skip
    refine ⟨_, rfl, p_i, _, _, _, rfl, rfl, h_i, rfl, _, rfl, p_j, _, _, _, rfl, rfl, h_j, rfl, _, _, _, _, rfl, gv_i, (FB.mono dv_i (by decide)), gv_j, (FB.mono dv_j (by decide)), fun H13 s13 => ?_⟩
    try dsimp only
    rw [show decide (v_i < v_j) = decide (x_i < x_j ∨ (x_i = x_j ∧ v_i < v_j)) from decide_eq_decide.mpr (by grind)]
    exact k0 _ s13
  · skip
    refine ⟨_, rfl, p_i, _, _, _, rfl, rfl, h_i, rfl, _, rfl, p_j, _, _, _, rfl, rfl, h_j, rfl, _, _, _, _, rfl, gx_i, (FB.mono dx_i (by decide)), gx_j, (FB.mono dx_j (by decide)), fun H14 s14 => ?_⟩
    try dsimp only
    rw [show decide (x_i < x_j) = decide (x_i < x_j ∨ (x_i = x_j ∧ v_i < v_j)) from decide_eq_decide.mpr (by grind)]
    exact k0 _ s14
noncomputable def sp_law_room (K : PySem.W.Frag) : Sp := fun vs H Q _ => ∃ (p : Addr) (xs : List V) (bs : List Bod) (w0 : Int) (q : Addr) (L : Rat) (u : Addr) (t : Rat), vs = [.ref p, .ref q, .ref u] ∧ H p = some (.lst xs) ∧ Al2 (BdQ K H 3200) xs bs ∧ (∀ b ∈ bs, FB 64 b.2.1) ∧ bs.length ≤ 12 ∧ (∀ b ∈ bs, b.2.2 = w0) ∧ FQ K H q L ∧ FB 64 L ∧ 0 < L ∧ FQ K H u t ∧ FB 2800 t ∧ (∀ b ∈ bs, 0 < b.1 + b.2.1 * t ∧ b.1 + b.2.1 * t < L + L + L) ∧ ∀ (r : Addr) (ys : List V) (H1 : Hp), Same H H1 → H r = none → H1 r = some (.lst ys) → Al2 (BdQ K H1 6300) ys (sortQ (bs.map (foldQ L t))) → Q (.ref r) H1
theorem foldQ_w {L t : Rat} {b : Bod} : (foldQ L t b).2.2 = b.2.2 := by
  unfold foldQ
  dsimp only
  split
  · rfl
  · split
    · rfl
    · split <;> rfl
theorem sc_law_room : FnScope ["_law_world_here", "_law_length", "_law_moment", "_law_found", "_law_body", "_law_there", "_law_at"] ["_law_world_here", "_law_length", "_law_moment"] (defScope (top 45)) := ⟨rfl, rfl, rfl, by decide +kernel, rfl, by decide +kernel, by decide +kernel⟩
theorem ok_law_room (D : Df K mg "_law_room" (top 45) ["_law_world_here", "_law_length", "_law_moment"]) (T : Tx K mg) (F_law_folded : Fn P w K mg base 3 "_law_folded" ["_law_body", "_law_length", "_law_moment"] (FoldL K)) (F_law_in_order : Fn P w K mg base 2 "_law_in_order" ["_law_one", "_law_other"] (sp_law_in_order K)) : Fn P w K mg base 4 "_law_room" ["_law_world_here", "_law_length", "_law_moment"] (sp_law_room K) := by
  refine D.ok0 sc_law_room (fun vs H Q E h => ?_) (fun f cdv A outer s H vs Q E hr h => ?_)
  · obtain ⟨p, xs, bs, w0, q, L, u, t, rfl, _⟩ := h
    rfl
  obtain ⟨p, xs, bs, w0, q, L, u, t, rfl, hp, al, dv, l12, hw, gL, dL, L0, gt, dt, rng, k⟩ := h
  refine ⟨_, (pss_cons (ps_set (i := 3) sc_law_room.nd rfl (Or.inl rfl) (pe_lst pa_nil))
      (pss_cons (ps_for PassesOwn.never rfl (pi_list (pv 0)) (pg_name (i := 4) sc_law_room.nd rfl (Or.inl rfl)) (pss_cons (ps_set (i := 5) sc_law_room.nd rfl (Or.inl rfl) (pe_fn F_law_folded (by decide) hr (by rfl) passE0 (pa_cons (pv 4) (pa_cons (pv 1) (pa_cons (pv 2) pa_nil)))))
      (pss_cons (ps_set (i := 6) sc_law_room.nd rfl (Or.inl rfl) pe_int)
      (pss_cons (ps_while PassesOwn.never (pw_and (pt_cmpR op_lt (pv 6) (pe_callB call_len (by rfl) T.b_len PyProof.Rows.Boot.«len» (pa_cons (pv 3) pa_nil)) (nomark _)) (pw_and1 (pt_val (pe_fn F_law_in_order (by decide) hr (by rfl) passE0 (pa_cons (pe_ix ix_list (pv 3) (pv 6) (fun _ _ => rfl)) (pa_cons (pv 5) pa_nil))) (fun _ => rfl)))).pt (pss_one (ps_set (i := 6) sc_law_room.nd rfl (Or.inl rfl) (pe_op op_add (pv 6) pe_int))))
      (pss_one (ps_expr (pe_bm PySem.F.plainAttrs_list PySem.F.slot_list_insert PySem.F.type_list_insert mt_insert (pv 3) (pa_cons (pv 6) (pa_cons (pv 5) pa_nil)))))))))
      (pss_one (ps_ret (pv 3))))), ?_⟩
  have hz := Al2.len al
  refine ⟨by show 0 ≤ sizeLine; decide, ?_⟩
  intro p2 n2
  obtain ⟨H2, q2, s2, e2⟩ := newO n2 (.lst [])
  rw [q2]
  clear q2
  have hp2 := s2 _ _ hp
  have np : p ≠ p2 := ne_of_none hp n2
  have al2 := bds_same al s2
  have gL2 := Kw.Same.tup s2 gL
  have gt2 := Kw.Same.tup s2 gt
  refine ⟨_, rfl, p, rfl, ⟨_, SqL.of hp2⟩, for_list (K := K) (a := p) (xs := xs) (fun i σ1 H1 => ∃ (u4 u5 u6 : Option V) (ys : List V) (cs : List Bod), σ1 = [some (.ref p), some (.ref q), some (.ref u), some (.ref p2), u4, u5, u6] ∧ But p2 H2 H1 ∧ H1 p2 = some (.lst ys) ∧ Al2 (BdQ K H1 6300) ys cs ∧ cs.length = i ∧ SrtB cs ∧ cs.Perm ((bs.take i).map (foldQ L t))) ⟨_, _, _, [], [], rfl, But.refl _, e2, trivial, rfl, List.Pairwise.nil, List.Perm.refl _⟩ (by rintro _ _ _ _ ⟨_, _, _, _, _, _, g, _⟩; exact SqL.of (g _ _ np hp2)) ?_ ?_⟩
  · rintro i x σ1 H3 hx ⟨u4, u5, u6, ys, cs, rfl, s3, hy3, ay3, lc, so, pm⟩
    have hi : i < xs.length := (List.getElem?_eq_some_iff.mp hx).1
    obtain ⟨b, hb, pb, pa, pc, rfl, x1, x2, x3, x4, x5, x6, x7⟩ := Al2.get (bds_but al2 s3 e2) hx
    refine ⟨_, rfl, _, rfl, _, rfl, pb, pa, pc, b.1, b.2.1, b.2.2, q, L, u, t, rfl, x1, x2, x3, x4, dv b (List.mem_of_getElem? hb), x6, x7, s3.tup e2 gL2, dL, L0, s3.tup e2 gt2, dt, (rng b (List.mem_of_getElem? hb)).1, (rng b (List.mem_of_getElem? hb)).2, fun r H4 s4 one => ?_⟩
    have hy4 := s4 _ _ hy3
    have ay4 := bds_same ay3 s4
    have ly := Al2.len ay4
    obtain ⟨c, hc⟩ : ∃ c, foldQ L t b = c := ⟨_, rfl⟩
    have hc' : foldQ L t (b.1, b.2.1, b.2.2) = c := hc
    rw [hc'] at one
    have big : ∀ (n : Nat) (ds : List Bod), ds = cs.take n ++ c :: cs.drop n → ds.length = i + 1 ∧ ds.Perm ((bs.take (i + 1)).map (foldQ L t)) := fun n ds e => by
      subst e
      have pe := perm_ins cs c n
      refine ⟨by rw [pe.length_eq]; simp [lc], pe.trans ?_⟩
      rw [take_snoc hb, List.map_append]
      have z : [b].map (foldQ L t) = [c] := by rw [← hc]; rfl
      rw [z]
      exact List.Perm.append_right _ pm
    refine ⟨fun m σ1 H1 => ∃ n : Nat, σ1 = [some (.ref p), some (.ref q), some (.ref u), some (.ref p2), some (.ref pb), some (.ref r), some (.int (n : Int))] ∧ Same H4 H1 ∧ n ≤ cs.length ∧ m = cs.length - n ∧ (∀ j a, j < n → cs[j]? = some a → Ahd a c), ⟨_, 0, rfl, Same.refl _, Nat.zero_le _, rfl, fun _ _ h => absurd h (by omega)⟩, ?_⟩
    rintro m σ1 H5 ⟨n, rfl, s5, hn, rfl, below⟩
    have hy5 := s5 _ _ hy4
    have ay5 := bds_same ay4 s5
    obtain ⟨pr, ra, rc, er, y1, y2, y3, y4, y5, y6, y7⟩ := bd_same one s5
    cases er
    refine ⟨_, rfl, _, rfl, _, _, rfl, .inl ⟨_, SqL.of hy5, rfl⟩, _, _, rfl, rfl, _, rfl, ?_⟩
    refine if_dec (fun lt => ?_) (fun lt => ?_)
    · have hnl : n < ys.length := by omega
      obtain ⟨z, hz'⟩ : ∃ z, ys[n]? = some z := ⟨_, List.getElem?_eq_getElem hnl⟩
      obtain ⟨d, hd, pz, za, zc, rfl, z1, z2, z3, z4, z5, z6, z7⟩ := Al2.get ay5 hz'
      refine ⟨_, rfl, _, rfl, p2, _, _, _, rfl, rfl, SqL.of hy5, atI_nat hz', _, rfl, _, _, _, _, _, _, _, _, _, _, _, _, rfl, z1, z2, z3, z4, z5, z6, z7, y1, y2, y3, y4, y5, y6, y7, fun H6 s6 => ⟨_, rfl, ?_⟩⟩
      refine if_dec (fun ah => ?_) (fun ah => ?_)
      · refine ⟨_, fun _ _ n => n, ?_⟩
        refine ⟨_, rfl, _, _, rfl, rfl, ?_⟩
        refine ⟨cs.length - (n + 1), by omega, n + 1, rfl, s5.trans s6, by omega, rfl, fun j a hj ha => ?_⟩
        by_cases ej : j = n
        · subst ej
          cases hd.symm.trans ha
          exact ah
        · exact below j a (by omega) ha
      · have nah : ∀ a, cs[n]? = some a → ¬ Ahd a c := fun a h => by
          cases hd.symm.trans h
          exact ah
        have s45 := s5.trans s6
        have hy6 := s45 _ _ hy4
        have ly6 : ys.length < sizeLine := Nat.lt_of_le_of_lt (show ys.length ≤ 12 by omega) (by decide)
        refine ⟨_, rfl, .inl ⟨rfl, _, SqL.of hy6⟩, _, rfl, _, rfl, p2, _, _, n, rfl, rfl, hy6, by omega, ly6, ?_⟩
        obtain ⟨H9, q9, s9, e9⟩ := newB (H := H6) (p := p2) (.lst (ys.take n ++ V.ref r :: ys.drop n))
        dsimp only
        rw [q9]
        clear q9
        have bg := big n _ rfl
        have ay9 : Al2 (BdQ K H9 6300) (ys.take n ++ V.ref r :: ys.drop n) (cs.take n ++ c :: cs.drop n) := bds_but (al_ins n (bds_same ay4 s45) (bd_same one s45)) s9 hy6
        exact ⟨_, _, _, _, _, rfl, s3.trans ((But.of (s4.trans s45)).trans s9), e9, ay9, bg.1, srt_ins so below nah, bg.2⟩
    · refine iteF ?_
      have nah : ∀ a, cs[n]? = some a → ¬ Ahd a c := fun a h => by
        have := (List.getElem?_eq_some_iff.mp h).1
        omega
      have s45 := s5
      have hy6 := s45 _ _ hy4
      have ly6 : ys.length < sizeLine := Nat.lt_of_le_of_lt (show ys.length ≤ 12 by omega) (by decide)
      refine ⟨_, rfl, .inl ⟨rfl, _, SqL.of hy6⟩, _, rfl, _, rfl, p2, _, _, n, rfl, rfl, hy6, by omega, ly6, ?_⟩
      obtain ⟨H9, q9, s9, e9⟩ := newB (H := H5) (p := p2) (.lst (ys.take n ++ V.ref r :: ys.drop n))
      dsimp only
      rw [q9]
      clear q9
      have bg := big n _ rfl
      have ay9 : Al2 (BdQ K H9 6300) (ys.take n ++ V.ref r :: ys.drop n) (cs.take n ++ c :: cs.drop n) := bds_but (al_ins n (bds_same ay4 s45) (bd_same one s45)) s9 hy6
      exact ⟨_, _, _, _, _, rfl, s3.trans ((But.of (s4.trans s45)).trans s9), e9, ay9, bg.1, srt_ins so below nah, bg.2⟩
  · rintro σ1 H3 ⟨u4, u5, u6, ys, cs, rfl, s3, hy3, ay3, lc, so, pm⟩
    rw [hz, List.take_length] at pm
    have hwf : ∀ b ∈ bs.map (foldQ L t), b.2.2 = w0 := fun b hb => by
      obtain ⟨b', hb', rfl⟩ := List.mem_map.mp hb
      rw [foldQ_w]
      exact hw b' hb'
    rw [← sortQ_is hwf so pm] at ay3
    exact ⟨_, rfl, k p2 ys H3 (same_then_but n2 s2 s3) n2 hy3 ay3⟩
noncomputable def sp_law_within (K : PySem.W.Frag) : Sp := fun vs H Q _ => ∃ (b : Addr) (n : Int), vs = [.ref b] ∧ H b = some (.lst [.int n]) ∧ ∀ (r f q : Addr) (xs : List V) (bs : List Bod) (W : Int) (L : Rat) (n1 : Int) (H1 : Hp), But b H H1 → H f = none → f ≠ b → H1 b = some (.lst [.int n1]) → SqT K H1 r [.ref f, .ref q] → H1 f = some (.lst xs) → Al2 (BdQ K H1 64) xs bs → 1 ≤ bs.length → bs.length ≤ 12 → Asc bs → 1 ≤ W → W ≤ 1000 → (∀ a ∈ bs, a.2.2 = W) → FQ K H1 q L → FB 64 L → (∀ a ∈ bs, Inrm L a) → Q (.ref r) H1
theorem sc_law_within : FnScope ["_law_box_here", "_law_weight", "_law_many", "_law_even", "_law_step", "_law_few", "_law_place", "_law_found", "_law_k", "_law_speed"] ["_law_box_here"] (defScope (top 42)) := ⟨rfl, rfl, rfl, by decide +kernel, rfl, by decide +kernel, by decide +kernel⟩
theorem ok_law_within (D : Df K mg "_law_within" (top 42) ["_law_box_here"]) (T : Tx K mg) (F_law_take : Fn P w K mg base 1 "_law_take" ["_law_box_here", "_law_many"] spTake) (F_law_fit : Fn P w K mg base 1 "_law_fit" ["_law_top", "_law_bottom"] (sp_law_fit K)) (F_law_small : Fn P w K mg base 2 "_law_small" ["_law_box_here"] (sp_law_small K)) (F_law_plus : Fn P w K mg base 2 "_law_plus" ["_law_one", "_law_other"] (sp_law_plus K)) (F_law_times : Fn P w K mg base 2 "_law_times" ["_law_one", "_law_other"] (sp_law_times K)) (F_law_minus : Fn P w K mg base 2 "_law_minus" ["_law_one", "_law_other"] (sp_law_minus K)) : Fn P w K mg base 3 "_law_within" ["_law_box_here"] (sp_law_within K) := by
  refine D.ok0 sc_law_within (fun vs H Q E h => ?_) (fun f cdv A outer s H vs Q E hr h => ?_)
  · obtain ⟨bx, n, rfl, _⟩ := h
    rfl
  obtain ⟨bx, n, rfl, hb_bx, k⟩ := h
  refine ⟨_, (pss_cons (ps_set (i := 1) sc_law_within.nd rfl (Or.inl rfl) (pe_op op_add pe_int (pe_fn F_law_take (by decide) hr (by rfl) passE0 (pa_cons (pv 0) (pa_cons (pe_ix ix_list (pe_lst (pa_cons pe_int (pa_cons pe_int pa_nil))) (pe_fn F_law_take (by decide) hr (by rfl) passE0 (pa_cons (pv 0) (pa_cons pe_int pa_nil))) (fun _ _ => rfl)) pa_nil)))))
      (pss_cons (ps_set (i := 2) sc_law_within.nd rfl (Or.inl rfl) (pe_op op_add pe_int (pe_fn F_law_take (by decide) hr (by rfl) passE0 (pa_cons (pv 0) (pa_cons (pe_ix ix_list (pe_lst (pa_cons pe_int (pa_cons pe_int (pa_cons pe_int pa_nil)))) (pe_fn F_law_take (by decide) hr (by rfl) passE0 (pa_cons (pv 0) (pa_cons pe_int pa_nil))) (fun _ _ => rfl)) pa_nil)))))
      (pss_cons (ps_set (i := 3) sc_law_within.nd rfl (Or.inl rfl) (pe_cmpR op_eq (pe_fn F_law_take (by decide) hr (by rfl) passE0 (pa_cons (pv 0) (pa_cons pe_int pa_nil))) pe_int (nomark _)))
      (pss_cons (ps_set (i := 4) sc_law_within.nd rfl (Or.inl rfl) (pe_fn F_law_fit (by decide) hr (by rfl) passE0 (pa_cons (pe_op op_add pe_int (pe_fn F_law_take (by decide) hr (by rfl) passE0 (pa_cons (pv 0) (pa_cons pe_int pa_nil)))) (pa_cons (pe_op op_add pe_int (pe_fn F_law_take (by decide) hr (by rfl) passE0 (pa_cons (pv 0) (pa_cons pe_int pa_nil)))) pa_nil))))
      (pss_cons (ps_set (i := 5) sc_law_within.nd rfl (Or.inl rfl) (pe_lst (pa_cons (pe_fn F_law_small (by decide) hr (by rfl) passE0 (pa_cons (pv 0) pa_nil)) (pa_cons (pe_fn F_law_small (by decide) hr (by rfl) passE0 (pa_cons (pv 0) pa_nil)) pa_nil))))
      (pss_cons (ps_set (i := 6) sc_law_within.nd rfl (Or.inl rfl) (pv 4))
      (pss_cons (ps_set (i := 7) sc_law_within.nd rfl (Or.inl rfl) (pe_lst pa_nil))
      (pss_cons (ps_for PassesOwn.never rfl (pi_range1 (by rfl) T.b_range (pa_cons (pv 2) pa_nil)) (pg_name (i := 8) sc_law_within.nd rfl (Or.inl rfl)) (pss_cons (ps_set (i := 9) sc_law_within.nd rfl (Or.inl rfl) (pe_ix ix_list (pv 5) (pe_fn F_law_take (by decide) hr (by rfl) passE0 (pa_cons (pv 0) (pa_cons pe_int pa_nil))) (fun _ _ => rfl)))
      (pss_cons (ps_if (pt_not (pt_val (pv 3) (fun _ => rfl))) (pss_cons (ps_set (i := 9) sc_law_within.nd rfl (Or.inl rfl) (pe_fn F_law_small (by decide) hr (by rfl) passE0 (pa_cons (pv 0) pa_nil)))
      (pss_one (ps_set (i := 4) sc_law_within.nd rfl (Or.inl rfl) (pe_fn F_law_fit (by decide) hr (by rfl) passE0 (pa_cons (pe_op op_add pe_int (pe_fn F_law_take (by decide) hr (by rfl) passE0 (pa_cons (pv 0) (pa_cons pe_int pa_nil)))) (pa_cons (pe_op op_add pe_int (pe_fn F_law_take (by decide) hr (by rfl) passE0 (pa_cons (pv 0) (pa_cons pe_int pa_nil)))) pa_nil)))))) pss_nil)
      (pss_cons (ps_expr (pe_bm PySem.F.plainAttrs_list PySem.F.slot_list_append PySem.F.type_list_append mt_append (pv 7) (pa_cons (pe_tup (pa_cons (pv 6) (pa_cons (pv 9) (pa_cons (pv 1) pa_nil)))) pa_nil)))
      (pss_one (ps_set (i := 6) sc_law_within.nd rfl (Or.inl rfl) (pe_fn F_law_plus (by decide) hr (by rfl) passE0 (pa_cons (pv 6) (pa_cons (pv 4) pa_nil)))))))))
      (pss_cons (ps_if (pw_and (pt_val (pv 3) (fun _ => rfl)) (pw_and1 (pt_cmpR op_eq (pe_fn F_law_take (by decide) hr (by rfl) passE0 (pa_cons (pv 0) (pa_cons pe_int pa_nil))) pe_int (nomark _)))).pt (pss_one (ps_set (i := 6) sc_law_within.nd rfl (Or.inl rfl) (pe_fn F_law_minus (by decide) hr (by rfl) passE0 (pa_cons (pv 6) (pa_cons (pe_fn F_law_times (by decide) hr (by rfl) passE0 (pa_cons (pv 4) (pa_cons (pe_tup (pa_cons pe_int (pa_cons pe_int pa_nil))) pa_nil))) pa_nil))))) pss_nil)
      (pss_one (ps_ret (pe_tup (pa_cons (pv 7) (pa_cons (pv 6) pa_nil)))))))))))))), ?_⟩
  have sm9 : ∀ i : Int, -(2 ^ 64) < i → i < 2 ^ 64 → Bd 9000 i := fun i h1 h2 => (Bd.small h1 h2).mono (by decide)
  refine ⟨_, rfl, by show 2 ≤ sizeLine; decide, ?_⟩
  intro p2 n2
  obtain ⟨H2, q2, s2, e2⟩ := newO n2 (.lst [.int (3 : Int), .int (1000 : Int)])
  rw [q2]
  clear q2
  have hb2 := s2 _ _ hb_bx
  have ap2 : p2 ≠ bx := Ne.symm (ne_of_none hb_bx n2)
  refine ⟨_, rfl, bx, 2, _, rfl, hb2, by decide, sm9 _ (by decide) (by decide), fun d3 n3 H3 lo3 hi3 s3 hb3 => ?_⟩
  obtain ⟨v3, ev3, mv3⟩ := atI_mem ([(3 : Int), (1000 : Int)] : List Int) d3 (by omega) (by show _ < (2 : Int); omega)
  have bv3 : 3 ≤ v3 ∧ v3 ≤ 1000 := (show ∀ z ∈ ([(3 : Int), (1000 : Int)] : List Int), 3 ≤ z ∧ z ≤ 1000 by decide +kernel) v3 mv3
  refine ⟨p2, _, _, _, rfl, rfl, SqL.of (s3 _ _ ap2 e2), ev3, bx, v3, _, rfl, hb3, by omega, sm9 _ (by omega) (by omega), fun d4 n4 H4 lo4 hi4 s4 hb4 => ?_⟩
  refine ⟨_, _, rfl, rfl, ?_⟩
  refine ⟨_, rfl, by show 3 ≤ sizeLine; decide, ?_⟩
  intro p5 n5
  obtain ⟨H5, q5, s5, e5⟩ := newO n5 (.lst [.int (3 : Int), .int (6 : Int), .int (12 : Int)])
  rw [q5]
  clear q5
  have hb5 := s5 _ _ hb4
  have ap5 : p5 ≠ bx := Ne.symm (ne_of_none hb4 n5)
  refine ⟨_, rfl, bx, 3, _, rfl, hb5, by decide, sm9 _ (by decide) (by decide), fun d6 n6 H6 lo6 hi6 s6 hb6 => ?_⟩
  obtain ⟨v6, ev6, mv6⟩ := atI_mem ([(3 : Int), (6 : Int), (12 : Int)] : List Int) d6 (by omega) (by show _ < (3 : Int); omega)
  have bv6 : 3 ≤ v6 ∧ v6 ≤ 12 := (show ∀ z ∈ ([(3 : Int), (6 : Int), (12 : Int)] : List Int), 3 ≤ z ∧ z ≤ 12 by decide +kernel) v6 mv6
  refine ⟨p5, _, _, _, rfl, rfl, SqL.of (s6 _ _ ap5 e5), ev6, bx, v6, _, rfl, hb6, by omega, sm9 _ (by omega) (by omega), fun d7 n7 H7 lo7 hi7 s7 hb7 => ?_⟩
  refine ⟨_, _, rfl, rfl, ?_⟩
  refine ⟨_, rfl, bx, 3, _, rfl, hb7, by decide, sm9 _ (by decide) (by decide), fun d8 n8 H8 lo8 hi8 s8 hb8 => ?_⟩
  obtain ⟨ev, hev⟩ : ∃ ev : Bool, decide (V.int d8 = V.int 2) = ev := ⟨_, rfl⟩
  refine ⟨rfl, ?_⟩
  rw [hev]
  refine ⟨_, rfl, bx, 6, _, rfl, hb8, by decide, sm9 _ (by decide) (by decide), fun d9 n9 H9 lo9 hi9 s9 hb9 => ?_⟩
  refine ⟨_, _, rfl, rfl, _, rfl, bx, 3, _, rfl, hb9, by decide, sm9 _ (by decide) (by decide), fun d10 n10 H10 lo10 hi10 s10 hb10 => ?_⟩
  refine ⟨_, _, rfl, rfl, _, _, rfl, sm9 _ (by omega) (by omega), by omega, fun p11 H11 s11 g11 => ?_⟩
  have sf : Six 36 (Rat.divInt (1 + d9) (1 + d10)) := (six_fit (N := 6) (by omega) (by omega) (by omega) (by omega)).mono (by decide)
  have pf : (0 : Rat) < Rat.divInt (1 + d9) (1 + d10) := q_divpos (by omega) (by omega)
  have hb11 := s11 _ _ hb10
  refine ⟨_, rfl, bx, _, rfl, hb11, fun q1 v1 H12 n12 s12 hb12 g12 dv1 sv1 => ?_⟩
  refine ⟨_, rfl, bx, _, rfl, hb12, fun q2 v2 H13 n13 s13 hb13 g13 dv2 sv2 => ?_⟩
  refine ⟨by show 2 ≤ sizeLine; decide, ?_⟩
  intro p14 n14
  obtain ⟨H14, q14, s14, e14⟩ := newO n14 (.lst [.ref q1, .ref q2])
  rw [q14]
  clear q14
  have hb14 := s14 _ _ hb13
  have ap14 : p14 ≠ bx := Ne.symm (ne_of_none hb13 n14)
  refine ⟨_, rfl, by show 0 ≤ sizeLine; decide, ?_⟩
  intro p15 n15
  obtain ⟨H15, q15, s15, e15⟩ := newO n15 (.lst [])
  rw [q15]
  clear q15
  have hb15 := s15 _ _ hb14
  have ap15 : p15 ≠ bx := Ne.symm (ne_of_none hb14 n15)
  have apF : p14 ≠ p15 := ne_of_none e14 n15
  have B10 : But bx H H10 := (But.of s2).trans (s3.trans (s4.trans ((But.of s5).trans (s6.trans (s7.trans (s8.trans (s9.trans s10)))))))
  have B14 : But bx H H14 := B10.trans ((But.of s11).trans (s12.trans (s13.trans (But.of s14))))
  have nf0 : H p15 = none := none_of_but B14 n15 ap15
  have g11' := Kw.Same.tup s15 (Kw.Same.tup s14 (s13.tup hb12 (s12.tup hb11 g11)))
  have g12' := Kw.Same.tup s15 (Kw.Same.tup s14 (s13.tup hb12 g12))
  have g13' := Kw.Same.tup s15 (Kw.Same.tup s14 g13)
  refine ⟨_, rfl, _, rfl, by omega, by omega, for_range (n := (1 + d7).toNat) (fun i σ1 H' => ∃ (ps : Addr) (st : Rat) (pp : Addr) (x : Rat) (rk rs : Option V) (xs : List V) (bs : List Bod) (nb : Int), σ1 = [some (.ref bx), some (.int (1 + d4)), some (.int (1 + d7)), some (.bl ev), some (.ref ps), some (.ref p14), some (.ref pp), some (.ref p15), rk, rs] ∧ But bx H H' ∧ H' bx = some (.lst [.int nb]) ∧ H' p15 = some (.lst xs) ∧ H' p14 = some (.lst [.ref q1, .ref q2]) ∧ FQ K H' q1 v1 ∧ FQ K H' q2 v2 ∧ Al2 (BdQ K H' 64) xs bs ∧ FQ K H' ps st ∧ Six 36 st ∧ 0 < st ∧ FQ K H' pp x ∧ Six (36 + 36 * (i : Int)) x ∧ bs.length = i ∧ Asc bs ∧ (∀ a ∈ bs, 0 < a.1 ∧ a.1 + st ≤ x) ∧ 0 < x ∧ ∀ a ∈ bs, a.2.2 = 1 + d4)
    ⟨p11, _, p11, _, _, _, [], [], n13, rfl, B14.trans (But.of s15), hb15, e15, s15 _ _ e14, g12', g13', trivial, g11', sf, pf, g11', sf.mono (by omega), rfl, List.Pairwise.nil, (fun _ z => nomatch z), pf, fun _ z => nomatch z⟩ ?_ ?_⟩
  · rintro i σ1 K4 hi4 ⟨ps, st, pp, x, rk, rs, xs, bs, nb, rfl, B4, hc4, hF, hW, g1, g2, al, gst, s36, st0, gx, x6, len, asc, pos, x0, hw⟩
    have hi12 : i < 12 := by omega
    refine ⟨_, rfl, _, rfl, bx, 2, nb, rfl, hc4, by decide, sm9 _ (by decide) (by decide), fun d5 m5 K5 lo5 hi5 t5 hc5 => ?_⟩
    obtain ⟨qd, vd, hat, gd, sd⟩ : ∃ (qd : Addr) (vd : Rat), atI ([.ref q1, .ref q2] : List V) d5 = some (.ref qd) ∧ FQ K K5 qd vd ∧ Six 72 vd := by
      rcases (show d5 = 0 ∨ d5 = 1 by omega) with rfl | rfl
      · exact ⟨q1, v1, rfl, t5.tup hc4 g1, sv1⟩
      · exact ⟨q2, v2, rfl, t5.tup hc4 g2, sv2⟩
    refine ⟨p14, _, _, _, rfl, rfl, SqL.of (t5 _ _ ap14 hW), hat, ?_⟩
    refine g_go ?_
    dsimp only
    refine cut1 (fun σ' H' => ∃ (qs : Addr) (vs : Rat) (ps' : Addr) (st' : Rat) (nb' : Int), σ' = [some (.ref bx), some (.int (1 + d4)), some (.int (1 + d7)), some (.bl ev), some (.ref ps'), some (.ref p14), some (.ref pp), some (.ref p15), some (.int (0 + (i : Int))), some (.ref qs)] ∧ But bx K5 H' ∧ H' bx = some (.lst [.int nb']) ∧ FQ K H' qs vs ∧ Six 72 vs ∧ FQ K H' ps' st' ∧ Six 36 st' ∧ 0 < st') (fun N hN => ?_) ?_
    · refine ⟨_, rfl, _, rfl, ?_⟩
      cases ev with
      | true =>
        refine iteF ?_
        exact hN _ _ ⟨qd, vd, ps, st, m5, rfl, But.refl _, hc5, gd, sd, t5.tup hc4 gst, s36, st0⟩
      | false =>
        refine iteT ?_
        refine ⟨_, rfl, bx, _, rfl, hc5, fun qs vs K6 n6 t6 hc6 gq dq sq => ?_⟩
        refine ⟨_, rfl, bx, 6, _, rfl, hc6, by decide, sm9 _ (by decide) (by decide), fun e9 m9 K9 lo9 hi9 t9 hc9 => ?_⟩
        refine ⟨_, _, rfl, rfl, _, rfl, bx, 3, _, rfl, hc9, by decide, sm9 _ (by decide) (by decide), fun e10 m10 K10 lo10 hi10 t10 hc10 => ?_⟩
        refine ⟨_, _, rfl, rfl, _, _, rfl, sm9 _ (by omega) (by omega), by omega, fun p7 K7 t7 g7 => ?_⟩
        have sf' : Six 36 (Rat.divInt (1 + e9) (1 + e10)) := (six_fit (N := 6) (by omega) (by omega) (by omega) (by omega)).mono (by decide)
        have pf' : (0 : Rat) < Rat.divInt (1 + e9) (1 + e10) := q_divpos (by omega) (by omega)
        exact hN _ _ ⟨qs, vs, p7, _, m10, rfl, t6.trans (t9.trans (t10.trans (But.of t7))), t7 _ _ hc10, Kw.Same.tup t7 (t10.tup hc9 (t9.tup hc6 gq)), sq, g7, sf', pf'⟩
    · rintro σ' K6 ⟨qs, vs, ps', st', nb', rfl, t6, hc6, gq, sq, gst', s36', st0'⟩
      have t56 := t5.trans t6
      have hF6 := t56 _ _ ap15 hF
      have dx : FB 64 x := x6.fb (by omega)
      refine ⟨_, rfl, .inl ⟨rfl, _, SqL.of hF6⟩, _, rfl, _, rfl, _, rfl, by show 3 ≤ sizeLine; decide, ?_⟩
      intro p27 n27
      obtain ⟨H27, q27, s27, e27⟩ := newO n27 (.tup [.ref pp, .ref qs, .int (1 + d4)])
      rw [q27]
      clear q27
      have hF27 := s27 _ _ hF6
      have lx := Al2.len al
      refine ⟨p15, _, _, rfl, rfl, hF27, by rw [lx, len]; exact Nat.lt_of_lt_of_le hi12 (by decide), ?_⟩
      have t427 := t56.trans (But.of s27)
      have al27 := bds_but al t427 hc4
      have gx27 := t427.tup hc4 gx
      have gst27 := Kw.Same.tup s27 gst'
      have one : BdQ K H27 64 (.ref p27) (x, vs, 1 + d4) := ⟨p27, pp, qs, rfl, SqT.of e27, gx27, Kw.Same.tup s27 gq, dx, sq.fb (by decide), (by show (1 : Int) ≤ 1 + d4; omega), (by show 1 + d4 ≤ (10000 : Int); omega)⟩
      obtain ⟨H28, q28, s28, e28⟩ := newB (H := H27) (p := p15) (.lst (xs ++ [.ref p27]))
      dsimp only
      rw [q28]
      clear q28
      have hc28 := s28 _ _ (Ne.symm ap15) (s27 _ _ hc6)
      have al28 := bds_but (Al2.snoc al27 one) s28 hF27
      refine ⟨_, rfl, _, rfl, pp, x, 64, ps', st', 64, rfl, s28.tup hF27 gx27, dx, s28.tup hF27 gst27, s36'.fb (by decide), by decide, fun p29 H29 s29 g29 => ?_⟩
      have BF : But bx H H29 := fun a o na ho => s29 a o (s28 a o (ne_of_none ho nf0) ((B4.trans t427) a o na ho))
      have mv : ∀ {pq : Addr} {y : Rat}, FQ K K4 pq y → FQ K H29 pq y := fun h => Kw.Same.tup s29 (s28.tup hF27 (t427.tup hc4 h))
      refine ⟨ps', st', p29, _, _, _, _, _, nb', rfl, BF, s29 _ _ hc28, s29 _ _ e28, s29 _ _ (s28 _ _ apF (t427 _ _ ap14 hW)), mv g1, mv g2, bds_same al28 s29, Kw.Same.tup s29 (s28.tup hF27 gst27), s36', st0', g29, (x6.add s36').mono (by omega), by simp [len], asc.snoc (fun a ha => by have := pos a ha; grind), (fun a ha => ?_), by grind, fun a ha => ?_⟩
      · rcases List.mem_append.mp ha with z | z
        · have := pos a z
          grind
        · rw [List.mem_singleton.mp z]
          exact ⟨x0, Rat.le_refl⟩
      · rcases List.mem_append.mp ha with z | z
        · exact hw a z
        · rw [List.mem_singleton.mp z]
  · rintro σ1 K4 ⟨ps, st, pp, x, rk, rs, xs, bs, nb, rfl, B4, hc4, hF, hW, g1, g2, al, gst, s36, st0, gx, x6, len, asc, pos, x0, hw⟩
    have dx : FB 64 x := x6.fb (by omega)
    dsimp only
    refine cut1 (fun σ' H' => ∃ (qL : Addr) (L : Rat) (nb' : Int), σ' = [some (.ref bx), some (.int (1 + d4)), some (.int (1 + d7)), some (.bl ev), some (.ref ps), some (.ref p14), some (.ref qL), some (.ref p15), rk, rs] ∧ But bx K4 H' ∧ H' bx = some (.lst [.int nb']) ∧ FQ K H' qL L ∧ FB 64 L ∧ ∀ a ∈ bs, a.1 < L) (fun N hN => ?_) ?_
    · have out : ∀ (nb' : Int) (K5 : Hp), But bx K4 K5 → K5 bx = some (.lst [.int nb']) → N [some (.ref bx), some (.int (1 + d4)), some (.int (1 + d7)), some (.bl ev), some (.ref ps), some (.ref p14), some (.ref pp), some (.ref p15), rk, rs] K5 := fun nb' K5 t5 hc5 => hN _ _ ⟨pp, x, nb', rfl, t5, hc5, t5.tup hc4 gx, dx.mono (by decide), fun a ha => by have := pos a ha; grind⟩
      refine ⟨_, rfl, _, rfl, ?_⟩
      cases ev with
      | false =>
        refine iteF ?_
        exact out nb K4 (But.refl _) hc4
      | true =>
        refine iteT ?_
        refine ⟨_, rfl, bx, 2, _, rfl, hc4, by decide, sm9 _ (by decide) (by decide), fun d5 m5 K5 lo5 hi5 t5 hc5 => ?_⟩
        refine ⟨rfl, _, rfl, ?_⟩
        refine if_decI (fun z => ?_) (fun z => ?_)
        · refine ⟨_, rfl, _, rfl, by show 2 ≤ sizeLine; decide, ?_⟩
          intro p26 n26
          obtain ⟨H26, q26, s26, e26⟩ := newO n26 (.tup [.int 1, .int 2])
          rw [q26]
          clear q26
          have g26 : FQ K H26 p26 (Rat.divInt 1 2) := FQ.lit (SqT.of e26) (by decide) (by decide)
          have d26 : FB 64 (Rat.divInt 1 2) := FB.fit (by decide) (Bd.small (by decide) (by decide)) (Bd.small (by decide) (by decide))
          have v26 : (Rat.divInt 1 2 : Rat) = 1 / 2 := q_dv 1 2
          refine ⟨ps, st, 64, p26, _, 64, rfl, Kw.Same.tup s26 (t5.tup hc4 gst), s36.fb (by decide), g26, d26, by decide, fun p27 K7 s27 g27 => ?_⟩
          have d27 := FB.mul (s36.fb (by decide)) d26
          have s57 := s26.trans s27
          refine ⟨pp, x, 64, p27, _, _, rfl, Kw.Same.tup s57 (t5.tup hc4 gx), dx, g27, d27, by decide, fun p28 K8 s28 g28 => ?_⟩
          have s58 := s57.trans s28
          refine hN _ _ ⟨p28, _, m5, rfl, t5.trans (But.of s58), s58 _ _ hc5, g28, half_fb x6 s36 (by omega) (by omega), fun a ha => ?_⟩
          have := pos a ha
          rw [v26]
          grind
        · exact out m5 K5 t5 hc5
    · rintro σ' K6 ⟨qL, L, nb', rfl, t6, hc6, gL, dL, below⟩
      refine ⟨_, rfl, _, rfl, by show 2 ≤ sizeLine; decide, ?_⟩
      intro p27 n27
      obtain ⟨H27, q27, s27, e27⟩ := newO n27 (.tup [.ref p15, .ref qL])
      rw [q27]
      clear q27
      have t47 := t6.trans (But.of s27)
      exact k p27 p15 qL xs bs (1 + d4) L nb' H27 (B4.trans t47) nf0 ap15 (s27 _ _ hc6) (SqT.of e27) (t47 _ _ ap15 hF) (bds_but al t47 hc4) (by omega) (by omega) asc (by omega) (by omega) hw (Kw.Same.tup s27 gL) dL (fun a ha => ⟨(pos a ha).1, below a ha⟩)
noncomputable def sp_law_part (K : PySem.W.Frag) : Sp := fun vs H Q _ => ∃ a b : Int, vs = [.int a, .int b] ∧ 0 ≤ a ∧ 0 ≤ b ∧ Q (.int ((Int.gcd a b : Nat) : Int)) H
theorem sc_law_part : FnScope ["_law_one", "_law_other"] ["_law_one", "_law_other"] (defScope (top 46)) := ⟨rfl, rfl, rfl, by decide +kernel, rfl, by decide +kernel, by decide +kernel⟩
theorem ok_law_part (D : Df K mg "_law_part" (top 46) ["_law_one", "_law_other"]) (T : Tx K mg) : Fn P w K mg base 1 "_law_part" ["_law_one", "_law_other"] (sp_law_part K) := by
  refine D.ok0 sc_law_part (fun vs H Q E h => ?_) (fun f cdv A outer s H vs Q E hr h => ?_)
  · obtain ⟨a, b, rfl, _⟩ := h
    rfl
  obtain ⟨a, b, rfl, ha, hb, hq⟩ := h
  refine ⟨_, (pss_cons (ps_while PassesOwn.never (pt_cmpR op_gt (pv 1) pe_int (nomark _)) (pss_one (ps_par (i := 0) (j := 1) rfl sc_law_part.nd rfl rfl (by decide) rfl rfl (pa_cons (pv 1) (pa_cons (pe_op op_mod (pv 0) (pv 1)) pa_nil)) rfl)))
      (pss_one (ps_ret (pv 0)))), ?_⟩
  refine ⟨fun m σ' H' => ∃ g s : Int, σ' = [some (.int g), some (.int s)] ∧ H' = H ∧ 0 ≤ g ∧ 0 ≤ s ∧ m = s.toNat ∧ Int.gcd g s = Int.gcd a b, ⟨_, a, b, rfl, rfl, ha, hb, rfl, rfl⟩, ?_⟩
  rintro m σ' H' ⟨g, s, rfl, rfl, hg, hs, rfl, e⟩
  refine ⟨_, rfl, _, _, rfl, rfl, _, rfl, ?_⟩
  refine if_dec (fun c => ?_) (fun z => ?_)
  · refine ⟨_, fun _ _ n => n, ?_⟩
    refine ⟨_, rfl, _, rfl, _, rfl, _, _, rfl, rfl, c, _, _, rfl, ?_⟩
    have l := Int.emod_lt_of_pos g c
    have l0 := Int.emod_nonneg g (show s ≠ 0 by omega)
    exact ⟨_, by omega, s, g % s, rfl, rfl, by omega, l0, rfl, (gcd_step g s hg c).trans e⟩
  · have s0 : s = 0 := by omega
    subst s0
    have z := gcd_end g hg
    rw [e] at z
    subst z
    exact ⟨_, rfl, hq⟩
noncomputable def sp_law_common (K : PySem.W.Frag) : Sp := fun vs H Q _ => ∃ (p : Addr) (x : Rat) (q : Addr) (y : Rat), vs = [.ref p, .ref q] ∧ FQ K H p x ∧ FB 4000 x ∧ FQ K H q y ∧ FB 4000 y ∧ 0 < x ∧ 0 < y ∧ ∀ (r : Addr) (H1 : Hp), Same H H1 → FQ K H1 r (lcmQ x y) → Q (.ref r) H1
theorem sc_law_common : FnScope ["_law_one", "_law_other", "_law_top"] ["_law_one", "_law_other"] (defScope (top 47)) := ⟨rfl, rfl, rfl, by decide +kernel, rfl, by decide +kernel, by decide +kernel⟩
theorem ok_law_common (D : Df K mg "_law_common" (top 47) ["_law_one", "_law_other"]) (T : Tx K mg) (F_law_part : Fn P w K mg base 1 "_law_part" ["_law_one", "_law_other"] (sp_law_part K)) (F_law_fit : Fn P w K mg base 1 "_law_fit" ["_law_top", "_law_bottom"] (sp_law_fit K)) : Fn P w K mg base 2 "_law_common" ["_law_one", "_law_other"] (sp_law_common K) := by
  refine D.ok0 sc_law_common (fun vs H Q E h => ?_) (fun f cdv A outer s H vs Q E hr h => ?_)
  · obtain ⟨p, x, q, y, rfl, _⟩ := h
    rfl
  obtain ⟨p, x, q, y, rfl, hp, dx, hq, dy, x0, y0, k⟩ := h
  refine ⟨_, (pss_cons (ps_set (i := 2) sc_law_common.nd rfl (Or.inl rfl) (pe_op op_fdivB (pe_op op_mulB (pe_ix ix_tup (pv 0) pe_int (fun _ _ => rfl)) (pe_ix ix_tup (pv 1) pe_int (fun _ _ => rfl))) (pe_fn F_law_part (by decide) hr (by rfl) passE0 (pa_cons (pe_ix ix_tup (pv 0) pe_int (fun _ _ => rfl)) (pa_cons (pe_ix ix_tup (pv 1) pe_int (fun _ _ => rfl)) pa_nil)))))
      (pss_one (ps_ret (pe_fn F_law_fit (by decide) hr (by rfl) passE0 (pa_cons (pv 2) (pa_cons (pe_fn F_law_part (by decide) hr (by rfl) passE0 (pa_cons (pe_ix ix_tup (pv 0) pe_int (fun _ _ => rfl)) (pa_cons (pe_ix ix_tup (pv 1) pe_int (fun _ _ => rfl)) pa_nil))) pa_nil)))))), ?_⟩
  have nx := q_numpos x0
  have ny := q_numpos y0
  have g0 := gpos (a := x.num) (show y.num ≠ 0 by omega)
  have bg := bd_gcdR (a := x.num) (show y.num ≠ 0 by omega) dy.1
  have li := (lcm_is x0 y0).2
  refine ⟨_, rfl, p, _, _, _, rfl, rfl, hp, rfl, _, rfl, q, _, _, _, rfl, rfl, hq, rfl, _, _, rfl, rfl, dx.1.ok dy.1 (by decide), _, rfl, p, _, _, _, rfl, rfl, hp, rfl, _, rfl, q, _, _, _, rfl, rfl, hq, rfl, _, _, rfl, by omega, by omega, ?_⟩
  generalize hg : ((Int.gcd x.num y.num : Nat) : Int) = g at g0 bg li ⊢
  have g1 : g ≠ 0 := by omega
  refine ⟨_, _, rfl, rfl, ⟨g1, (bg.mono (n := 9000) (by decide)).log⟩, ?_⟩
  have px := q_pos x
  have py := q_pos y
  refine ⟨_, rfl, _, rfl, p, _, _, _, rfl, rfl, hp, rfl, _, rfl, q, _, _, _, rfl, rfl, hq, rfl, _, _, rfl, by omega, by omega, ?_⟩
  have h0 := gpos (a := ((x.den : Nat) : Int)) (q_ne y)
  have bh := bd_gcdR (a := ((x.den : Nat) : Int)) (q_ne y) dy.2
  refine ⟨_, _, rfl, bh.mono (by decide), by omega, fun r H1 s1 g1 => ?_⟩
  exact k r H1 s1 (g1.cast li)
noncomputable def sp_law_is_round (K : PySem.W.Frag) : Sp := fun vs H Q _ => ∃ (p : Addr) (xs : List V) (bs : List Bod) (W : Int) (q : Addr) (L : Rat) (u : Addr) (t : Rat), vs = [.ref p, .ref q, .ref u] ∧ H p = some (.lst xs) ∧ Al2 (BdQ K H 64) xs bs ∧ bs.length ≤ 12 ∧ (∀ b ∈ bs, b.2.2 = W) ∧ Asc bs ∧ FQ K H q L ∧ FB 64 L ∧ 0 < L ∧ (∀ b ∈ bs, Inrm L b) ∧ FQ K H u t ∧ FB 2800 t ∧ ∀ (b : Bool) (H1 : Hp), (b = true ↔ Goes L bs bs t) → Same H H1 → Q (.bl b) H1
theorem sc_law_is_round : FnScope ["_law_world_here", "_law_length", "_law_moment", "_law_twice", "_law_there", "_law_body", "_law_often", "_law_back"] ["_law_world_here", "_law_length", "_law_moment"] (defScope (top 48)) := ⟨rfl, rfl, rfl, by decide +kernel, rfl, by decide +kernel, by decide +kernel⟩
theorem ok_law_is_round (D : Df K mg "_law_is_round" (top 48) ["_law_world_here", "_law_length", "_law_moment"]) (T : Tx K mg) (F_law_plus : Fn P w K mg base 2 "_law_plus" ["_law_one", "_law_other"] (sp_law_plus K)) (F_law_times : Fn P w K mg base 2 "_law_times" ["_law_one", "_law_other"] (sp_law_times K)) (F_law_over : Fn P w K mg base 2 "_law_over" ["_law_one", "_law_other"] (sp_law_over K)) (F_law_minus : Fn P w K mg base 2 "_law_minus" ["_law_one", "_law_other"] (sp_law_minus K)) (F_law_room : Fn P w K mg base 4 "_law_room" ["_law_world_here", "_law_length", "_law_moment"] (sp_law_room K)) : Fn P w K mg base 5 "_law_is_round" ["_law_world_here", "_law_length", "_law_moment"] (sp_law_is_round K) := by
  refine D.ok0 sc_law_is_round (fun vs H Q E h => ?_) (fun f cdv A outer s H vs Q E hr h => ?_)
  · obtain ⟨p, xs, bs, W, q, L, u, t, rfl, _⟩ := h
    rfl
  obtain ⟨p, xs, bs, W, q, L, u, t, rfl, hp, al, l12, hw, asc, gL, dL, L0, ins, gt, dt, k⟩ := h
  refine ⟨_, (pss_cons (ps_set (i := 3) sc_law_is_round.nd rfl (Or.inl rfl) (pe_fn F_law_plus (by decide) hr (by rfl) passE0 (pa_cons (pv 1) (pa_cons (pv 1) pa_nil))))
      (pss_cons (ps_set (i := 4) sc_law_is_round.nd rfl (Or.inl rfl) (pe_lst pa_nil))
      (pss_cons (ps_for PassesOwn.never rfl (pi_list (pv 0)) (pg_name (i := 5) sc_law_is_round.nd rfl (Or.inl rfl)) (pss_cons (ps_set (i := 6) sc_law_is_round.nd rfl (Or.inl rfl) (pe_fn F_law_over (by decide) hr (by rfl) passE0 (pa_cons (pe_fn F_law_times (by decide) hr (by rfl) passE0 (pa_cons (pe_ix ix_tup (pv 5) pe_int (fun _ _ => rfl)) (pa_cons (pv 2) pa_nil))) (pa_cons (pv 3) pa_nil))))
      (pss_cons (ps_set (i := 7) sc_law_is_round.nd rfl (Or.inl rfl) (pe_fn F_law_times (by decide) hr (by rfl) passE0 (pa_cons (pe_tup (pa_cons (pe_op op_fdivB (pe_ix ix_tup (pv 6) pe_int (fun _ _ => rfl)) (pe_ix ix_tup (pv 6) pe_int (fun _ _ => rfl))) (pa_cons pe_int pa_nil))) (pa_cons (pv 3) pa_nil))))
      (pss_one (ps_expr (pe_bm PySem.F.plainAttrs_list PySem.F.slot_list_append PySem.F.type_list_append mt_append (pv 4) (pa_cons (pe_tup (pa_cons (pe_fn F_law_minus (by decide) hr (by rfl) passE0 (pa_cons (pe_ix ix_tup (pv 5) pe_int (fun _ _ => rfl)) (pa_cons (pv 7) pa_nil))) (pa_cons (pe_ix ix_tup (pv 5) pe_int (fun _ _ => rfl)) (pa_cons (pe_ix ix_tup (pv 5) pe_int (fun _ _ => rfl)) pa_nil)))) pa_nil)))))))
      (pss_one (ps_ret (pe_cmpR (op_eqD (K := K) rfl (u100 hr)) (pe_fn F_law_room (by decide) hr (by rfl) passE0 (pa_cons (pv 4) (pa_cons (pv 1) (pa_cons (pv 2) pa_nil)))) (pv 0) (nomark _))))))), ?_⟩
  have hz := Al2.len al
  have LL0 : 0 < L + L := by grind
  have LLn : L + L ≠ 0 := by grind
  have dLL : FB 129 (L + L) := FB.add dL dL
  refine ⟨_, rfl, _, rfl, q, L, 64, q, L, 64, rfl, gL, dL, gL, dL, by decide, fun r1 H1 s1 g1 => ?_⟩
  refine ⟨by show 0 ≤ sizeLine; decide, ?_⟩
  intro p2 n2
  obtain ⟨H2, q2, s2, e2⟩ := newO n2 (.lst [])
  rw [q2]
  clear q2
  have s02 := s1.trans s2
  have hp2 := s02 _ _ hp
  have np : p ≠ p2 := ne_of_none (s1 _ _ hp) n2
  have n20 : H p2 = none := none_of_sm s1 n2
  have al2 := bds_same al s02
  have gL2 := Kw.Same.tup s02 gL
  have gt2 := Kw.Same.tup s02 gt
  have g12 := Kw.Same.tup s2 g1
  refine ⟨_, rfl, p, rfl, ⟨_, SqL.of hp2⟩, for_list (K := K) (a := p) (xs := xs) (fun i σ1 H' => ∃ (u5 u6 u7 : Option V) (ys : List V), σ1 = [some (.ref p), some (.ref q), some (.ref u), some (.ref r1), some (.ref p2), u5, u6, u7] ∧ But p2 H2 H' ∧ H' p2 = some (.lst ys) ∧ Al2 (BdQ K H' 3200) ys ((bs.take i).map (shB L t))) ⟨_, _, _, [], rfl, But.refl _, e2, trivial⟩ (by rintro _ _ _ _ ⟨_, _, _, _, _, g, _⟩; exact SqL.of (g _ _ np hp2)) ?_ ?_⟩
  · rintro i x σ1 H3 hx ⟨u5, u6, u7, ys, rfl, s3, hy3, ay3⟩
    obtain ⟨b, hb, pb, pa, pc, rfl, x1, x2, x3, x4, x5, x6, x7⟩ := Al2.get (bds_but al2 s3 e2) hx
    have hi : i < bs.length := (List.getElem?_eq_some_iff.mp hb).1
    refine ⟨_, rfl, pb, _, _, _, rfl, rfl, x1, rfl, _, rfl, pc, b.2.1, 64, u, t, 2800, rfl, x3, x5, s3.tup e2 gt2, dt, by decide, fun r4 H4 s4 g4 => ?_⟩
    have d4 := FB.mul x5 dt
    refine ⟨_, rfl, r4, _, _, r1, _, 129, rfl, g4, d4, Kw.Same.tup s4 (s3.tup e2 g12), dLL, by decide, LLn, fun r5 H5 s5 g5 => ?_⟩
    have d5 := FB.div d4 dLL LLn
    have s35 := s4.trans s5
    have b5 : 0 < (((b.2.1 * t / (L + L)).den : Nat) : Int) := by have := (b.2.1 * t / (L + L)).den_pos; omega
    have bk := fdiv_bd b5 d5.1
    refine ⟨_, rfl, r5, _, _, _, rfl, rfl, g5, rfl, _, rfl, r5, _, _, _, rfl, rfl, g5, rfl, _, _, rfl, rfl, ⟨by omega, (d5.2.mono (by decide)).log⟩, by show 2 ≤ sizeLine; decide, ?_⟩
    intro p6 n6
    obtain ⟨H6, q6, s6, e6⟩ := newO n6 (.tup [.int ((b.2.1 * t / (L + L)).num.fdiv (((b.2.1 * t / (L + L)).den : Nat) : Int)), .int 1])
    rw [q6]
    clear q6
    have g6 : FQ K H6 p6 ((flK L t b.2.1 : Int) : Rat) := FQ.ofInt (SqT.of e6)
    have d6 : FB _ ((flK L t b.2.1 : Int) : Rat) := FB.ofInt bk (by decide)
    have s36 := s35.trans s6
    refine ⟨_, rfl, p6, _, _, r1, _, 129, rfl, g6, d6, Kw.Same.tup s36 (s3.tup e2 g12), dLL, by decide, fun r7 H7 s7 g7 => ?_⟩
    have d7 := FB.mul d6 dLL
    have s37 := s36.trans s7
    have hy7 := s37 _ _ hy3
    have x17 := Kw.Same.tup s37 x1
    refine ⟨_, rfl, .inl ⟨rfl, _, SqL.of hy7⟩, _, rfl, pb, _, _, _, rfl, rfl, x17, rfl, _, rfl, pa, b.1, 64, r7, _, _, rfl, Kw.Same.tup s37 x2, x4, g7, d7, by decide, fun r8 H8 s8 g8 => ?_⟩
    have d8 := (FB.sub x4 d7).mono (n := 3200) (by decide)
    have x18 := Kw.Same.tup s8 x17
    refine ⟨_, rfl, pb, _, _, _, rfl, rfl, x18, rfl, _, rfl, pb, _, _, _, rfl, rfl, x18, rfl, by show 3 ≤ sizeLine; decide, ?_⟩
    intro p9 n9
    obtain ⟨H9, q9, s9, e9⟩ := newO n9 (.tup [.ref r8, .ref pc, .int b.2.2])
    rw [q9]
    clear q9
    have s39 := s37.trans (s8.trans s9)
    have hy9 := s39 _ _ hy3
    have ly : ys.length < sizeLine := by
      rw [Al2.len ay3, List.length_map, List.length_take]
      exact Nat.lt_of_le_of_lt (show min i bs.length ≤ 12 by omega) (by decide)
    refine ⟨p2, _, _, rfl, rfl, hy9, ly, ?_⟩
    obtain ⟨H10, q10, s10, e10⟩ := newB (H := H9) (p := p2) (.lst (ys ++ [.ref p9]))
    dsimp only
    rw [q10]
    clear q10
    have one : BdQ K H9 3200 (.ref p9) (shB L t b) := ⟨p9, r8, pc, rfl, SqT.of e9, Kw.Same.tup s9 g8, Kw.Same.tup s39 x3, d8, x5.mono (by decide), x6, x7⟩
    refine ⟨_, _, _, _, rfl, s3.trans ((But.of s39).trans s10), e10, ?_⟩
    rw [take_snoc hb, List.map_append]
    exact bds_but (Al2.snoc (bds_same ay3 s39) one) s10 hy9
  · rintro σ1 H3 ⟨u5, u6, u7, ys, rfl, s3, hy3, ay3⟩
    rw [hz, List.take_length] at ay3
    have hw' : ∀ b ∈ bs.map (shB L t), b.2.2 = W := fun b hb => by
      obtain ⟨b', hb', rfl⟩ := List.mem_map.mp hb
      exact hw b' hb'
    have hv' : ∀ b ∈ bs.map (shB L t), FB 64 b.2.1 := fun b hb => by
      obtain ⟨b', hb', rfl⟩ := List.mem_map.mp hb
      exact (bds_fb al b' hb').2
    have rng : ∀ b ∈ bs.map (shB L t), 0 < b.1 + b.2.1 * t ∧ b.1 + b.2.1 * t < L + L + L := fun b hb => by
      obtain ⟨b', hb', rfl⟩ := List.mem_map.mp hb
      exact shB_in L0 (ins b' hb')
    refine ⟨_, rfl, _, rfl, _, rfl, p2, ys, _, W, q, L, u, t, rfl, hy3, ay3, hv', by rw [List.length_map]; exact l12, hw', s3.tup e2 gL2, dL, L0, s3.tup e2 gt2, dt, rng, fun r4 ys4 H4 s4 n4 e4 al4 => ?_⟩
    rw [shB_fold L0] at al4
    have s04 : Same H H4 := (same_then_but n20 s02 s3).trans s4
    refine ⟨_, rfl, _, _, .lst (SqL.of e4) (bds_dp al4), .lst (SqL.of (s04 _ _ hp)) (bds_dp (bds_same al s04)), (bds_ok _).1, (bds_ok _).1, ?_, ?_⟩
    · have z := Nat.le_of_ble_eq_true (bds_ok bs).2
      exact Nat.le_trans (Nat.min_le_right _ _) z
    · rw [eqv_bds]
      refine k _ _ ?_ s04
      have fw : ∀ b ∈ bs.map (foldQ L t), b.2.2 = W := fun b hb => by
        obtain ⟨b', hb', rfl⟩ := List.mem_map.mp hb
        rw [foldQ_w]
        exact hw b' hb'
      rw [← round_goes L0 ins hw (asc_nodup asc) t, ← sort_round hw asc fw]
      exact ⟨of_decide_eq_true, decide_eq_true⟩
noncomputable def sp_law_due (K : PySem.W.Frag) : Sp := fun vs H Q _ => ∃ (p : Addr) (xs : List V) (bs : List Bod) (W : Int) (q : Addr) (L : Rat), vs = [.ref p, .ref q] ∧ H p = some (.lst xs) ∧ Al2 (BdQ K H 64) xs bs ∧ bs.length ≤ 12 ∧ (∀ b ∈ bs, b.2.2 = W) ∧ Asc bs ∧ FQ K H q L ∧ FB 64 L ∧ 0 < L ∧ (∀ b ∈ bs, Inrm L b) ∧ ∀ (v : V) (H1 : Hp), Same H H1 → DueV K H1 L bs v → Q v H1
theorem sc_law_due : FnScope ["_law_world_here", "_law_length", "_law_round", "_law_body", "_law_own", "_law_prime"] ["_law_world_here", "_law_length"] (defScope (top 49)) := ⟨rfl, rfl, rfl, by decide +kernel, rfl, by decide +kernel, by decide +kernel⟩
theorem ok_law_due (D : Df K mg "_law_due" (top 49) ["_law_world_here", "_law_length"]) (T : Tx K mg) (F_law_plus : Fn P w K mg base 2 "_law_plus" ["_law_one", "_law_other"] (sp_law_plus K)) (F_law_over : Fn P w K mg base 2 "_law_over" ["_law_one", "_law_other"] (sp_law_over K)) (F_law_common : Fn P w K mg base 2 "_law_common" ["_law_one", "_law_other"] (sp_law_common K)) (F_law_times : Fn P w K mg base 2 "_law_times" ["_law_one", "_law_other"] (sp_law_times K)) (F_law_is_round : Fn P w K mg base 5 "_law_is_round" ["_law_world_here", "_law_length", "_law_moment"] (sp_law_is_round K)) : Fn P w K mg base 6 "_law_due" ["_law_world_here", "_law_length"] (sp_law_due K) := by
  refine D.ok0 sc_law_due (fun vs H Q E h => ?_) (fun f cdv A outer s H vs Q E hr h => ?_)
  · obtain ⟨p, xs, bs, W, q, L, rfl, _⟩ := h
    rfl
  obtain ⟨p, xs, bs, W, q, L, rfl, hp, al, l12, hw, asc, gL, dL, L0, ins, k⟩ := h
  refine ⟨_, (pss_cons (ps_set (i := 2) sc_law_due.nd rfl (Or.inl rfl) pe_non)
      (pss_cons (ps_for PassesOwn.never rfl (pi_list (pv 0)) (pg_name (i := 3) sc_law_due.nd rfl (Or.inl rfl)) (pss_one (ps_if (pt_cmpR op_ne (pe_ix ix_tup (pe_ix ix_tup (pv 3) pe_int (fun _ _ => rfl)) pe_int (fun _ _ => rfl)) pe_int (nomark _)) (pss_cons (ps_set (i := 4) sc_law_due.nd rfl (Or.inl rfl) (pe_fn F_law_over (by decide) hr (by rfl) passE0 (pa_cons (pe_fn F_law_plus (by decide) hr (by rfl) passE0 (pa_cons (pv 1) (pa_cons (pv 1) pa_nil))) (pa_cons (pe_tup (pa_cons (pe_callB call_abs (by rfl) T.b_abs PyProof.Rows.Boot.«abs» (pa_cons (pe_ix ix_tup (pe_ix ix_tup (pv 3) pe_int (fun _ _ => rfl)) pe_int (fun _ _ => rfl)) pa_nil)) (pa_cons (pe_ix ix_tup (pe_ix ix_tup (pv 3) pe_int (fun _ _ => rfl)) pe_int (fun _ _ => rfl)) pa_nil))) pa_nil))))
      (pss_cons (ps_if (pt_cmpR op_isN (pv 2) pe_non (nomark _)) (pss_one (ps_set (i := 2) sc_law_due.nd rfl (Or.inl rfl) (pv 4))) pss_nil)
      (pss_one (ps_set (i := 2) sc_law_due.nd rfl (Or.inl rfl) (pe_fn F_law_common (by decide) hr (by rfl) passE0 (pa_cons (pv 2) (pa_cons (pv 4) pa_nil))))))) pss_nil)))
      (pss_cons (ps_if (pt_cmpR op_isN (pv 2) pe_non (nomark _)) (pss_one (ps_ret pe_non)) pss_nil)
      (pss_cons (ps_for PassesOwn.never rfl (pi_list (pe_lst (pa_cons pe_int (pa_cons pe_int (pa_cons pe_int (pa_cons pe_int (pa_cons pe_int pa_nil))))))) (pg_name (i := 5) sc_law_due.nd rfl (Or.inl rfl)) (pss_one (ps_while PassesOwn.never (pt_val (pe_fn F_law_is_round (by decide) hr (by rfl) passE0 (pa_cons (pv 0) (pa_cons (pv 1) (pa_cons (pe_fn F_law_times (by decide) hr (by rfl) passE0 (pa_cons (pv 2) (pa_cons (pe_tup (pa_cons pe_int (pa_cons (pv 5) pa_nil))) pa_nil))) pa_nil)))) (fun _ => rfl)) (pss_one (ps_set (i := 2) sc_law_due.nd rfl (Or.inl rfl) (pe_fn F_law_times (by decide) hr (by rfl) passE0 (pa_cons (pv 2) (pa_cons (pe_tup (pa_cons pe_int (pa_cons (pv 5) pa_nil))) pa_nil))))))))
      (pss_one (ps_ret (pv 2))))))), ?_⟩
  have hz := Al2.len al
  have LL0 : 0 < L + L := by grind
  have dLL : FB 129 (L + L) := FB.add dL dL
  refine ⟨_, rfl, p, rfl, ⟨_, SqL.of hp⟩, for_list (K := K) (a := p) (xs := xs) (fun i σ1 H1 => ∃ (wh : V) (u3 u4 u5 : Option V), σ1 = [some (.ref p), some (.ref q), some wh, u3, u4, u5] ∧ Same H H1 ∧ ((wh = .non ∧ ∀ b ∈ bs.take i, b.2.1 = 0) ∨ ∃ (r : Addr) (T : Rat), wh = .ref r ∧ FQ K H1 r T ∧ 0 < T ∧ FB (194 * (i + 1)) T ∧ (∃ b ∈ bs.take i, b.2.1 ≠ 0) ∧ ∀ t, Owns L (bs.take i) t ↔ MulQ T t)) ⟨_, _, _, _, rfl, Same.refl _, .inl ⟨rfl, fun _ z => (nomatch z)⟩⟩ (by rintro _ _ _ _ ⟨_, _, _, _, _, g, _⟩; exact SqL.of (g _ _ hp)) ?_ ?_⟩
  · rintro i x σ1 H3 hx ⟨wh, u3, u4, u5, rfl, s3, st⟩
    obtain ⟨b, hb, pb, pa, pc, rfl, x1, x2, x3, x4, x5, x6, x7⟩ := Al2.get (bds_same al s3) hx
    have hi : i < bs.length := (List.getElem?_eq_some_iff.mp hb).1
    rw [take_snoc hb]
    have inn : b ∈ bs.take i ++ [b] := List.mem_append_right _ (List.mem_singleton.mpr rfl)
    refine ⟨_, rfl, pb, _, _, _, rfl, rfl, x1, rfl, pc, _, _, _, rfl, rfl, x3, rfl, rfl, _, rfl, ?_⟩
    refine if_neI (fun c => ?_) (fun c => ?_)
    · have hv : b.2.1 ≠ 0 := fun z => c (by rw [z]; rfl)
      have gL3 := Kw.Same.tup s3 gL
      refine ⟨_, rfl, _, rfl, q, L, 64, q, L, 64, rfl, gL3, dL, gL3, dL, by decide, fun r4 H4 s4 g4 => ?_⟩
      have x14 := Kw.Same.tup s4 x1
      have x34 := Kw.Same.tup s4 x3
      refine ⟨_, rfl, pb, _, _, _, rfl, rfl, x14, rfl, pc, _, _, _, rfl, rfl, x34, rfl, _, rfl, _, rfl, pb, _, _, _, rfl, rfl, x14, rfl, pc, _, _, _, rfl, rfl, x34, rfl, by show 2 ≤ sizeLine; decide, ?_⟩
      intro p5 n5
      obtain ⟨H5, q5, s5, e5⟩ := newO n5 (.tup [.int (if b.2.1.num < 0 then -b.2.1.num else b.2.1.num), .int ((b.2.1.den : Nat) : Int)])
      rw [q5]
      clear q5
      have g5 : FQ K H5 p5 (absQ b.2.1) := FQ.abs (SqT.of e5)
      have av := abs_pos hv
      have an : absQ b.2.1 ≠ 0 := by grind
      refine ⟨r4, _, 129, p5, _, 64, rfl, Kw.Same.tup s5 g4, dLL, g5, FB.abs x5, by decide, an, fun r6 H6 s6 g6 => ?_⟩
      have d6 : FB 194 ((L + L) / absQ b.2.1) := (FB.div dLL (FB.abs x5) an).mono (by decide)
      have p6 : 0 < (L + L) / absQ b.2.1 := qdiv_pos LL0 av
      have s36 := s4.trans (s5.trans s6)
      refine ⟨_, rfl, rfl, _, rfl, ?_⟩
      rcases st with ⟨rfl, still⟩ | ⟨r, T, rfl, gT, T0, dT, mv0, hT⟩
      · refine if_dec (fun _ => ?_) (fun c => absurd rfl c)
        refine ⟨_, rfl, ?_⟩
        refine ⟨_, rfl, _, rfl, r6, _, r6, _, rfl, g6, d6.mono (by decide), g6, d6.mono (by decide), p6, p6, fun r7 H7 s7 g7 => ?_⟩
        refine ⟨_, _, _, _, rfl, s3.trans (s36.trans s7), .inr ⟨r7, _, rfl, g7, lcm_pos p6 p6, (lcm_fb p6 p6 d6 d6).mono (by omega), ⟨b, inn, hv⟩, fun t => ?_⟩⟩
        rw [lcm_self p6, owns_mov hv]
        exact ⟨fun h => h.2, fun h => ⟨owns_none still, h⟩⟩
      · refine if_dec (fun c => nomatch c) (fun _ => ?_)
        refine ⟨_, rfl, _, rfl, r, T, r6, _, rfl, Kw.Same.tup s36 gT, dT.mono (by omega), g6, d6.mono (by decide), T0, p6, fun r7 H7 s7 g7 => ?_⟩
        refine ⟨_, _, _, _, rfl, s3.trans (s36.trans s7), .inr ⟨r7, _, rfl, g7, lcm_pos T0 p6, (lcm_fb T0 p6 dT d6).mono (by omega), ⟨b, inn, hv⟩, fun t => ?_⟩⟩
        rw [lcm_mul T0 p6, owns_mov hv, hT t]
    · have hv : b.2.1 = 0 := Rat.num_eq_zero.mp c
      refine ⟨wh, _, _, _, rfl, s3, ?_⟩
      rcases st with ⟨rfl, still⟩ | ⟨r, T, rfl, gT, T0, dT, ⟨b', hb', hv'⟩, hT⟩
      · refine .inl ⟨rfl, fun b' hb' => ?_⟩
        rcases List.mem_append.mp hb' with z | z
        · exact still b' z
        · rw [List.mem_singleton.mp z]
          exact hv
      · exact .inr ⟨r, T, rfl, gT, T0, dT.mono (by omega), ⟨b', List.mem_append_left _ hb', hv'⟩, fun t => by rw [owns_still hv, hT t]⟩
  · rintro σ1 H3 ⟨wh, u3, u4, u5, rfl, s3, st⟩
    rw [hz, List.take_length] at st
    refine ⟨_, rfl, rfl, _, rfl, ?_⟩
    rcases st with ⟨rfl, still⟩ | ⟨r, T0, rfl, gT, T00, dT, mv, hT⟩
    · refine if_dec (fun _ => ?_) (fun c => absurd rfl c)
      exact k _ H3 s3 (.inl ⟨still, rfl⟩)
    · refine if_dec (fun c => nomatch c) (fun _ => ?_)
      obtain ⟨T, Tp, hTT⟩ := goes_T L0 ins bs (fun _ h => h) mv
      obtain ⟨n0, n01, en0, nd0⟩ := owns_start L0 ins l12 Tp T00 hTT hT
      have lim : ∀ {n : Nat}, n ∣ facN 12 → n ≤ 479001600 := fun h => by
        rw [fac12] at h
        exact Nat.le_of_dvd (by decide) h
      have eT : T = T0 / (n0 : Rat) := by
        have := rat_pos n01
        have i1 := Rat.mul_inv_cancel (n0 : Rat) (by grind)
        rw [en0, Rat.div_def]
        grind
      have dTT : FB 2600 T := by
        have := rat_pos n01
        rw [eT]
        exact (FB.div dT (small_nat (lim nd0)) (by grind)).mono (by omega)
      rw [en0] at gT
      refine ⟨by show 5 ≤ sizeLine; decide, ?_⟩
      intro p4 n4
      obtain ⟨H4, q4, s4, e4⟩ := newO n4 (.lst [.int 2, .int 3, .int 5, .int 7, .int 11])
      rw [q4]
      clear q4
      have s04 := s3.trans s4
      refine ⟨p4, rfl, ⟨_, SqL.of e4⟩, for_list (K := K) (a := p4) (xs := [.int 2, .int 3, .int 5, .int 7, .int 11]) (fun i σ1 H1 => ∃ (r : Addr) (n : Nat) (u3 u4 u5 : Option V), σ1 = [some (.ref p), some (.ref q), some (.ref r), u3, u4, u5] ∧ Same H4 H1 ∧ FQ K H1 r ((n : Rat) * T) ∧ 1 ≤ n ∧ n ∣ facN 12 ∧ ∀ j pr, j < i → ([2, 3, 5, 7, 11] : List Nat)[j]? = some pr → ¬ pr ∣ n) ⟨r, n0, _, _, _, rfl, Same.refl _, Kw.Same.tup s4 gT, n01, nd0, fun _ _ h => absurd h (by omega)⟩ (by rintro _ _ _ _ ⟨_, _, _, _, _, _, g, _⟩; exact SqL.of (g _ _ e4)) ?_ ?_⟩
      · rintro i x σ1 H5 hx ⟨r5, n5, u3', u4', u5', rfl, s5, g5, n51, nd5, below⟩
        obtain ⟨pr, hpr, rfl⟩ : ∃ pr : Nat, ([2, 3, 5, 7, 11] : List Nat)[i]? = some pr ∧ x = .int (pr : Int) := by
          have e : ([.int 2, .int 3, .int 5, .int 7, .int 11] : List V) = ([2, 3, 5, 7, 11] : List Nat).map (fun p : Nat => V.int ((p : Nat) : Int)) := rfl
          rw [e, List.getElem?_map] at hx
          obtain ⟨pr, h1, h2⟩ := Option.map_eq_some_iff.mp hx
          exact ⟨pr, h1, h2.symm⟩
        have pp : 2 ≤ pr ∧ pr ≤ 100 := (show ∀ z ∈ ([2, 3, 5, 7, 11] : List Nat), 2 ≤ z ∧ z ≤ 100 by decide) pr (List.mem_of_getElem? hpr)
        have up : FB 64 (Rat.divInt 1 (pr : Int)) := unit_fb (by omega) pp.2
        have gc : Int.gcd 1 (pr : Int) = 1 := Int.one_gcd
        refine ⟨fun m σ1 H1 => ∃ (r : Addr) (n : Nat), σ1 = [some (.ref p), some (.ref q), some (.ref r), u3', u4', some (.int (pr : Int))] ∧ Same H4 H1 ∧ FQ K H1 r ((n : Rat) * T) ∧ 1 ≤ n ∧ n ∣ facN 12 ∧ (∀ j pr', j < i → ([2, 3, 5, 7, 11] : List Nat)[j]? = some pr' → ¬ pr' ∣ n) ∧ m = n, ⟨_, r5, n5, rfl, s5, g5, n51, nd5, below, rfl⟩, ?_⟩
        rintro m σ1 H6 ⟨r6, n6, rfl, s6, g6, n61, nd6, below6, rfl⟩
        have d6 : FB 2700 ((m : Rat) * T) := (FB.mul (small_nat (lim nd6)) dTT).mono (by decide)
        refine ⟨_, rfl, _, rfl, _, rfl, _, rfl, by show 2 ≤ sizeLine; decide, ?_⟩
        intro p7 n7
        obtain ⟨H7, q7, s7, e7⟩ := newO n7 (.tup [.int 1, .int (pr : Int)])
        rw [q7]
        clear q7
        have g7 : FQ K H7 p7 (Rat.divInt 1 (pr : Int)) := FQ.lit (SqT.of e7) (by omega) gc
        refine ⟨r6, _, 2700, p7, _, 64, rfl, Kw.Same.tup s7 g6, d6, g7, up, by decide, fun r8 H8 s8 g8 => ?_⟩
        have s68 := s7.trans s8
        have s08 := s04.trans (s6.trans s68)
        refine ⟨p, xs, bs, W, q, L, r8, _, rfl, s08 _ _ hp, bds_same al s08, l12, hw, asc, Kw.Same.tup s08 gL, dL, L0, ins, g8, (FB.mul d6 up).mono (by decide), fun bb H9 hbb s9 => ⟨_, rfl, ?_⟩⟩
        rw [hTT, mul_part Tp (show 1 ≤ pr by omega)] at hbb
        have s69 := s68.trans s9
        cases bb with
        | true =>
          obtain ⟨j, ej, eT⟩ := part_T (T := T) (show 1 ≤ pr by omega) (hbb.mp rfl)
          refine iteT ?_
          refine ⟨_, fun _ _ n => n, ?_⟩
          refine ⟨_, rfl, _, rfl, by show 2 ≤ sizeLine; decide, ?_⟩
          intro p10 n10
          obtain ⟨H10, q10, s10, e10⟩ := newO n10 (.tup [.int 1, .int (pr : Int)])
          rw [q10]
          clear q10
          have g10 : FQ K H10 p10 (Rat.divInt 1 (pr : Int)) := FQ.lit (SqT.of e10) (by omega) gc
          refine ⟨r6, _, 2700, p10, _, 64, rfl, Kw.Same.tup (s69.trans s10) g6, d6, g10, up, by decide, fun r11 H11 s11 g11 => ?_⟩
          have j1 : 1 ≤ j := by
            rcases Nat.eq_zero_or_pos j with z | z
            · rw [z] at ej
              omega
            · exact z
          have jm : j < m := by
            have : 2 * j ≤ pr * j := Nat.mul_le_mul_right _ pp.1
            omega
          have jd : j ∣ m := ⟨pr, by rw [ej, Nat.mul_comm]⟩
          exact ⟨j, jm, r11, j, rfl, s6.trans (s69.trans (s10.trans s11)), FQ.cast g11 eT, j1, Nat.dvd_trans jd nd6, fun j' pr' h1 h2 h3 => below6 j' pr' h1 h2 (Nat.dvd_trans h3 jd), rfl⟩
        | false =>
          refine iteF ?_
          refine ⟨r6, m, _, _, _, rfl, s6.trans s69, Kw.Same.tup s69 g6, n61, nd6, fun j pr' hj hp' => ?_⟩
          by_cases ej : j = i
          · subst ej
            cases hpr.symm.trans hp'
            exact fun z => Bool.noConfusion (hbb.mpr z)
          · exact below6 j pr' (by omega) hp'
      · rintro σ1 H5 ⟨r5, n5, u3', u4', u5', rfl, s5, g5, n51, nd5, below⟩
        have n1 : n5 = 1 := down_end nd5 (below 0 2 (by decide) rfl) (below 1 3 (by decide) rfl) (below 2 5 (by decide) rfl) (below 3 7 (by decide) rfl) (below 4 11 (by decide) rfl)
        subst n1
        have e1 : (((1 : Nat)) : Rat) * T = T := by have z : (((1 : Nat)) : Rat) = 1 := rfl; rw [z]; grind
        exact ⟨_, rfl, k _ H5 (s04.trans s5) (.inr ⟨mv, r5, T, rfl, FQ.cast g5 e1, Tp, hTT⟩)⟩
theorem sc_law : FnScope ["_law_script", "_law_k", "_law_box_here", "_law_world_here", "_law_length", "_law_due_here", "_law_still"] ["_law_script"] (defScope (top 50)) := ⟨rfl, rfl, rfl, by decide +kernel, rfl, by decide +kernel, by decide +kernel⟩
theorem ok_law (D : Df K mg "law" (top 50) ["_law_script"]) (T : Tx K mg) (F_law_box : Fn P w K mg base 2 "_law_box" ["_law_script", "_law_k"] (spBox K)) (F_law_within : Fn P w K mg base 3 "_law_within" ["_law_box_here"] (sp_law_within K)) (F_law_due : Fn P w K mg base 6 "_law_due" ["_law_world_here", "_law_length"] (sp_law_due K)) (F_round_of : Fn P w K mg base 7 "round_of" ["world", "length"] (sp_round_of K)) : Fn P w K mg base 8 "law" ["_law_script"] (spLaw K) := by
  refine D.ok0 sc_law (fun vs H Q E h => ?_) (fun f cdv A outer s H vs Q E hr h => ?_)
  · obtain ⟨a, rfl, _⟩ := h
    rfl
  obtain ⟨a, rfl, hS, fin⟩ := h
  refine ⟨_, (pss_cons (ps_for PassesOwn.never rfl (pi_range1 (by rfl) T.b_range (pa_cons (pe_callB (call_max2 rfl) (by rfl) T.b_max PyProof.Rows.Boot.«max» (pa_cons pe_int (pa_cons (pe_callB (call_min2 rfl) (by rfl) T.b_min PyProof.Rows.Boot.«min» (pa_cons (pe_callB call_len (by rfl) T.b_len PyProof.Rows.Boot.«len» (pa_cons (pv 0) pa_nil)) (pa_cons pe_int pa_nil))) pa_nil))) pa_nil)) (pg_name (i := 1) sc_law.nd rfl (Or.inl rfl)) (pss_cons (ps_set (i := 2) sc_law.nd rfl (Or.inl rfl) (pe_fn F_law_box (by decide) hr (by rfl) passE0 (pa_cons (pv 0) (pa_cons (pv 1) pa_nil))))
      (pss_cons (ps_asg (pe_fn F_law_within (by decide) hr (by rfl) passE0 (pa_cons (pv 2) pa_nil)) (pg_tup rfl (pgs_cons (pg_name (i := 3) sc_law.nd rfl (Or.inl rfl)) (pgs_cons (pg_name (i := 4) sc_law.nd rfl (Or.inl rfl)) pgs_nil))))
      (pss_cons (ps_set (i := 5) sc_law.nd rfl (Or.inl rfl) (pe_fn F_law_due (by decide) hr (by rfl) passE0 (pa_cons (pv 3) (pa_cons (pv 4) pa_nil))))
      (pss_cons (ps_if (pt_cmpR (op_neA (K := K) rfl (u100 hr)) (pe_fn F_round_of (by decide) hr (by rfl) passE0 (pa_cons (pv 3) (pa_cons (pv 4) pa_nil))) (pv 5) (nomark _)) (pss_one (ps_ret pe_bl)) pss_nil)
      (pss_cons (@ps_lc _ _ _ _ _ _ _ _ _ _ [] [] 6 _ _ _ sc_law.nd rfl rfl rfl rfl (pi_list (pv 3)) rfl (by decide) rfl (by decide) rfl (by decide) cap_none (fun _ _ h => nomatch h) (no_free rfl) (fun C z Hc fp => (pe_tup (pa_cons (pe_ix (ixT (K := K) rfl) (pv 0) pe_int (fun _ _ => rfl)) (pa_cons (pe_tup (pa_cons pe_int (pa_cons pe_int pa_nil))) (pa_cons (pe_ix (ixT (K := K) rfl) (pv 0) pe_int (fun _ _ => rfl)) pa_nil))))) (fun _ => rfl))
      (pss_one (ps_if (pw_or (pt_cmpR op_notN (pe_fn F_round_of (by decide) hr (by rfl) passE0 (pa_cons (pv 6) (pa_cons (pv 4) pa_nil))) pe_non (nomark _)) (pw_or1 (pt_cmpR (op_neA (K := K) rfl (u100 hr)) (pe_fn F_round_of (by decide) hr (by rfl) passE0 (pa_cons (pv 3) (pa_cons (pv 4) pa_nil))) (pv 5) (nomark _)))).pt (pss_one (ps_ret pe_bl)) pss_nil))))))))
      (pss_one (ps_ret pe_bl))), ?_⟩
  obtain ⟨ns, hL, h63, _⟩ := id hS
  refine ⟨_, rfl, _, _, rfl, .inl ⟨_, hL, rfl⟩, _, _, rfl, _, _, rfl, _, rfl, ?_⟩
  obtain ⟨m, hme, m1, m8⟩ := most_of ns 2 (by decide)
  rw [hme]
  refine ⟨by omega, by omega, for_range (n := m.toNat) (fun i σ' H' => ∃ r1 r2 r3 r4 r5 r6 : Option V, σ' = [some (.ref a), r1, r2, r3, r4, r5, r6] ∧ Same H H') ⟨_, _, _, _, _, _, rfl, Same.refl H⟩ ?_ ?_⟩
  · rintro i σ0 H0 hi ⟨r1, r2, r3, r4, r5, r6, rfl, sm⟩
    refine ⟨_, rfl, _, rfl, a, _, rfl, Scr.same hS sm, by omega, by omega, fun b nb Hb hb0 sb hb => ?_⟩
    refine ⟨_, rfl, b, nb, rfl, hb, fun rr f q xs bs W L n1 H1 s1 nf nfb hb1 hrr hf1 al1 l1 l12 asc w1 w2 hw gL1 dL wi => ?_⟩
    have hz := Al2.len al1
    have L0 : 0 < L := by
      obtain ⟨b, hb⟩ : ∃ b, b ∈ bs := ⟨_, List.getElem_mem (show 0 < bs.length by omega)⟩
      have := wi b hb
      unfold Inrm at this
      grind
    refine ⟨rr, _, rfl, hrr, rfl, _, _, rfl, _, _, rfl, rfl, ?_⟩
    refine ⟨_, rfl, _, rfl, f, xs, bs, W, q, L, rfl, hf1, al1, l12, hw, asc, gL1, dL, L0, wi, fun v2 H2 s2 due2 => ?_⟩
    refine ⟨_, rfl, _, rfl, f, xs, bs, W, q, L, rfl, s2 _ _ hf1, bds_same al1 s2, l1, l12, hw, Kw.Same.tup s2 gL1, dL, L0, wi, fun v3 H3 s3 due3 => ?_⟩
    have s13 := s2.trans s3
    have hf3 := s13 _ _ hf1
    obtain ⟨d3, a3, b3, c3, e3⟩ := due3.dp (due2.same s3)
    refine ⟨_, rfl, d3, a3, b3, c3, e3, _, rfl, iteF ?_⟩
    refine ⟨_, rfl, f, rfl, ⟨_, SqL.of hf3⟩, lc_list (K := K) (xs := xs) (fun i ys H' => i ≤ xs.length ∧ Same H3 H' ∧ Al2 (BdQ K H' 64) ys ((bs.take i).map stB)) ⟨Nat.zero_le _, Same.refl _, trivial⟩ (by rw [hz]; exact Nat.le_trans l12 (by decide)) (fun i ys H1 z => by obtain ⟨l, _, e⟩ := z; have := Al2.len e; simp at this; omega) (fun i ys H1 z => by obtain ⟨_, g, _⟩ := z; exact SqL.of (g _ _ hf3)) ?_ ?_⟩
    · rintro i x ys H4 Q4 hx ⟨hl, s4, hy⟩ kq
      have hi : i < xs.length := (List.getElem?_eq_some_iff.mp hx).1
      obtain ⟨c, hc, pb, pa, pc, rfl, x1, x2, x3, x4, x5, x6, x7⟩ := Al2.get (bds_same al1 (s13.trans s4)) hx
      refine ⟨_, rfl, pb, _, _, _, rfl, rfl, x1, rfl, by show 2 ≤ sizeLine; decide, ?_⟩
      intro p5 n5
      obtain ⟨H5, q5, s5, e5⟩ := newO n5 (.tup [.int 0, .int 1])
      rw [q5]
      clear q5
      have x15 := Kw.Same.tup s5 x1
      refine ⟨_, rfl, pb, _, _, _, rfl, rfl, x15, rfl, by show 3 ≤ sizeLine; decide, ?_⟩
      intro p6 n6
      obtain ⟨H6, q6, s6, e6⟩ := newO n6 (.tup [.ref pa, .ref p5, .int c.2.2])
      rw [q6]
      clear q6
      have s46 := s5.trans s6
      refine kq _ _ ⟨hi, s4.trans s46, ?_⟩
      rw [take_snoc hc, List.map_append]
      exact Al2.snoc (bds_same hy s46) ⟨p6, pa, p5, rfl, SqT.of e6, Kw.Same.tup s46 x2, FQ.ofInt (SqT.of (s6 _ _ e5)), x4, FB.ofInt (Bd.small (by decide) (by decide)) (by decide), x6, x7⟩
    · rintro ys H4 ⟨_, s4, hy⟩ pl hpl
      rw [hz, List.take_length] at hy
      obtain ⟨H5, q5, s5, e5⟩ := newO hpl (.lst ys)
      rw [q5]
      clear q5
      have s35 := s4.trans s5
      have s15 := s13.trans s35
      have lm : (bs.map stB).length = bs.length := List.length_map _
      refine ⟨_, rfl, _, rfl, pl, ys, bs.map stB, W, q, L, rfl, e5, bds_same hy s5, by omega, by omega, ?_, Kw.Same.tup s15 gL1, dL, L0, ?_, fun v6 H6 s6 due6 => ?_⟩
      · intro c hc
        obtain ⟨c', hc', rfl⟩ := List.mem_map.mp hc
        exact hw c' hc'
      · intro c hc
        obtain ⟨c', hc', rfl⟩ := List.mem_map.mp hc
        exact wi c' hc'
      have ev := due6.still (fun c hc => by
        obtain ⟨c', hc', rfl⟩ := List.mem_map.mp hc
        rfl)
      subst ev
      refine ⟨rfl, _, rfl, ?_⟩
      refine if_not (fun c => absurd rfl c) (fun _ => ?_)
      have s16 := s15.trans s6
      refine ⟨_, rfl, _, rfl, f, xs, bs, W, q, L, rfl, s16 _ _ hf1, bds_same al1 s16, l1, l12, hw, Kw.Same.tup s16 gL1, dL, L0, wi, fun v7 H7 s7 due7 => ?_⟩
      have s37 := s35.trans (s6.trans s7)
      obtain ⟨d7, a7, b7, c7, e7⟩ := due7.dp (due2.same (s3.trans s37))
      refine ⟨_, rfl, d7, a7, b7, c7, e7, _, rfl, iteF ?_⟩
      exact ⟨_, _, _, _, _, _, rfl, sm.trans (But.fresh hb0 ((But.of sb).trans (s1.trans (But.of (s16.trans s7)))))⟩
  · rintro σ0 H0 ⟨r1, r2, r3, r4, r5, r6, rfl, sm⟩
    exact fin _
end
theorem len1 {p : List Value → Prop} (h : ∀ x0, p [x0]) : ∀ us : List Value, us.length = 1 → p us := by
  intro us e
  cases us with
  | nil => exact absurd e (by show ¬ 0 = 1; decide)
  | cons x0 us =>
    cases us with
    | nil => exact h x0
    | cons y us => exact absurd e (by show ¬ us.length + 2 = 1; omega)
theorem len2 {p : List Value → Prop} (h : ∀ x0 x1, p [x0, x1]) : ∀ us : List Value, us.length = 2 → p us := by
  intro us e
  cases us with
  | nil => exact absurd e (by show ¬ 0 = 2; decide)
  | cons x0 us =>
    cases us with
    | nil => exact absurd e (by show ¬ 1 = 2; decide)
    | cons x1 us =>
      cases us with
      | nil => exact h x0 x1
      | cons y us => exact absurd e (by show ¬ us.length + 3 = 2; omega)
theorem len3 {p : List Value → Prop} (h : ∀ x0 x1 x2, p [x0, x1, x2]) : ∀ us : List Value, us.length = 3 → p us := by
  intro us e
  cases us with
  | nil => exact absurd e (by show ¬ 0 = 3; decide)
  | cons x0 us =>
    cases us with
    | nil => exact absurd e (by show ¬ 1 = 3; decide)
    | cons x1 us =>
      cases us with
      | nil => exact absurd e (by show ¬ 2 = 3; decide)
      | cons x2 us =>
        cases us with
        | nil => exact h x0 x1 x2
        | cons y us => exact absurd e (by show ¬ us.length + 4 = 3; omega)
set_option maxHeartbeats 0 in
theorem all_mk {P : Program} {w : World} {K : PySem.W.Frag} {h : Heap} {mg : Str → Option Value} (X : K.In h) (G : h.Ns mainGlobals mg)
    {f0 f1 f2 f3 f4 f5 f6 f7 f8 f9 f10 f11 f12 f13 f14 f15 f16 f17 f18 f19 f20 f21 f22 f23 f24 f25 f26 f27 f28 f29 f30 f31 f32 f33 f34 f35 f36 f37 d2 : Addr}
    {oc0 kV0 dc0 pm0 cd0 ct0 oc1 kV1 dc1 pm1 cd1 ct1 oc2 kV2 dc2 pm2 cd2 ct2 oc3 kV3 dc3 pm3 cd3 ct3 oc4 kV4 dc4 pm4 cd4 ct4 oc5 kV5 dc5 pm5 cd5 ct5 oc6 kV6 dc6 pm6 cd6 ct6 oc7 kV7 dc7 pm7 cd7 ct7 oc8 kV8 dc8 pm8 cd8 ct8 oc9 kV9 dc9 pm9 cd9 ct9 oc10 kV10 dc10 pm10 cd10 ct10 oc11 kV11 dc11 pm11 cd11 ct11 oc12 kV12 dc12 pm12 cd12 ct12 oc13 kV13 dc13 pm13 cd13 ct13 oc14 kV14 dc14 pm14 cd14 ct14 oc15 kV15 dc15 pm15 cd15 ct15 oc16 kV16 dc16 pm16 cd16 ct16 oc17 kV17 dc17 pm17 cd17 ct17 oc18 kV18 dc18 pm18 cd18 ct18 oc19 kV19 dc19 pm19 cd19 ct19 oc20 kV20 dc20 pm20 cd20 ct20 oc21 kV21 dc21 pm21 cd21 ct21 oc22 kV22 dc22 pm22 cd22 ct22 oc23 kV23 dc23 pm23 cd23 ct23 oc24 kV24 dc24 pm24 cd24 ct24 oc25 kV25 dc25 pm25 cd25 ct25 oc26 kV26 dc26 pm26 cd26 ct26 oc27 kV27 dc27 pm27 cd27 ct27 oc28 kV28 dc28 pm28 cd28 ct28 oc29 kV29 dc29 pm29 cd29 ct29 oc30 kV30 dc30 pm30 cd30 ct30 oc31 kV31 dc31 pm31 cd31 ct31 oc32 kV32 dc32 pm32 cd32 ct32 oc33 kV33 dc33 pm33 cd33 ct33 oc34 kV34 dc34 pm34 cd34 ct34 oc35 kV35 dc35 pm35 cd35 ct35 oc36 kV36 dc36 pm36 cd36 ct36 oc37 kV37 dc37 pm37 cd37 ct37 : Value}
    {od0 an0 od1 an1 od2 an2 od3 an3 od4 an4 od5 an5 od6 an6 od7 an7 od8 an8 od9 an9 od10 an10 od11 an11 od12 an12 od13 an13 od14 an14 od15 an15 od16 an16 od17 an17 od18 an18 od19 an19 od20 an20 od21 an21 od22 an22 od23 an23 od24 an24 od25 an25 od26 an26 od27 an27 od28 an28 od29 an29 od30 an30 od31 an31 od32 an32 od33 an33 od34 an34 od35 an35 od36 an36 od37 an37 : Option Addr}
    {sl0 sl1 sl2 sl3 sl4 sl5 sl6 sl7 sl8 sl9 sl10 sl11 sl12 sl13 sl14 sl15 sl16 sl17 sl18 sl19 sl20 sl21 sl22 sl23 sl24 sl25 sl26 sl27 sl28 sl29 sl30 sl31 sl32 sl33 sl34 sl35 sl36 sl37 : Array (Option Value)}
    {cD2 : Value} {oD2 : Option Addr} {tD2 : Tok} {nD2 : Nat} {slD2 : Array (Option Value)}
    {tk_LONG_BITS : Tok}
    {A_NOUGHT : Addr} {oG_NOUGHT : Option Addr} {k1_NOUGHT k2_NOUGHT : Tok} {nG_NOUGHT : Nat} {slG_NOUGHT : Array (Option Value)}
    {A_TWO : Addr} {oG_TWO : Option Addr} {k1_TWO k2_TWO : Tok} {nG_TWO : Nat} {slG_TWO : Array (Option Value)}
    (b_isinstance : PySem.W.nsIn K mainGlobals "isinstance" = some none)
    (b_int : PySem.W.nsIn K mainGlobals "int" = some none)
    (b_bool : PySem.W.nsIn K mainGlobals "bool" = some none)
    (b_abs : PySem.W.nsIn K mainGlobals "abs" = some none)
    (b_len : PySem.W.nsIn K mainGlobals "len" = some none)
    (b_divmod : PySem.W.nsIn K mainGlobals "divmod" = some none)
    (b_range : PySem.W.nsIn K mainGlobals "range" = some none)
    (b_max : PySem.W.nsIn K mainGlobals "max" = some none)
    (b_min : PySem.W.nsIn K mainGlobals "min" = some none)
    (b_all : PySem.W.nsIn K mainGlobals "all" = some none)
    (i_LONG_BITS : PySem.W.nsIn K mainGlobals "LONG_BITS" = some (some (.int 4000 tk_LONG_BITS)))
    (c_NOUGHT : PySem.W.nsIn K mainGlobals "NOUGHT" = some (some (.ref A_NOUGHT)))
    (z_NOUGHT : K.lookup A_NOUGHT = some ⟨.type "tuple", oG_NOUGHT, .seq #[.int 0 k1_NOUGHT, .int 1 k2_NOUGHT] nG_NOUGHT, slG_NOUGHT⟩)
    (c_TWO : PySem.W.nsIn K mainGlobals "TWO" = some (some (.ref A_TWO)))
    (z_TWO : K.lookup A_TWO = some ⟨.type "tuple", oG_TWO, .seq #[.int 2 k1_TWO, .int 1 k2_TWO] nG_TWO, slG_TWO⟩)
    (a0 : PySem.W.nsIn K mainGlobals "is_whole" = some (some (.ref f0)))
    (l0 : K.lookup f0 = some ⟨oc0, od0, .func (PySem.W.fnOf "is_whole" "is_whole" (defArgs (top 7)) (defBody (top 7)) (defScope (top 7)) .none kV0 dc0 pm0 an0 cd0 ct0), sl0⟩)
    (q0 : PySem.W.codeIn K cd0 "is_whole" = true)
    (k0 : PySem.W.keepIn K (.ref f0) = true)
    (a1 : PySem.W.nsIn K mainGlobals "common_divisor" = some (some (.ref f1)))
    (l1 : K.lookup f1 = some ⟨oc1, od1, .func (PySem.W.fnOf "common_divisor" "common_divisor" (defArgs (top 9)) (defBody (top 9)) (defScope (top 9)) .none kV1 dc1 pm1 an1 cd1 ct1), sl1⟩)
    (q1 : PySem.W.codeIn K cd1 "common_divisor" = true)
    (k1 : PySem.W.keepIn K (.ref f1) = true)
    (a2 : PySem.W.nsIn K mainGlobals "fraction" = some (some (.ref f2)))
    (l2 : K.lookup f2 = some ⟨oc2, od2, .func (PySem.W.fnOf "fraction" "fraction" (defArgs (top 10)) (defBody (top 10)) (defScope (top 10)) (.ref d2) kV2 dc2 pm2 an2 cd2 ct2), sl2⟩)
    (q2 : PySem.W.codeIn K cd2 "fraction" = true)
    (k2 : PySem.W.keepIn K (.ref f2) = true)
    (g2 : K.lookup d2 = some ⟨cD2, oD2, .seq #[.int 1 tD2] nD2, slD2⟩)
    (a3 : PySem.W.nsIn K mainGlobals "plus" = some (some (.ref f3)))
    (l3 : K.lookup f3 = some ⟨oc3, od3, .func (PySem.W.fnOf "plus" "plus" (defArgs (top 11)) (defBody (top 11)) (defScope (top 11)) .none kV3 dc3 pm3 an3 cd3 ct3), sl3⟩)
    (q3 : PySem.W.codeIn K cd3 "plus" = true)
    (k3 : PySem.W.keepIn K (.ref f3) = true)
    (a4 : PySem.W.nsIn K mainGlobals "minus" = some (some (.ref f4)))
    (l4 : K.lookup f4 = some ⟨oc4, od4, .func (PySem.W.fnOf "minus" "minus" (defArgs (top 12)) (defBody (top 12)) (defScope (top 12)) .none kV4 dc4 pm4 an4 cd4 ct4), sl4⟩)
    (q4 : PySem.W.codeIn K cd4 "minus" = true)
    (k4 : PySem.W.keepIn K (.ref f4) = true)
    (a5 : PySem.W.nsIn K mainGlobals "times" = some (some (.ref f5)))
    (l5 : K.lookup f5 = some ⟨oc5, od5, .func (PySem.W.fnOf "times" "times" (defArgs (top 13)) (defBody (top 13)) (defScope (top 13)) .none kV5 dc5 pm5 an5 cd5 ct5), sl5⟩)
    (q5 : PySem.W.codeIn K cd5 "times" = true)
    (k5 : PySem.W.keepIn K (.ref f5) = true)
    (a6 : PySem.W.nsIn K mainGlobals "over" = some (some (.ref f6)))
    (l6 : K.lookup f6 = some ⟨oc6, od6, .func (PySem.W.fnOf "over" "over" (defArgs (top 14)) (defBody (top 14)) (defScope (top 14)) .none kV6 dc6 pm6 an6 cd6 ct6), sl6⟩)
    (q6 : PySem.W.codeIn K cd6 "over" = true)
    (k6 : PySem.W.keepIn K (.ref f6) = true)
    (a7 : PySem.W.nsIn K mainGlobals "under" = some (some (.ref f7)))
    (l7 : K.lookup f7 = some ⟨oc7, od7, .func (PySem.W.fnOf "under" "under" (defArgs (top 15)) (defBody (top 15)) (defScope (top 15)) .none kV7 dc7 pm7 an7 cd7 ct7), sl7⟩)
    (q7 : PySem.W.codeIn K cd7 "under" = true)
    (k7 : PySem.W.keepIn K (.ref f7) = true)
    (a8 : PySem.W.nsIn K mainGlobals "refuse_unlike" = some (some (.ref f8)))
    (l8 : K.lookup f8 = some ⟨oc8, od8, .func (PySem.W.fnOf "refuse_unlike" "refuse_unlike" (defArgs (top 18)) (defBody (top 18)) (defScope (top 18)) .none kV8 dc8 pm8 an8 cd8 ct8), sl8⟩)
    (q8 : PySem.W.codeIn K cd8 "refuse_unlike" = true)
    (k8 : PySem.W.keepIn K (.ref f8) = true)
    (a9 : PySem.W.nsIn K mainGlobals "refuse_outside" = some (some (.ref f9)))
    (l9 : K.lookup f9 = some ⟨oc9, od9, .func (PySem.W.fnOf "refuse_outside" "refuse_outside" (defArgs (top 21)) (defBody (top 21)) (defScope (top 21)) .none kV9 dc9 pm9 an9 cd9 ct9), sl9⟩)
    (q9 : PySem.W.codeIn K cd9 "refuse_outside" = true)
    (k9 : PySem.W.keepIn K (.ref f9) = true)
    (a10 : PySem.W.nsIn K mainGlobals "led_back" = some (some (.ref f10)))
    (l10 : K.lookup f10 = some ⟨oc10, od10, .func (PySem.W.fnOf "led_back" "led_back" (defArgs (top 22)) (defBody (top 22)) (defScope (top 22)) .none kV10 dc10 pm10 an10 cd10 ct10), sl10⟩)
    (q10 : PySem.W.codeIn K cd10 "led_back" = true)
    (k10 : PySem.W.keepIn K (.ref f10) = true)
    (a11 : PySem.W.nsIn K mainGlobals "pace_of" = some (some (.ref f11)))
    (l11 : K.lookup f11 = some ⟨oc11, od11, .func (PySem.W.fnOf "pace_of" "pace_of" (defArgs (top 23)) (defBody (top 23)) (defScope (top 23)) .none kV11 dc11 pm11 an11 cd11 ct11), sl11⟩)
    (q11 : PySem.W.codeIn K cd11 "pace_of" = true)
    (k11 : PySem.W.keepIn K (.ref f11) = true)
    (a12 : PySem.W.nsIn K mainGlobals "ring_spot" = some (some (.ref f12)))
    (l12 : K.lookup f12 = some ⟨oc12, od12, .func (PySem.W.fnOf "ring_spot" "ring_spot" (defArgs (top 24)) (defBody (top 24)) (defScope (top 24)) .none kV12 dc12 pm12 an12 cd12 ct12), sl12⟩)
    (q12 : PySem.W.codeIn K cd12 "ring_spot" = true)
    (k12 : PySem.W.keepIn K (.ref f12) = true)
    (a13 : PySem.W.nsIn K mainGlobals "fits" = some (some (.ref f13)))
    (l13 : K.lookup f13 = some ⟨oc13, od13, .func (PySem.W.fnOf "fits" "fits" (defArgs (top 25)) (defBody (top 25)) (defScope (top 25)) .none kV13 dc13 pm13 an13 cd13 ct13), sl13⟩)
    (q13 : PySem.W.codeIn K cd13 "fits" = true)
    (k13 : PySem.W.keepIn K (.ref f13) = true)
    (a14 : PySem.W.nsIn K mainGlobals "least_way" = some (some (.ref f14)))
    (l14 : K.lookup f14 = some ⟨oc14, od14, .func (PySem.W.fnOf "least_way" "least_way" (defArgs (top 26)) (defBody (top 26)) (defScope (top 26)) .none kV14 dc14 pm14 an14 cd14 ct14), sl14⟩)
    (q14 : PySem.W.codeIn K cd14 "least_way" = true)
    (k14 : PySem.W.keepIn K (.ref f14) = true)
    (a15 : PySem.W.nsIn K mainGlobals "common_multiple" = some (some (.ref f15)))
    (l15 : K.lookup f15 = some ⟨oc15, od15, .func (PySem.W.fnOf "common_multiple" "common_multiple" (defArgs (top 27)) (defBody (top 27)) (defScope (top 27)) .none kV15 dc15 pm15 an15 cd15 ct15), sl15⟩)
    (q15 : PySem.W.codeIn K cd15 "common_multiple" = true)
    (k15 : PySem.W.keepIn K (.ref f15) = true)
    (a16 : PySem.W.nsIn K mainGlobals "spots_by_pace" = some (some (.ref f16)))
    (l16 : K.lookup f16 = some ⟨oc16, od16, .func (PySem.W.fnOf "spots_by_pace" "spots_by_pace" (defArgs (top 28)) (defBody (top 28)) (defScope (top 28)) .none kV16 dc16 pm16 an16 cd16 ct16), sl16⟩)
    (q16 : PySem.W.codeIn K cd16 "spots_by_pace" = true)
    (k16 : PySem.W.keepIn K (.ref f16) = true)
    (a17 : PySem.W.nsIn K mainGlobals "round_of" = some (some (.ref f17)))
    (l17 : K.lookup f17 = some ⟨oc17, od17, .func (PySem.W.fnOf "round_of" "round_of" (defArgs (top 29)) (defBody (top 29)) (defScope (top 29)) .none kV17 dc17 pm17 an17 cd17 ct17), sl17⟩)
    (q17 : PySem.W.codeIn K cd17 "round_of" = true)
    (k17 : PySem.W.keepIn K (.ref f17) = true)
    (a18 : PySem.W.nsIn K mainGlobals "_law_cell" = some (some (.ref f18)))
    (l18 : K.lookup f18 = some ⟨oc18, od18, .func (PySem.W.fnOf "_law_cell" "_law_cell" (defArgs (top 31)) (defBody (top 31)) (defScope (top 31)) .none kV18 dc18 pm18 an18 cd18 ct18), sl18⟩)
    (q18 : PySem.W.codeIn K cd18 "_law_cell" = true)
    (k18 : PySem.W.keepIn K (.ref f18) = true)
    (a19 : PySem.W.nsIn K mainGlobals "_law_mix" = some (some (.ref f19)))
    (l19 : K.lookup f19 = some ⟨oc19, od19, .func (PySem.W.fnOf "_law_mix" "_law_mix" (defArgs (top 32)) (defBody (top 32)) (defScope (top 32)) .none kV19 dc19 pm19 an19 cd19 ct19), sl19⟩)
    (q19 : PySem.W.codeIn K cd19 "_law_mix" = true)
    (k19 : PySem.W.keepIn K (.ref f19) = true)
    (a20 : PySem.W.nsIn K mainGlobals "_law_box" = some (some (.ref f20)))
    (l20 : K.lookup f20 = some ⟨oc20, od20, .func (PySem.W.fnOf "_law_box" "_law_box" (defArgs (top 33)) (defBody (top 33)) (defScope (top 33)) .none kV20 dc20 pm20 an20 cd20 ct20), sl20⟩)
    (q20 : PySem.W.codeIn K cd20 "_law_box" = true)
    (k20 : PySem.W.keepIn K (.ref f20) = true)
    (a21 : PySem.W.nsIn K mainGlobals "_law_take" = some (some (.ref f21)))
    (l21 : K.lookup f21 = some ⟨oc21, od21, .func (PySem.W.fnOf "_law_take" "_law_take" (defArgs (top 34)) (defBody (top 34)) (defScope (top 34)) .none kV21 dc21 pm21 an21 cd21 ct21), sl21⟩)
    (q21 : PySem.W.codeIn K cd21 "_law_take" = true)
    (k21 : PySem.W.keepIn K (.ref f21) = true)
    (a22 : PySem.W.nsIn K mainGlobals "_law_fit" = some (some (.ref f22)))
    (l22 : K.lookup f22 = some ⟨oc22, od22, .func (PySem.W.fnOf "_law_fit" "_law_fit" (defArgs (top 35)) (defBody (top 35)) (defScope (top 35)) .none kV22 dc22 pm22 an22 cd22 ct22), sl22⟩)
    (q22 : PySem.W.codeIn K cd22 "_law_fit" = true)
    (k22 : PySem.W.keepIn K (.ref f22) = true)
    (a23 : PySem.W.nsIn K mainGlobals "_law_plus" = some (some (.ref f23)))
    (l23 : K.lookup f23 = some ⟨oc23, od23, .func (PySem.W.fnOf "_law_plus" "_law_plus" (defArgs (top 36)) (defBody (top 36)) (defScope (top 36)) .none kV23 dc23 pm23 an23 cd23 ct23), sl23⟩)
    (q23 : PySem.W.codeIn K cd23 "_law_plus" = true)
    (k23 : PySem.W.keepIn K (.ref f23) = true)
    (a24 : PySem.W.nsIn K mainGlobals "_law_minus" = some (some (.ref f24)))
    (l24 : K.lookup f24 = some ⟨oc24, od24, .func (PySem.W.fnOf "_law_minus" "_law_minus" (defArgs (top 37)) (defBody (top 37)) (defScope (top 37)) .none kV24 dc24 pm24 an24 cd24 ct24), sl24⟩)
    (q24 : PySem.W.codeIn K cd24 "_law_minus" = true)
    (k24 : PySem.W.keepIn K (.ref f24) = true)
    (a25 : PySem.W.nsIn K mainGlobals "_law_times" = some (some (.ref f25)))
    (l25 : K.lookup f25 = some ⟨oc25, od25, .func (PySem.W.fnOf "_law_times" "_law_times" (defArgs (top 38)) (defBody (top 38)) (defScope (top 38)) .none kV25 dc25 pm25 an25 cd25 ct25), sl25⟩)
    (q25 : PySem.W.codeIn K cd25 "_law_times" = true)
    (k25 : PySem.W.keepIn K (.ref f25) = true)
    (a26 : PySem.W.nsIn K mainGlobals "_law_over" = some (some (.ref f26)))
    (l26 : K.lookup f26 = some ⟨oc26, od26, .func (PySem.W.fnOf "_law_over" "_law_over" (defArgs (top 39)) (defBody (top 39)) (defScope (top 39)) .none kV26 dc26 pm26 an26 cd26 ct26), sl26⟩)
    (q26 : PySem.W.codeIn K cd26 "_law_over" = true)
    (k26 : PySem.W.keepIn K (.ref f26) = true)
    (a27 : PySem.W.nsIn K mainGlobals "_law_less" = some (some (.ref f27)))
    (l27 : K.lookup f27 = some ⟨oc27, od27, .func (PySem.W.fnOf "_law_less" "_law_less" (defArgs (top 40)) (defBody (top 40)) (defScope (top 40)) .none kV27 dc27 pm27 an27 cd27 ct27), sl27⟩)
    (q27 : PySem.W.codeIn K cd27 "_law_less" = true)
    (k27 : PySem.W.keepIn K (.ref f27) = true)
    (a28 : PySem.W.nsIn K mainGlobals "_law_small" = some (some (.ref f28)))
    (l28 : K.lookup f28 = some ⟨oc28, od28, .func (PySem.W.fnOf "_law_small" "_law_small" (defArgs (top 41)) (defBody (top 41)) (defScope (top 41)) .none kV28 dc28 pm28 an28 cd28 ct28), sl28⟩)
    (q28 : PySem.W.codeIn K cd28 "_law_small" = true)
    (k28 : PySem.W.keepIn K (.ref f28) = true)
    (a29 : PySem.W.nsIn K mainGlobals "_law_folded" = some (some (.ref f29)))
    (l29 : K.lookup f29 = some ⟨oc29, od29, .func (PySem.W.fnOf "_law_folded" "_law_folded" (defArgs (top 43)) (defBody (top 43)) (defScope (top 43)) .none kV29 dc29 pm29 an29 cd29 ct29), sl29⟩)
    (q29 : PySem.W.codeIn K cd29 "_law_folded" = true)
    (k29 : PySem.W.keepIn K (.ref f29) = true)
    (a30 : PySem.W.nsIn K mainGlobals "_law_in_order" = some (some (.ref f30)))
    (l30 : K.lookup f30 = some ⟨oc30, od30, .func (PySem.W.fnOf "_law_in_order" "_law_in_order" (defArgs (top 44)) (defBody (top 44)) (defScope (top 44)) .none kV30 dc30 pm30 an30 cd30 ct30), sl30⟩)
    (q30 : PySem.W.codeIn K cd30 "_law_in_order" = true)
    (k30 : PySem.W.keepIn K (.ref f30) = true)
    (a31 : PySem.W.nsIn K mainGlobals "_law_room" = some (some (.ref f31)))
    (l31 : K.lookup f31 = some ⟨oc31, od31, .func (PySem.W.fnOf "_law_room" "_law_room" (defArgs (top 45)) (defBody (top 45)) (defScope (top 45)) .none kV31 dc31 pm31 an31 cd31 ct31), sl31⟩)
    (q31 : PySem.W.codeIn K cd31 "_law_room" = true)
    (k31 : PySem.W.keepIn K (.ref f31) = true)
    (a32 : PySem.W.nsIn K mainGlobals "_law_within" = some (some (.ref f32)))
    (l32 : K.lookup f32 = some ⟨oc32, od32, .func (PySem.W.fnOf "_law_within" "_law_within" (defArgs (top 42)) (defBody (top 42)) (defScope (top 42)) .none kV32 dc32 pm32 an32 cd32 ct32), sl32⟩)
    (q32 : PySem.W.codeIn K cd32 "_law_within" = true)
    (k32 : PySem.W.keepIn K (.ref f32) = true)
    (a33 : PySem.W.nsIn K mainGlobals "_law_part" = some (some (.ref f33)))
    (l33 : K.lookup f33 = some ⟨oc33, od33, .func (PySem.W.fnOf "_law_part" "_law_part" (defArgs (top 46)) (defBody (top 46)) (defScope (top 46)) .none kV33 dc33 pm33 an33 cd33 ct33), sl33⟩)
    (q33 : PySem.W.codeIn K cd33 "_law_part" = true)
    (k33 : PySem.W.keepIn K (.ref f33) = true)
    (a34 : PySem.W.nsIn K mainGlobals "_law_common" = some (some (.ref f34)))
    (l34 : K.lookup f34 = some ⟨oc34, od34, .func (PySem.W.fnOf "_law_common" "_law_common" (defArgs (top 47)) (defBody (top 47)) (defScope (top 47)) .none kV34 dc34 pm34 an34 cd34 ct34), sl34⟩)
    (q34 : PySem.W.codeIn K cd34 "_law_common" = true)
    (k34 : PySem.W.keepIn K (.ref f34) = true)
    (a35 : PySem.W.nsIn K mainGlobals "_law_is_round" = some (some (.ref f35)))
    (l35 : K.lookup f35 = some ⟨oc35, od35, .func (PySem.W.fnOf "_law_is_round" "_law_is_round" (defArgs (top 48)) (defBody (top 48)) (defScope (top 48)) .none kV35 dc35 pm35 an35 cd35 ct35), sl35⟩)
    (q35 : PySem.W.codeIn K cd35 "_law_is_round" = true)
    (k35 : PySem.W.keepIn K (.ref f35) = true)
    (a36 : PySem.W.nsIn K mainGlobals "_law_due" = some (some (.ref f36)))
    (l36 : K.lookup f36 = some ⟨oc36, od36, .func (PySem.W.fnOf "_law_due" "_law_due" (defArgs (top 49)) (defBody (top 49)) (defScope (top 49)) .none kV36 dc36 pm36 an36 cd36 ct36), sl36⟩)
    (q36 : PySem.W.codeIn K cd36 "_law_due" = true)
    (k36 : PySem.W.keepIn K (.ref f36) = true)
    (a37 : PySem.W.nsIn K mainGlobals "law" = some (some (.ref f37)))
    (l37 : K.lookup f37 = some ⟨oc37, od37, .func (PySem.W.fnOf "law" "law" (defArgs (top 50)) (defBody (top 50)) (defScope (top 50)) .none kV37 dc37 pm37 an37 cd37 ct37), sl37⟩)
    (q37 : PySem.W.codeIn K cd37 "law" = true)
    (k37 : PySem.W.keepIn K (.ref f37) = true) :
    ∃ fa, mg "law" = some (.ref fa) ∧ ∃ fd : FuncData, (∀ (s : Shared) (u : Value), BindsTo s fd ⟨[u], []⟩ [("_law_script", u)]) ∧ ∀ base : Heap, K.In base → base.Ns mainGlobals mg → FnOk P w K mg base (CXE P w) 8 fa fd ["_law_script"] (spLaw K) := by
  have T : Tx K mg  := ⟨PySem.W.mg_none_of X G b_isinstance, PySem.W.mg_none_of X G b_int, PySem.W.mg_none_of X G b_bool, PySem.W.mg_none_of X G b_abs, PySem.W.mg_none_of X G b_len, PySem.W.mg_none_of X G b_divmod, PySem.W.mg_none_of X G b_range, PySem.W.mg_none_of X G b_max, PySem.W.mg_none_of X G b_min, PySem.W.mg_none_of X G b_all, ⟨_, PySem.W.mg_of X G i_LONG_BITS⟩, ⟨_, PySem.W.mg_of X G c_NOUGHT, sqt_const z_NOUGHT⟩, ⟨_, PySem.W.mg_of X G c_TWO, sqt_const z_TWO⟩⟩
  have D0 := df_mk (ps := ["thing"]) X G a0 l0 q0 k0 (len1 fun _ => rfl)
  have D1 := df_mk (ps := ["one", "other"]) X G a1 l1 q1 k1 (len2 fun _ _ => rfl)
  have D2 := df_mkD (ps := ["top", "bottom"]) X G a2 l2 q2 k2 g2 (len2 fun _ _ => ⟨_, rfl, rfl⟩)
  have D3 := df_mk (ps := ["one", "other"]) X G a3 l3 q3 k3 (len2 fun _ _ => rfl)
  have D4 := df_mk (ps := ["one", "other"]) X G a4 l4 q4 k4 (len2 fun _ _ => rfl)
  have D5 := df_mk (ps := ["one", "other"]) X G a5 l5 q5 k5 (len2 fun _ _ => rfl)
  have D6 := df_mk (ps := ["one", "other"]) X G a6 l6 q6 k6 (len2 fun _ _ => rfl)
  have D7 := df_mk (ps := ["one", "other"]) X G a7 l7 q7 k7 (len2 fun _ _ => rfl)
  have D8 := df_mk (ps := ["world"]) X G a8 l8 q8 k8 (len1 fun _ => rfl)
  have D9 := df_mk (ps := ["world", "length"]) X G a9 l9 q9 k9 (len2 fun _ _ => rfl)
  have D10 := df_mk (ps := ["place", "ring"]) X G a10 l10 q10 k10 (len2 fun _ _ => rfl)
  have D11 := df_mk (ps := ["body"]) X G a11 l11 q11 k11 (len1 fun _ => rfl)
  have D12 := df_mk (ps := ["body", "ring"]) X G a12 l12 q12 k12 (len2 fun _ _ => rfl)
  have D13 := df_mk (ps := ["spots", "way", "ring"]) X G a13 l13 q13 k13 (len3 fun _ _ _ => rfl)
  have D14 := df_mk (ps := ["spots", "ring"]) X G a14 l14 q14 k14 (len2 fun _ _ => rfl)
  have D15 := df_mk (ps := ["one", "other"]) X G a15 l15 q15 k15 (len2 fun _ _ => rfl)
  have D16 := df_mk (ps := ["world", "ring"]) X G a16 l16 q16 k16 (len2 fun _ _ => rfl)
  have D17 := df_mk (ps := ["world", "length"]) X G a17 l17 q17 k17 (len2 fun _ _ => rfl)
  have D18 := df_mk (ps := ["_law_script", "_law_k"]) X G a18 l18 q18 k18 (len2 fun _ _ => rfl)
  have D19 := df_mk (ps := ["_law_cell_here", "_law_k"]) X G a19 l19 q19 k19 (len2 fun _ _ => rfl)
  have D20 := df_mk (ps := ["_law_script", "_law_k"]) X G a20 l20 q20 k20 (len2 fun _ _ => rfl)
  have D21 := df_mk (ps := ["_law_box_here", "_law_many"]) X G a21 l21 q21 k21 (len2 fun _ _ => rfl)
  have D22 := df_mk (ps := ["_law_top", "_law_bottom"]) X G a22 l22 q22 k22 (len2 fun _ _ => rfl)
  have D23 := df_mk (ps := ["_law_one", "_law_other"]) X G a23 l23 q23 k23 (len2 fun _ _ => rfl)
  have D24 := df_mk (ps := ["_law_one", "_law_other"]) X G a24 l24 q24 k24 (len2 fun _ _ => rfl)
  have D25 := df_mk (ps := ["_law_one", "_law_other"]) X G a25 l25 q25 k25 (len2 fun _ _ => rfl)
  have D26 := df_mk (ps := ["_law_one", "_law_other"]) X G a26 l26 q26 k26 (len2 fun _ _ => rfl)
  have D27 := df_mk (ps := ["_law_one", "_law_other"]) X G a27 l27 q27 k27 (len2 fun _ _ => rfl)
  have D28 := df_mk (ps := ["_law_box_here"]) X G a28 l28 q28 k28 (len1 fun _ => rfl)
  have D29 := df_mk (ps := ["_law_body", "_law_length", "_law_moment"]) X G a29 l29 q29 k29 (len3 fun _ _ _ => rfl)
  have D30 := df_mk (ps := ["_law_one", "_law_other"]) X G a30 l30 q30 k30 (len2 fun _ _ => rfl)
  have D31 := df_mk (ps := ["_law_world_here", "_law_length", "_law_moment"]) X G a31 l31 q31 k31 (len3 fun _ _ _ => rfl)
  have D32 := df_mk (ps := ["_law_box_here"]) X G a32 l32 q32 k32 (len1 fun _ => rfl)
  have D33 := df_mk (ps := ["_law_one", "_law_other"]) X G a33 l33 q33 k33 (len2 fun _ _ => rfl)
  have D34 := df_mk (ps := ["_law_one", "_law_other"]) X G a34 l34 q34 k34 (len2 fun _ _ => rfl)
  have D35 := df_mk (ps := ["_law_world_here", "_law_length", "_law_moment"]) X G a35 l35 q35 k35 (len3 fun _ _ _ => rfl)
  have D36 := df_mk (ps := ["_law_world_here", "_law_length"]) X G a36 l36 q36 k36 (len2 fun _ _ => rfl)
  have D37 := df_mk (ps := ["_law_script"]) X G a37 l37 q37 k37 (len1 fun _ => rfl)
  refine law_end X G a37 l37 (fun _ => rfl) fun base kb nb => ?_
  have F0 := ok_is_whole (P := P) (w := w) (base := base) D0 T
  have F1 := ok_common_divisor (P := P) (w := w) (base := base) D1 T
  have F2 := ok_fraction (P := P) (w := w) (base := base) D2 T F0 F1
  have F3 := ok_plus (P := P) (w := w) (base := base) D3 T F1
  have F4 := ok_minus (P := P) (w := w) (base := base) D4 T F3
  have F5 := ok_times (P := P) (w := w) (base := base) D5 T F1
  have F6 := ok_over (P := P) (w := w) (base := base) D6 T F5
  have F7 := ok_under (P := P) (w := w) (base := base) D7 T
  have F8 := ok_refuse_unlike (P := P) (w := w) (base := base) D8 T
  have F9 := ok_refuse_outside (P := P) (w := w) (base := base) D9 T F7
  have F10 := ok_led_back (P := P) (w := w) (base := base) D10 T F5 F4
  have F11 := ok_pace_of (P := P) (w := w) (base := base) D11 T
  have F12 := ok_ring_spot (P := P) (w := w) (base := base) D12 T F4 F7
  have F13 := ok_fits (P := P) (w := w) (base := base) D13 T F10 F3
  have F14 := ok_least_way (P := P) (w := w) (base := base) D14 T F13 F6
  have F15 := ok_common_multiple (P := P) (w := w) (base := base) D15 T F1 F2
  have F16 := ok_spots_by_pace (P := P) (w := w) (base := base) D16 T F11 F12
  have F17 := ok_round_of (P := P) (w := w) (base := base) D17 T F8 F9 F5 F16 F6 F14 F15
  have F18 := ok_law_cell (P := P) (w := w) (base := base) D18 T
  have F19 := ok_law_mix (P := P) (w := w) (base := base) D19 T
  have F20 := ok_law_box (P := P) (w := w) (base := base) D20 T F18 F19
  have F21 := ok_law_take (P := P) (w := w) (base := base) D21 T
  have F22 := ok_law_fit (P := P) (w := w) (base := base) D22 T
  have F23 := ok_law_plus (P := P) (w := w) (base := base) D23 T F22
  have F24 := ok_law_minus (P := P) (w := w) (base := base) D24 T F22
  have F25 := ok_law_times (P := P) (w := w) (base := base) D25 T F22
  have F26 := ok_law_over (P := P) (w := w) (base := base) D26 T F22
  have F27 := ok_law_less (P := P) (w := w) (base := base) D27 T
  have F28 := ok_law_small (P := P) (w := w) (base := base) D28 T F21 F22
  have F29 := ok_law_folded (P := P) (w := w) (base := base) D29 T F23 F25 F24 F27
  have F30 := ok_law_in_order (P := P) (w := w) (base := base) D30 T F27
  have F31 := ok_law_room (P := P) (w := w) (base := base) D31 T F29 F30
  have F32 := ok_law_within (P := P) (w := w) (base := base) D32 T F21 F22 F28 F23 F25 F24
  have F33 := ok_law_part (P := P) (w := w) (base := base) D33 T
  have F34 := ok_law_common (P := P) (w := w) (base := base) D34 T F33 F22
  have F35 := ok_law_is_round (P := P) (w := w) (base := base) D35 T F23 F25 F26 F24 F31
  have F36 := ok_law_due (P := P) (w := w) (base := base) D36 T F23 F26 F34 F25 F35
  have F37 := ok_law (P := P) (w := w) (base := base) D37 T F20 F32 F36 F17
  exact F37
end Prf
namespace Kw
open PySem PySem.Spec PyProof.Rows L2
theorem walk_kwX {pn : Str} {l : PySem.W.OpenLaw} {k : Nat} {q : Program} {loose : List Str} {XP : (Str → Option Value) → Heap → Prop} {as0 : List Addr} {n0 t0 : Nat} {d : DefRec} {K : Params → PySem.W.Frag}
    (hn : l.most = some 63) (hdf : d.params.defaults = []) (hr : Room k callerA) (hK : ∀ P, as0 = (K P).map (·.1)) (hnm : d.name = "law")
    (F : ∀ (w : World) (mg : Str → Option Value) (h : Heap), (K w.params).In h → h.Ns mainGlobals mg → ∃ fa, mg "law" = some (.ref fa) ∧ ∃ fd : FuncData, (∀ (s : Shared) (u : Value), BindsTo s fd ⟨[u], []⟩ [(pn, u)]) ∧
      ∀ base : Heap, (K w.params).In base → base.Ns mainGlobals mg → FnOk l.prog w (K w.params) mg base (CXE l.prog w) k fa fd [pn] (spLaw (K w.params))) :
    PySem.W.WalkX q loose XP (PySem.W.X.obsZ as0) (PySem.W.X.valZ K n0 t0) l.row.toRowW d [] (fun f vs => PySem.call f vs) := by
  intro w s₀ s₁ mg mb G Y fa o pm cd doc dV kV ho hd hcd hD hmg hg args vals as L hpre hlay hrd hwl hlo
  exact walk_kw (YP := fun w h => (K w.params).In h) hn hdf hr (fun _ _ z => z) hnm F w s₀ s₁ mg mb G (PySem.W.InK.keeps w _ _ (PySem.W.X.z_facts hK Y).2.1 L.keeps) fa o pm cd doc dV kV ho hd hcd hD hmg hg args vals as hpre hlay hrd hwl hlo
end Kw
noncomputable def PySem.W.Fast.tw15985787364876867673 : PySem.Program := PySem.Challenge.pw_knockwright_k57_the_round
theorem PySem.W.Fast.te15985787364876867673 : PySem.Challenge.pw_knockwright_k57_the_round = PySem.W.Fast.tw15985787364876867673 := rfl
open PySem PySem.W PyProof.Rows
set_option maxRecDepth 100000 in
set_option maxHeartbeats 0 in
theorem PySem.Challenge.cw_knockwright_k57_the_round_holds : PySem.Challenge.rw_knockwright_k57_the_round.Holds := by
  w_on; o_law; z_head; (case hw => w_witness2)
  refine Kw.walk_kwX (pn := "_law_script") (l := PySem.Challenge.rw_knockwright_k57_the_round) (k := 8) rfl rfl ⟨rfl, by decide, by decide⟩ (fun _ => by kernel_rfl) rfl ?F
  case F =>
    intro w mg h KX G
    refine' Prf.all_mk KX G ?b_isinstance ?b_int ?b_bool ?b_abs ?b_len ?b_divmod ?b_range ?b_max ?b_min ?b_all ?i_LONG_BITS ?c_NOUGHT ?z_NOUGHT ?c_TWO ?z_TWO ?a0 ?l0 ?q0 ?k0 ?a1 ?l1 ?q1 ?k1 ?a2 ?l2 ?q2 ?k2 ?g2 ?a3 ?l3 ?q3 ?k3 ?a4 ?l4 ?q4 ?k4 ?a5 ?l5 ?q5 ?k5 ?a6 ?l6 ?q6 ?k6 ?a7 ?l7 ?q7 ?k7 ?a8 ?l8 ?q8 ?k8 ?a9 ?l9 ?q9 ?k9 ?a10 ?l10 ?q10 ?k10 ?a11 ?l11 ?q11 ?k11 ?a12 ?l12 ?q12 ?k12 ?a13 ?l13 ?q13 ?k13 ?a14 ?l14 ?q14 ?k14 ?a15 ?l15 ?q15 ?k15 ?a16 ?l16 ?q16 ?k16 ?a17 ?l17 ?q17 ?k17 ?a18 ?l18 ?q18 ?k18 ?a19 ?l19 ?q19 ?k19 ?a20 ?l20 ?q20 ?k20 ?a21 ?l21 ?q21 ?k21 ?a22 ?l22 ?q22 ?k22 ?a23 ?l23 ?q23 ?k23 ?a24 ?l24 ?q24 ?k24 ?a25 ?l25 ?q25 ?k25 ?a26 ?l26 ?q26 ?k26 ?a27 ?l27 ?q27 ?k27 ?a28 ?l28 ?q28 ?k28 ?a29 ?l29 ?q29 ?k29 ?a30 ?l30 ?q30 ?k30 ?a31 ?l31 ?q31 ?k31 ?a32 ?l32 ?q32 ?k32 ?a33 ?l33 ?q33 ?k33 ?a34 ?l34 ?q34 ?k34 ?a35 ?l35 ?q35 ?k35 ?a36 ?l36 ?q36 ?k36 ?a37 ?l37 ?q37 ?k37
    (case b_isinstance => k_is)
    (case b_int => k_is)
    (case b_bool => k_is)
    (case b_abs => k_is)
    (case b_len => k_is)
    (case b_divmod => k_is)
    (case b_range => k_is)
    (case b_max => k_is)
    (case b_min => k_is)
    (case b_all => k_is)
    (case i_LONG_BITS => k_is)
    (case c_NOUGHT => k_is)
    (case z_NOUGHT => k_is)
    (case c_TWO => k_is)
    (case z_TWO => k_is)
    (case a0 => k_is)
    (case l0 => k_is)
    (case q0 => k_is)
    (case k0 => k_is)
    (case a1 => k_is)
    (case l1 => k_is)
    (case q1 => k_is)
    (case k1 => k_is)
    (case a2 => k_is)
    (case l2 => k_is)
    (case q2 => k_is)
    (case k2 => k_is)
    (case g2 => k_is)
    (case a3 => k_is)
    (case l3 => k_is)
    (case q3 => k_is)
    (case k3 => k_is)
    (case a4 => k_is)
    (case l4 => k_is)
    (case q4 => k_is)
    (case k4 => k_is)
    (case a5 => k_is)
    (case l5 => k_is)
    (case q5 => k_is)
    (case k5 => k_is)
    (case a6 => k_is)
    (case l6 => k_is)
    (case q6 => k_is)
    (case k6 => k_is)
    (case a7 => k_is)
    (case l7 => k_is)
    (case q7 => k_is)
    (case k7 => k_is)
    (case a8 => k_is)
    (case l8 => k_is)
    (case q8 => k_is)
    (case k8 => k_is)
    (case a9 => k_is)
    (case l9 => k_is)
    (case q9 => k_is)
    (case k9 => k_is)
    (case a10 => k_is)
    (case l10 => k_is)
    (case q10 => k_is)
    (case k10 => k_is)
    (case a11 => k_is)
    (case l11 => k_is)
    (case q11 => k_is)
    (case k11 => k_is)
    (case a12 => k_is)
    (case l12 => k_is)
    (case q12 => k_is)
    (case k12 => k_is)
    (case a13 => k_is)
    (case l13 => k_is)
    (case q13 => k_is)
    (case k13 => k_is)
    (case a14 => k_is)
    (case l14 => k_is)
    (case q14 => k_is)
    (case k14 => k_is)
    (case a15 => k_is)
    (case l15 => k_is)
    (case q15 => k_is)
    (case k15 => k_is)
    (case a16 => k_is)
    (case l16 => k_is)
    (case q16 => k_is)
    (case k16 => k_is)
    (case a17 => k_is)
    (case l17 => k_is)
    (case q17 => k_is)
    (case k17 => k_is)
    (case a18 => k_is)
    (case l18 => k_is)
    (case q18 => k_is)
    (case k18 => k_is)
    (case a19 => k_is)
    (case l19 => k_is)
    (case q19 => k_is)
    (case k19 => k_is)
    (case a20 => k_is)
    (case l20 => k_is)
    (case q20 => k_is)
    (case k20 => k_is)
    (case a21 => k_is)
    (case l21 => k_is)
    (case q21 => k_is)
    (case k21 => k_is)
    (case a22 => k_is)
    (case l22 => k_is)
    (case q22 => k_is)
    (case k22 => k_is)
    (case a23 => k_is)
    (case l23 => k_is)
    (case q23 => k_is)
    (case k23 => k_is)
    (case a24 => k_is)
    (case l24 => k_is)
    (case q24 => k_is)
    (case k24 => k_is)
    (case a25 => k_is)
    (case l25 => k_is)
    (case q25 => k_is)
    (case k25 => k_is)
    (case a26 => k_is)
    (case l26 => k_is)
    (case q26 => k_is)
    (case k26 => k_is)
    (case a27 => k_is)
    (case l27 => k_is)
    (case q27 => k_is)
    (case k27 => k_is)
    (case a28 => k_is)
    (case l28 => k_is)
    (case q28 => k_is)
    (case k28 => k_is)
    (case a29 => k_is)
    (case l29 => k_is)
    (case q29 => k_is)
    (case k29 => k_is)
    (case a30 => k_is)
    (case l30 => k_is)
    (case q30 => k_is)
    (case k30 => k_is)
    (case a31 => k_is)
    (case l31 => k_is)
    (case q31 => k_is)
    (case k31 => k_is)
    (case a32 => k_is)
    (case l32 => k_is)
    (case q32 => k_is)
    (case k32 => k_is)
    (case a33 => k_is)
    (case l33 => k_is)
    (case q33 => k_is)
    (case k33 => k_is)
    (case a34 => k_is)
    (case l34 => k_is)
    (case q34 => k_is)
    (case k34 => k_is)
    (case a35 => k_is)
    (case l35 => k_is)
    (case q35 => k_is)
    (case k35 => k_is)
    (case a36 => k_is)
    (case l36 => k_is)
    (case q36 => k_is)
    (case k36 => k_is)
    (case a37 => k_is)
    (case l37 => k_is)
    (case q37 => k_is)
    (case k37 => k_is)
