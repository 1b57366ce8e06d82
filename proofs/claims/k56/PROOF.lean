import PyProof.Rows.All
import Wide.All
import OpenK.AllK
import Wide.FinOn
import Lean
import PyProof.EqAt
import PyProof.EqKinds
import PyProof.TupleCall
import PyProof.ExcBaseAll.ValueError
import PyProof.P3Eq
import PyProof.NeData
import PyProof.DictTable
import KE.KEqDict
import PyProof.EnumFor
import PyProof.EnumMake
import PyProof.EnumStmt
import PyProof.NsDelKeeps
import KE.KListMore
import PyProof.Rows.SortWalk
import PyProof.ListRange
import PySem.Challenge.RW_knockwright_k56_a_room
set_option Elab.async false
set_option linter.all false
set_option maxRecDepth 100000
namespace L2
open PySem PySem.Spec PyProof.Rows
noncomputable abbrev Key := Sum Int Str
noncomputable def keyIs : Key → Value → Bool
  | .inl k, v => Value.isInt k v
  | .inr x, v => Value.isStrOf x v
noncomputable def keyH (w : World) : Key → Int
  | .inl k => hashInt k
  | .inr x => hashStr w x
theorem keyIs_shape : ∀ {k : Key} {v : Value}, keyIs k v = true → (∃ i t, k = Sum.inl i ∧ v = Value.int i t) ∨ (∃ x t, k = Sum.inr x ∧ v = Value.str x t)
  | .inl i, v, h => by
    obtain ⟨t, e⟩ := Value.isInt_shape (k := i) (v := v) h
    exact .inl ⟨i, t, rfl, e⟩
  | .inr x, v, h => by
    obtain ⟨t, e⟩ := Value.isStrOf_shape (x := x) (v := v) h
    exact .inr ⟨x, t, rfl, e⟩
theorem key_ll (a b : Int) : decide ((Sum.inl a : Key) = Sum.inl b) = (a == b) := by
  by_cases e : a = b
  · subst e; simp
  · have h : ¬ (Sum.inl a : Key) = Sum.inl b := fun q => e (Sum.inl.inj q)
    rw [decide_eq_false h]
    exact (beq_eq_false_iff_ne.mpr e).symm
theorem key_rr (a b : Str) : decide ((Sum.inr a : Key) = Sum.inr b) = decide (a = b) := by
  by_cases e : a = b
  · subst e; simp
  · have h : ¬ (Sum.inr a : Key) = Sum.inr b := fun q => e (Sum.inr.inj q)
    rw [decide_eq_false h, decide_eq_false e]
theorem key_lr (a : Int) (b : Str) : decide ((Sum.inl a : Key) = Sum.inr b) = false := decide_eq_false (fun q => nomatch q)
theorem key_rl (a : Str) (b : Int) : decide ((Sum.inr a : Key) = Sum.inl b) = false := decide_eq_false (fun q => nomatch q)
noncomputable def mixKind (prog : Program) (w : World) : PySem.KeyKind prog w Key where
  is := keyIs
  hash := keyH w
  inj := fun v a b ha hb => by
    rcases keyIs_shape ha with ⟨i, t, rfl, rfl⟩ | ⟨x, t, rfl, rfl⟩
    · rcases keyIs_shape hb with ⟨j, u, rfl, e⟩ | ⟨y, u, rfl, e⟩
      · injection e with e1 _; rw [e1]
      · exact nomatch e
    · rcases keyIs_shape hb with ⟨j, u, rfl, e⟩ | ⟨y, u, rfl, e⟩
      · exact nomatch e
      · injection e with e1 _; rw [e1]
  byValue := fun k v h => by
    rcases keyIs_shape h with ⟨i, t, rfl, rfl⟩ | ⟨x, t, rfl, rfl⟩ <;> rfl
  pyHash := fun hv h => by
    rcases keyIs_shape hv with ⟨i, t, rfl, rfl⟩ | ⟨x, t, rfl, rfl⟩
    · exact wpAny_pyHash_int h
    · exact wpAny_pyHash_str h
  eqBool := fun hu hv h => by
    rcases keyIs_shape hu with ⟨i, t, rfl, rfl⟩ | ⟨x, t, rfl, rfl⟩
    · rcases keyIs_shape hv with ⟨j, u, rfl, rfl⟩ | ⟨y, u, rfl, rfl⟩
      · rw [key_ll] at h; exact wpAny_eqBool_int h
      · rw [key_lr] at h; exact SeqAt.EqAt.int_str i t y u _ _ _ _ h
    · rcases keyIs_shape hv with ⟨j, u, rfl, rfl⟩ | ⟨y, u, rfl, rfl⟩
      · rw [key_rl] at h; exact SeqAt.EqAt.str_int x t j u _ _ _ _ h
      · rw [key_rr] at h; exact wpAny_eqBool_str h
  «strs» := fun k x t v h => by
    rcases keyIs_shape h with ⟨i, u, rfl, e⟩ | ⟨y, u, rfl, e⟩
    · exact nomatch e
    · injection e with e1 _
      subst e1
      cases v <;> rfl
end L2
namespace L2
open PySem PySem.Spec PyProof.Rows
inductive V where
  | non | bl (b : Bool) | int (i : Int) | str (x : Str) | byt (b : Array UInt8) | flt (b : UInt64) | ref (a : Addr) | ty (n : String)
  deriving DecidableEq
noncomputable def RelV : V → Value → Prop
  | .non, u => u = Value.none
  | .bl b, u => u = Value.bool b
  | .int i, u => ∃ t, u = Value.int i t
  | .str x, u => ∃ t, u = Value.str x t
  | .byt b, u => ∃ t, u = Value.bytes b t
  | .flt b, u => ∃ t, u = Value.float b t
  | .ref a, u => u = Value.ref a
  | .ty n, u => u = Value.type n
noncomputable abbrev Vals : List V → List Value → Prop := Paired RelV
theorem Vals.length {xs : List V} {us : List Value} (r : Vals xs us) : xs.length = us.length := Paired.length r
theorem Vals.get : ∀ {xs : List V} {us : List Value} {i : Nat} {x : V}, Vals xs us → xs[i]? = some x → ∃ u, us[i]? = some u ∧ RelV x u
  | _, _, _, _, .nil, e => by simp at e
  | _, _, 0, _, .cons r _, e => by simp at e; subst e; exact ⟨_, rfl, r⟩
  | _, _, i + 1, x, .cons _ t, e => by
    obtain ⟨u, h1, h2⟩ := Vals.get (i := i) (x := x) t (by simpa using e)
    exact ⟨u, by simpa using h1, h2⟩
theorem Vals.set {x : V} {u : Value} (r : RelV x u) : ∀ {xs : List V} {us : List Value} (i : Nat), Vals xs us → Vals (xs.set i x) (us.set i u)
  | _, _, _, .nil => .nil
  | _, _, 0, .cons _ t => .cons r t
  | _, _, i + 1, .cons q t => .cons q (Vals.set r i t)
theorem Vals.append : ∀ {xs ys : List V} {us ws : List Value}, Vals xs us → Vals ys ws → Vals (xs ++ ys) (us ++ ws)
  | _, _, _, _, .nil, s => s
  | _, _, _, _, .cons r t, s => .cons r (Vals.append t s)
theorem Vals.take : ∀ {xs : List V} {us : List Value} (n : Nat), Vals xs us → Vals (xs.take n) (us.take n)
  | _, _, 0, _ => .nil
  | _, _, _ + 1, .nil => .nil
  | _, _, n + 1, .cons r t => .cons r (Vals.take n t)
theorem Vals.drop : ∀ {xs : List V} {us : List Value} (n : Nat), Vals xs us → Vals (xs.drop n) (us.drop n)
  | _, _, 0, r => r
  | _, _, _ + 1, .nil => .nil
  | _, _, n + 1, .cons _ t => Vals.drop n t
noncomputable def RelO : Option V → Option Value → Prop
  | some v, some u => RelV v u
  | none, none => True
  | _, _ => False
noncomputable def KV {κ : Type} : List (κ × V) → List (κ × Value) → Prop := Paired fun (p : κ × V) (q : κ × Value) => p.1 = q.1 ∧ RelV p.2 q.2
noncomputable def kV : Key → V
  | .inl i => .int i
  | .inr x => .str x
inductive HO where
  | lst (xs : List V)
  | tup (xs : List V)
  | dK (kvs : List (Key × V)) | dT (kvs : List (List Key × V))
  | set (S : Int → Bool) (n : Nat)
  | ins (C dx : Addr) (fs : List (Str × V))
  | own (x : Addr)
  | xd (fs : List (Str × V))
  | met (f x : Addr)
  | rng (lo hi : Int)
  | frz (o : Obj) (u : HO)
  | tbl (ps : Array Value)
  | ext (φ : Heap → Prop)
noncomputable abbrev Hp := Addr → Option HO
noncomputable def upd (H : Hp) (a : Addr) (o : HO) : Hp := fun b => if b = a then some o else H b
theorem upd_same {H : Hp} {a : Addr} {o : HO} : upd H a o a = some o := by unfold upd; rw [if_pos rfl]
theorem upd_ne {H : Hp} {a b : Addr} {o : HO} (h : b ≠ a) : upd H a o b = H b := by unfold upd; rw [if_neg h]
theorem ne_of {H : Hp} {a b : Addr} {o u : HO} (h : H a = some o) (h' : H b = some u) (d : o ≠ u) : a ≠ b := by
  intro e; subst e; rw [h] at h'; exact d (Option.some.inj h')
theorem ne_of_none {H : Hp} {a b : Addr} {o : HO} (h : H a = some o) (h' : H b = none) : a ≠ b := by
  intro e; subst e; rw [h] at h'; cases h'
section
variable (P : Program) (w : World)
noncomputable def ObjOk (H : Hp) (h : Heap) (a : Addr) : HO → Prop
  | .lst xs => xs.length ≤ sizeLine ∧ ∃ (its : List Value) (n : Nat), Vals xs its ∧ h.get? a = some { cls := .type "list", data := .seq its.toArray n }
  | .tup xs => xs.length ≤ sizeLine ∧ ∃ its : List Value, Vals xs its ∧ IsTup h a its.toArray
  | .dK kvs => kvs.length ≤ sizeLine ∧ (a == sysModules) = false ∧ ∃ vs, KV kvs vs ∧ h.DictOf (mixKind P w) a vs
  | .dT kvs => kvs.length ≤ sizeLine ∧ (a == sysModules) = false ∧ ∃ xs : List (List Key × Addr × Value),
      Paired (fun (p : List Key × V) (q : List Key × Addr × Value) => p.1 = q.1 ∧ H q.2.1 = some (.tup (p.1.map kV)) ∧ RelV p.2 q.2.2) kvs xs ∧
      ∃ o es ep, h.get? a = some o ∧ o.ExactDict ∧ o.data = .dict es ep ∧ es.toList = xs.map (entryOfKey (tupleKind (mixKind P w))) ∧ (xs.map (·.1)).Nodup
  | .set S n => h.SetOf (intKind P w) a S n
  | .ins C dx fs => H dx = some (.own a) ∧ fs.length ≤ 1000 ∧ dx ≠ a ∧ h.get? a = some (PySem.W.instObj C dx) ∧
      ∃ mA, h.Ns1 dx mA ∧ (∀ f, RelO (fs.lookup f) (mA f)) ∧ PySem.Within mA (fs.map (·.1))
  | .own _ => ∃ o, h.get? a = some o
  | .xd fs => ∃ mA, h.Ns1 a mA ∧ ∀ f, RelO (fs.lookup f) (mA f)
  | .rng lo hi => ∃ t u v, h.get? a = some { cls := .type "range", data := .fields #[.int lo t, .int hi u, .int 1 v] }
  | .frz o u => h.get? a = some o ∧ ObjOk H h a u
  | .tbl ps => h.get? a = some { cls := .none, data := .fields ps }
  | .met f x => h.get? a = some (PySem.W.methodObj (.ref f) (.ref x))
  | .ext φ => φ h ∧ (∃ o, h.get? a = some o) ∧ ∀ h1 h2 : Heap, φ h1 → (∀ o, h1.get? a = some o → h2.get? a = some o) → φ h2
noncomputable def HOk (H : Hp) (h : Heap) : Prop := ∀ a o, H a = some o → ObjOk P w H h a o
end
section
variable {P : Program} {w : World} {H H' : Hp} {h h' : Heap} {a : Addr} {o : HO}
theorem ObjOk.lt (x : ObjOk P w H h a o) : a < h.objs.size := by
  cases o with
  | lst xs => obtain ⟨_, _, _, _, e⟩ := x; exact Heap.lt_size e
  | tup xs => obtain ⟨_, _, _, p⟩ := x; exact p.lt
  | dK kvs => obtain ⟨_, _, _, _, o, _, _, e, _⟩ := x; exact Heap.lt_size e
  | dT kvs => obtain ⟨_, _, _, _, o, _, _, e, _⟩ := x; exact Heap.lt_size e
  | set S n => obtain ⟨o, _, _, _, e, _⟩ := x; exact Heap.lt_size e
  | ins C dx fs => obtain ⟨_, _, _, e, _⟩ := x; exact Heap.lt_size e
  | own y => obtain ⟨_, e⟩ := x; exact Heap.lt_size e
  | xd fs => obtain ⟨_, ⟨_, _, _, e, _⟩, _⟩ := x; exact Heap.lt_size e
  | rng lo hi => obtain ⟨_, _, _, e⟩ := x; exact Heap.lt_size e
  | frz ob u => obtain ⟨e, _⟩ := x; exact Heap.lt_size e
  | tbl ps => exact Heap.lt_size (show h.get? a = some _ from x)
  | met f y => exact Heap.lt_size (show h.get? a = some _ from x)
  | ext φ => obtain ⟨_, ⟨_, e⟩, _⟩ := x; exact Heap.lt_size e
theorem Paired.mapP {α β : Type} {F G : α → β → Prop} : ∀ {l₁ : List α} {l₂ : List β}, Paired F l₁ l₂ → (∀ a b, F a b → G a b) → Paired G l₁ l₂
  | _, _, .nil, _ => .nil
  | _, _, .cons r t, f => .cons (f _ _ r) (Paired.mapP t f)
theorem ObjOk.stay (x : ObjOk P w H h a o) (k : ∀ b u, (b = a ∨ H b = some (.own a)) → h.get? b = some u → h'.get? b = some u)
    (ho : ∀ b, H b = some (.own a) → H' b = some (.own a)) (ht : ∀ b xs, H b = some (.tup xs) → H' b = some (.tup xs)) : ObjOk P w H' h' a o := by
  induction o with
  | lst xs => obtain ⟨z, its, n, r, e⟩ := x; exact ⟨z, its, n, r, k _ _ (.inl rfl) e⟩
  | tup xs => obtain ⟨z, its, r, ob, e, c⟩ := x; exact ⟨z, its, r, ob, k _ _ (.inl rfl) e, c⟩
  | dK kvs => obtain ⟨z, y, vs, r, ob, es, ep, e, c⟩ := x; exact ⟨z, y, vs, r, ob, es, ep, k _ _ (.inl rfl) e, c⟩
  | dT kvs =>
    obtain ⟨z, y, xs, r, ob, es, ep, e, c⟩ := x
    exact ⟨z, y, xs, Paired.mapP r fun p q z => ⟨z.1, ht _ _ z.2.1, z.2.2⟩, ob, es, ep, k _ _ (.inl rfl) e, c⟩
  | set S n => obtain ⟨ob, es, ep, t, e, c⟩ := x; exact ⟨ob, es, ep, t, k _ _ (.inl rfl) e, c⟩
  | ins C dx fs =>
    obtain ⟨d, z, ne, e, mA, ⟨od, es, ep, e2, c⟩, r⟩ := x
    exact ⟨ho _ d, z, ne, k _ _ (.inl rfl) e, mA, ⟨od, es, ep, k _ _ (.inr d) e2, c⟩, r⟩
  | own y => obtain ⟨ob, e⟩ := x; exact ⟨ob, k _ _ (.inl rfl) e⟩
  | xd fs => obtain ⟨mA, ⟨od, es, ep, e, c⟩, r⟩ := x; exact ⟨mA, ⟨od, es, ep, k _ _ (.inl rfl) e, c⟩, r⟩
  | rng lo hi => obtain ⟨t, u, v, e⟩ := x; exact ⟨t, u, v, k _ _ (.inl rfl) e⟩
  | frz ob u ih => obtain ⟨e, q⟩ := x; exact ⟨k _ _ (.inl rfl) e, ih q⟩
  | tbl ps =>
    have e : h.get? a = some { cls := .none, data := .fields ps } := x
    show h'.get? a = some { cls := .none, data := .fields ps }
    exact k a _ (.inl rfl) e
  | met f y =>
    have e : h.get? a = some (PySem.W.methodObj (.ref f) (.ref y)) := x
    show h'.get? a = some (PySem.W.methodObj (.ref f) (.ref y))
    exact k a _ (.inl rfl) e
  | ext φ => obtain ⟨p, ⟨o, e⟩, st⟩ := x; exact ⟨st _ _ p fun o q => k _ _ (.inl rfl) q, ⟨o, k _ _ (.inl rfl) e⟩, st⟩
theorem HOk.lt (x : HOk P w H h) (e : H a = some o) : a < h.objs.size := (x a o e).lt
theorem HOk.fresh (x : HOk P w H h) (e : h.objs.size ≤ a) : H a = none := by
  cases q : H a with
  | none => rfl
  | some u => exact absurd (Nat.lt_of_lt_of_le (x.lt q) e) (Nat.lt_irrefl _)
theorem HOk.kept (x : HOk P w H h) (k : ∀ b u, h.get? b = some u → h'.get? b = some u) : HOk P w H h' := fun a o e =>
  (x a o e).stay (fun b u _ q => k b u q) (fun _ q => q) fun _ _ q => q
theorem HOk.laid (x : HOk P w H h) (k : ∀ b u, h.get? b = some u → h'.get? b = some u) (hp : h.objs.size ≤ a) (new : ObjOk P w (upd H a o) h' a o) : HOk P w (upd H a o) h' := fun b u e => by
  have hn := x.fresh hp
  by_cases hb : b = a
  · subst hb; rw [upd_same] at e; cases e; exact new
  · rw [upd_ne hb] at e
    exact (x b u e).stay (fun c v _ q => k c v q) (fun c q => by rw [upd_ne (ne_of_none q hn)]; exact q) fun c xs q => by rw [upd_ne (ne_of_none q hn)]; exact q
end
noncomputable def Rd (H : Hp) (a : Addr) (u : HO) : Prop := H a = some u ∨ ∃ o, H a = some (.frz o u)
theorem Rd.ok {P : Program} {w : World} {H : Hp} {h : Heap} {a : Addr} {u : HO} (r : Rd H a u) (x : HOk P w H h) : ObjOk P w H h a u := by
  rcases r with r | ⟨o, r⟩
  · exact x a u r
  · obtain ⟨_, q⟩ := x a _ r
    exact q
noncomputable def Mut : Option HO → Prop
  | some (.lst _) => True
  | some (.dK _) => True
  | some (.dT _) => True
  | some (.set _ _) => True
  | some (.ins _ _ _) => True
  | some (.ext _) => True
  | _ => False
section
variable {P : Program} {w : World} {H : Hp} {h h' : Heap} {x e : Addr} {o' : HO}
theorem HOk.write (ok : HOk P w H h) (mu : Mut (H x)) (he : e = x ∨ H e = some (.own x)) (k : ∀ b u, b ≠ e → h.get? b = some u → h'.get? b = some u) (heo : ∃ u, h'.get? e = some u)
    (new : ObjOk P w (upd H x o') h' x o') : HOk P w (upd H x o') h' := fun b u q => by
  have nown : ∀ c y, H c = some (.own y) → c ≠ x := fun c y r z => by subst z; rw [r] at mu; exact mu
  have ntup : ∀ c xs, H c = some (.tup xs) → c ≠ x := fun c xs r z => by subst z; rw [r] at mu; exact mu
  by_cases hb : b = x
  · subst hb; rw [upd_same] at q; cases q; exact new
  · rw [upd_ne hb] at q
    by_cases hbe : b = e
    · have q' : H b = some (.own x) := by
        rcases he with z | z
        · exact absurd (hbe.trans z) hb
        · rw [hbe]; exact z
      rw [q] at q'; cases q'
      obtain ⟨v, hv⟩ := heo
      exact ⟨v, by rw [hbe]; exact hv⟩
    · refine (ok b u q).stay (fun c v hc r => k c v ?_ r) (fun c r => by rw [upd_ne (nown c b r)]; exact r) fun c xs r => by rw [upd_ne (ntup c xs r)]; exact r
      rcases hc with rfl | hc
      · exact hbe
      · rintro rfl
        rcases he with z | z
        · exact nown c b hc z
        · rw [hc] at z; cases z; exact hb rfl
end
structure Un (fs ex : List Addr) (H H' : Hp) (h h' : Heap) : Prop where
  keep : ∀ b o, h.get? b = some o → H b = none → b ∉ fs → b ∉ ex → h'.get? b = some o
  slot : ∀ b o, h.get? b = some o → H b = none → b ∈ fs → b ∉ ex → ∃ sl, h'.get? b = some { o with slots := sl }
  free : ∀ b o, h.get? b = some o → H b = none → b ∉ ex → H' b = none
  there : ∀ b o, h.get? b = some o → b ∉ ex → ∃ o', h'.get? b = some o'
  tups : ∀ b xs, H b = some (.tup xs) → H' b = some (.tup xs)
  frzs : ∀ b o u, H b = some (.frz o u) → H' b = some (.frz o u)
  tbls : ∀ b ps, H b = some (.tbl ps) → ∃ more, H' b = some (.tbl (ps ++ more))
section
variable {fs fs' ex ex' : List Addr} {H H1 H2 : Hp} {h h1 h2 h' : Heap} {a x e : Addr} {o : HO}
theorem Un.any (u : Un fs ex H H1 h h1) {b : Addr} {ob : Obj} (q : h.get? b = some ob) (n : H b = none) (hx : b ∉ ex) : ∃ sl, h1.get? b = some { ob with slots := sl } := by
  by_cases hb : b ∈ fs
  · exact u.slot b ob q n hb hx
  · exact ⟨ob.slots, u.keep b ob q n hb hx⟩
theorem Un.kept (k : ∀ b u, h.get? b = some u → h'.get? b = some u) : Un fs ex H H h h' :=
  ⟨fun b ob q _ _ _ => k b ob q, fun b ob q _ _ _ => ⟨ob.slots, k b ob q⟩, fun _ _ _ n _ => n, fun b ob q _ => ⟨ob, k b ob q⟩, fun _ _ q => q, fun _ _ _ q => q, fun _ ps q => ⟨#[], by rw [q]; simp⟩⟩
theorem Un.refl : Un fs ex H H h h := Un.kept fun _ _ q => q
theorem Un.laid (k : ∀ b u, h.get? b = some u → h'.get? b = some u) (hp : h.objs.size ≤ a) (hn : H a = none) : Un fs ex H (upd H a o) h h' where
  keep := fun b u q _ _ _ => k b u q
  slot := fun b u q _ _ _ => ⟨u.slots, k b u q⟩
  free := fun b u q n _ => by rw [upd_ne (Nat.ne_of_lt (Nat.lt_of_lt_of_le (Heap.lt_size q) hp))]; exact n
  there := fun b u q _ => ⟨u, k b u q⟩
  tups := fun b xs q => by rw [upd_ne (ne_of_none q hn)]; exact q
  frzs := fun b u xs q => by rw [upd_ne (ne_of_none q hn)]; exact q
  tbls := fun b ps q => ⟨#[], by rw [upd_ne (ne_of_none q hn), q]; simp⟩
theorem Un.write (mu : Mut (H x)) (he : e = x ∨ H e = some (.own x)) (k : ∀ b u, b ≠ e → h.get? b = some u → h'.get? b = some u) (heo : ∃ u, h'.get? e = some u) : Un fs ex H (upd H x o) h h' := by
  have hx : ∀ b, H b = none → b ≠ x := fun b n z => by subst z; rw [n] at mu; exact mu
  have hb : ∀ b, H b = none → b ≠ e := fun b n z => by
    subst z
    rcases he with r | r
    · exact hx b n r
    · rw [n] at r; cases r
  have hm : ∀ b u, H b = some u → ¬ Mut (some u) → b ≠ x := fun b u q nm z => by subst z; rw [q] at mu; exact nm mu
  refine ⟨fun b u q n _ _ => k b u (hb b n) q, fun b u q n _ _ => ⟨u.slots, k b u (hb b n) q⟩, fun b u q n _ => by rw [upd_ne (hx b n)]; exact n, fun b u q _ => ?_,
    fun b xs q => by rw [upd_ne (hm b _ q fun z => z)]; exact q, fun b u xs q => by rw [upd_ne (hm b _ q fun z => z)]; exact q, fun b ps q => ⟨#[], by rw [upd_ne (hm b _ q fun z => z), q]; simp⟩⟩
  by_cases hbe : b = e
  · subst hbe; exact heo
  · exact ⟨u, k b u hbe q⟩
end
noncomputable def trk (h : Heap) (H : Hp) : List Addr := (List.range h.objs.size).filter fun a => (H a).isSome
noncomputable def hidT (h : Heap) (H : Hp) : Heap := PySem.W.hideAll h (trk h H)
theorem hidT_size (h : Heap) (H : Hp) : (hidT h H).objs.size = h.objs.size := PySem.W.hideAll_size _ _
theorem hidT_get {h : Heap} {H : Hp} {b : Addr} {o : Obj} (e : h.get? b = some o) (n : H b = none) : (hidT h H).get? b = some o :=
  PySem.W.hideAll_get _ e fun hm => by
    have q : (H b).isSome = true := (List.mem_filter.mp hm).2
    rw [n] at q; simp at q
theorem of_hidT {h : Heap} {H : Hp} {b : Addr} {o : Obj} (e : (hidT h H).get? b = some o) : h.get? b = some o ∧ H b = none := by
  have e' : h.get? b = some o := PySem.W.of_hideAll (trk h H) e
  refine ⟨e', ?_⟩
  cases q : H b with
  | none => rfl
  | some x =>
    have hm : b ∈ trk h H := List.mem_filter.mpr ⟨List.mem_range.mpr (Heap.lt_size e'), by simp [q]⟩
    have z : (hidT h H).get? b = none := PySem.W.hideAll_none (trk h H) hm
    rw [z] at e; cases e
end L2
namespace L2
open PySem PySem.Spec PyProof.Rows
structure Mod (K : PySem.W.Frag) (mg : Str → Option Value) (base : Heap) : Prop where
  kin : K.In base
  glob : base.Ns mainGlobals mg
  blt : ∃ mb, base.Ns builtinsNs mb ∧ ∀ x : Str, x ≠ "__name__" → mb x = bootBuiltins x
  nolimit : base.NoLimit
structure Cx where
  prog : Program
  w : World
  K : PySem.W.Frag
  mg : Str → Option Value
  base : Heap
  A : Around
  N : List Str
  s₀ : Shared
  H₀ : Hp
  env : Env
  outer : List Env
  stack : List Env
  ex : List Addr
  fn : Str → Bool
  calm : Bool
  pn : List (Addr × Obj)
  xe : Value → Shared → Prop
noncomputable def frs (l : List Env) : List Addr := l.filterMap (·.frame)
noncomputable abbrev Cx.fs (X : Cx) : List Addr := frs X.outer
noncomputable def Vis (sc : Scope) (x : Str) : Prop := sc.names.lookup x = some .local ∨ sc.names.lookup x = some .cell ∨ sc.names.lookup x = some .free
noncomputable def Loc (sc : Scope) (x : Str) : Prop := sc.names.lookup x = some .local ∨ sc.names.lookup x = some .cell
noncomputable def Look (env : Env) (h : Heap) (m : Str → Option Value) (x : Str) (u : Value) : Prop :=
  (env.kindOf x = some .local ∧ m x = some u) ∨ ((env.kindOf x = some .cell ∨ env.kindOf x = some .free) ∧ ∃ c, env.cells.lookup x = some c ∧ h.IsCell c (some u))
structure Cx.Ok (X : Cx) : Prop where
  mod : Mod X.K X.mg X.base
  kind : X.env.scope.kind = .function
  glob : X.env.globals = mainGlobals
  blt : X.env.builtins = builtinsNs
  above : X.s₀.heap.objs.size ≤ X.env.locals
  inj : ∀ x y c, X.env.cells.lookup x = some c → X.env.cells.lookup y = some c → x = y
  has : ∀ x, (X.env.kindOf x = some .cell ∨ X.env.kindOf x = some .free) → ∃ c, X.env.cells.lookup x = some c
  cab : ∀ x c, X.fn x = true → X.env.cells.lookup x = some c → X.s₀.heap.objs.size ≤ c
  hd : X.calm = true → X.A.handled = none
  frames : X.A.frames = some X.stack
  stk : X.stack = X.outer ∨ (X.stack = X.env :: X.outer ∧ X.env.frame = some X.env.locals)
  exf : ∀ b ∈ X.ex, b ≠ X.env.locals ∧ ∀ x c, X.env.cells.lookup x = some c → c ≠ b
  bs : ∀ b o, X.base.get? b = some o → X.s₀.heap.get? b = some o ∧ X.H₀ b = none
  bsz : X.base.objs.size ≤ X.s₀.heap.objs.size
  noex : ∀ b o, X.base.get? b = some o → b ∉ X.ex
  exfs : ∀ b ∈ X.ex, b ∉ X.fs
  funs : X.s₀.heap.FunFrames X.base X.outer
  frf : ∀ b ∈ X.fs, X.H₀ b = none
structure Inv (X : Cx) (pins : List (Addr × Obj)) (σ : List (Option V)) (H : Hp) (s : Shared) : Prop where
  ok : X.Ok
  os : s.os = X.s₀.os
  bare : AllBare s.gens
  base : Un X.fs X.ex X.H₀ H X.s₀.heap s.heap
  loc : ∃ m, s.heap.Ns X.env.locals m ∧ ∀ (i : Nat) (x : Str) (v : V), X.N[i]? = some x → σ[i]? = some (some v) → Vis X.env.scope x → ∃ u, RelV v u ∧ Look X.env s.heap m x u
  cell : ∀ x c, X.env.cells.lookup x = some c → ∃ v, s.heap.IsCell c v
  free : H X.env.locals = none
  freeC : ∀ x c, X.env.cells.lookup x = some c → H c = none
  pin : ∀ p ∈ X.pn ++ pins, s.heap.get? p.1 = some p.2 ∧ H p.1 = none ∧ p.1 ≠ X.env.locals ∧ p.1 ∉ X.fs ∧ ∀ v, p.2.data ≠ .cell v
  hok : HOk X.prog X.w H s.heap
  len : σ.length = X.N.length
section
variable {X : Cx} {pins : List (Addr × Obj)} {σ : List (Option V)} {H H' : Hp} {s : Shared} {h' : Heap}
theorem Cx.Ok.nofr (ok : X.Ok) {b : Addr} {o : Obj} (e : X.base.get? b = some o) : b ∉ X.fs := fun hb => by
  have := (ok.funs.mem hb).1
  rw [e] at this; cases this
theorem Inv.bs (I : Inv X pins σ H s) : ∀ b o, X.base.get? b = some o → s.heap.get? b = some o ∧ H b = none := fun b o e =>
  ⟨I.base.keep b o (I.ok.bs b o e).1 (I.ok.bs b o e).2 (I.ok.nofr e) (I.ok.noex b o e), I.base.free b o (I.ok.bs b o e).1 (I.ok.bs b o e).2 (I.ok.noex b o e)⟩
theorem Inv.bk (I : Inv X pins σ H s) : ∀ b o, X.base.get? b = some o → s.heap.get? b = some o := fun b o e => (I.bs b o e).1
theorem Inv.mod (I : Inv X pins σ H s) : Mod X.K X.mg X.base := I.ok.mod
theorem Inv.kIn (I : Inv X pins σ H s) : X.K.In s.heap := I.ok.mod.kin.keeps I.bk
theorem Inv.lt (I : Inv X pins σ H s) : X.env.locals < s.heap.objs.size := let ⟨_, hn, _⟩ := I.loc; hn.lt
theorem Inv.sz (I : Inv X pins σ H s) : X.s₀.heap.objs.size ≤ s.heap.objs.size := Nat.le_trans I.ok.above (Nat.le_of_lt I.lt)
theorem Inv.nofs (I : Inv X pins σ H s) {a : Addr} (h : s.heap.objs.size ≤ a) : a ∉ X.fs := fun hb => by
  obtain ⟨_, o, ho, _⟩ := I.ok.funs.mem hb
  exact absurd (Nat.lt_of_lt_of_le (Heap.lt_size ho) (Nat.le_trans I.sz h)) (Nat.lt_irrefl _)
theorem Inv.cne (I : Inv X pins σ H s) : ∀ x c, X.env.cells.lookup x = some c → c ≠ X.env.locals := fun x c e z => by
  obtain ⟨v, o, ho, hd⟩ := I.cell x c e
  obtain ⟨m, ⟨o', es, ep, ho', hd', _⟩, _⟩ := I.loc
  rw [z, ho'] at ho; cases ho; rw [hd'] at hd; cases hd
theorem Inv.funs (I : Inv X pins σ H s) : s.heap.FunFrames X.base X.outer := by
  have all : ∀ (l : List Env), (∀ b ∈ frs l, b ∈ X.fs) → X.s₀.heap.FunFrames X.base l → s.heap.FunFrames X.base l := by
    intro l
    induction l with
    | nil => intro _ _; trivial
    | cons env r ih =>
      intro hs hl
      obtain ⟨hk, ⟨L, o, hf, hn, ho, hd⟩, hr⟩ := hl
      have hL : L ∈ X.fs := hs L (by unfold frs; rw [List.filterMap_cons, hf]; exact List.mem_cons_self)
      obtain ⟨sl, e⟩ := I.base.slot L o ho (I.ok.frf L hL) hL fun z => I.ok.exfs L z hL
      exact ⟨hk, ⟨L, _, hf, hn, e, hd⟩, ih (fun b hb => hs b (by unfold frs; rw [List.filterMap_cons, hf]; exact List.mem_cons_of_mem _ hb)) hr⟩
  exact all X.outer (fun _ hb => hb) I.ok.funs
theorem Inv.stack (I : Inv X pins σ H s) : s.heap.FunFrames X.base X.stack := by
  rcases I.ok.stk with e | ⟨e, hf⟩
  · rw [e]; exact I.funs
  · rw [e]
    obtain ⟨m, hn, _⟩ := I.loc
    refine .cons (by rw [I.ok.kind]; decide) hf hn ?_ I.funs
    exact Heap.get?_none_of_le (Nat.le_trans I.ok.bsz I.ok.above)
theorem Inv.stkSub (I : Inv X pins σ H s) : ∀ b ∈ frs X.stack, b ∈ X.env.locals :: X.fs := fun b hb => by
  rcases I.ok.stk with e | ⟨e, hf⟩
  · rw [e] at hb; exact List.mem_cons_of_mem _ hb
  · rw [e] at hb
    unfold frs at hb
    rw [List.filterMap_cons, hf] at hb
    exact hb
theorem Inv.stkFree (I : Inv X pins σ H s) : ∀ b ∈ frs X.stack, H b = none := fun b hb => by
  rcases List.mem_cons.mp (I.stkSub b hb) with e | hb
  · rw [e]; exact I.free
  · obtain ⟨_, o, ho, _⟩ := I.ok.funs.mem hb
    exact I.base.free b o ho (I.ok.frf b hb) fun z => I.ok.exfs b z hb
theorem Inv.step {g' : Array GenState} {t' : Nat} {d' : Drawn} {ch : List Addr} (I : Inv X pins σ H s)
    (hch : ∀ b ∈ ch, (b ∈ X.ex ∨ X.s₀.heap.objs.size ≤ b) ∧ b ≠ X.env.locals ∧ (∀ x c, X.env.cells.lookup x = some c → c ≠ b) ∧ ∀ p ∈ X.pn ++ pins, p.1 ≠ b)
    (keep : ∀ b o, b ≠ X.env.locals → b ∉ X.fs → b ∉ ch → s.heap.get? b = some o → H b = none → h'.get? b = some o)
    (slot : ∀ b o, b ≠ X.env.locals → b ∈ X.fs → b ∉ ch → s.heap.get? b = some o → H b = none → ∃ sl, h'.get? b = some { o with slots := sl }) (free : ∀ b o, b ∉ ch → s.heap.get? b = some o → H b = none → H' b = none)
    (there : ∀ b o, b ∉ ch → s.heap.get? b = some o → ∃ o', h'.get? b = some o')
    (tups : ∀ b xs, H b = some (.tup xs) → H' b = some (.tup xs)) (frzs : ∀ b o u, H b = some (.frz o u) → H' b = some (.frz o u)) (tbls : ∀ b ps, H b = some (.tbl ps) → ∃ more, H' b = some (.tbl (ps ++ more)))
    (ns : ∀ m, s.heap.Ns X.env.locals m → h'.Ns X.env.locals m) (hok : HOk X.prog X.w H' h') (hg : AllBare g') :
    Inv X pins σ H' { s with heap := h', gens := g', drawn := d', toks := t' } := by
  have neL : ∀ b o, X.s₀.heap.get? b = some o → b ≠ X.env.locals := fun b o e => Nat.ne_of_lt (Nat.lt_of_lt_of_le (Heap.lt_size e) I.ok.above)
  have neC : ∀ b o, X.s₀.heap.get? b = some o → b ∉ X.ex → b ∉ ch := fun b o e hx hb => by
    rcases (hch b hb).1 with z | z
    · exact hx z
    · exact absurd (Nat.lt_of_lt_of_le (Heap.lt_size e) z) (Nat.lt_irrefl _)
  have cellK : ∀ x c, X.env.cells.lookup x = some c → ∀ v, s.heap.IsCell c v → h'.IsCell c v := fun x c e v ⟨o, ho, hd⟩ => by
    have nch : c ∉ ch := fun z => (hch c z).2.2.1 x c e rfl
    by_cases hc : c ∈ X.fs
    · obtain ⟨sl, q⟩ := slot c o (I.cne x c e) hc nch ho (I.freeC x c e)
      exact ⟨_, q, hd⟩
    · exact ⟨o, keep c o (I.cne x c e) hc nch ho (I.freeC x c e), hd⟩
  refine ⟨I.ok, I.os, hg, ⟨fun b o e n hb hx => ?_, fun b o e n hb hx => ?_, fun b o e n hx => ?_, fun b o e hx => ?_, fun b xs e => tups b xs (I.base.tups b xs e), fun b o xs e => frzs b o xs (I.base.frzs b o xs e), fun b ps e => ?_⟩, ?_, fun x c e => ?_, ?_, fun x c e => ?_, fun p hp => ?_, hok, I.len⟩
  · exact keep b o (neL b o e) hb (neC b o e hx) (I.base.keep b o e n hb hx) (I.base.free b o e n hx)
  · obtain ⟨sl, e1⟩ := I.base.slot b o e n hb hx
    obtain ⟨sl', e2⟩ := slot b _ (neL b o e) hb (neC b o e hx) e1 (I.base.free b o e n hx)
    exact ⟨sl', e2⟩
  · obtain ⟨o', e1⟩ := I.base.there b o e hx
    exact free b o' (neC b o e hx) e1 (I.base.free b o e n hx)
  · obtain ⟨o', e1⟩ := I.base.there b o e hx
    exact there b o' (neC b o e hx) e1
  · obtain ⟨m1, e1⟩ := I.base.tbls b ps e
    obtain ⟨m2, e2⟩ := tbls b _ e1
    exact ⟨m1 ++ m2, by rw [e2, Array.append_assoc]⟩
  · obtain ⟨m, hn, hl⟩ := I.loc
    refine ⟨m, ns m hn, fun i x v e1 e2 e3 => ?_⟩
    obtain ⟨u, r, l⟩ := hl i x v e1 e2 e3
    refine ⟨u, r, ?_⟩
    rcases l with l | ⟨k, c, e, z⟩
    · exact .inl l
    · exact .inr ⟨k, c, e, cellK x c e _ z⟩
  · obtain ⟨v, z⟩ := I.cell x c e
    exact ⟨v, cellK x c e v z⟩
  · obtain ⟨m, ⟨o, _, _, ho, _⟩, _⟩ := I.loc
    exact free _ o (fun z => (hch _ z).2.1 rfl) ho I.free
  · obtain ⟨v, o, ho, hd⟩ := I.cell x c e
    exact free c o (fun z => (hch c z).2.2.1 x c e rfl) ho (I.freeC x c e)
  · obtain ⟨e, n, ne, nf, d⟩ := I.pin p hp
    have nch : p.1 ∉ ch := fun z => (hch p.1 z).2.2.2 p hp rfl
    exact ⟨keep p.1 p.2 ne nf nch e n, free p.1 p.2 nch e n, ne, nf, d⟩
theorem Inv.un {t' : Nat} (I : Inv X pins σ H s) (u : Un X.fs [] H H' s.heap h') (hok : HOk X.prog X.w H' h') : Inv X pins σ H' { s with heap := h', toks := t' } := by
  obtain ⟨m, ⟨o, es, ep, ho, r⟩, _⟩ := id I.loc
  obtain ⟨sl, hL⟩ := u.any ho I.free (by simp)
  exact I.step (g' := s.gens) (d' := s.drawn) (ch := []) (fun _ z => nomatch z) (fun b o _ hb _ e n => u.keep b o e n hb (by simp)) (fun b o _ hb _ e n => u.slot b o e n hb (by simp)) (fun b o _ e n => u.free b o e n (by simp)) (fun b o _ e => u.there b o e (by simp)) u.tups u.frzs u.tbls (fun m' hm => by
    obtain ⟨o', es', ep', ho', r'⟩ := hm
    rw [ho] at ho'; cases ho'
    exact ⟨_, es', ep', hL, r'⟩) hok I.bare
theorem Inv.call {g' : Array GenState} {t' : Nat} {d' : Drawn} {ch : List Addr} (I : Inv X pins σ H s) (u : Un (frs X.stack) ch H H' s.heap h') (hok : HOk X.prog X.w H' h') (hg : AllBare g')
    (hch : ∀ b ∈ ch, (b ∈ X.ex ∨ X.s₀.heap.objs.size ≤ b) ∧ b ≠ X.env.locals ∧ (∀ x c, X.env.cells.lookup x = some c → c ≠ b) ∧ ∀ p ∈ X.pn ++ pins, p.1 ≠ b) :
    Inv X pins σ H' { s with heap := h', gens := g', drawn := d', toks := t' } := by
  obtain ⟨m, ⟨o, es, ep, ho, r⟩, _⟩ := id I.loc
  obtain ⟨sl, hL⟩ := u.any ho I.free fun z => (hch _ z).2.1 rfl
  exact I.step (ch := ch) hch (fun b o hL hb hc e n => u.keep b o e n (fun z => (List.mem_cons.mp (I.stkSub b z)).elim hL hb) hc) (fun b o _ _ hc e n => u.any e n hc) (fun b o hc e n => u.free b o e n hc) (fun b o hc e => u.there b o e hc) u.tups u.frzs u.tbls (fun m' hm => by
    obtain ⟨o', es', ep', ho', r'⟩ := hm
    rw [ho] at ho'; cases ho'
    exact ⟨_, es', ep', hL, r'⟩) hok hg
theorem Inv.turned {t' : Nat} {it : Addr} (I : Inv X pins σ H s) (k : ∀ b o, b ≠ it → s.heap.get? b = some o → h'.get? b = some o) (hn : H it = none) (hL : it ≠ X.env.locals)
    (h1 : it ∈ X.ex ∨ X.s₀.heap.objs.size ≤ it) (h2 : ∀ x c, X.env.cells.lookup x = some c → c ≠ it) (h3 : ∀ p ∈ X.pn ++ pins, p.1 ≠ it) : Inv X pins σ H { s with heap := h', toks := t' } := by
  have nit : ∀ b u, H b = some u → b ≠ it := fun b u e z => by rw [z, hn] at e; cases e
  refine I.step (g' := s.gens) (d' := s.drawn) (ch := [it]) (fun b hb => ?_) (fun b o _ _ hc e _ => k b o (fun z => hc (by simp [z])) e) (fun b o _ _ hc e _ => ⟨o.slots, k b o (fun z => hc (by simp [z])) e⟩) (fun _ _ _ _ n => n)
    (fun b o hc e => ⟨o, k b o (fun z => hc (by simp [z])) e⟩) (fun _ _ e => e) (fun _ _ _ e => e) (fun b ps e => ⟨#[], by rw [e]; simp⟩) (fun m hm => ?_) (fun b u e => ?_) I.bare
  · have e : b = it := by simpa using hb
    subst e
    exact ⟨h1, hL, h2, h3⟩
  · obtain ⟨o, es, ep, ho, r⟩ := hm
    exact ⟨o, es, ep, k _ o (Ne.symm hL) ho, r⟩
  · refine (I.hok b u e).stay (fun c v hc q => k c v ?_ q) (fun _ q => q) fun _ _ q => q
    rcases hc with z | z
    · rw [z]; exact nit b u e
    · exact nit c _ z
theorem Inv.tok (I : Inv X pins σ H s) (t : Nat) : Inv X pins σ H { s with toks := t } := I.un (h' := s.heap) (t' := t) Un.refl I.hok
theorem Inv.kept {t' : Nat} (I : Inv X pins σ H s) (k : ∀ b u, s.heap.get? b = some u → h'.get? b = some u) : Inv X pins σ H { s with heap := h', toks := t' } := I.un (Un.kept k) (I.hok.kept k)
theorem Inv.laid {a : Addr} {o : HO} {t' : Nat} (I : Inv X pins σ H s) (k : ∀ b u, s.heap.get? b = some u → h'.get? b = some u) (hp : s.heap.objs.size ≤ a) (new : ObjOk X.prog X.w (upd H a o) h' a o) :
    Inv X pins σ (upd H a o) { s with heap := h', toks := t' } := I.un (Un.laid k hp (I.hok.fresh hp)) (I.hok.laid k hp new)
theorem Inv.write {x e : Addr} {o : HO} {t' : Nat} (I : Inv X pins σ H s) (mu : Mut (H x)) (he : e = x ∨ H e = some (.own x)) (k : ∀ b u, b ≠ e → s.heap.get? b = some u → h'.get? b = some u) (heo : ∃ u, h'.get? e = some u)
    (new : ObjOk X.prog X.w (upd H x o) h' x o) : Inv X pins σ (upd H x o) { s with heap := h', toks := t' } := I.un (Un.write mu he k heo) (I.hok.write mu he k heo new)
theorem Inv.weak {σ' : List (Option V)} (I : Inv X pins σ H s) (hl : σ'.length = σ.length) (w : ∀ (i : Nat) v, σ'[i]? = some (some v) → σ[i]? = some (some v)) : Inv X pins σ' H s :=
  ⟨I.ok, I.os, I.bare, I.base, let ⟨m, hn, hl'⟩ := I.loc; ⟨m, hn, fun i x v e1 e2 e3 => hl' i x v e1 (w i v e2) e3⟩, I.cell, I.free, I.freeC, I.pin, I.hok, hl.trans I.len⟩
theorem Inv.pins_of {pins' : List (Addr × Obj)} (I : Inv X pins σ H s) (h : ∀ p ∈ pins', s.heap.get? p.1 = some p.2 ∧ H p.1 = none ∧ p.1 ≠ X.env.locals ∧ p.1 ∉ X.fs ∧ ∀ v, p.2.data ≠ .cell v) : Inv X pins' σ H s :=
  ⟨I.ok, I.os, I.bare, I.base, I.loc, I.cell, I.free, I.freeC, fun p hp => (List.mem_append.mp hp).elim (fun z => I.pin p (List.mem_append_left _ z)) (h p), I.hok, I.len⟩
theorem nodup_ix {N : List Str} (hN : N.Nodup) {i j : Nat} {x : Str} (a : N[i]? = some x) (b : N[j]? = some x) : i = j := by
  obtain ⟨h1, e1⟩ := List.getElem?_eq_some_iff.mp a
  obtain ⟨h2, e2⟩ := List.getElem?_eq_some_iff.mp b
  exact (List.getElem_inj hN).mp (e1.trans e2.symm)
theorem store_ok2 {M : Model} {A : Around} {E : Value → Shared → Prop} {i : Nat} {x : Str} {v : V} {u : Value} {Q : Unit → Shared → Prop} (I : Inv X pins σ H s) (hN : X.N.Nodup) (hi : X.N[i]? = some x) (hx : Loc X.env.scope x) (r : RelV v u)
    (h : ∀ s', Inv X pins (σ.set i (some v)) H s' → (∃ a, Heap.SameBut a s.heap s'.heap ∧ (a = X.env.locals ∨ X.env.cells.lookup x = some a)) → Q () s') (hf : X.fn x = true ∨ X.env.scope.names.lookup x = some .local := by first | exact .inl rfl | exact .inr rfl | assumption) : wpAny M A (storeName X.env x u) Q E s := by
  obtain ⟨m, hn, hl⟩ := id I.loc
  have hcls : (X.env.scope.kind == .class || (X.env.scope.kind == .module && X.env.locals != X.env.globals)) = false := by rw [I.ok.kind]; rfl
  have hiσ : i < σ.length := by rw [I.len]; exact (List.getElem?_eq_some_iff.mp hi).1
  have cne := I.cne
  have tracked : ∀ {a : Addr} {h' : Heap}, (∃ o, s.heap.get? a = some o ∧ H a = none) → Heap.SameBut a s.heap h' → HOk X.prog X.w H h' := fun {a h'} ha hs b ob e => by
    obtain ⟨_, _, hfree⟩ := ha
    refine (I.hok b ob e).stay (fun c w' hc q => (hs.2 c ?_).trans q) (fun _ q => q) fun _ _ q => q
    rintro rfl
    rcases hc with rfl | hc
    · rw [hfree] at e; cases e
    · rw [hfree] at hc; cases hc
  rcases hx with hk | hk
  · refine wpAny_storeName_local hk hn (fun h' hn' hs => ?_) hcls
    obtain ⟨oL, _, _, hoL, _⟩ := id hn
    refine h _ ⟨I.ok, I.os, I.bare, ⟨fun b o e n hb hx => ?_, fun b o e n hb hx => ?_, I.base.free, fun b o e hx => ?_, I.base.tups, I.base.frzs, I.base.tbls⟩, ⟨_, hn', fun j y v' e1 e2 e3 => ?_⟩, fun y c e => ?_, I.free, I.freeC, fun p hp => ?_, tracked ⟨oL, hoL, I.free⟩ hs, by simpa using I.len⟩ ⟨_, hs, .inl rfl⟩
    · exact (hs.2 b (Nat.ne_of_lt (Nat.lt_of_lt_of_le (Heap.lt_size e) I.ok.above))).trans (I.base.keep b o e n hb hx)
    · obtain ⟨sl, e1⟩ := I.base.slot b o e n hb hx
      exact ⟨sl, (hs.2 b (Nat.ne_of_lt (Nat.lt_of_lt_of_le (Heap.lt_size e) I.ok.above))).trans e1⟩
    · obtain ⟨o', e1⟩ := I.base.there b o e hx
      exact ⟨o', (hs.2 b (Nat.ne_of_lt (Nat.lt_of_lt_of_le (Heap.lt_size e) I.ok.above))).trans e1⟩
    · by_cases hj : j = i
      · subst hj
        rw [hi] at e1; cases e1
        rw [List.getElem?_set_self hiσ] at e2
        cases e2
        exact ⟨u, r, .inl ⟨hk, by simp⟩⟩
      · rw [List.getElem?_set_ne (Ne.symm hj)] at e2
        obtain ⟨u', r', q⟩ := hl j y v' e1 e2 e3
        refine ⟨u', r', ?_⟩
        rcases q with ⟨k, e⟩ | ⟨k, c, e, z⟩
        · refine .inl ⟨k, ?_⟩
          have : y ≠ x := fun e => hj (nodup_ix hN e1 (e ▸ hi))
          simp [this, e]
        · exact .inr ⟨k, c, e, z.sameBut hs (cne y c e)⟩
    · obtain ⟨w', z⟩ := I.cell y c e
      exact ⟨w', z.sameBut hs (cne y c e)⟩
    · obtain ⟨e, n, ne, nf, d⟩ := I.pin p hp
      exact ⟨(hs.2 p.1 ne).trans e, n, ne, nf, d⟩
  · have hfn : X.fn x = true := by
      rcases hf with z | z
      · exact z
      · rw [z] at hk; cases hk
    obtain ⟨c, hc⟩ := I.ok.has x (.inl hk)
    obtain ⟨w', z⟩ := I.cell x c hc
    refine wpAny_storeName_cell I.ok.kind hk hc z (fun h' hc' hs => ?_)
    obtain ⟨oc, hoc, hocd⟩ := id z
    refine h { s with heap := h' } ⟨I.ok, I.os, I.bare, ⟨fun b o e n hb hx => ?_, fun b o e n hb hx => ?_, I.base.free, fun b o e hx => ?_, I.base.tups, I.base.frzs, I.base.tbls⟩, ⟨m, hn.sameBut hs (Ne.symm (cne x c hc)), fun j y v' e1 e2 e3 => ?_⟩, fun y c' e => ?_, I.free, I.freeC, fun p hp => ?_, tracked ⟨oc, hoc, I.freeC x c hc⟩ hs, by simpa using I.len⟩ ⟨c, hs, .inr hc⟩
    · exact (hs.2 b (Nat.ne_of_lt (Nat.lt_of_lt_of_le (Heap.lt_size e) (I.ok.cab x c hfn hc)))).trans (I.base.keep b o e n hb hx)
    · obtain ⟨sl, e1⟩ := I.base.slot b o e n hb hx
      exact ⟨sl, (hs.2 b (Nat.ne_of_lt (Nat.lt_of_lt_of_le (Heap.lt_size e) (I.ok.cab x c hfn hc)))).trans e1⟩
    · obtain ⟨o', e1⟩ := I.base.there b o e hx
      exact ⟨o', (hs.2 b (Nat.ne_of_lt (Nat.lt_of_lt_of_le (Heap.lt_size e) (I.ok.cab x c hfn hc)))).trans e1⟩
    · by_cases hj : j = i
      · subst hj
        rw [hi] at e1; cases e1
        rw [List.getElem?_set_self hiσ] at e2
        cases e2
        exact ⟨u, r, .inr ⟨.inl hk, c, hc, hc'⟩⟩
      · rw [List.getElem?_set_ne (Ne.symm hj)] at e2
        obtain ⟨u', r', q⟩ := hl j y v' e1 e2 e3
        refine ⟨u', r', ?_⟩
        rcases q with q | ⟨k, c', e, z'⟩
        · exact .inl q
        · refine .inr ⟨k, c', e, z'.sameBut hs ?_⟩
          rintro rfl
          exact hj (nodup_ix hN e1 (I.ok.inj _ _ _ e hc ▸ hi))
    · by_cases hcc : c' = c
      · subst hcc; exact ⟨_, hc'⟩
      · obtain ⟨w2, z2⟩ := I.cell y c' e
        exact ⟨w2, z2.sameBut hs hcc⟩
    · obtain ⟨e, n, ne, nf, d⟩ := I.pin p hp
      refine ⟨(hs.2 p.1 ?_).trans e, n, ne, nf, d⟩
      intro q
      rw [q, hoc] at e
      have q' : oc = p.2 := Option.some.inj e
      exact d w' (by rw [← q']; exact hocd)
theorem store_ok {M : Model} {A : Around} {E : Value → Shared → Prop} {i : Nat} {x : Str} {v : V} {u : Value} {Q : Unit → Shared → Prop} (I : Inv X pins σ H s) (hN : X.N.Nodup) (hi : X.N[i]? = some x) (hx : Loc X.env.scope x) (r : RelV v u)
    (h : ∀ s', Inv X pins (σ.set i (some v)) H s' → Q () s') (hf : X.fn x = true ∨ X.env.scope.names.lookup x = some .local := by first | exact .inl rfl | exact .inr rfl | assumption) : wpAny M A (storeName X.env x u) Q E s :=
  store_ok2 I hN hi hx r (fun s' I' _ => h s' I') hf
theorem Inv.call' {s' : Shared} {ch : List Addr} (I : Inv X pins σ H s) (ho : s'.os = s.os) (u : Un (frs X.stack) ch H H' s.heap s'.heap) (hok : HOk X.prog X.w H' s'.heap) (hg : AllBare s'.gens)
    (hch : ∀ b ∈ ch, (b ∈ X.ex ∨ X.s₀.heap.objs.size ≤ b) ∧ b ≠ X.env.locals ∧ (∀ x c, X.env.cells.lookup x = some c → c ≠ b) ∧ ∀ p ∈ X.pn ++ pins, p.1 ≠ b) : Inv X pins σ H' s' := by
  obtain ⟨h', g', d', t', o'⟩ := s'
  have e : o' = s.os := ho
  subst e
  exact I.call (g' := g') (t' := t') (d' := d') u hok hg hch
end
noncomputable abbrev XK := Value → Option Addr → Hp → Prop
noncomputable abbrev St := List (Option V)
noncomputable abbrev VK := V → Hp → Prop
noncomputable abbrev TE := St → Hp → VK → Prop
noncomputable abbrev TT := St → Hp → (Bool → Hp → Prop) → Prop
noncomputable abbrev TA := St → Hp → (List V → Hp → Prop) → Prop
structure Ends where
  nx : St → Hp → Prop
  rt : VK
  bk : St → Hp → Prop := fun _ _ => False
  ct : St → Hp → Prop := fun _ _ => False
noncomputable abbrev TS := Ends → St → Hp → Prop
noncomputable def EP (X : Cx) (pins : List (Addr × Obj)) (σ : St) (Q : VK) (u : Value) (s' : Shared) : Prop := ∃ v H', Inv X pins σ H' s' ∧ RelV v u ∧ Q v H'
noncomputable def TP (X : Cx) (pins : List (Addr × Obj)) (σ : St) (Q : Bool → Hp → Prop) (b : Bool) (s' : Shared) : Prop := ∃ H', Inv X pins σ H' s' ∧ Q b H'
noncomputable def AP (X : Cx) (pins : List (Addr × Obj)) (σ : St) (Q : List V → Hp → Prop) (us : List Value) (s' : Shared) : Prop := ∃ vs H', Inv X pins σ H' s' ∧ Vals vs us ∧ Q vs H'
noncomputable def SP (X : Cx) (pins : List (Addr × Obj)) (D : Ends) (f : Flow) (s' : Shared) : Prop :=
  match f with
  | .next => ∃ σ' H', Inv X pins σ' H' s' ∧ D.nx σ' H'
  | .brk => ∃ σ' H', Inv X pins σ' H' s' ∧ D.bk σ' H'
  | .cont => ∃ σ' H', Inv X pins σ' H' s' ∧ D.ct σ' H'
  | .ret u => ∃ v σ' H', Inv X pins σ' H' s' ∧ RelV v u ∧ D.rt v H'
noncomputable def PE (X : Cx) (e : Expr) (t : TE) : Prop :=
  ∀ (pins : List (Addr × Obj)) (s : Shared) (σ : St) (H : Hp) (Q : VK), Inv X pins σ H s → t σ H Q → wpAny (model X.prog X.w) X.A (eval e X.env) (EP X pins σ Q) X.xe s
noncomputable def PT (X : Cx) (e : Expr) (t : TT) : Prop :=
  ∀ (pins : List (Addr × Obj)) (s : Shared) (σ : St) (H : Hp) (Q : Bool → Hp → Prop), Inv X pins σ H s → t σ H Q → wpAny (model X.prog X.w) X.A (isTrue e X.env (eval e X.env)) (TP X pins σ Q) X.xe s
noncomputable def PW (X : Cx) (e : Expr) (t : TT) : Prop :=
  ∀ (whole : Sem Value) (pins : List (Addr × Obj)) (s : Shared) (σ : St) (H : Hp) (Q : Bool → Hp → Prop), Inv X pins σ H s → t σ H Q → wpAny (model X.prog X.w) X.A (isTrue e X.env whole) (TP X pins σ Q) X.xe s
theorem PW.pt {X : Cx} {e : Expr} {t : TT} (h : PW X e t) : PT X e t := h _
noncomputable def PA (X : Cx) (es : List Expr) (t : TA) : Prop :=
  ∀ (pos : Pos) (pins : List (Addr × Obj)) (s : Shared) (σ : St) (H : Hp) (Q : List V → Hp → Prop), Inv X pins σ H s → t σ H Q → wpAny (model X.prog X.w) X.A (spliced (backTo pos (starEach es X.env))) (AP X pins σ Q) X.xe s
noncomputable def PS (X : Cx) (st : Stmt) (t : TS) : Prop :=
  ∀ (pins : List (Addr × Obj)) (s : Shared) (σ : St) (H : Hp) (D : Ends), Inv X pins σ H s → t D σ H → wpAny (model X.prog X.w) X.A (exec st X.env) (SP X pins D) X.xe s
noncomputable def PSs (X : Cx) (st : List Stmt) (t : TS) : Prop :=
  ∀ (pins : List (Addr × Obj)) (s : Shared) (σ : St) (H : Hp) (D : Ends), Inv X pins σ H s → t D σ H → wpAny (model X.prog X.w) X.A (execs st X.env) (SP X pins D) X.xe s
theorem thn {α : Type} {t : Sem α} {Q Q' : α → Shared → Prop} {M : Model} {A : Around} {E : Value → Shared → Prop} {s : Shared} (h : wpAny M A t Q E s) (hQ : ∀ a s, Q a s → Q' a s) : wpAny M A t Q' E s := wpAny_mono h hQ fun _ _ x => x
end L2
namespace L2
open PySem PySem.Spec PyProof.Rows
section
variable {X : Cx}
noncomputable def tVar (i : Nat) : TE := fun σ H Q => ∃ v, σ[i]? = some (some v) ∧ Q v H
noncomputable def tC (v : V) : TE := fun _ H Q => Q v H
theorem pe_var {i : Nat} {x : Str} {pos : Pos} (hN : X.N[i]? = some x) (hv : Vis X.env.scope x) (hd : (x == ("__debug__" : Str)) = false := by decide) (hcd : (x == ("__classdict__" : Str)) = false := by decide) : PE X (.Name x pos) (tVar i) := by
  intro pins s σ H Q I h
  obtain ⟨v, e, h⟩ := h
  obtain ⟨m, hn, hl⟩ := I.loc
  obtain ⟨u, r, l⟩ := hl i x v hN e hv
  have fin : EP X pins σ Q u s := ⟨v, H, I, r, h⟩
  rcases l with ⟨hk, hm⟩ | ⟨hk, c, hc, hcell⟩
  · exact wpAny_Name (wpAny_loadName_local I.ok.kind hk hn hm fin) hd
  · rcases hk with hk | hk
    · exact wpAny_Name (wpAny_loadName_cell I.ok.kind hk hc hcell fin) hd
    · exact wpAny_Name (wpAny_loadName_free I.ok.kind hk hc hcell fin hcd) hd
theorem pe_int {i j pos} : PE X (.Constant (.int i) j pos) (tC (.int i)) := fun _ _ _ H _ I h => wpAny_Constant_int ⟨.int i, H, I.tok _, ⟨_, rfl⟩, h⟩
theorem pe_bl {b j pos} : PE X (.Constant (.bool b) j pos) (tC (.bl b)) := fun _ _ _ H _ I h => Constant_bool ⟨.bl b, H, I, rfl, h⟩
theorem pe_non {j pos} : PE X (.Constant .none j pos) (tC .non) := fun _ _ _ H _ I h => Constant_none ⟨.non, H, I, rfl, h⟩
theorem pe_str {x j pos} : PE X (.Constant (.str x) j pos) (tC (.str x)) := fun _ _ _ H _ I h => Calls.Constant_str ⟨.str x, H, I.tok _, ⟨_, rfl⟩, h⟩
noncomputable def Gl (X : Cx) (x : Str) : Prop := X.env.kindOf x = some .globalImplicit
theorem ld_glob {E : Value → Shared → Prop} {pins : List (Addr × Obj)} {s : Shared} {σ : St} {H : Hp} {x : Str} {u : Value} {pos : Pos} {Q : Value → Shared → Prop} (I : Inv X pins σ H s) (hg : Gl X x) (hm : X.mg x = some u) (h : Q u s)
    (hd : (x == ("__debug__" : Str)) = false := by decide) : wpAny (model X.prog X.w) X.A (eval (.Name x pos) X.env) Q E s :=
  Calls.Name_function_global I.ok.kind hg (Calls.loadGlobal_global (by rw [I.ok.glob]; exact I.mod.glob.keeps I.bk) hm h) hd
theorem ld_blt {E : Value → Shared → Prop} {pins : List (Addr × Obj)} {s : Shared} {σ : St} {H : Hp} {x : Str} {u : Value} {pos : Pos} {Q : Value → Shared → Prop} (I : Inv X pins σ H s) (hg : Gl X x) (hm : X.mg x = none) (hv : bootBuiltins x = some u) (h : Q u s)
    (hn : x ≠ "__name__" := by decide) (hd : (x == ("__debug__" : Str)) = false := by decide) : wpAny (model X.prog X.w) X.A (eval (.Name x pos) X.env) Q E s := by
  obtain ⟨mb, h1, h2⟩ := I.mod.blt
  exact Calls.Name_function_global I.ok.kind hg (Calls.loadGlobal_builtin (by rw [I.ok.glob]; exact I.mod.glob.keeps I.bk) hm (by rw [I.ok.blt]; exact h1.keeps I.bk) ((h2 x hn).trans hv) h) hd
theorem pe_glob {x : Str} {v : V} {u : Value} {pos : Pos} (hg : Gl X x) (hm : X.mg x = some u) (r : RelV v u) (hd : (x == ("__debug__" : Str)) = false := by decide) : PE X (.Name x pos) (tC v) :=
  fun _ _ _ H _ I h => ld_glob I hg hm ⟨v, H, I, r, h⟩ hd
theorem pe_bltn {x : Str} {v : V} {u : Value} {pos : Pos} (hg : Gl X x) (hm : X.mg x = none) (hv : bootBuiltins x = some u) (r : RelV v u) (hn : x ≠ "__name__" := by decide) (hd : (x == ("__debug__" : Str)) = false := by decide) : PE X (.Name x pos) (tC v) :=
  fun _ _ _ H _ I h => ld_blt I hg hm hv ⟨v, H, I, r, h⟩ hn hd
variable {a b : Expr} {ta tb : TE} {pos : Pos}
noncomputable def tB (t : TE) : TT := fun σ H Q => t σ H fun x H1 => ∃ c, x = .bl c ∧ Q c H1
theorem pt_val {e : Expr} {t : TE} (h : PE X e t) (he : ∀ whole, isTrue e X.env whole = (do let v ← whole; standAt e.pos; holding [v] (truthy v)) := by intro _; rfl) : PT X e (tB t) := by
  intro pins s σ H Q I hw
  refine isTrue_plain (thn (h pins s σ H _ I hw) fun v s1 ⟨x, H1, I1, r1, q1⟩ => ?_) (he _)
  obtain ⟨d, rfl, q⟩ := q1
  cases r1
  exact wpAny_truthy_bool ⟨H1, I1, q⟩
variable {tA tB' : TT} {rest : List Expr}
noncomputable def tAnd (t u : TT) : TT := fun σ H Q => t σ H fun c H1 => if c = true then u σ H1 Q else Q false H1
noncomputable def tOr (t u : TT) : TT := fun σ H Q => t σ H fun c H1 => if c = true then Q true H1 else u σ H1 Q
noncomputable def tNot (t : TT) : TT := fun σ H Q => t σ H fun c H1 => Q (!c) H1
theorem pw_and1 (ha : PT X a tA) : PW X (.BoolOp .And [a] pos) tA := by
  intro wh pins s σ H Q I h
  refine isTrue_and (thn (ha pins s σ H Q I h) fun c s1 e => ?_)
  cases c with
  | true => exact isTrue_and_nil e
  | false => exact e
theorem pw_or1 (ha : PT X a tA) : PW X (.BoolOp .Or [a] pos) tA := by
  intro wh pins s σ H Q I h
  refine isTrue_or (thn (ha pins s σ H Q I h) fun c s1 e => ?_)
  cases c with
  | false => exact isTrue_or_nil e
  | true => exact e
theorem pw_and (ha : PT X a tA) (hb : PW X (.BoolOp .And (b :: rest) pos) tB') : PW X (.BoolOp .And (a :: b :: rest) pos) (tAnd tA tB') := by
  intro wh pins s σ H Q I h
  refine isTrue_and (thn (ha pins s σ H _ I h) fun c s1 zz => ?_)
  obtain ⟨H1, I1, q1⟩ := zz
  cases c with
  | true => exact hb wh pins s1 σ H1 Q I1 q1
  | false => exact ⟨H1, I1, q1⟩
theorem pw_or (ha : PT X a tA) (hb : PW X (.BoolOp .Or (b :: rest) pos) tB') : PW X (.BoolOp .Or (a :: b :: rest) pos) (tOr tA tB') := by
  intro wh pins s σ H Q I h
  refine isTrue_or (thn (ha pins s σ H _ I h) fun c s1 zz => ?_)
  obtain ⟨H1, I1, q1⟩ := zz
  cases c with
  | true => exact ⟨H1, I1, q1⟩
  | false => exact hb wh pins s1 σ H1 Q I1 q1
theorem pt_not (ha : PT X a tA) : PT X (.UnaryOp .Not a pos) (tNot tA) := by
  intro pins s σ H Q I h
  exact isTrue_not (ha pins s σ H (fun c H1 => Q (!c) H1) I h)
end
end L2
namespace L2
open PySem PySem.Spec PyProof.Rows
noncomputable def SqL (K : PySem.W.Frag) (H : Hp) (a : Addr) (xs : List V) : Prop :=
  Rd H a (.lst xs) ∨
    ∃ (o : Obj) (its : Array Value) (n : Nat), K.lookup a = some o ∧ o.cls = .type "list" ∧ o.dict = none ∧ o.data = .seq its n ∧ its.size ≤ sizeLine ∧ Vals xs its.toList
noncomputable def SqT (K : PySem.W.Frag) (H : Hp) (a : Addr) (xs : List V) : Prop :=
  Rd H a (.tup xs) ∨
    ∃ (o : Obj) (its : Array Value) (n : Nat), K.lookup a = some o ∧ o.cls = .type "tuple" ∧ o.data = .seq its n ∧ its.size ≤ sizeLine ∧ Vals xs its.toList
noncomputable def absV : Value → Option V
  | .none => some .non
  | .bool b => some (.bl b)
  | .int i _ => some (.int i)
  | .str x _ => some (.str x)
  | .bytes b _ => some (.byt b)
  | .float b _ => some (.flt b)
  | .ref a => some (.ref a)
  | .type n => some (.ty n)
  | _ => none
theorem RelV.abs {x : V} {u : Value} (r : RelV x u) : absV u = some x := by
  cases x with
  | non => cases r; rfl
  | bl _ => cases r; rfl
  | int _ => obtain ⟨t, rfl⟩ := r; rfl
  | str _ => obtain ⟨t, rfl⟩ := r; rfl
  | byt _ => obtain ⟨t, rfl⟩ := r; rfl
  | flt _ => obtain ⟨t, rfl⟩ := r; rfl
  | ref _ => cases r; rfl
  | ty _ => cases r; rfl
theorem RelV.inj {x y : V} {u : Value} (r : RelV x u) (q : RelV y u) : x = y := Option.some.inj (r.abs.symm.trans q.abs)
theorem Vals.inj : ∀ {xs ys : List V} {us : List Value}, Vals xs us → Vals ys us → xs = ys
  | _, _, _, .nil, .nil => rfl
  | _, _, _, .cons r t, .cons r' t' => by rw [r.inj r', Vals.inj t t']
section
variable {X : Cx} {pins : List (Addr × Obj)} {σ : St} {H : Hp} {s : Shared} {a : Addr} {xs ys : List V}
theorem SqL.of {K : PySem.W.Frag} (h : H a = some (.lst xs)) : SqL K H a xs := .inl (.inl h)
theorem SqT.of {K : PySem.W.Frag} (h : H a = some (.tup xs)) : SqT K H a xs := .inl (.inl h)
theorem Inv.list (I : Inv X pins σ H s) (h : SqL X.K H a xs) : ∃ its : List Value, Vals xs its ∧ PlainL s.heap a its.toArray ∧ xs.length ≤ sizeLine := by
  rcases h with h | ⟨o, its, n, hk, hc, hd, hs, hz, r⟩
  · obtain ⟨z, its, n, r, e⟩ := h.ok I.hok
    exact ⟨its, r, ⟨_, n, e, rfl, rfl, rfl⟩, z⟩
  · refine ⟨its.toList, r, ⟨o, n, I.kIn a o hk, hc, hd, by simpa using hs⟩, ?_⟩
    have e := r.length
    simp only [Array.length_toList] at e
    omega
theorem Inv.tuple (I : Inv X pins σ H s) (h : SqT X.K H a xs) : ∃ its : List Value, Vals xs its ∧ IsTup s.heap a its.toArray ∧ xs.length ≤ sizeLine := by
  rcases h with h | ⟨o, its, n, hk, hc, hs, hz, r⟩
  · obtain ⟨z, its, r, p⟩ := h.ok I.hok
    exact ⟨its, r, p, z⟩
  · refine ⟨its.toList, r, ⟨o, I.kIn a o hk, hc, n, by simpa using hs⟩, ?_⟩
    have e := r.length
    simp only [Array.length_toList] at e
    omega
theorem Inv.list_inj (I : Inv X pins σ H s) (h : SqL X.K H a xs) (h' : SqL X.K H a ys) : xs = ys := by
  obtain ⟨its, r, ⟨o, n, e, _, _, d⟩, _⟩ := I.list h
  obtain ⟨its', r', ⟨o', n', e', _, _, d'⟩, _⟩ := I.list h'
  rw [e] at e'; cases e'
  rw [d] at d'
  injection d' with d1 _
  have : its = its' := by simpa using congrArg Array.toList d1
  subst this
  exact r.inj r'
end
noncomputable abbrev Cx.wish (X : Cx) (E : Value → Shared → Prop) : Cx := { X with xe := E }
noncomputable abbrev Cx.nox (X : Cx) : Cx := X.wish fun _ _ => False
theorem Cx.Ok.wish {X : Cx} (ok : X.Ok) (E : Value → Shared → Prop) : (X.wish E).Ok :=
  ⟨ok.mod, ok.kind, ok.glob, ok.blt, ok.above, ok.inj, ok.has, ok.cab, ok.hd, ok.frames, ok.stk, ok.exf, ok.bs, ok.bsz, ok.noex, ok.exfs, ok.funs, ok.frf⟩
theorem Cx.Ok.unwish {X : Cx} {E : Value → Shared → Prop} (ok : (X.wish E).Ok) : X.Ok :=
  ⟨ok.mod, ok.kind, ok.glob, ok.blt, ok.above, ok.inj, ok.has, ok.cab, ok.hd, ok.frames, ok.stk, ok.exf, ok.bs, ok.bsz, ok.noex, ok.exfs, ok.funs, ok.frf⟩
section
variable {X : Cx} {pins : List (Addr × Obj)} {σ : St} {H : Hp} {s : Shared} {E : Value → Shared → Prop}
theorem Inv.wish (I : Inv X pins σ H s) (E : Value → Shared → Prop) : Inv (X.wish E) pins σ H s := ⟨I.ok.wish E, I.os, I.bare, I.base, I.loc, I.cell, I.free, I.freeC, I.pin, I.hok, I.len⟩
theorem Inv.unwish (I : Inv (X.wish E) pins σ H s) : Inv X pins σ H s := ⟨I.ok.unwish, I.os, I.bare, I.base, I.loc, I.cell, I.free, I.freeC, I.pin, I.hok, I.len⟩
theorem SP.unwish {D : Ends} {f : Flow} {s' : Shared} (h : SP (X.wish E) pins D f s') : SP X pins D f s' := by
  cases f with
  | next => obtain ⟨σ', H', I, q⟩ := h; exact ⟨σ', H', I.unwish, q⟩
  | brk => obtain ⟨σ', H', I, q⟩ := h; exact ⟨σ', H', I.unwish, q⟩
  | cont => obtain ⟨σ', H', I, q⟩ := h; exact ⟨σ', H', I.unwish, q⟩
  | ret u => obtain ⟨v, σ', H', I, r, q⟩ := h; exact ⟨v, σ', H', I.unwish, r, q⟩
theorem PSs.nox {st : List Stmt} {t : TS} (h : PSs X.nox st t) : PSs X st t := fun pins s σ H D I hw =>
  wpAny_mono (h pins s σ H D (I.wish _) hw) (fun _ _ q => q.unwish) fun _ _ z => False.elim z
end
section
variable {X : Cx} {st : Stmt} {rest : List Stmt} {t u : TS} {e : Expr} {te : TE} {pos : Pos}
noncomputable def tNext : TS := fun D σ H => D.nx σ H
noncomputable def tSeq (t u : TS) : TS := fun D σ H => t { D with nx := u D } σ H
theorem pss_nil : PSs X [] tNext := fun _ _ σ H _ I h => wpAny_execs_nil ⟨σ, H, I, h⟩
theorem pss_cons (h1 : PS X st t) (h2 : PSs X rest u) : PSs X (st :: rest) (tSeq t u) := by
  intro pins s σ H D I h
  refine wpAny_execs_cons (thn (h1 pins s σ H { D with nx := u D } I h) fun f s1 q => ?_)
  cases f with
  | next =>
    obtain ⟨σ', H', I', q⟩ := q
    exact h2 pins s1 σ' H' D I' q
  | ret v => exact q
  | brk => exact q
  | cont => exact q
theorem pss_one (h1 : PS X st t) : PSs X [st] t := by
  intro pins s σ H D I h
  refine wpAny_execs_cons (thn (h1 pins s σ H D I h) fun f s1 q => ?_)
  cases f with
  | next => exact wpAny_execs_nil q
  | ret v => exact q
  | brk => exact q
  | cont => exact q
theorem Inv.quiet {pins : List (Addr × Obj)} {σ : St} {H : Hp} {s : Shared} (I : Inv X pins σ H s) : interactive X.env = false := by simp [interactive, I.ok.kind]
noncomputable def tDrop (te : TE) : TS := fun D σ H => te σ H fun _ H1 => D.nx σ H1
theorem ps_expr (he : PE X e te) (hs : swapsWith e none pos.line X.env = pure false := by rfl) : PS X (.Expr e pos) (tDrop te) := by
  intro pins s σ H D I h
  exact wpAny_Expr_any (thn (he pins s σ H _ I h) fun v s1 ⟨x, H1, I1, r1, q1⟩ => ⟨σ, H1, I1, q1⟩) I.quiet hs
noncomputable def tRet (te : TE) : TS := fun D σ H => te σ H D.rt
theorem ps_ret (he : PE X e te) : PS X (.Return (some e) pos) (tRet te) := by
  intro pins s σ H D I h
  exact wpAny_Return_some (thn (he pins s σ H _ I h) fun v s1 ⟨x, H1, I1, r1, q1⟩ => ⟨x, σ, H1, I1, r1, q1⟩)
noncomputable def tIfS (c : TT) (t u : TS) : TS := fun D σ H => c σ H fun b H1 => if b = true then t D σ H1 else u D σ H1
theorem ps_if {c : Expr} {a b : List Stmt} {tc : TT} (hc : PT X c tc) (ha : PSs X a t) (hb : PSs X b u) : PS X (.If c a b pos) (tIfS tc t u) := by
  intro pins s σ H D I h
  refine wpAny_If (thn (hc pins s σ H _ I h) fun d s1 zz => ?_)
  obtain ⟨H1, I1, q1⟩ := zz
  cases d with
  | true => exact ha pins s1 σ H1 D I1 q1
  | false => exact hb pins s1 σ H1 D I1 q1
noncomputable def tNever : TS := fun _ _ _ => False
theorem ps_never : PS X st tNever := fun _ _ _ _ _ _ h => h.elim
theorem pss_never {sts : List Stmt} : PSs X sts tNever := fun _ _ _ _ _ _ h => h.elim
end
noncomputable abbrev TG := V → St → Hp → (St → Hp → Prop) → Prop
noncomputable abbrev TGs := List V → St → Hp → (St → Hp → Prop) → Prop
noncomputable def PG (X : Cx) (target : Expr) (t : TG) : Prop :=
  ∀ (pins : List (Addr × Obj)) (s : Shared) (σ : St) (H : Hp) (v : V) (u : Value) (Q : St → Hp → Prop), Inv X pins σ H s → RelV v u → t v σ H Q →
    wpAny (model X.prog X.w) X.A (assign target X.env u) (fun _ s' => ∃ σ' H', Inv X pins σ' H' s' ∧ Q σ' H') X.xe s
noncomputable def PGs (X : Cx) (ts : List Expr) (t : TGs) : Prop :=
  ∀ (pins : List (Addr × Obj)) (s : Shared) (σ : St) (H : Hp) (vs : List V) (us : List Value) (Q : St → Hp → Prop), Inv X pins σ H s → Vals vs us → t vs σ H Q →
    wpAny (model X.prog X.w) X.A (assignInOrder ((assignEach ts X.env).map (·.2)) us) (fun _ s' => ∃ σ' H', Inv X pins σ' H' s' ∧ Q σ' H') X.xe s
noncomputable abbrev TSet := V → V → V → Hp → (Hp → Prop) → Prop
noncomputable def PSet (X : Cx) (t : TSet) : Prop :=
  ∀ (pins : List (Addr × Obj)) (s : Shared) (σ : St) (H : Hp) (o i v : V) (ov iv u : Value) (Q : Hp → Prop), Inv X pins σ H s → RelV o ov → RelV i iv → RelV v u → t o i v H Q →
    wpAny (model X.prog X.w) X.A (setItem ov iv u) (fun _ s' => ∃ H', Inv X pins σ H' s' ∧ Q H') X.xe s
noncomputable abbrev TIp := V → V → Hp → VK → Prop
noncomputable def PIp (X : Cx) (op : Operator) (t : TIp) : Prop :=
  ∀ (pins : List (Addr × Obj)) (s : Shared) (σ : St) (H : Hp) (x y : V) (v u : Value) (Q : VK), Inv X pins σ H s → RelV x v → RelV y u → t x y H Q →
    wpAny (model X.prog X.w) X.A (inplaceOp op v u) (EP X pins σ Q) X.xe s
section
variable {X : Cx} {pos : Pos}
noncomputable def gName (i : Nat) : TG := fun v σ H Q => Q (σ.set i (some v)) H
theorem pg_name {i : Nat} {x : Str} (hN : X.N.Nodup) (hi : X.N[i]? = some x) (hx : Loc X.env.scope x) (hf : X.fn x = true ∨ X.env.scope.names.lookup x = some .local := by first | exact .inl rfl | exact .inr rfl | assumption) : PG X (.Name x pos) (gName i) := by
  intro pins s σ H v u Q I r h
  exact wpAny_assign_Name (store_ok I hN hi hx r (fun s' I' => ⟨_, H, I', h⟩) hf)
noncomputable def gNil : TGs := fun vs σ H Q => vs = [] ∧ Q σ H
noncomputable def gCons (t : TG) (u : TGs) : TGs := fun vs σ H Q => ∃ v r, vs = v :: r ∧ t v σ H fun σ' H' => u r σ' H' Q
theorem pgs_nil : PGs X [] gNil := by
  intro pins s σ H vs us Q I r h
  obtain ⟨e, h⟩ := h
  subst e
  cases r
  exact assignInOrder_nil ⟨σ, H, I, h⟩
theorem pgs_cons {e : Expr} {es : List Expr} {t : TG} {u : TGs} (h1 : PG X e t) (h2 : PGs X es u)
    (hs : (assignEach (e :: es) X.env).map (·.2) = assign e X.env :: (assignEach es X.env).map (·.2) := by rfl) : PGs X (e :: es) (gCons t u) := by
  intro pins s σ H vs us Q I r h
  obtain ⟨v, vr, e1, h⟩ := h
  subst e1
  cases r with
  | cons r rr =>
    rw [hs]
    refine assignInOrder_cons (thn (h1 pins s σ H _ _ _ I r h) fun _ s1 zz => ?_)
    obtain ⟨σ1, H1, I1, q1⟩ := zz
    exact h2 pins s1 σ1 H1 _ _ Q I1 rr q1
noncomputable def gTup (K : PySem.W.Frag) (n : Nat) (t : TGs) : TG := fun v σ H Q => ∃ a xs, v = .ref a ∧ SqT K H a xs ∧ xs.length = n ∧ t xs σ H Q
theorem pg_tup {es : List Expr} {k : Nat} {t : TGs} {n : Nat} (hc : X.calm = true) (h : PGs X es t)
    (hn : (assignEach es X.env).length = n := by rfl) (hst : (assignEach es X.env).findIdx? (·.1) = none := by rfl) : PG X (.Tuple es k pos) (gTup X.K n t) := by
  intro pins s σ H v u Q I r hw
  obtain ⟨a, xs, e1, hq, hl, hw⟩ := hw
  subst e1
  cases r
  obtain ⟨its, rv, ht, hz⟩ := I.tuple hq
  refine assign_Tuple_tuple (I.ok.hd hc) ht (by simp [hn, ← hl, rv.length]) hst fun h' hx => ?_
  have I1 : Inv X pins σ H { s with heap := h' } := I.kept (t' := s.toks) fun b o e => hx b o (Nat.ne_of_lt (Heap.lt_size e)) e
  exact h pins _ σ H xs _ Q I1 (by simpa using rv) hw
noncomputable def gSub (to ti : TE) (t : TSet) : TG := fun v σ H Q => to σ H fun o H1 => ti σ H1 fun i H2 => t o i v H2 fun H3 => Q σ H3
theorem pg_sub {o i : Expr} {to ti : TE} {t : TSet} (ho : PE X o to) (hi : PE X i ti) (hs : PSet X t)
    (ha : ∀ v, assign (.Subscript o i pos) X.env v = (do
      let ov ← holding [v] (eval o X.env)
      let iv ← holding [v, ov] (eval i X.env)
      standAt pos
      holding [v, ov, iv] (setItem ov iv v)
      release [v, ov, iv] []) := by intro _; rfl) : PG X (.Subscript o i pos) (gSub to ti t) := by
  intro pins s σ H v u Q I r h
  rw [ha]
  refine wpAny_bind (wpAny_holding (thn (ho pins s σ H _ I h) fun ov s1 zz => ?_))
  obtain ⟨x, H1, I1, r1, q1⟩ := zz
  refine wpAny_bind (wpAny_holding (thn (hi pins s1 σ H1 _ I1 q1) fun iv s2 zz => ?_))
  obtain ⟨y, H2, I2, r2, q2⟩ := zz
  refine wpAny_bind (wpAny_standAt (wpAny_bind (wpAny_holding (thn (hs pins s2 σ H2 x y v ov iv u _ I2 r1 r2 r q2) fun _ s3 zz => ?_))))
  obtain ⟨H3, I3, q3⟩ := zz
  exact wpAny_release ⟨σ, H3, I3, q3⟩
noncomputable def tAsg (te : TE) (g : TG) : TS := fun D σ H => te σ H fun x H1 => g x σ H1 D.nx
theorem ps_asg {tg e : Expr} {te : TE} {g : TG} (he : PE X e te) (hg : PG X tg g) (hs : swapsWithSole [tg] e pos.line X.env = pure false := by rfl) (hw : swappedStores [tg] e X.env = pure none := by rfl)
    (h1 : (assignEach [tg] X.env).map (·.2) = [assign tg X.env] := by rfl) : PS X (.Assign [tg] e pos) (tAsg te g) := by
  intro pins s σ H D I h
  refine wpAny_Assign_stores (thn (he pins s σ H _ I h) fun v s1 ⟨x, H1, I1, r1, q1⟩ => ?_) hs hw
  rw [h1]
  exact thn (hg pins s1 σ H1 x v _ I1 r1 q1) fun _ s2 q => q
theorem ps_set {i : Nat} {x : Str} {e : Expr} {te : TE} {pos' : Pos} (hN : X.N.Nodup) (hi : X.N[i]? = some x) (hx : Loc X.env.scope x) (he : PE X e te) (hs : swapsWith e (some (.Name x pos')) pos.line X.env = pure false := by rfl) (hf : X.fn x = true ∨ X.env.scope.names.lookup x = some .local := by first | exact .inl rfl | exact .inr rfl | assumption) :
    PS X (.Assign [.Name x pos'] e pos) (tAsg te (gName i)) := by
  intro pins s σ H D I h
  refine wpAny_Assign_Name (thn (he pins s σ H _ I h) fun v s1 ⟨y, H1, I1, r1, q1⟩ => ?_) hs
  exact store_ok I1 hN hi hx r1 (fun s2 I2 => ⟨_, H1, I2, q1⟩) hf
noncomputable def tPar (i j : Nat) (ta : TA) : TS := fun D σ H => ta σ H fun vs H1 => ∃ v w, vs = [v, w] ∧ D.nx ((σ.set i (some v)).set j (some w)) H1
theorem ps_par {i j : Nat} {x y : Str} {a b : Expr} {ta : TA} {px py pt : Pos} {kt k2 pt2} (hc : X.calm = true) (hN : X.N.Nodup) (hi : X.N[i]? = some x) (hj : X.N[j]? = some y) (hij : i ≠ j)
    (hx : X.env.scope.names.lookup x = some .local) (hy : X.env.scope.names.lookup y = some .local) (ha : PA X [a, b] ta)
    (hw : swappedStores [.Tuple [.Name x px, .Name y py] kt pt] (.Tuple [a, b] k2 pt2) X.env = pure (some [x, y]))
    (hs : swapsWithSole [.Tuple [.Name x px, .Name y py] kt pt] (.Tuple [a, b] k2 pt2) pos.line X.env = pure false := by rfl) :
    PS X (.Assign [.Tuple [.Name x px, .Name y py] kt pt] (.Tuple [a, b] k2 pt2) pos) (tPar i j ta) := by
  intro pins s σ H D I h
  rw [exec_Assign_arm]
  refine wpAny_bind (wpAny_standAt ?_)
  rw [hs]
  refine wpAny_bind (wpAny_pure ?_)
  rw [if_neg (by decide)]
  refine wpAny_bind (Tuple_ (thn (ha _ pins s σ H _ I h) fun us s1 zz => ?_))
  obtain ⟨vs, H1, I1, r1, q1⟩ := zz
  obtain ⟨v, w, e1, q1⟩ := q1
  subst e1
  obtain ⟨u1, u2, rfl, rv, rw'⟩ : ∃ u1 u2, us = [u1, u2] ∧ RelV v u1 ∧ RelV w u2 := by
    cases r1 with
    | cons p q =>
      cases q with
      | cons p' q' =>
        cases q'
        exact ⟨_, _, rfl, p, p'⟩
  refine wpAny_newObj_type ?_ (by show 2 ≤ sizeLine; decide)
  have I2 : Inv X pins σ H1 { s1 with heap := s1.heap.push { cls := .type "tuple", data := .seq [u1, u2].toArray } } := I1.kept (t' := s1.toks) fun b o e => Heap.get?_push_of_some _ e
  rw [hw]
  refine wpAny_bind (wpAny_pure ?_)
  show wpAny (model X.prog X.w) X.A (do rule "assign.swapped-stores"; let items ← unpackItems (.ref s1.heap.objs.size) 2 none; assignInOrder [fun v => bindName X.env y v, fun v => bindName X.env x v] items.reverse; pure Flow.next) _ _ _
  refine wpAny_bind (wpAny_rule (wpAny_bind (unpackItems_tuple (items := #[u1, u2]) (I.ok.hd hc) (IsTup.new s1.heap _) fun h' hx' => ?_)))
  have I3 := I2.kept (h' := h') (t' := s1.toks) fun b o e => hx' b o (Nat.ne_of_lt (Heap.lt_size e)) e
  show wpAny _ _ (assignInOrder [fun v => bindName X.env y v, fun v => bindName X.env x v] [u2, u1] >>= fun _ => pure Flow.next) _ _ _
  refine wpAny_bind (assignInOrder_cons (wpAny_bindName (store_ok I3 hN hj (.inl hy) rw' (fun s2 I4 => ?_) (.inr hy))))
  refine assignInOrder_cons (wpAny_bindName (store_ok I4 hN hi (.inl hx) rv (fun s3 I5 => assignInOrder_nil (wpAny_pure ?_)) (.inr hx)))
  rw [List.set_comm _ _ (Ne.symm hij)] at I5
  exact ⟨_, H1, I5, q1⟩
noncomputable def tAug (i : Nat) (te : TE) (ti : TIp) : TS := fun D σ H => ∃ x, σ[i]? = some (some x) ∧ te σ H fun y H1 => ti x y H1 fun z H2 => D.nx (σ.set i (some z)) H2
theorem ps_aug {i : Nat} {x : Str} {e : Expr} {te : TE} {op : Operator} {ti : TIp} {pos' : Pos} (hN : X.N.Nodup) (hi : X.N[i]? = some x) (hx : Loc X.env.scope x) (he : PE X e te) (ho : PIp X op ti) (hf : X.fn x = true ∨ X.env.scope.names.lookup x = some .local := by first | exact .inl rfl | exact .inr rfl | assumption) :
    PS X (.AugAssign (.Name x pos') op e pos) (tAug i te ti) := by
  intro pins s σ H D I h
  obtain ⟨v, e1, h⟩ := h
  obtain ⟨m, hn, hl⟩ := I.loc
  have vis : Vis X.env.scope x := by rcases hx with k | k; exact .inl k; exact .inr (.inl k)
  obtain ⟨u, r, l⟩ := hl i x v hi e1 vis
  refine wpAny_AugAssign_Name ?_
  have go : wpAny (model X.prog X.w) X.A (eval e X.env) (fun w s₂ => wpAny (model X.prog X.w) X.A (inplaceOp op u w) (fun r s₃ => wpAny (model X.prog X.w) X.A (storeName X.env x r) (fun _ => SP X pins D .next) X.xe s₃) X.xe s₂) X.xe s := by
    refine thn (he pins s σ H _ I h) fun w s1 zz => ?_
    obtain ⟨y, H1, I1, r1, q1⟩ := zz
    refine thn (ho pins s1 σ H1 v y u w _ I1 r r1 q1) fun z s2 zz => ?_
    obtain ⟨zv, H2, I2, r2, q2⟩ := zz
    exact store_ok I2 hN hi hx r2 (fun s3 I3 => ⟨_, H2, I3, q2⟩) hf
  rcases l with ⟨hk, hm⟩ | ⟨hk, c, hc, hcell⟩
  · exact wpAny_loadName_local I.ok.kind hk hn hm go
  · rcases hk with hk | hk
    · exact wpAny_loadName_cell I.ok.kind hk hc hcell go
    · rcases hx with k | k
      · have : X.env.scope.names.lookup x = some .free := hk
        rw [k] at this; cases this
      · have : X.env.scope.names.lookup x = some .free := hk
        rw [k] at this; cases this
noncomputable def ipI (f : Int → Int → Int) : TIp := fun x y H Q => ∃ i j, x = .int i ∧ y = .int j ∧ Q (.int (f i j)) H
theorem ip_add : PIp X .Add (ipI fun i j => i + j) := by
  intro pins s σ H x y v u Q I r1 r2 h
  obtain ⟨i, j, e1, e2, q⟩ := h
  subst e1; subst e2
  obtain ⟨t, rfl⟩ := r1
  obtain ⟨t', rfl⟩ := r2
  exact iadd_int ⟨.int _, H, I.tok _, ⟨_, rfl⟩, q⟩
end
section
variable {X : Cx} {pos : Pos}
noncomputable def tWhile (c : TT) (tb : TS) : TS := fun D σ H => ∃ W : Nat → St → Hp → Prop, (∃ m, W m σ H) ∧ ∀ m σ H, W m σ H →
  c σ H fun b H1 => if b = true then ∃ N : St → Hp → Prop, (∀ σ' H', N σ' H' → ∃ m', m' < m ∧ W m' σ' H') ∧ tb { D with nx := N, ct := N, bk := D.nx } σ H1 else D.nx σ H1
theorem ps_while {c : Expr} {body : List Stmt} {tc : TT} {tb : TS} (hp : PassesOwn (model X.prog X.w) X.A X.env X.xe) (hc : PT X c tc) (hb : PSs X body tb) : PS X (.While c body [] pos) (tWhile tc tb) := by
  intro pins s σ H D I h
  obtain ⟨W, ⟨m0, w0⟩, turn⟩ := h
  refine wpAny_While (codeAny_whileLoop (fun n s' => ∃ σ' H', Inv X pins σ' H' s' ∧ W n σ' H') ?_ m0 ⟨σ, H, I, w0⟩)
  rintro n s1 ⟨σ1, H1, I1, w1⟩
  refine wpAny_passesOwn hp (thn (hc pins s1 σ1 H1 _ I1 (turn n σ1 H1 w1)) fun b s2 zz => ?_)
  obtain ⟨H2, I2, q2⟩ := zz
  cases b with
  | true =>
    obtain ⟨N, hN, q2⟩ := q2
    rw [if_pos rfl]
    refine wpAny_passesOwn hp (thn (hb pins s2 σ1 H2 _ I2 q2) fun f s3 q3 => ?_)
    cases f with
    | next =>
      obtain ⟨σ3, H3, I3, n3⟩ := q3
      obtain ⟨m', hm, w3⟩ := hN σ3 H3 n3
      exact ⟨m', hm, σ3, H3, I3, w3⟩
    | cont =>
      obtain ⟨σ3, H3, I3, n3⟩ := q3
      obtain ⟨m', hm, w3⟩ := hN σ3 H3 n3
      exact ⟨m', hm, σ3, H3, I3, w3⟩
    | brk => exact q3
    | ret v => exact q3
  | false =>
    rw [if_neg Bool.false_ne_true]
    exact wpAny_execs_nil ⟨σ1, H2, I2, q2⟩
end
structure It where
  go : Nat → Hp → Prop
  yld : Nat → Hp → V → Hp → Prop
  stop : Nat → Hp → Prop
noncomputable def FpOk (X : Cx) (pins : List (Addr × Obj)) (H : Hp) (b : Addr) : Prop :=
  H b = none ∧ b ≠ X.env.locals ∧ b ∉ X.fs ∧ (b ∈ X.ex ∨ X.s₀.heap.objs.size ≤ b) ∧ (∀ x c, X.env.cells.lookup x = some c → c ≠ b) ∧ ∀ p ∈ X.pn ++ pins, p.1 ≠ b
theorem Inv.fpOk {X : Cx} {pins : List (Addr × Obj)} {σ : St} {H H' : Hp} {s : Shared} {b : Addr} (I : Inv X pins σ H s) (hb : s.heap.objs.size ≤ b) (hn : H' b = none) : FpOk X pins H' b := by
  refine ⟨hn, Nat.ne_of_gt (Nat.lt_of_lt_of_le I.lt hb), I.nofs hb, .inr (Nat.le_trans I.sz hb), fun x c e z => ?_, fun p hp z => ?_⟩
  · obtain ⟨v, q⟩ := I.cell x c e
    exact absurd (Nat.lt_of_lt_of_le q.lt (by rw [z]; exact hb)) (Nat.lt_irrefl _)
  · exact absurd (Nat.lt_of_lt_of_le (Heap.lt_size (I.pin p hp).1) (by rw [z]; exact hb)) (Nat.lt_irrefl _)
structure Turn (P : Program) (w : World) (K : PySem.W.Frag) (tg : Expr) (J : It) (fp : List Addr) (it : Addr) (tn : Nat → Heap → Prop) : Prop where
  mem : it ∈ fp
  obj : ∀ i h, tn i h → ∀ b ∈ fp, ∃ o, h.get? b = some o ∧ ∀ v, o.data ≠ .cell v
  keep : ∀ i h h', tn i h → (∀ b ∈ fp, ∀ o, h.get? b = some o → h'.get? b = some o) → tn i h'
  item : ∀ (X : Cx), X.prog = P → X.w = w → X.K = K → X.calm = true → ∀ (i : Nat) (pins : List (Addr × Obj)) (s : Shared) (σ : St) (H : Hp) (E : Value → Shared → Prop), Inv X pins σ H s → (∀ b ∈ fp, FpOk X pins H b) → tn i s.heap → J.go i H →
    wpAny (model P w) X.A (pyNext (.ref it)) (fun r s1 => ∃ u, r = some u ∧
      wpAny (model P w) X.A (letOwnedTupleGo tg (.ref it) u) (fun _ s2 => ∃ x H', Inv X pins σ H' s2 ∧ RelV x u ∧ J.yld i H x H' ∧ tn (i + 1) s2.heap ∧ ∀ b ∈ fp, H' b = none) E s1) E s
  done : ∀ (X : Cx), X.prog = P → X.w = w → X.K = K → X.calm = true → ∀ (i : Nat) (pins : List (Addr × Obj)) (s : Shared) (σ : St) (H : Hp) (E : Value → Shared → Prop), Inv X pins σ H s → (∀ b ∈ fp, FpOk X pins H b) → tn i s.heap → J.stop i H →
    wpAny (model P w) X.A (pyNext (.ref it)) (fun r s1 => r = none ∧ Inv X pins σ H s1) E s
  self : ∀ (A : Around) (i : Nat) (s : Shared) (Q : Value → Shared → Prop) (E : Value → Shared → Prop), tn i s.heap → Q (.ref it) s → wpAny (model P w) A (pyIter (.ref it)) Q E s
noncomputable abbrev TI := St → Hp → (It → Hp → Prop) → Prop
noncomputable def PIE (X : Cx) (pins : List (Addr × Obj)) (σ : St) (tg : Expr) (R : It → Hp → Prop) (itv : Value) (s2 : Shared) : Prop :=
  ∃ (it : Addr) (fp : List Addr) (tn : Nat → Heap → Prop) (J : It) (H' : Hp), itv = .ref it ∧ Inv X pins σ H' s2 ∧ Turn X.prog X.w X.K tg J fp it tn ∧ tn 0 s2.heap ∧ (∀ b ∈ fp, FpOk X pins H' b) ∧ R J H'
noncomputable def PI (X : Cx) (tg iter : Expr) (wi : TI) : Prop :=
  ∀ (pins : List (Addr × Obj)) (s : Shared) (σ : St) (H : Hp) (R : It → Hp → Prop), Inv X pins σ H s → wi σ H R →
    wpAny (model X.prog X.w) X.A (eval iter X.env) (fun v s1 => wpAny (model X.prog X.w) X.A (pyIter v) (PIE X pins σ tg R) X.xe s1) X.xe s
theorem go_of {M : Model} {A : Around} {E : Value → Shared → Prop} {s : Shared} {tg : Expr} {it : Addr} {u : Value} {o : Obj} {n : String} {vs : Array Value} {Q : Unit → Shared → Prop} (ho : s.heap.get? it = some o) (hc : o.cls = .type n) (hd : o.data = .fields vs)
    (hn : ["enumerate", "zip", "dict_itemiterator", "dict_reverseitemiterator", "odict_iterator", "itertools.zip_longest", "itertools.pairwise"].contains n = false) (hQ : Q () s) : wpAny M A (letOwnedTupleGo tg (.ref it) u) Q E s := by
  unfold letOwnedTupleGo
  cases tg <;> first
    | exact wpAny_pure hQ
    | (cases u <;> first
        | exact wpAny_pure hQ
        | (refine wpAny_bind (wpAny_load ho ?_)
           rw [hc, hd]
           show wpAny M A (if (["enumerate", "zip", "dict_itemiterator", "dict_reverseitemiterator", "odict_iterator", "itertools.zip_longest", "itertools.pairwise"].contains n && vs[0]? == some (rawInt _)) = true then _ else _) Q E s
           rw [if_neg (by intro h; rw [hn, Bool.false_and] at h; cases h)]
           exact wpAny_pure hQ))
noncomputable def Itl (K : PySem.W.Frag) (a : Addr) : It :=
  ⟨fun i H => ∃ xs x, SqL K H a xs ∧ xs[i]? = some x, fun i H x H' => H' = H ∧ ∀ xs, SqL K H a xs → xs[i]? = some x, fun i H => ∃ xs, SqL K H a xs ∧ xs.length ≤ i⟩
noncomputable def Itr (lo : Int) (n : Nat) : It := ⟨fun i _ => i < n, fun i H x H' => H' = H ∧ x = .int (lo + i), fun i _ => n ≤ i⟩
theorem turn_list {P : Program} {w : World} {K : PySem.W.Frag} {tg : Expr} (a it : Addr) : Turn P w K tg (Itl K a) [it] it (fun i h => h.IsListIter it a i) where
  mem := by simp
  obj := fun i h st b hb => by
    have e : b = it := by simpa using hb
    subst e
    obtain ⟨o, e, c, d⟩ := st
    exact ⟨o, e, fun v z => by rw [d] at z; cases z⟩
  keep := fun i h h' st k => st.at fun o e => k it (by simp) o e
  item := by
    intro X hP hw hK hc i pins s σ H E I hf st hg
    subst hP hw hK
    obtain ⟨xs, x, hq, hx⟩ := hg
    obtain ⟨its, rv, p, hz⟩ := I.list hq
    obtain ⟨u, hu, ru⟩ := rv.get hx
    obtain ⟨f0, f1, f2, f3, f4, f5⟩ := hf it (by simp)
    refine wpAny_pyNext_list_item st p.isList (x := u) (by simpa using hu) fun h' st' sb => ?_
    have I1 : Inv X pins σ H { s with heap := h' } := I.turned (t' := s.toks) (fun b o hb e => (sb.2 b hb).trans e) f0 f1 f3 f4 f5
    obtain ⟨o, e, c, d⟩ := id st'
    exact ⟨u, rfl, go_of (s := { s with heap := h' }) e c d (by decide) ⟨x, H, I1, ru, ⟨rfl, fun ys hy => by rw [I.list_inj hy hq]; exact hx⟩, st', fun b hb => (hf b hb).1⟩⟩
  done := by
    intro X hP hw hK hc i pins s σ H E I hf st hg
    subst hP hw hK
    obtain ⟨xs, hq, hx⟩ := hg
    obtain ⟨its, rv, p, hz⟩ := I.list hq
    obtain ⟨f0, f1, f2, f3, f4, f5⟩ := hf it (by simp)
    have hl := rv.length
    exact wpAny_pyNext_list_end (I.ok.hd hc) st p.isList (by simp; omega) fun h' eb => ⟨rfl, I.turned (t' := s.toks) (fun b o hb e => eb b o hb e) f0 f1 f3 f4 f5⟩
  self := fun _ _ _ _ _ st h => wpAny_pyIter_listiter st h
theorem turn_range {P : Program} {w : World} {K : PySem.W.Frag} {tg : Expr} (it : Addr) (lo : Int) (n : Nat) : Turn P w K tg (Itr lo n) [it] it (fun i h => IsRangeIter h it (lo + (i : Nat) * 1) ((n : Int) - (i : Nat)) 1) where
  mem := by simp
  obj := fun i h st b hb => by
    have e : b = it := by simpa using hb
    subst e
    exact ⟨_, st, fun v z => by
      have z' : Data.fields _ = Data.cell v := z
      cases z'⟩
  keep := fun i h h' st k => k it (by simp) _ st
  item := by
    intro X hP hw hK hc i pins s σ H E I hf st hg
    subst hP hw hK
    obtain ⟨f0, f1, f2, f3, f4, f5⟩ := hf it (by simp)
    have W := Walks.range (prog := X.prog) (w := X.w) (I.ok.hd hc) it lo 1 n
    refine W.item i s _ _ hg st fun v h' tk hv st' kk => ?_
    obtain ⟨t, rfl⟩ := hv
    have I1 : Inv X pins σ H { s with heap := h', toks := tk } := I.turned (fun b o hb e => kk b o (by simpa using hb) e) f0 f1 f3 f4 f5
    refine ⟨_, rfl, go_of (s := { s with heap := h', toks := tk }) (n := "range_iterator") st' rfl rfl (by decide) ⟨.int (lo + i), H, I1, ⟨t, ?_⟩, ⟨rfl, rfl⟩, st', fun b hb => (hf b hb).1⟩⟩
    rw [Int.mul_one]
  done := by
    intro X hP hw hK hc i pins s σ H E I hf st hg
    subst hP hw hK
    obtain ⟨f0, f1, f2, f3, f4, f5⟩ := hf it (by simp)
    exact wpAny_pyNext_range_end (I.ok.hd hc) st (by have : n ≤ i := hg; omega) fun h' eb => ⟨rfl, I.turned (t' := s.toks) (fun b o hb e => eb b o hb e) f0 f1 f3 f4 f5⟩
  self := fun _ _ _ _ _ st h => wpAny_pyIter_rangeiter st h
end L2
namespace L2
open PySem PySem.Spec PyProof.Rows
section
variable {X : Cx} {tg : Expr}
noncomputable def iList (K : PySem.W.Frag) (tl : TE) : TI := fun σ H R => tl σ H fun x H1 => ∃ a, x = .ref a ∧ (∃ xs, SqL K H1 a xs) ∧ R (Itl K a) H1
theorem pi_list {l : Expr} {tl : TE} (hl : PE X l tl) : PI X tg l (iList X.K tl) := by
  intro pins s σ H R I h
  refine thn (hl pins s σ H _ I h) fun v s1 zz => ?_
  obtain ⟨x, H1, I1, r1, q1⟩ := zz
  obtain ⟨a, e, ⟨xs, hq⟩, q⟩ := q1
  subst e
  cases r1
  obtain ⟨its, rv, p, hz⟩ := I1.list hq
  refine wpAny_pyIter_list p.isList ?_
  refine ⟨s1.heap.objs.size, [s1.heap.objs.size], _, _, H1, rfl, I1.kept (t' := s1.toks) fun b o e => Heap.get?_push_of_some _ e, turn_list a _, ⟨_, Heap.get?_push_size _ rfl, rfl, rfl⟩, fun b hb => ?_, q⟩
  have e : b = s1.heap.objs.size := by simpa using hb
  subst e
  exact I1.fpOk (Nat.le_refl _) (I1.hok.fresh (Nat.le_refl _))
theorem range_it {pins : List (Addr × Obj)} {σ : St} {H : Hp} {s : Shared} {R : It → Hp → Prop} {E : Value → Shared → Prop} {lo hi : Int} {t u v : Tok} {tk : Nat} (I : Inv X pins σ H s) (h1 : -(2 ^ 62) ≤ lo) (h2 : lo < 2 ^ 62) (h3 : -(2 ^ 62) ≤ hi) (h4 : hi < 2 ^ 62)
    (q : R (Itr lo (hi - lo).toNat) H) : wpAny (model X.prog X.w) X.A (pyIter (.ref s.heap.objs.size)) (PIE X pins σ tg R) E { s with heap := s.heap.push { cls := .type "range", data := .fields #[.int lo t, .int hi u, .int 1 v] }, toks := tk } := by
  refine wpAny_pyIter_range (IsRange.new ..) (small_one h1 h2 h3 h4) ?_
  have I1 : Inv X pins σ H { s with heap := s.heap.push { cls := .type "range", data := .fields #[.int lo t, .int hi u, .int 1 v] }, toks := tk } := I.kept fun b o e => Heap.get?_push_of_some _ e
  refine ⟨(s.heap.push { cls := .type "range", data := .fields #[.int lo t, .int hi u, .int 1 v] }).objs.size, [(s.heap.push { cls := .type "range", data := .fields #[.int lo t, .int hi u, .int 1 v] }).objs.size], _, _, H, rfl,
    I1.kept (t' := tk) fun b o e => Heap.get?_push_of_some _ e, turn_range _ lo (hi - lo).toNat, ?_, fun b hb => ?_, q⟩
  · have e1 : lo + ((0 : Nat) : Int) * 1 = lo := by simp
    have e2 : (((hi - lo).toNat : Nat) : Int) - ((0 : Nat) : Int) = Builtin.Range.rangeSize lo hi 1 := by rw [rangeSize_one]; split <;> omega
    show IsRangeIter _ _ (lo + ((0 : Nat) : Int) * 1) ((((hi - lo).toNat : Nat) : Int) - ((0 : Nat) : Int)) 1
    rw [e1, e2]
    exact Heap.get?_push_size _ rfl
  · have e : b = (s.heap.push { cls := .type "range", data := .fields #[.int lo t, .int hi u, .int 1 v] }).objs.size := by simpa using hb
    subst e
    exact I1.fpOk (Nat.le_refl _) (I1.hok.fresh (Nat.le_refl _))
noncomputable def iRng1 (ta : TA) : TI := fun σ H R => ta σ H fun vs H1 => ∃ j : Int, vs = [.int j] ∧ -(2 ^ 62) ≤ j ∧ j < 2 ^ 62 ∧ R (Itr 0 j.toNat) H1
noncomputable def iRng2 (ta : TA) : TI := fun σ H R => ta σ H fun vs H1 => ∃ i j : Int, vs = [.int i, .int j] ∧ (-(2 ^ 62) ≤ i ∧ i < 2 ^ 62 ∧ -(2 ^ 62) ≤ j ∧ j < 2 ^ 62) ∧ R (Itr i (j - i).toNat) H1
theorem pi_range1 {a : Expr} {ta : TA} {p pos : Pos} (hg : Gl X "range") (hm : X.mg "range" = none) (ha : PA X [a] ta) (hs : starEach [a] X.env = [(false, eval a X.env)] := by rfl) : PI X tg (.Call (.Name "range" p) [a] [] pos) (iRng1 ta) := by
  intro pins s σ H R I h
  refine Call_ (ld_blt I hg hm boot_range (PyProof.Rows.callWith_type1 (thn (ha pos pins s σ H _ I h) fun us s1 ⟨vs, H1, I1, r1, q1⟩ => ?_) hs rfl))
  obtain ⟨j, e, q1, q2, q⟩ := q1
  subst e
  cases r1 with
  | cons r rr =>
    cases rr
    obtain ⟨t, rfl⟩ := r
    exact call_range_1 (range_it I1 (by omega) (by omega) q1 q2 (by simpa using q))
theorem pi_range2 {a b : Expr} {ta : TA} {p pos : Pos} (hg : Gl X "range") (hm : X.mg "range" = none) (ha : PA X [a, b] ta) (hs : starEach [a, b] X.env = [(false, eval a X.env), (false, eval b X.env)] := by rfl) (hs2 : starEach [b] X.env = [(false, eval b X.env)] := by rfl) :
    PI X tg (.Call (.Name "range" p) [a, b] [] pos) (iRng2 ta) := by
  intro pins s σ H R I h
  refine Call_ (ld_blt I hg hm boot_range (PyProof.Rows.callWith_type1 (thn (ha pos pins s σ H _ I h) fun us s1 ⟨vs, H1, I1, r1, q1⟩ => ?_) (by rw [hs, hs2]) (by rw [hs2]; rfl)))
  obtain ⟨i, j, e, ⟨q1, q2, q3, q4⟩, q⟩ := q1
  subst e
  cases r1 with
  | cons r rr =>
    cases rr with
    | cons r' rr =>
      cases rr
      obtain ⟨t, rfl⟩ := r
      obtain ⟨t', rfl⟩ := r'
      exact call_range_2 (range_it I1 q1 q2 q3 q4 q)
noncomputable def tFor (wi : TI) (g : TG) (tb : TS) : TS := fun D σ H => wi σ H fun J H1 => ∃ W : Nat → Nat → St → Hp → Prop, (∃ m, W 0 m σ H1) ∧ ∀ i m σ H, W i m σ H →
  (J.stop i H ∧ D.nx σ H) ∨ (J.go i H ∧ ∃ N : St → Hp → Prop, (∀ σ' H', N σ' H' → ∃ m', m' < m ∧ W (i + 1) m' σ' H') ∧ ∀ x H', J.yld i H x H' → g x σ H' fun σ2 H2 => tb { D with nx := N, ct := N, bk := D.nx } σ2 H2)
noncomputable def pinsAt (fp : List Addr) (h : Heap) : List (Addr × Obj) := fp.filterMap fun b => (h.get? b).map fun o => (b, o)
theorem mem_pinsAt {fp : List Addr} {h : Heap} {b : Addr} {o : Obj} (hb : b ∈ fp) (e : h.get? b = some o) : (b, o) ∈ pinsAt fp h := List.mem_filterMap.mpr ⟨b, hb, by rw [e]; rfl⟩
theorem of_pinsAt {fp : List Addr} {h : Heap} {p : Addr × Obj} (hp : p ∈ pinsAt fp h) : p.1 ∈ fp ∧ h.get? p.1 = some p.2 := by
  obtain ⟨b, hb, e⟩ := List.mem_filterMap.mp hp
  cases q : h.get? b with
  | none => rw [q] at e; cases e
  | some o =>
    rw [q] at e
    have e' : (b, o) = p := Option.some.inj e
    subst e'
    exact ⟨hb, q⟩
theorem Inv.pinned {pins : List (Addr × Obj)} {σ : St} {H : Hp} {s : Shared} {fp : List Addr} (I : Inv X pins σ H s) (hf : ∀ b ∈ fp, FpOk X pins H b) (ho : ∀ b ∈ fp, ∃ o, s.heap.get? b = some o ∧ ∀ v, o.data ≠ .cell v) : Inv X (pins ++ pinsAt fp s.heap) σ H s :=
  I.pins_of fun p hp => (List.mem_append.mp hp).elim (fun z => I.pin p (List.mem_append_right _ z)) fun z => by
    obtain ⟨hb, e⟩ := of_pinsAt z
    obtain ⟨f0, f1, f2, _⟩ := hf p.1 hb
    obtain ⟨o, e', d⟩ := ho p.1 hb
    rw [e] at e'; cases e'
    exact ⟨e, f0, f1, f2, d⟩
theorem Inv.unpinned {pins pl : List (Addr × Obj)} {σ : St} {H : Hp} {s : Shared} (I : Inv X (pins ++ pl) σ H s) : Inv X pins σ H s := I.pins_of fun p hp => I.pin p (List.mem_append_right _ (List.mem_append_left _ hp))
theorem ps_for {iter : Expr} {body : List Stmt} {wi : TI} {g : TG} {tb : TS} {pos : Pos} (hp : PassesOwn (model X.prog X.w) X.A X.env X.xe) (hc : X.calm = true) (hi : PI X tg iter wi) (hg : PG X tg g) (hb : PSs X body tb)
    (hs : ∀ x, foldedSetIterable iter X.env x = pure x := by intro _; rfl) : PS X (.For tg iter body [] pos) (tFor wi g tb) := by
  intro pins s σ H D I h
  refine wpAny_For (thn (hi pins s σ H _ I h) fun v s1 h1 => thn h1 fun itv s2 h2 => ?_) hs
  obtain ⟨it, fp, tn, J, H2, e, I2, T, st2, f2, W, ⟨m0, w0⟩, turn⟩ := h2
  subst e
  have stat : ∀ {H' : Hp}, (∀ b ∈ fp, H' b = none) → ∀ b ∈ fp, FpOk X pins H' b := fun hn b hb => ⟨hn b hb, (f2 b hb).2⟩
  refine codeAny_forLoop_any (fun n s' => ∃ i σ' H', Inv X pins σ' H' s' ∧ tn i s'.heap ∧ (∀ b ∈ fp, H' b = none) ∧ W i n σ' H') ?_ m0 ⟨0, σ, H2, I2, st2, fun b hb => (f2 b hb).1, w0⟩
  rintro n s3 ⟨i, σ3, H3, I3, st3, fr3, w3⟩
  rcases turn i n σ3 H3 w3 with ⟨stop, qn⟩ | ⟨go, N, hN, step⟩
  · refine wpAny_passesOwn hp (thn (T.done X rfl rfl rfl hc i pins s3 σ3 H3 X.xe I3 (stat fr3) st3 stop) fun r s4 zz => ?_)
    obtain ⟨hr, I4⟩ := zz
    subst hr
    exact wpAny_execs_nil ⟨σ3, H3, I4, qn⟩
  · refine wpAny_passesOwn hp (thn (T.item X rfl rfl rfl hc i pins s3 σ3 H3 X.xe I3 (stat fr3) st3 go) fun r s4 zz => ?_)
    obtain ⟨u, hr, h4⟩ := zz
    subst hr
    refine wpAny_passesOwn hp (thn h4 fun _ s5 zz => ?_)
    obtain ⟨x, H5, I5, r5, y5, st5, fr5⟩ := zz
    have I5' := I5.pinned (stat fr5) (T.obj _ _ st5)
    refine wpAny_passesOwn hp (thn (hg _ s5 σ3 H5 x u _ I5' r5 (step x H5 y5)) fun _ s6 zz => ?_)
    obtain ⟨σ6, H6, I6, q6⟩ := zz
    refine wpAny_passesOwn hp (thn (hb _ s6 σ6 H6 _ I6 q6) fun f s7 q7 => ?_)
    have again : ∀ {σ7 : St} {H7 : Hp}, Inv X (pins ++ pinsAt fp s5.heap) σ7 H7 s7 → N σ7 H7 → ∃ m, m < n ∧ ∃ i σ' H', Inv X pins σ' H' s7 ∧ tn i s7.heap ∧ (∀ b ∈ fp, H' b = none) ∧ W i m σ' H' := fun {σ7 H7} I7 n7 => by
      obtain ⟨m', hm, w7⟩ := hN σ7 H7 n7
      refine ⟨m', hm, i + 1, σ7, H7, I7.unpinned, T.keep _ _ _ st5 fun b hb o e => (I7.pin (b, o) (List.mem_append_right _ (List.mem_append_right _ (mem_pinsAt hb e)))).1, fun b hb => ?_, w7⟩
      obtain ⟨o, e, d⟩ := T.obj _ _ st5 b hb
      exact (I7.pin (b, o) (List.mem_append_right _ (List.mem_append_right _ (mem_pinsAt hb e)))).2.1
    cases f with
    | next => obtain ⟨σ7, H7, I7, n7⟩ := q7; exact again I7 n7
    | cont => obtain ⟨σ7, H7, I7, n7⟩ := q7; exact again I7 n7
    | brk => obtain ⟨σ7, H7, I7, q7⟩ := q7; exact ⟨σ7, H7, I7.unpinned, q7⟩
    | ret v => obtain ⟨x7, σ7, H7, I7, r7, q7⟩ := q7; exact ⟨x7, σ7, H7, I7.unpinned, r7, q7⟩
end
theorem for_list {K : PySem.W.Frag} {a : Addr} {xs : List V} {g : TG} {tb : TS} {D : Ends} {σ : St} {H : Hp} (Pv : Nat → St → Hp → Prop) (h0 : Pv 0 σ H) (hl : ∀ i σ H, i ≤ xs.length → Pv i σ H → SqL K H a xs)
    (hs : ∀ i x σ H, xs[i]? = some x → Pv i σ H → g x σ H fun σ2 H2 => tb { D with nx := Pv (i + 1), ct := Pv (i + 1), bk := D.nx } σ2 H2) (hd : ∀ σ H, Pv xs.length σ H → D.nx σ H) :
    ∃ W : Nat → Nat → St → Hp → Prop, (∃ m, W 0 m σ H) ∧ ∀ i m σ H, W i m σ H →
      ((Itl K a).stop i H ∧ D.nx σ H) ∨ ((Itl K a).go i H ∧ ∃ N : St → Hp → Prop, (∀ σ' H', N σ' H' → ∃ m', m' < m ∧ W (i + 1) m' σ' H') ∧ ∀ x H', (Itl K a).yld i H x H' → g x σ H' fun σ2 H2 => tb { D with nx := N, ct := N, bk := D.nx } σ2 H2) := by
  refine ⟨fun i m σ H => m = xs.length - i ∧ i ≤ xs.length ∧ Pv i σ H, ⟨xs.length, by simp, Nat.zero_le _, h0⟩, ?_⟩
  rintro i m σ H ⟨rfl, hi, p⟩
  have q := hl i σ H hi p
  by_cases hlt : i < xs.length
  · refine .inr ⟨⟨xs, xs[i], q, by simp [hlt]⟩, Pv (i + 1), fun σ' H' p' => ⟨xs.length - (i + 1), by omega, rfl, hlt, p'⟩, fun x H' y => ?_⟩
    obtain ⟨e, y⟩ := y
    subst e
    exact hs i x σ _ (y xs q) p
  · have e : i = xs.length := by omega
    subst e
    exact .inl ⟨⟨xs, q, Nat.le_refl _⟩, hd σ H p⟩
theorem for_range {lo : Int} {n : Nat} {g : TG} {tb : TS} {D : Ends} {σ : St} {H : Hp} (Pv : Nat → St → Hp → Prop) (h0 : Pv 0 σ H)
    (hs : ∀ i σ H, i < n → Pv i σ H → g (.int (lo + i)) σ H fun σ2 H2 => tb { D with nx := Pv (i + 1), ct := Pv (i + 1), bk := D.nx } σ2 H2) (hd : ∀ σ H, Pv n σ H → D.nx σ H) :
    ∃ W : Nat → Nat → St → Hp → Prop, (∃ m, W 0 m σ H) ∧ ∀ i m σ H, W i m σ H →
      ((Itr lo n).stop i H ∧ D.nx σ H) ∨ ((Itr lo n).go i H ∧ ∃ N : St → Hp → Prop, (∀ σ' H', N σ' H' → ∃ m', m' < m ∧ W (i + 1) m' σ' H') ∧ ∀ x H', (Itr lo n).yld i H x H' → g x σ H' fun σ2 H2 => tb { D with nx := N, ct := N, bk := D.nx } σ2 H2) := by
  refine ⟨fun i m σ H => m = n - i ∧ i ≤ n ∧ Pv i σ H, ⟨n, by simp, Nat.zero_le _, h0⟩, ?_⟩
  rintro i m σ H ⟨rfl, hi, p⟩
  by_cases hlt : i < n
  · refine .inr ⟨hlt, Pv (i + 1), fun σ' H' p' => ⟨n - (i + 1), by omega, rfl, hlt, p'⟩, fun x H' y => ?_⟩
    obtain ⟨e, y⟩ := y
    subst e y
    exact hs i σ _ hlt p
  · have e : i = n := by omega
    subst e
    exact .inl ⟨Nat.le_refl _, hd σ H p⟩
end L2
namespace L2
open PySem PySem.Spec PyProof.Rows
noncomputable abbrev R2 := V → V → Hp → VK → Prop
noncomputable def OpR (X : Cx) (f : Value → Value → Sem Value) (r : R2) : Prop :=
  ∀ (pins : List (Addr × Obj)) (s : Shared) (σ : St) (H : Hp) (x y : V) (v u : Value) (Q : VK), Inv X pins σ H s → RelV x v → RelV y u → r x y H Q →
    wpAny (model X.prog X.w) X.A (f v u) (EP X pins σ Q) X.xe s
noncomputable def UnR (X : Cx) (f : Value → Sem Value) (r : V → Hp → VK → Prop) : Prop :=
  ∀ (pins : List (Addr × Obj)) (s : Shared) (σ : St) (H : Hp) (x : V) (v : Value) (Q : VK), Inv X pins σ H s → RelV x v → r x H Q →
    wpAny (model X.prog X.w) X.A (f v) (EP X pins σ Q) X.xe s
noncomputable def CallR (X : Cx) (f : Value) (r : List V → Hp → VK → Prop) : Prop :=
  ∀ (pins : List (Addr × Obj)) (s : Shared) (σ : St) (H : Hp) (xs : List V) (us : List Value) (Q : VK), Inv X pins σ H s → Vals xs us → r xs H Q →
    wpAny (model X.prog X.w) X.A (call f us) (EP X pins σ Q) X.xe s
noncomputable def tOp (r : R2) (ta tb : TE) : TE := fun σ H Q => ta σ H fun x H1 => tb σ H1 fun y H2 => r x y H2 Q
noncomputable def tUn (r : V → Hp → VK → Prop) (ta : TE) : TE := fun σ H Q => ta σ H fun x H1 => r x H1 Q
noncomputable def rI (C : Int → Int → Prop) (g : Int → Int → V) : R2 := fun x y H Q => ∃ i j, x = .int i ∧ y = .int j ∧ C i j ∧ Q (g i j) H
noncomputable def rI0 (g : Int → Int → V) : R2 := fun x y H Q => ∃ i j, x = .int i ∧ y = .int j ∧ Q (g i j) H
noncomputable def rU (g : Int → V) : V → Hp → VK → Prop := fun x H Q => ∃ i, x = .int i ∧ Q (g i) H
section
variable {X : Cx} {a b c : Expr} {ta tb tc : TE} {pos : Pos}
theorem binT (ha : PE X a ta) (hb : PE X b tb) {pins : List (Addr × Obj)} {s : Shared} {σ : St} {H : Hp} {R : V → V → Hp → Prop} (I : Inv X pins σ H s)
    (h : ta σ H fun x H1 => tb σ H1 fun y H2 => R x y H2) {Q : Value → Shared → Prop} {f : Value → Value → Sem Value}
    (hf : ∀ v u s2 x y H2, Inv X pins σ H2 s2 → RelV x v → RelV y u → R x y H2 → wpAny (model X.prog X.w) X.A (f v u) Q X.xe s2) :
    wpAny (model X.prog X.w) X.A (eval a X.env) (fun v s₁ => wpAny (model X.prog X.w) X.A (eval b X.env) (fun u s₂ => wpAny (model X.prog X.w) X.A (f v u) Q X.xe s₂) X.xe s₁) X.xe s := by
  refine thn (ha pins s σ H _ I h) fun v s1 zz => ?_
  obtain ⟨x, H1, I1, r1, q1⟩ := zz
  refine thn (hb pins s1 σ H1 _ I1 q1) fun u s2 zz => ?_
  obtain ⟨y, H2, I2, r2, q2⟩ := zz
  exact hf v u s2 x y H2 I2 r1 r2 q2
theorem pe_op {op : Operator} {r : R2} (ho : OpR X (binaryOp op) r) (ha : PE X a ta) (hb : PE X b tb) : PE X (.BinOp a op b pos) (tOp r ta tb) := by
  intro pins s σ H Q I h
  exact wpAny_BinOp (binT ha hb I h fun v u s2 x y H2 I2 rx ry q => ho pins s2 σ H2 x y v u Q I2 rx ry q)
theorem pe_un {op : UnaryOp} {r : V → Hp → VK → Prop} (ho : UnR X (unaryOp op) r) (ha : PE X a ta) : PE X (.UnaryOp op a pos) (tUn r ta) := by
  intro pins s σ H Q I h
  exact UnaryOp_ (thn (ha pins s σ H _ I h) fun v s1 ⟨x, H1, I1, r1, q1⟩ => ho pins s1 σ H1 x v Q I1 r1 q1)
theorem opI {f : Value → Value → Sem Value} {C : Int → Int → Prop} {g : Int → Int → Int}
    (rule : ∀ (i j : Int) (t u : Tok) (s : Shared) (Q : Value → Shared → Prop) (E : Value → Shared → Prop), C i j → Q (.int (g i j) s.toks) { s with toks := s.toks + 1 } → wpAny (model X.prog X.w) X.A (f (.int i t) (.int j u)) Q E s) :
    OpR X f (rI C fun i j => .int (g i j)) := by
  intro pins s σ H x y v u Q I rx ry h
  obtain ⟨i, j, rfl, rfl, hc, q⟩ := h
  obtain ⟨t, rfl⟩ := rx
  obtain ⟨t', rfl⟩ := ry
  exact rule i j t t' s _ _ hc ⟨.int (g i j), H, I.tok _, ⟨_, rfl⟩, q⟩
theorem opI0 {f : Value → Value → Sem Value} {g : Int → Int → Int}
    (rule : ∀ (i j : Int) (t u : Tok) (s : Shared) (Q : Value → Shared → Prop) (E : Value → Shared → Prop), Q (.int (g i j) s.toks) { s with toks := s.toks + 1 } → wpAny (model X.prog X.w) X.A (f (.int i t) (.int j u)) Q E s) :
    OpR X f (rI0 fun i j => .int (g i j)) := by
  intro pins s σ H x y v u Q I rx ry h
  obtain ⟨i, j, rfl, rfl, q⟩ := h
  obtain ⟨t, rfl⟩ := rx
  obtain ⟨t', rfl⟩ := ry
  exact rule i j t t' s _ _ ⟨.int (g i j), H, I.tok _, ⟨_, rfl⟩, q⟩
theorem opB0 {f : Value → Value → Sem Value} {g : Int → Int → Bool}
    (rule : ∀ (i j : Int) (t u : Tok) (s : Shared) (Q : Value → Shared → Prop) (E : Value → Shared → Prop), Q (.bool (g i j)) s → wpAny (model X.prog X.w) X.A (f (.int i t) (.int j u)) Q E s) :
    OpR X f (rI0 fun i j => .bl (g i j)) := by
  intro pins s σ H x y v u Q I rx ry h
  obtain ⟨i, j, rfl, rfl, q⟩ := h
  obtain ⟨t, rfl⟩ := rx
  obtain ⟨t', rfl⟩ := ry
  exact rule i j t t' s _ _ ⟨.bl (g i j), H, I, rfl, q⟩
theorem op_add : OpR X (binaryOp .Add) (rI0 fun i j => .int (i + j)) := opI0 fun _ _ _ _ _ _ _ q => add_int q
theorem op_sub : OpR X (binaryOp .Sub) (rI0 fun i j => .int (i - j)) := opI0 fun _ _ _ _ _ _ _ q => sub_int q
theorem op_mod : OpR X (binaryOp .Mod) (rI (fun _ j => 0 < j) fun i j => .int (i % j)) := opI fun i j _ _ _ _ _ hc q => by
  have h1 : (0 : Int) < j := hc
  exact mod_int' (by omega) (by rw [Int.fmod_eq_emod_of_nonneg i (by omega)]; exact q)
theorem unI {f : Value → Sem Value} {g : Int → Int}
    (rule : ∀ (i : Int) (t : Tok) (s : Shared) (Q : Value → Shared → Prop) (E : Value → Shared → Prop), Q (.int (g i) s.toks) { s with toks := s.toks + 1 } → wpAny (model X.prog X.w) X.A (f (.int i t)) Q E s) :
    UnR X f (rU fun i => .int (g i)) := by
  intro pins s σ H x v Q I rx h
  obtain ⟨i, rfl, q⟩ := h
  obtain ⟨t, rfl⟩ := rx
  exact rule i t s _ _ ⟨.int (g i), H, I.tok _, ⟨_, rfl⟩, q⟩
theorem un_neg : UnR X (unaryOp .USub) (rU fun i => .int (-i)) := unI fun _ _ _ _ _ q => neg_int q
end
noncomputable def scal : V → V → Bool
  | .non, .non => true | .non, .int _ => true | .int _, .non => true | .non, .bl _ => true | .bl _, .non => true | .non, .str _ => true | .str _, .non => true
  | .int _, .int _ => true | .bl _, .bl _ => true | .str _, .str _ => true | .byt _, .byt _ => true
  | .int _, .str _ => true | .str _, .int _ => true | .bl _, .str _ => true | .str _, .bl _ => true
  | _, _ => false
noncomputable def rEq : R2 := fun x y H Q => scal x y = true ∧ Q (.bl (decide (x = y))) H
noncomputable def rNe : R2 := fun x y H Q => scal x y = true ∧ Q (.bl (!decide (x = y))) H
theorem dec_int {i j : Int} : decide (V.int i = V.int j) = (i == j) := by
  rw [Bool.eq_iff_iff]
  simp
theorem dec_bl {i j : Bool} : decide (V.bl i = V.bl j) = (i == j) := by
  rw [Bool.eq_iff_iff]
  simp
theorem dec_str {i j : Str} : decide (V.str i = V.str j) = (i == j) := by
  rw [Bool.eq_iff_iff]
  simp
theorem dec_byt {i j : Array UInt8} : decide (V.byt i = V.byt j) = (i.toList == j.toList) := by
  rw [Bool.eq_iff_iff]
  cases i
  cases j
  simp
section
variable {X : Cx} {a b c : Expr} {ta tb tc : TE} {pos : Pos}
theorem fin_bl {pins : List (Addr × Obj)} {σ : St} {H : Hp} {s : Shared} {Q : VK} {k k' : Bool} (I : Inv X pins σ H s) (q : Q (.bl k) H) (e : k = k') : EP X pins σ Q (.bool k') s := by
  subst e
  exact ⟨.bl k, H, I, rfl, q⟩
theorem op_eq : OpR X (compareOp .Eq) rEq := by
  intro pins s σ H x y v u Q I rx ry h
  obtain ⟨hs, q⟩ := h
  cases x with
  | non =>
    cases rx
    cases y with
    | non => cases ry; exact PySem.EqNone.eq_none_none (fin_bl I q (by simp))
    | bl j => cases ry; exact PySem.EqNone.eq_none_bool (fin_bl I q (by simp))
    | int j => obtain ⟨t', rfl⟩ := ry; exact PySem.EqNone.eq_none_int (fin_bl I q (by simp))
    | str j => obtain ⟨t', rfl⟩ := ry; exact PySem.EqNone.eq_none_str (fin_bl I q (by simp))
    | _ => exact absurd (show false = true from hs) Bool.false_ne_true
  | bl i =>
    cases rx
    cases y with
    | non => cases ry; exact PySem.EqNone.eq_bool_none (fin_bl I q (by simp))
    | bl j => cases ry; exact eq_bool (fin_bl I q dec_bl)
    | str j => obtain ⟨t', rfl⟩ := ry; exact PySem.EqMixed.eq_bool_str (fin_bl I q (by simp))
    | _ => exact absurd (show false = true from hs) Bool.false_ne_true
  | int i =>
    obtain ⟨t, rfl⟩ := rx
    cases y with
    | non => cases ry; exact PySem.EqNone.eq_int_none (fin_bl I q (by simp))
    | int j => obtain ⟨t', rfl⟩ := ry; exact eq_int (fin_bl I q dec_int)
    | str j => obtain ⟨t', rfl⟩ := ry; exact PySem.EqMixed.eq_int_str (fin_bl I q (by simp))
    | _ => exact absurd (show false = true from hs) Bool.false_ne_true
  | str i =>
    obtain ⟨t, rfl⟩ := rx
    cases y with
    | non => cases ry; exact PySem.EqNone.eq_str_none (fin_bl I q (by simp))
    | bl j => cases ry; exact PySem.EqMixed.eq_str_bool (fin_bl I q (by simp))
    | int j => obtain ⟨t', rfl⟩ := ry; exact PySem.EqMixed.eq_str_int (fin_bl I q (by simp))
    | str j => obtain ⟨t', rfl⟩ := ry; exact eq_str (fin_bl I q dec_str)
    | _ => exact absurd (show false = true from hs) Bool.false_ne_true
  | byt i =>
    obtain ⟨t, rfl⟩ := rx
    cases y with
    | byt j => obtain ⟨t', rfl⟩ := ry; exact PySem.W.eq_bytes (fin_bl I q dec_byt)
    | _ => exact absurd (show false = true from hs) Bool.false_ne_true
  | _ => cases y <;> exact absurd (show false = true from hs) Bool.false_ne_true
theorem op_ne : OpR X (compareOp .NotEq) rNe := by
  intro pins s σ H x y v u Q I rx ry h
  obtain ⟨hs, q⟩ := h
  cases x with
  | non =>
    cases rx
    cases y with
    | non => cases ry; exact PySem.EqNone.ne_none_none (fin_bl I q (by simp))
    | bl j => cases ry; exact PySem.EqNone.ne_none_bool (fin_bl I q (by simp))
    | int j => obtain ⟨t', rfl⟩ := ry; exact PySem.EqNone.ne_none_int (fin_bl I q (by simp))
    | str j => obtain ⟨t', rfl⟩ := ry; exact PySem.EqNone.ne_none_str (fin_bl I q (by simp))
    | _ => exact absurd (show false = true from hs) Bool.false_ne_true
  | bl i =>
    cases rx
    cases y with
    | non => cases ry; exact PySem.EqNone.ne_bool_none (fin_bl I q (by simp))
    | bl j => cases ry; exact ne_bool (fin_bl I q (congrArg not dec_bl))
    | str j => obtain ⟨t', rfl⟩ := ry; exact PySem.EqMixed.ne_bool_str (fin_bl I q (by simp))
    | _ => exact absurd (show false = true from hs) Bool.false_ne_true
  | int i =>
    obtain ⟨t, rfl⟩ := rx
    cases y with
    | non => cases ry; exact PySem.EqNone.ne_int_none (fin_bl I q (by simp))
    | int j => obtain ⟨t', rfl⟩ := ry; exact ne_int (fin_bl I q (congrArg not dec_int))
    | str j => obtain ⟨t', rfl⟩ := ry; exact PySem.EqMixed.ne_int_str (fin_bl I q (by simp))
    | _ => exact absurd (show false = true from hs) Bool.false_ne_true
  | str i =>
    obtain ⟨t, rfl⟩ := rx
    cases y with
    | non => cases ry; exact PySem.EqNone.ne_str_none (fin_bl I q (by simp))
    | bl j => cases ry; exact PySem.EqMixed.ne_str_bool (fin_bl I q (by simp))
    | int j => obtain ⟨t', rfl⟩ := ry; exact PySem.EqMixed.ne_str_int (fin_bl I q (by simp))
    | str j => obtain ⟨t', rfl⟩ := ry; exact ne_str (fin_bl I q (congrArg not dec_str))
    | _ => exact absurd (show false = true from hs) Bool.false_ne_true
  | byt i =>
    obtain ⟨t, rfl⟩ := rx
    cases y with
    | byt j => obtain ⟨t', rfl⟩ := ry; exact PySem.W.ne_bytes (fin_bl I q (congrArg not dec_byt))
    | _ => exact absurd (show false = true from hs) Bool.false_ne_true
  | _ => cases y <;> exact absurd (show false = true from hs) Bool.false_ne_true
theorem op_lt : OpR X (compareOp .Lt) (rI0 fun i j => .bl (decide (i < j))) := opB0 fun _ _ _ _ _ _ _ q => lt_int q
theorem op_gt : OpR X (compareOp .Gt) (rI0 fun i j => .bl (decide (j < i))) := opB0 fun _ _ _ _ _ _ _ q => gt_int q
theorem nomark (b : Expr) {op : CmpOp} (h : op ≠ .In := by decide) (h2 : op ≠ .NotIn := by decide) : behindInMarks op b = false := by
  have e1 : (op == CmpOp.In) = false := by cases op <;> first | rfl | exact absurd rfl h
  have e2 : (op == CmpOp.NotIn) = false := by cases op <;> first | rfl | exact absurd rfl h2
  cases b <;> simp [behindInMarks, e1, e2]
theorem pe_cmpR {op : CmpOp} {r : R2} (ho : OpR X (compareOp op) r) (ha : PE X a ta) (hb : PE X b tb) (hm : behindInMarks op b = false) : PE X (.Compare a [op] [b] pos) (tOp r ta tb) := by
  intro pins s σ H Q I h
  exact wpAny_Compare1 (binT ha hb I h fun v u s2 x y H2 I2 rx ry q => ho pins s2 σ H2 x y v u Q I2 rx ry q) hm
noncomputable def tTest (t : TE) : TT := fun σ H Q => t σ H fun x H' => ∃ k, x = .bl k ∧ Q k H'
theorem pt_cmpR {op : CmpOp} {r : R2} (ho : OpR X (compareOp op) r) (ha : PE X a ta) (hb : PE X b tb) (hm : behindInMarks op b = false) : PT X (.Compare a [op] [b] pos) (tTest (tOp r ta tb)) := by
  intro pins s σ H Q I h
  refine wpAny_isTrue_Compare1 (thn (ha pins s σ H _ I h) fun v s1 ⟨x, H1, I1, r1, q1⟩ => thn (hb pins s1 σ H1 _ I1 q1) fun u s2 ⟨y, H2, I2, r2, q2⟩ =>
    thn (ho pins s2 σ H2 x y v u _ I2 r1 r2 q2) fun c s3 ⟨z, H3, I3, r3, k, e, q3⟩ => ?_) hm
  subst e
  cases r3
  exact wpAny_truthy_bool ⟨H3, I3, q3⟩
theorem line63 : (sizeLine : Nat) < 2 ^ 63 := by rw [sizeLine_eq]; decide
theorem vals1 {x : V} {us : List Value} (r : Vals [x] us) : ∃ u, us = [u] ∧ RelV x u := by
  cases r with
  | cons r1 r2 => cases r2; exact ⟨_, rfl, r1⟩
theorem vals2 {x y : V} {us : List Value} (r : Vals [x, y] us) : ∃ u w', us = [u, w'] ∧ RelV x u ∧ RelV y w' := by
  cases r with
  | cons r1 r2 =>
    cases r2 with
    | cons r3 r4 => cases r4; exact ⟨_, _, rfl, r1, r3⟩
theorem call_abs : CallR X (.builtin "abs") (fun xs H Q => ∃ i, xs = [.int i] ∧ Q (.int (if i < 0 then -i else i)) H) := by
  intro pins s σ H xs us Q I r h
  obtain ⟨i, rfl, q⟩ := h
  obtain ⟨u, rfl, t, rfl⟩ := vals1 r
  exact call_abs_int fun u tk => ⟨.int (if i < 0 then -i else i), H, I.tok _, ⟨_, rfl⟩, q⟩
theorem call_max2 (hc : X.calm = true) : CallR X (.builtin "max") (fun xs H Q => ∃ i j, xs = [.int i, .int j] ∧ Q (.int (if j > i then j else i)) H) := by
  intro pins s σ H xs us Q I r h
  obtain ⟨i, j, rfl, q⟩ := h
  obtain ⟨u, w', rfl, ⟨t, rfl⟩, ⟨t', rfl⟩⟩ := vals2 r
  refine max_two_ints (I.ok.hd hc) fun h' tk k => ⟨_, H, I.kept k, ?_, q⟩
  by_cases hj : j > i
  · rw [if_pos hj, if_pos hj]; exact ⟨_, rfl⟩
  · rw [if_neg hj, if_neg hj]; exact ⟨_, rfl⟩
theorem call_min2 (hc : X.calm = true) : CallR X (.builtin "min") (fun xs H Q => ∃ i j, xs = [.int i, .int j] ∧ Q (.int (if j < i then j else i)) H) := by
  intro pins s σ H xs us Q I r h
  obtain ⟨i, j, rfl, q⟩ := h
  obtain ⟨u, w', rfl, ⟨t, rfl⟩, ⟨t', rfl⟩⟩ := vals2 r
  refine min_two_ints (I.ok.hd hc) fun h' tk k => ⟨_, H, I.kept k, ?_, q⟩
  by_cases hj : j < i
  · rw [if_pos hj, if_pos hj]; exact ⟨_, rfl⟩
  · rw [if_neg hj, if_neg hj]; exact ⟨_, rfl⟩
theorem call_int1 : CallR X (.type "int") (fun xs H Q => (∃ i, xs = [.int i] ∧ Q (.int i) H) ∨ ∃ k, xs = [.bl k] ∧ Q (.int (if k then 1 else 0)) H) := by
  intro pins s σ H xs us Q I r h
  rcases h with ⟨i, rfl, q⟩ | ⟨k, rfl, q⟩
  · obtain ⟨u, rfl, t, rfl⟩ := vals1 r
    exact call_int_int ⟨.int i, H, I, ⟨_, rfl⟩, q⟩
  · obtain ⟨u, rfl, r1⟩ := vals1 r
    cases r1
    exact call_int_bool ⟨.int (if k then 1 else 0), H, I.tok _, ⟨_, rfl⟩, q⟩
noncomputable def LenV (K : PySem.W.Frag) (x : V) (H : Hp) (n : Nat) : Prop :=
  match x with
  | .str y => y.length ≤ sizeLine ∧ n = y.length
  | .byt y => y.size ≤ sizeLine ∧ n = y.size
  | .ref p => (∃ xs, SqL K H p xs ∧ n = xs.length) ∨ ∃ xs, SqT K H p xs ∧ n = xs.length
  | _ => False
theorem call_len : CallR X (.builtin "len") (fun xs H Q => ∃ x n, xs = [x] ∧ LenV X.K x H n ∧ Q (.int n) H) := by
  intro pins s σ H xs us Q I r h
  obtain ⟨x, n, rfl, e, q⟩ := h
  obtain ⟨u, rfl, rx⟩ := vals1 r
  have hl := line63
  have hs : sizeLine = 16777216 := sizeLine_eq
  cases x with
  | str y =>
    obtain ⟨t, rfl⟩ := rx
    obtain ⟨hy, e'⟩ : y.length ≤ sizeLine ∧ n = y.length := e
    subst e'
    exact len_str (by omega) ⟨.int _, H, I.tok _, ⟨_, rfl⟩, q⟩
  | byt y =>
    obtain ⟨t, rfl⟩ := rx
    obtain ⟨hy, e'⟩ : y.size ≤ sizeLine ∧ n = y.size := e
    subst e'
    exact PySem.W.len_bytes (by omega) ⟨.int _, H, I.tok _, ⟨_, rfl⟩, q⟩
  | ref p =>
    cases rx
    have e' : (∃ xs, SqL X.K H p xs ∧ n = xs.length) ∨ ∃ xs, SqT X.K H p xs ∧ n = xs.length := e
    rcases e' with ⟨xs, hx, e'⟩ | ⟨xs, hx, e'⟩
    · subst e'
      obtain ⟨its, r', pl, hz⟩ := I.list hx
      have hlen := r'.length
      exact Calls.call_len_list pl.isList (by simp only [List.size_toArray]; omega) ⟨.int xs.length, H, I.tok _, ⟨_, by simp only [List.size_toArray]; rw [hlen]⟩, q⟩
    · subst e'
      obtain ⟨its, r', pl, hz⟩ := I.tuple hx
      have hlen := r'.length
      exact len_tuple pl (by simp only [List.size_toArray]; omega) ⟨.int xs.length, H, I.tok _, ⟨_, by simp only [List.size_toArray]; rw [hlen]⟩, q⟩
  | _ => exact (show False from e).elim
end
end L2
namespace L2
open PySem PySem.Spec PyProof.Rows
structure ObjM (h : Heap) (x dx C : Addr) (mA : Str → Option Value) : Prop where
  obj : h.get? x = some (PySem.W.instObj C dx)
  ns : h.Ns1 dx mA
  ne : dx ≠ x
theorem lookIn_ns {h : Heap} {dx : Addr} {mA : Str → Option Value} (n : h.Ns1 dx mA) : ∃ od, h.get? dx = some od ∧ ∀ name, PySem.W.lookIn name od = some (mA name) := by
  obtain ⟨o, es, ep, ho, hd, hk, _, hm⟩ := n
  refine ⟨o, ho, fun name => ?_⟩
  have e := hm name
  unfold nsFind findBy at e
  rw [← Array.find?_toList] at e
  unfold PySem.W.lookIn
  rw [hd]
  dsimp only
  split
  · rename_i y q
    rw [q] at e
    exact congrArg some e
  · rename_i q
    rw [q] at e
    have a : es.toList.any (·.refKey) = false := by
      rw [List.any_eq_false]
      intro y hy
      obtain ⟨z, t, hkey⟩ := hk y (Array.mem_toList_iff.mp hy)
      simp [DictEntry.refKey, hkey]
    have a' : ¬ es.toList.any (·.refKey) = true := by rw [a]; exact Bool.false_ne_true
    rw [if_neg a']
    exact congrArg some e
theorem ObjM.look {h : Heap} {x dx C : Addr} {mA : Str → Option Value} (I : ObjM h x dx C mA) : ∃ od, PySem.W.InstAt h x (PySem.W.instObj C dx) C (some od) ∧ ∀ name, PySem.W.lookIn name od = some (mA name) :=
  let ⟨od, ho, hl⟩ := lookIn_ns I.ns
  ⟨od, ⟨I.obj, rfl, rfl, ho⟩, hl⟩
section
variable {prog : Program} {w : World} {A : Around} {E : Value → Shared → Prop} {s : Shared} {K : PySem.W.Frag} {x dx C f : Addr} {mA : Str → Option Value} {name : Str} {v : Value}
end
noncomputable def putF (f : Str) (v : V) : List (Str × V) → List (Str × V)
  | [] => [(f, v)]
  | (g, x) :: r => if g = f then (g, v) :: r else (g, x) :: putF f v r
theorem lookup_putF (f g : Str) (v : V) : ∀ fs : List (Str × V), (putF f v fs).lookup g = if g = f then some v else fs.lookup g
  | [] => by
    show List.lookup g [(f, v)] = _
    by_cases h : g = f
    · have hb : (g == f) = true := beq_iff_eq.mpr h
      simp only [List.lookup, hb, if_pos h]
    · have hb : (g == f) = false := beq_eq_false_iff_ne.mpr h
      simp only [List.lookup, hb, if_neg h]
  | (k, x) :: r => by
    have ih := lookup_putF f g v r
    rw [show putF f v ((k, x) :: r) = (if k = f then (k, v) :: r else (k, x) :: putF f v r) from rfl]
    by_cases hk : k = f
    · rw [if_pos hk]
      by_cases h : g = k
      · have hb : (g == k) = true := beq_iff_eq.mpr h
        simp only [List.lookup, hb, if_pos (h.trans hk)]
      · have hb : (g == k) = false := beq_eq_false_iff_ne.mpr h
        simp only [List.lookup, hb, if_neg (fun e : g = f => h (e.trans hk.symm))]
    · rw [if_neg hk]
      by_cases h : g = k
      · have hb : (g == k) = true := beq_iff_eq.mpr h
        simp only [List.lookup, hb, if_neg (fun e : g = f => hk (h.symm.trans e))]
      · have hb : (g == k) = false := beq_eq_false_iff_ne.mpr h
        simp only [List.lookup, hb]
        exact ih
theorem keys_putF (f : Str) (v : V) : ∀ fs : List (Str × V), f ∈ (putF f v fs).map (·.1) ∧ ∀ g, g ∈ fs.map (·.1) → g ∈ (putF f v fs).map (·.1)
  | [] => ⟨by simp [putF], fun g h => by simp at h⟩
  | (k, x) :: r => by
    obtain ⟨i1, i2⟩ := keys_putF f v r
    rw [show putF f v ((k, x) :: r) = (if k = f then (k, v) :: r else (k, x) :: putF f v r) from rfl]
    by_cases hk : k = f
    · rw [if_pos hk]
      subst hk
      exact ⟨by simp, fun g h => by simpa using h⟩
    · rw [if_neg hk]
      refine ⟨?_, fun g h => ?_⟩
      · rw [List.map_cons]
        exact List.mem_cons_of_mem _ i1
      · rw [List.map_cons] at h ⊢
        rcases List.mem_cons.mp h with e | e
        · exact List.mem_cons.mpr (.inl e)
        · exact List.mem_cons_of_mem _ (i2 g e)
theorem RelO.some_of {v : V} {o : Option Value} (r : RelO (some v) o) : ∃ u, o = some u ∧ RelV v u := by
  cases o with
  | none => exact (show False from r).elim
  | some u => exact ⟨u, rfl, r⟩
theorem handed_of {v : V} {u : Value} (r : RelV v u) : PySem.W.handedIn u = true := by
  cases v with
  | non => cases (show u = Value.none from r); rfl
  | bl b => cases (show u = Value.bool b from r); rfl
  | int i => obtain ⟨t, e⟩ := (show ∃ t, u = Value.int i t from r); cases e; rfl
  | str x => obtain ⟨t, e⟩ := (show ∃ t, u = Value.str x t from r); cases e; rfl
  | byt b => obtain ⟨t, e⟩ := (show ∃ t, u = Value.bytes b t from r); cases e; rfl
  | flt b => obtain ⟨t, e⟩ := (show ∃ t, u = Value.float b t from r); cases e; rfl
  | ref a => cases (show u = Value.ref a from r); rfl
  | ty n => cases (show u = Value.type n from r); rfl
section
variable {P : Program} {w : World} {H H' : Hp} {h h' : Heap} {a C dx : Addr} {fs fs' : List (Str × V)}
theorem ins_get (hok : HOk P w H h) (e : H a = some (.ins C dx fs)) : ∃ mA, ObjM h a dx C mA ∧ (∀ f, RelO (fs.lookup f) (mA f)) ∧ PySem.Within mA (fs.map (·.1)) ∧ fs.length ≤ 1000 ∧ H dx = some (.own a) := by
  obtain ⟨d, z, ne, ob, mA, n, r, q⟩ := (show ObjOk P w H h a (.ins C dx fs) from hok a _ e)
  exact ⟨mA, ⟨ob, n, ne⟩, r, q, z, d⟩
end
structure Cls (K : PySem.W.Frag) (C : Addr) : Prop where
  pg : PySem.W.plainGet K C Str.empty = true
  hd : PySem.W.hasDictIn K C = true
  po : PySem.W.plainOver K C = true
  sa : PySem.W.findIn K (.ref C) "__setattr__" = some (some (.builtin "object.__setattr__"))
theorem Cls.get {K : PySem.W.Frag} {C : Addr} (c : Cls K C) (f : Str) : PySem.W.plainGet K C f = true := c.pg
noncomputable def NoAttr (K : PySem.W.Frag) (C : Addr) (f : Str) : Prop := PySem.W.findIn K (.ref C) f = some none
section
variable {X : Cx} {pins : List (Addr × Obj)} {σ : St} {H : Hp} {s : Shared} {a C dx : Addr} {fs : List (Str × V)} {f : Str} {v : V} {A : Around} {E : Value → Shared → Prop}
theorem attr_of {prog : Program} {w : World} {env : Env} {e : Expr} {f : Str} {pos : Pos} {s : Shared} {Q : Value → Shared → Prop} (hb : attributeBase e f env (eval e env) = eval e env)
    (h : wpAny (model prog w) A (eval e env) (fun o s₁ => wpAny (model prog w) A (getAttr o f true) Q E s₁) E s) : wpAny (model prog w) A (eval (.Attribute e f pos) env) Q E s :=
  Attribute_any_ h (by rw [arm_eval_Attribute, hb])
end
section
variable {X : Cx} {o e value : Expr} {f : Str} {pos pos' tpos : Pos} {ta tv : TE}
end
section
variable {X : Cx} {pins : List (Addr × Obj)} {σ : St} {H : Hp} {s : Shared} {A : Around} {E : Value → Shared → Prop} {Q : Value → Shared → Prop} {c : Value} {b : Bool}
inductive TyOf (K : PySem.W.Frag) (H : Hp) : V → Value → Prop where
  | non : TyOf K H .non (.type "NoneType")
  | bl (x : Bool) : TyOf K H (.bl x) (.type "bool")
  | int (i : Int) : TyOf K H (.int i) (.type "int")
  | str (x : Str) : TyOf K H (.str x) (.type "str")
  | flt (x : UInt64) : TyOf K H (.flt x) (.type "float")
  | lst {a : Addr} {xs : List V} (e : H a = some (.lst xs)) : TyOf K H (.ref a) (.type "list")
  | frz {a : Addr} {o : Obj} {xs : List V} (e : H a = some (.frz o (.lst xs))) : TyOf K H (.ref a) (.type "list")
  | tup {a : Addr} {xs : List V} (e : H a = some (.tup xs)) : TyOf K H (.ref a) (.type "tuple")
  | dK {a : Addr} {kvs : List (Key × V)} (e : H a = some (.dK kvs)) : TyOf K H (.ref a) (.type "dict")
  | dT {a : Addr} {kvs : List (List Key × V)} (e : H a = some (.dT kvs)) : TyOf K H (.ref a) (.type "dict")
  | ins {a C dx : Addr} {fs : List (Str × V)} (e : H a = some (.ins C dx fs)) (cl : Cls K C) (ha : PySem.W.findIn K (.ref C) "__class__" = some (some (.builtin "object.__class__")))
      (hn : PySem.W.specialIn K (.builtin "object.__class__") "__get__" = some (some (.builtin "getset_descriptor.__get__"))) (htk : PySem.W.takesIn K (.builtin "object.__class__") = some true)
      (hm : PySem.W.mroIn K C (.type "object") = some true) : TyOf K H (.ref a) (.ref C)
theorem isinst_ok {x : V} {u t : Value} (I : Inv X pins σ H s) (rx : RelV x u) (ty : TyOf X.K H x t) (e : PySem.W.kitOne X.K t c = some b) (h : ∀ tk, Q (.bool b) { s with toks := tk }) :
    wpAny (model X.prog X.w) A (call (.builtin "isinstance") [u, c]) Q E s := by
  cases ty with
  | non => cases (show u = Value.none from rx); exact PySem.W.kia_one PySem.W.kitx_none I.kIn True.intro e (fun z => nomatch z) h
  | bl y => cases (show u = Value.bool y from rx); exact PySem.W.kia_one PySem.W.kitx_bool I.kIn True.intro e (fun z => nomatch z) h
  | int i => obtain ⟨t, q⟩ := (show ∃ t, u = Value.int i t from rx); cases q; exact PySem.W.kia_one PySem.W.kitx_int I.kIn True.intro e (fun z => nomatch z) h
  | str y => obtain ⟨t, q⟩ := (show ∃ t, u = Value.str y t from rx); cases q; exact PySem.W.kia_one PySem.W.kitx_str I.kIn True.intro e (fun z => nomatch z) h
  | flt y => obtain ⟨t, q⟩ := (show ∃ t, u = Value.float y t from rx); cases q; exact PySem.W.kia_one PySem.W.kitx_float I.kIn True.intro e (fun z => nomatch z) h
  | @lst a xs ea =>
    cases (show u = Value.ref a from rx)
    obtain ⟨_, _, n, _, h1⟩ := (show ObjOk X.prog X.w H s.heap a (.lst xs) from I.hok a _ ea)
    exact PySem.W.kia_one PySem.W.kitx_list I.kIn ⟨_, h1, rfl⟩ e (fun z => nomatch z) h
  | @frz a ob xs ea =>
    cases (show u = Value.ref a from rx)
    obtain ⟨_, _, _, n, _, h1⟩ := (show ObjOk X.prog X.w H s.heap a (.frz ob (.lst xs)) from I.hok a _ ea)
    exact PySem.W.kia_one PySem.W.kitx_list I.kIn ⟨_, h1, rfl⟩ e (fun z => nomatch z) h
  | @tup a xs ea =>
    cases (show u = Value.ref a from rx)
    obtain ⟨_, _, _, p⟩ := (show ObjOk X.prog X.w H s.heap a (.tup xs) from I.hok a _ ea)
    obtain ⟨o, h1, h2, _⟩ := p
    exact PySem.W.kia_one PySem.W.kitx_tuple I.kIn ⟨o, h1, h2⟩ e (fun z => nomatch z) h
  | @dK a kvs ea =>
    cases (show u = Value.ref a from rx)
    obtain ⟨_, _, vs, _, p⟩ := (show ObjOk X.prog X.w H s.heap a (.dK kvs) from I.hok a _ ea)
    obtain ⟨o, es, ep, h1, h2, _⟩ := p
    exact PySem.W.kia_one PySem.W.kitx_dict I.kIn ⟨o, h1, h2.1⟩ e (fun z => nomatch z) h
  | @dT a kvs ea =>
    cases (show u = Value.ref a from rx)
    obtain ⟨_, _, xs, _, o, es, ep, h1, h2, _⟩ := (show ObjOk X.prog X.w H s.heap a (.dT kvs) from I.hok a _ ea)
    exact PySem.W.kia_one PySem.W.kitx_dict I.kIn ⟨o, h1, h2.1⟩ e (fun z => nomatch z) h
  | @ins a C dx fs ea cl ha hn htk hm =>
    cases (show u = Value.ref a from rx)
    obtain ⟨mA, O, _⟩ := ins_get I.hok ea
    obtain ⟨od, J, _⟩ := O.look
    exact PySem.W.kia_one (PySem.W.kitx_own (cl.get _) cl.hd ha hn htk hm) I.kIn J e (fun z => nomatch z) h
end
end L2
namespace L2
open PySem PySem.Spec PyProof.Rows
structure Room (k : Nat) (A : Around) : Prop where
  hd : A.handled = none
  dp : A.depth + 3 * k + 5 < recursionLimit
  un : A.units + 16 * k + 200 < cLine
theorem Room.mono {j k : Nat} {A : Around} (r : Room k A) (h : j ≤ k) : Room j A := ⟨r.hd, by have := r.dp; omega, by have := r.un; omega⟩
theorem Room.deeper {k : Nat} {A : Around} (r : Room (k + 1) A) (env : Env) : Room k (A.deeper env) :=
  ⟨r.hd, by have := r.dp; show A.depth + 1 + 3 * k + 5 < _; omega, by have := r.un; show A.units + 3 + 16 * k + 200 < _; omega⟩
theorem make_depth {A : Around} {C : Addr} {us : List Value} {kw : List (Str × Value)} : (A.under (.builtin "type.__call__" ⟨.ref C :: us, kw⟩)).depth = A.depth + 1 := by
  first | rfl | simp [Around.under, Code.weight, Code.isCreation, Code.isGuard, Code.isCaller, Code.frames, Code.isFrame, guardIds]
theorem make_units {A : Around} {C : Addr} {us : List Value} {kw : List (Str × Value)} : (A.under (.builtin "type.__call__" ⟨.ref C :: us, kw⟩)).units = A.units + 1 := by
  first | rfl | simp [Around.under, Code.cUnits, Code.frames, Code.isFrame]
theorem Room.make {k : Nat} {A : Around} (r : Room (k + 1) A) (C : Addr) (us : List Value) (kw : List (Str × Value)) : Room k (A.under (.builtin "type.__call__" ⟨.ref C :: us, kw⟩)) :=
  ⟨r.hd, by have := r.dp; rw [make_depth]; omega, by have := r.un; rw [make_units]; omega⟩
theorem Room.depth {k : Nat} {A : Around} (r : Room k A) : A.depth < recursionLimit := by have := r.dp; omega
noncomputable def tNil : TA := fun _ H Q => Q [] H
noncomputable def tCons (ta : TE) (tr : TA) : TA := fun σ H Q => ta σ H fun x H1 => tr σ H1 fun xs H2 => Q (x :: xs) H2
section
variable {X : Cx} {e : Expr} {es : List Expr} {te : TE} {t : TA} {pos : Pos}
theorem pa_nil : PA X [] tNil := fun _ _ _ _ H Q I h => Calls.spliced_nil ⟨[], H, I, .nil, h⟩
theorem pa_cons (ha : PE X e te) (hr : PA X es t) (hs : starEach (e :: es) X.env = (false, eval e X.env) :: starEach es X.env := by rfl) : PA X (e :: es) (tCons te t) := by
  intro pos pins s σ H Q I h
  rw [hs]
  show wpAny _ _ (spliced ((false, eval e X.env) :: backTo pos (starEach es X.env))) _ _ s
  refine Calls.spliced_cons (thn (ha pins s σ H _ I h) fun u s1 zz => ?_)
  obtain ⟨x, H1, I1, r1, q1⟩ := zz
  exact thn (hr pos pins s1 σ H1 _ I1 q1) fun us s2 ⟨xs, H2, I2, r2, q2⟩ => ⟨x :: xs, H2, I2, .cons r1 r2, q2⟩
noncomputable def tTup (t : TA) : TE := fun σ H Q => t σ H fun xs H1 => xs.length ≤ sizeLine ∧ ∀ p, H1 p = none → Q (.ref p) (upd H1 p (.tup xs))
noncomputable def tLst (t : TA) : TE := fun σ H Q => t σ H fun xs H1 => xs.length ≤ sizeLine ∧ ∀ p, H1 p = none → Q (.ref p) (upd H1 p (.lst xs))
theorem pe_tup {x1} (h : PA X es t) : PE X (.Tuple es x1 pos) (tTup t) := by
  intro pins s σ H Q I hq
  refine wpAny_Tuple_spliced (thn (h pos pins s σ H _ I hq) fun us s1 ⟨xs, H1, I1, r, z, q⟩ => ⟨by rw [← r.length]; exact z, ?_⟩)
  have hf : H1 s1.heap.objs.size = none := I1.hok.fresh (Nat.le_refl _)
  refine ⟨.ref s1.heap.objs.size, upd H1 s1.heap.objs.size (.tup xs), I1.laid (t' := s1.toks) (fun b u e => Heap.get?_push_of_some _ e) (Nat.le_refl _) ?_, rfl, q _ hf⟩
  exact ⟨z, us, r, ⟨_, Heap.get?_push_size _ rfl, rfl, _, rfl⟩⟩
theorem pe_lst (h : PA X es t) : PE X (.List es pos) (tLst t) := by
  intro pins s σ H Q I hq
  refine wpAny_List_spliced (thn (h pos pins s σ H _ I hq) fun us s1 ⟨xs, H1, I1, r, z, q⟩ => ⟨by rw [← r.length]; exact z, ?_⟩)
  have hf : H1 s1.heap.objs.size = none := I1.hok.fresh (Nat.le_refl _)
  refine ⟨.ref s1.heap.objs.size, upd H1 s1.heap.objs.size (.lst xs), I1.laid (t' := s1.toks) (fun b u e => Heap.get?_push_of_some _ e) (Nat.le_refl _) ?_, rfl, q _ hf⟩
  exact ⟨z, us, 0, r, Heap.get?_push_size _ rfl⟩
end
noncomputable abbrev Sp := List V → Hp → VK → XK → Prop
noncomputable abbrev CXT := List Env → Hp → Shared → XK → Value → Shared → Prop
structure Env0 (P : Program) (w : World) (K : PySem.W.Frag) (mg : Str → Option Value) (base : Heap) (A : Around) (outer : List Env) (s : Shared) (H : Hp) : Prop where
  frames : A.frames = some outer
  mod : Mod K mg base
  bs : ∀ b o, base.get? b = some o → s.heap.get? b = some o ∧ H b = none
  bsz : base.objs.size ≤ s.heap.objs.size
  funs : s.heap.FunFrames base outer
  frf : ∀ b ∈ frs outer, H b = none
  hok : HOk P w H s.heap
  bare : AllBare s.gens
noncomputable def CE (outer : List Env) (P : Program) (w : World) (H : Hp) (s : Shared) (Q : VK) (u : Value) (s' : Shared) : Prop :=
  ∃ v H', s'.os = s.os ∧ AllBare s'.gens ∧ Un (frs outer) [] H H' s.heap s'.heap ∧ HOk P w H' s'.heap ∧ RelV v u ∧ Q v H'
noncomputable def CR (CX : CXT) (outer : List Env) (P : Program) (w : World) (H : Hp) (s : Shared) (Q : VK) (E : XK) (r : Result) (s' : Shared) : Prop :=
  match r with
  | .ok (.ret u) => CE outer P w H s Q u s'
  | .ok _ => False
  | .error e => CX outer H s E e s'
structure FnOk (P : Program) (w : World) (K : PySem.W.Frag) (mg : Str → Option Value) (base : Heap) (CX : CXT) (k : Nat) (f : Addr) (fd : FuncData) (ps : List Str) (sp : Sp) : Prop where
  len : ∀ vs H Q E, sp vs H Q E → vs.length = ps.length
  run : ∀ (A : Around) (outer : List Env) (s : Shared) (H : Hp) (args : Args) (us : List Value) (vs : List V) (Q : VK) (E : XK), Room k A → Env0 P w K mg base A outer s H → BindsTo s fd args (ps.zip us) → Vals vs us → sp vs H Q E →
    codeAny (model P w) A (.call (.ref f) args) (CR CX outer P w H s Q E) s
theorem FnOk.imp {P : Program} {w : World} {K : PySem.W.Frag} {mg : Str → Option Value} {base : Heap} {CX : CXT} {k : Nat} {f : Addr} {fd : FuncData} {ps : List Str} {sp sp' : Sp} (F : FnOk P w K mg base CX k f fd ps sp)
    (h : ∀ vs H Q E, sp' vs H Q E → sp vs H Q E) : FnOk P w K mg base CX k f fd ps sp' :=
  ⟨fun vs H Q E q => F.len vs H Q E (h _ _ _ _ q), fun A outer s H args us vs Q E hr he hb hv hs => F.run A outer s H args us vs Q E hr he hb hv (h _ _ _ _ hs)⟩
theorem Env0.make {P : Program} {w : World} {K : PySem.W.Frag} {mg : Str → Option Value} {base : Heap} {A : Around} {outer : List Env} {s : Shared} {H : Hp} (e : Env0 P w K mg base A outer s H) (C : Addr) (us : List Value) (kw : List (Str × Value)) :
    Env0 P w K mg base (A.under (.builtin "type.__call__" ⟨.ref C :: us, kw⟩)) outer s H := ⟨by first | exact e.frames | (simpa [Around.under, Code.envs, Code.isFrame, pushEnvs] using e.frames), e.mod, e.bs, e.bsz, e.funs, e.frf, e.hok, e.bare⟩
section
variable {X : Cx} {pins : List (Addr × Obj)} {σ : St} {H : Hp} {s s' : Shared}
theorem Inv.env0 (I : Inv X pins σ H s) : Env0 X.prog X.w X.K X.mg X.base X.A X.stack s H :=
  ⟨I.ok.frames, I.ok.mod, I.bs, Nat.le_trans I.ok.bsz I.sz, I.stack, I.stkFree, I.hok, I.bare⟩
theorem Inv.after {Q : VK} {u : Value} (I : Inv X pins σ H s) (h : CE X.stack X.prog X.w H s Q u s') : EP X pins σ Q u s' := by
  obtain ⟨v, H', os, bare, un, hok, r, q⟩ := h
  obtain ⟨hh, g, d, t, os'⟩ := s'
  obtain rfl : os' = s.os := os
  exact ⟨v, H', I.call (h' := hh) (g' := g) (d' := d) (t' := t) (ch := []) un hok bare (fun b z => absurd z (by simp)), r, q⟩
end
noncomputable def tCall (sp : Sp) (dvs : List V) (E : XK) (t : TA) : TE := fun σ H Q => t σ H fun vs H1 => sp (vs ++ dvs) H1 Q E
noncomputable def Binds (K : PySem.W.Frag) (fd : FuncData) (ps : List Str) (ds : List Value) : Prop :=
  ∀ (s : Shared) (us : List Value), K.In s.heap → (us ++ ds).length = ps.length → BindsTo s fd ⟨us, []⟩ (ps.zip (us ++ ds))
theorem Binds.all {K : PySem.W.Frag} {fd : FuncData} {ps : List Str} (h : ∀ us : List Value, us.length = ps.length → bindArgs fd ⟨us, []⟩ = pure (ps.zip us)) : Binds K fd ps [] := fun s us _ hl => by
  rw [List.append_nil] at hl ⊢
  exact .of_eq (h us hl)
noncomputable def Passes (CX : CXT) (X : Cx) (E : XK) : Prop := ∀ (pins : List (Addr × Obj)) (σ : St) (H : Hp) (s : Shared) (e : Value) (s' : Shared), Inv X pins σ H s → CX X.stack H s E e s' → X.xe e s'
section
variable {X : Cx} {CX : CXT} {k : Nat} {f C : Addr} {fd : FuncData} {ps : List Str} {sp : Sp} {dvs : List V} {ds : List Value} {E : XK} {x m : Str} {p pos apos : Pos} {e o : Expr} {es : List Expr} {ta : TE} {t : TA}
theorem run_fn {pins : List (Addr × Obj)} {σ : St} {H : Hp} {s : Shared} {Q : VK} {us : List Value} {vs : List V} (F : FnOk X.prog X.w X.K X.mg X.base CX k f fd ps sp) (hr : Room k X.A) (hb : Binds X.K fd ps ds) (hd : Vals dvs ds) (hx : Passes CX X E)
    (I : Inv X pins σ H s) (r : Vals vs us) (h : sp (vs ++ dvs) H Q E) : wpAny (model X.prog X.w) X.A (call (.ref f) us) (EP X pins σ Q) X.xe s := by
  have r2 : Vals (vs ++ dvs) (us ++ ds) := r.append hd
  have hl : (us ++ ds).length = ps.length := by rw [← r2.length]; exact F.len _ _ _ _ h
  refine wpAny_call (codeAny_mono (F.run X.A X.stack s H ⟨us, []⟩ (us ++ ds) (vs ++ dvs) Q E hr I.env0 (hb s us I.kIn hl) r2 h) fun r s' hq => ?_)
  cases r with
  | error e => exact hx pins σ H s e s' I hq
  | ok fl =>
    cases fl with
    | ret u => exact I.after hq
    | next => exact False.elim hq
    | brk => exact False.elim hq
    | cont => exact False.elim hq
theorem pe_call (F : FnOk X.prog X.w X.K X.mg X.base CX k f fd ps sp) (hr : Room k X.A) (hg : Gl X x) (hm : X.mg x = some (.ref f)) (hk : PySem.W.keepIn X.K (.ref f) = true) (hb : Binds X.K fd ps ds) (hd : Vals dvs ds) (hx : Passes CX X E)
    (ha : PA X (e :: es) t) (hdb : (x == ("__debug__" : Str)) = false := by decide) (he : starEach (e :: es) X.env = (false, eval e X.env) :: starEach es X.env := by rfl) (hpl : (backTo pos (starEach es X.env)).any (·.1) = false := by rfl) :
    PE X (.Call (.Name x p) (e :: es) [] pos) (tCall sp dvs E t) := by
  intro pins s σ H Q I h
  refine wpAny_Call_Name_kw (ld_glob I hg hm ?_ hdb)
  refine PySem.W.callWith_K (h₀ := X.base) I.ok.mod.kin hk (thn (ha pos pins s σ H _ I h) fun us s1 ⟨vs, H1, I1, r, q⟩ => ⟨I1.kIn, ?_⟩) he hpl
  exact run_fn F hr hb hd hx I1 r q
end
section
variable {X : Cx} {CX : CXT} {k : Nat} {f C : Addr} {fd : FuncData} {ps ks : List Str} {sp : Sp} {E : XK} {x m : Str} {p pos apos kpos : Pos} {e o : Expr} {es : List Expr} {kws : List Keyword} {te ta : TE} {t tk : TA} {nm : Option Str}
variable {g : List Value → List Value → List Value} {gV : List V → List V → List V}
end
structure FnScope (N P : List Str) (sc : Scope) : Prop where
  kind : sc.kind = .function
  co : sc.isCoroutine = false
  gen : sc.isGenerator = false
  nd : N.Nodup
  pre : N.take P.length = P
  par : ∀ x ∈ P, sc.names.lookup x = some .local ∨ sc.names.lookup x = some .cell
  nofree : ∀ y ∈ sc.names, y.2 ≠ .free
theorem bindL_out {kindOf : Str → Option NameKind} {x : Str} : ∀ {binds : List (Str × Value)} {m : Str → Option Value}, (∀ v, (x, v) ∉ binds) → bindL kindOf binds m x = m x
  | [], _, _ => rfl
  | (n, v) :: r, m, h => by
    unfold bindL
    rw [bindL_out fun w hw => h w (List.mem_cons_of_mem _ hw)]
    split
    · have : x ≠ n := by rintro rfl; exact h v List.mem_cons_self
      simp [this]
    · rfl
theorem bindC_out {kindOf : Str → Option NameKind} {x : Str} : ∀ {binds : List (Str × Value)} {m : Str → Option Value}, (∀ v, (x, v) ∉ binds) → bindC kindOf binds m x = m x
  | [], _, _ => rfl
  | (n, v) :: r, m, h => by
    unfold bindC
    rw [bindC_out fun w hw => h w (List.mem_cons_of_mem _ hw)]
    split
    · rfl
    · have : x ≠ n := by rintro rfl; exact h v List.mem_cons_self
      simp [this]
theorem bindL_get {kindOf : Str → Option NameKind} {x : Str} {v : Value} : ∀ {P : List Str} {vs : List Value} {i : Nat} {m : Str → Option Value}, P.Nodup → P[i]? = some x → vs[i]? = some v → kindOf x = some .local →
    bindL kindOf (P.zip vs) m x = some v
  | [], _, _, _, _, h, _, _ => by simp at h
  | _ :: _, [], _, _, _, _, h, _ => by simp at h
  | p :: P, w :: vs, 0, m, nd, h1, h2, hk => by
    simp at h1 h2; subst h1; subst h2
    show bindL kindOf ((p, w) :: P.zip vs) m p = _
    unfold bindL
    rw [bindL_out fun v hv => (List.nodup_cons.mp nd).1 (List.of_mem_zip hv).1, if_pos hk]
    simp
  | p :: P, w :: vs, i + 1, m, nd, h1, h2, hk => by
    show bindL kindOf ((p, w) :: P.zip vs) m x = _
    unfold bindL
    exact bindL_get (i := i) (List.nodup_cons.mp nd).2 (by simpa using h1) (by simpa using h2) hk
theorem bindC_get {kindOf : Str → Option NameKind} {x : Str} {v : Value} : ∀ {P : List Str} {vs : List Value} {i : Nat} {m : Str → Option Value}, P.Nodup → P[i]? = some x → vs[i]? = some v → kindOf x ≠ some .local →
    bindC kindOf (P.zip vs) m x = some v
  | [], _, _, _, _, h, _, _ => by simp at h
  | _ :: _, [], _, _, _, _, h, _ => by simp at h
  | p :: P, w :: vs, 0, m, nd, h1, h2, hk => by
    simp at h1 h2; subst h1; subst h2
    show bindC kindOf ((p, w) :: P.zip vs) m p = _
    unfold bindC
    rw [bindC_out fun v hv => (List.nodup_cons.mp nd).1 (List.of_mem_zip hv).1, if_neg hk]
    simp
  | p :: P, w :: vs, i + 1, m, nd, h1, h2, hk => by
    show bindC kindOf ((p, w) :: P.zip vs) m x = _
    unfold bindC
    exact bindC_get (i := i) (List.nodup_cons.mp nd).2 (by simpa using h1) (by simpa using h2) hk
noncomputable def start (N : List Str) (vs : List V) : St := vs.map some ++ List.replicate (N.length - vs.length) none
noncomputable def cxOf (CX : CXT) (P : Program) (w : World) (K : PySem.W.Frag) (mg : Str → Option Value) (base : Heap) (N : List Str) (qual : Str) (scope : Scope) (f : Addr) (cd : Value) (A : Around) (outer : List Env) (s : Shared) (H : Hp) (E : XK) : Cx where
  prog := P
  w := w
  K := K
  mg := mg
  base := base
  A := A.deeper (envOfC qual scope s.heap.objs.size f cd)
  N := N
  s₀ := s
  H₀ := H
  env := envOfC qual scope s.heap.objs.size f cd
  outer := outer
  stack := envOfC qual scope s.heap.objs.size f cd :: outer
  ex := []
  calm := true
  fn := fun _ => true
  pn := []
  xe := fun e s' => wpAny (model P w) (A.deeper (envOfC qual scope s.heap.objs.size f cd)) (leaving (envOfC qual scope s.heap.objs.size f cd) e) (fun _ s'' => CX outer H s E e s'') (fun e' s'' => CX outer H s E e' s'') s'
theorem cell_has {sc : Scope} {n : Nat} {x : Str} (h : sc.names.lookup x = some .cell) : ∃ c, (cellsFrom n sc.names []).lookup x = some c := by
  have q := PySem.W.cellsFrom_some sc.names n [] (.inl h)
  exact Option.isSome_iff_exists.mp q
theorem inv_start {CX : CXT} {P : Program} {w : World} {K : PySem.W.Frag} {mg : Str → Option Value} {base : Heap} {N ps : List Str} {qual : Str} {scope : Scope} {f : Addr} {cd : Value} {A : Around} {outer : List Env} {s s1 : Shared} {H : Hp} {E : XK} {us : List Value} {vs : List V}
    (S : FnScope N ps scope) (hd : A.handled = none) (e0 : Env0 P w K mg base A outer s H) (hl : vs.length = ps.length) (r : Vals vs us)
    (x : InCallC s s.heap.objs.size (bindL (envOfC qual scope s.heap.objs.size f cd).kindOf (ps.zip us) fun _ => none) (cellsFrom (s.heap.objs.size + 1) scope.names []) (bindC (envOfC qual scope s.heap.objs.size f cd).kindOf (ps.zip us) fun _ => none) s1) :
    Inv (cxOf CX P w K mg base N qual scope f cd A outer s H E) [] (start N vs) H s1 := by
  have hpl : ps.length ≤ N.length := by have := congrArg List.length S.pre; rw [List.length_take] at this; omega
  obtain ⟨h1, tk, rfl, hk⟩ := x.done
  have noA : ∀ b : Addr, b ∉ (cxOf CX P w K mg base N qual scope f cd A outer s H E).ex := fun b z => absurd (show b ∈ ([] : List Addr) from z) (by simp)
  refine ⟨⟨e0.mod, S.kind, rfl, rfl, Nat.le_refl _, fun y z c h1 h2 => ?_, fun y hy => ?_, fun y c _ h => ?_, fun _ => hd, Around.frames_deeper e0.frames, .inr ⟨rfl, rfl⟩, fun b z => absurd z (noA b), e0.bs, e0.bsz, fun b _ _ => noA b, fun b z => absurd z (noA b), e0.funs, e0.frf⟩,
    rfl, e0.bare, Un.kept hk, ⟨_, x.toInCall.ns, fun i y v h1 h2 h3 => ?_⟩, fun y c h => ⟨_, x.cell y c h⟩, e0.hok.fresh (Nat.le_refl _), fun y c h => ?_, fun p hp => absurd (show p ∈ ([] : List (Addr × Obj)) from hp) (by simp), e0.hok.kept hk, ?_⟩
  · exact name_of_addr x.apart (PySem.mem_of_lookup h1) (PySem.mem_of_lookup h2)
  · have hy : scope.names.lookup y = some .cell ∨ scope.names.lookup y = some .free := hy
    rcases hy with hy | hy
    · exact cell_has hy
    · exact absurd rfl (S.nofree _ (PySem.mem_of_lookup hy))
  · exact Nat.le_of_lt (x.above y c (PySem.mem_of_lookup h))
  · have hi : i < vs.length := by
      unfold start at h2
      by_cases hi : i < vs.length
      · exact hi
      · rw [List.getElem?_append_right (by simpa using hi)] at h2
        rw [List.getElem?_replicate] at h2
        split at h2 <;> cases h2
    have ha : vs[i]? = some v := by
      unfold start at h2
      rw [List.getElem?_append_left (by simpa using hi), List.getElem?_map] at h2
      cases e : vs[i]? with
      | none => rw [e] at h2; cases h2
      | some a => rw [e] at h2; cases h2; rfl
    obtain ⟨u, hu, rv⟩ := r.get ha
    have hp : ps[i]? = some y := by
      rw [← S.pre, List.getElem?_take_of_lt (by omega)]; exact h1
    have ndP : ps.Nodup := by rw [← S.pre]; exact S.nd.sublist (List.take_sublist _ _)
    refine ⟨u, rv, ?_⟩
    rcases S.par y (List.mem_of_getElem? hp) with k | k
    · exact .inl ⟨k, bindL_get ndP hp hu k⟩
    · obtain ⟨c, e⟩ := cell_has (n := s.heap.objs.size + 1) k
      refine .inr ⟨.inl k, c, e, ?_⟩
      have q := x.cell y c e
      rw [bindC_get ndP hp hu (by show scope.names.lookup y ≠ _; rw [k]; decide)] at q
      exact q
  · exact e0.hok.fresh (Nat.le_of_lt (x.above y c (PySem.mem_of_lookup h)))
  · unfold start
    show _ = N.length
    rw [List.length_append, List.length_map, List.length_replicate]
    omega
theorem fn_of {CX : CXT} {P : Program} {w : World} {K : PySem.W.Frag} {mg : Str → Option Value} {base : Heap} {k : Nat} {f : Addr} {name qual : Str} {params : Arguments} {body : List Stmt} {scope : Scope} {dV kV doc pm cdv ct oc : Value} {an od : Option Addr}
    {osl : Array (Option Value)} {N ps : List Str} {sp : Sp} (lk : K.lookup f = some ⟨oc, od, .func (PySem.W.fnOf name qual params body scope dV kV doc pm an cdv ct), osl⟩) (hcd : PySem.W.codeIn K cdv qual = true) (S : FnScope N ps scope)
    (len : ∀ vs H Q E, sp vs H Q E → vs.length = ps.length)
    (hbody : ∀ (A : Around) (outer : List Env) (s : Shared) (H : Hp) (vs : List V) (Q : VK) (E : XK), Room k (A.deeper (envOfC qual scope s.heap.objs.size f cdv)) → sp vs H Q E →
      ∃ t, PSs (cxOf CX P w K mg base N qual scope f cdv A outer s H E) body t ∧ t { nx := fun _ H' => Q .non H', rt := Q } (start N vs) H) :
    FnOk P w K mg base CX (k + 1) f (PySem.W.fnOf name qual params body scope dV kV doc pm an cdv ct) ps sp := by
  refine ⟨len, fun A outer s H args us vs Q E hr e0 hb r hsp => ?_⟩
  have hl := len _ _ _ _ hsp
  have KX : K.In s.heap := e0.mod.kin.keeps fun b o e => (e0.bs b o e).1
  have lim : s.heap.NoLimit := e0.mod.nolimit.keeps fun b o e => (e0.bs b o e).1
  have hkind : ∀ y ∈ ps.zip us, scope.names.lookup y.1 = some .local ∨ (scope.names.lookup y.1 = some .cell ∧ ((cellsFrom (s.heap.objs.size + 1) scope.names []).lookup y.1).isSome = true) := fun ⟨n, v⟩ hy => by
    rcases S.par n (List.of_mem_zip hy).1 with q | q
    · exact .inl q
    · exact .inr ⟨q, PySem.W.cellsFrom_some _ _ _ (.inl q)⟩
  refine codeAny_call_function hr.depth (KX _ _ lk) rfl S.co S.gen rfl (PySem.W.codeRec_of KX hcd) (hb _ _ _ _ ?_)
  refine wpAny_newFunctionEnv_cells S.kind hkind fun env he s1 x => ?_
  subst he
  refine ⟨lim.keeps x.toInCall.keep, codeAny_func ?_⟩
  obtain ⟨t, ht, hq⟩ := hbody A outer s H vs Q E (hr.deeper _) hsp
  have I : Inv (cxOf CX P w K mg base N qual scope f cdv A outer s H E) [] (start N vs) H s1 := inv_start S hr.hd e0 hl r x
  refine wpAny_mono (ht [] s1 (start N vs) H _ I hq) (fun fl s' hs => ?_) fun e s' hs => hs
  have fin : ∀ {σ' : St} {H' : Hp} {v : V} {u : Value}, Inv (cxOf CX P w K mg base N qual scope f cdv A outer s H E) [] σ' H' s' → RelV v u → Q v H' → CE outer P w H s Q u s' :=
    fun {σ' H' v u} J rv q => ⟨v, H', J.os, J.bare, J.base, J.hok, rv, q⟩
  cases fl with
  | ret u =>
    obtain ⟨v, σ', H', J, rv, q⟩ := hs
    exact fin J rv q
  | next =>
    obtain ⟨σ', H', J, q⟩ := hs
    exact fin (v := V.non) (u := Value.none) J rfl q
  | brk =>
    obtain ⟨_, _, _, q⟩ := hs
    exact False.elim q
  | cont =>
    obtain ⟨_, _, _, q⟩ := hs
    exact False.elim q
end L2
namespace L2
open PySem PySem.Spec PyProof.Rows
section
variable {X : Cx} {x : Str} {p pos : Pos} {e : Expr} {es : List Expr} {t : TA} {id T : String} {r : List V → Hp → VK → Prop}
noncomputable def tCB (r : List V → Hp → VK → Prop) (t : TA) : TE := fun σ H Q => t σ H fun vs H1 => r vs H1 Q
theorem pe_callB (hc : CallR X (.builtin id) r) (hg : Gl X x) (hm : X.mg x = none) (hv : bootBuiltins x = some (.builtin id)) (ha : PA X (e :: es) t) (hn : x ≠ "__name__" := by decide) (hdb : (x == ("__debug__" : Str)) = false := by decide)
    (he : starEach (e :: es) X.env = (false, eval e X.env) :: starEach es X.env := by rfl) (hpl : (backTo pos (starEach es X.env)).any (·.1) = false := by rfl) : PE X (.Call (.Name x p) (e :: es) [] pos) (tCB r t) := by
  intro pins s σ H Q I h
  refine wpAny_Call_Name_kw (ld_blt I hg hm hv ?_ hn hdb)
  exact PyProof.Rows.callWith_builtin1 (thn (ha pos pins s σ H _ I h) fun us s1 ⟨vs, H1, I1, r1, q1⟩ => hc pins s1 σ H1 vs us Q I1 r1 q1) he hpl
theorem pe_callTy (hc : CallR X (.type T) r) (hg : Gl X x) (hm : X.mg x = none) (hv : bootBuiltins x = some (.type T)) (ha : PA X (e :: es) t) (hn : x ≠ "__name__" := by decide) (hdb : (x == ("__debug__" : Str)) = false := by decide)
    (he : starEach (e :: es) X.env = (false, eval e X.env) :: starEach es X.env := by rfl) (hpl : (backTo pos (starEach es X.env)).any (·.1) = false := by rfl) : PE X (.Call (.Name x p) (e :: es) [] pos) (tCB r t) := by
  intro pins s σ H Q I h
  refine wpAny_Call_Name_kw (ld_blt I hg hm hv ?_ hn hdb)
  exact PyProof.Rows.callWith_type1 (thn (ha pos pins s σ H _ I h) fun us s1 ⟨vs, H1, I1, r1, q1⟩ => hc pins s1 σ H1 vs us Q I1 r1 q1) he hpl
end
end L2
namespace HT
open PySem PyProof.Rows
section
open PySem.SeqAt
open PySem.AutoSeq1 (wpAny_loadPart')
open PySem.MeetsSeq PySem.MeetsSeq2 PySem.MeetsSeq3
end
section
variable {prog : Program} {w : World} {A : Around} {E : Value → Shared → Prop} {s : Shared}
noncomputable def sIx (n d : Nat) : Option Int → Nat
  | none => d
  | some v => if v < 0 then (v + (n : Int)).toNat else min v.toNat n
theorem sIx_none (n d : Nat) : sIx n d none = d := rfl
theorem sIx_nat (n d k : Nat) : sIx n d (some (k : Int)) = min k n := by
  show (if (k : Int) < 0 then ((k : Int) + (n : Int)).toNat else min (k : Int).toNat n) = min k n
  rw [if_neg (by omega), Int.toNat_natCast]
end
end HT
namespace L2
open PySem PySem.Spec PyProof.Rows
noncomputable abbrev TO := St → Hp → (Option Int → Hp → Prop) → Prop
noncomputable def PO (X : Cx) (e : Option Expr) (t : TO) : Prop :=
  ∀ (pins : List (Addr × Obj)) (s : Shared) (σ : St) (H : Hp) (Q : Option Int → Hp → Prop), Inv X pins σ H s → t σ H Q →
    wpAny (model X.prog X.w) X.A (evalPart e X.env) (fun u s' => ∃ o H', Inv X pins σ H' s' ∧ IsPart u o ∧ Q o H') X.xe s
noncomputable def tNoPart : TO := fun _ H Q => Q none H
noncomputable def tPart (t : TE) : TO := fun σ H Q => t σ H fun x H1 => ∃ i, x = .int i ∧ Q (some i) H1
section
variable {X : Cx} {e : Expr} {te : TE} {lo hi : Option Expr} {tl th : TO} {pos p2 : Pos}
theorem po_none : PO X none tNoPart := by
  intro pins s σ H Q I h
  rw [evalPart_none]
  exact wpAny_pure ⟨none, H, I, .none, h⟩
theorem po_some (h : PE X e te) : PO X (some e) (tPart te) := by
  intro pins s σ H Q I hw
  rw [evalPart_some]
  refine thn (h pins s σ H _ I hw) fun u s1 zz => ?_
  obtain ⟨x, H1, I1, r1, q1⟩ := zz
  obtain ⟨i, rfl, q⟩ := q1
  obtain ⟨t, rfl⟩ := r1
  exact ⟨some i, H1, I1, .int i t, q⟩
noncomputable def SlR (X : Cx) (r : V → Option Int → Option Int → Hp → VK → Prop) : Prop :=
  ∀ (pins : List (Addr × Obj)) (s : Shared) (σ : St) (H : Hp) (x : V) (v vl vu : Value) (lo hi : Option Int) (sl : Addr) (Q : VK), Inv X pins σ H s → RelV x v → s.heap.IsSliceOf sl vl vu .none → IsPart vl lo → IsPart vu hi → r x lo hi H Q →
    ∃ T id, typeLookup (.type T) "__getitem__" = pure (some (.builtin id)) ∧ s.TypeIs v T ∧ wpAny (model X.prog X.w) X.A (getItem v (.ref sl)) (EP X pins σ Q) X.xe s
noncomputable def tSl (r : V → Option Int → Option Int → Hp → VK → Prop) (te : TE) (tl th : TO) : TE := fun σ H Q => te σ H fun x H1 => tl σ H1 fun l H2 => th σ H2 fun u H3 => r x l u H3 Q
theorem pe_slice {r : V → Option Int → Option Int → Hp → VK → Prop} (hr : SlR X r) (he : PE X e te) (hl : PO X lo tl) (hu : PO X hi th) : PE X (.Subscript e (.Slice lo hi none p2) pos) (tSl r te tl th) := by
  intro pins s σ H Q I h
  refine Subscript_ (thn (he pins s σ H _ I h) fun v s1 zz => ?_)
  obtain ⟨x, H1, I1, r1, q1⟩ := zz
  refine wpAny_Slice (thn (hl pins s1 σ H1 _ I1 q1) fun vl s2 ⟨l, H2, I2, pl, q2⟩ => thn (hu pins s2 σ H2 _ I2 q2) fun vu s3 zz => ?_)
  obtain ⟨u, H3, I3, pu, q3⟩ := zz
  rw [evalPart_none]
  refine wpAny_pure ?_
  have I4 : Inv X pins σ H3 { s3 with heap := s3.heap.push { cls := .type "slice", data := .fields #[vl, vu, .none] } } := I3.kept (t' := s3.toks) fun b ob q => Heap.get?_push_of_some _ q
  obtain ⟨T, id, hT, ht, hg⟩ := hr pins { s3 with heap := s3.heap.push { cls := .type "slice", data := .fields #[vl, vu, .none] } } σ H3 x v vl vu l u s3.heap.objs.size Q I4 r1 (Heap.IsSliceOf.new ..) pl pu q3
  show wpAny (model X.prog X.w) X.A (subscriptTail e (.Slice lo hi none p2) v (.ref s3.heap.objs.size)) (EP X pins σ Q) X.xe { s3 with heap := s3.heap.push { cls := .type "slice", data := .fields #[vl, vu, .none] } }
  exact tail_any (ops := [.ref s3.heap.objs.size, v]) ht hT hg (by with_unfolding_all rfl)
noncomputable def cutV (xs : List V) (lo hi : Option Int) : List V := (xs.drop (HT.sIx xs.length 0 lo)).take (HT.sIx xs.length xs.length hi - HT.sIx xs.length 0 lo)
theorem cutV_length (xs : List V) (lo hi : Option Int) : (cutV xs lo hi).length ≤ xs.length := by
  unfold cutV
  rw [List.length_take, List.length_drop]
  omega
end
end L2
namespace L2
open PySem PySem.Spec PyProof.Rows
noncomputable def ixN (n : Nat) (i : Int) : Option Nat := if 0 ≤ i then (if i < n then some i.toNat else none) else if -(n : Int) ≤ i then some (i + n).toNat else none
noncomputable def atI {α : Type} (xs : List α) (i : Int) : Option α := (ixN xs.length i).bind fun j => xs[j]?
theorem ixN_seq {n : Nat} {i : Int} {j : Nat} (h : ixN n i = some j) : seqIndex? i n = some j ∧ j < n ∧ -(n : Int) ≤ i ∧ i < n := by
  unfold ixN at h
  by_cases h0 : 0 ≤ i
  · rw [if_pos h0] at h
    by_cases h1 : i < n
    · rw [if_pos h1] at h
      have e : i.toNat = j := Option.some.inj h
      exact ⟨by rw [seqIndex_of h0 h1, e], by omega, by omega, h1⟩
    · rw [if_neg h1] at h; cases h
  · rw [if_neg h0] at h
    by_cases h1 : -(n : Int) ≤ i
    · rw [if_pos h1] at h
      have e : (i + n).toNat = j := Option.some.inj h
      exact ⟨by rw [seqIndex_neg (by omega) h1, e], by omega, h1, by omega⟩
    · rw [if_neg h1] at h; cases h
theorem atI_get {α : Type} {xs : List α} {i : Int} {v : α} (h : atI xs i = some v) : ∃ j, seqIndex? i xs.length = some j ∧ xs[j]? = some v ∧ j < xs.length ∧ -(xs.length : Int) ≤ i ∧ i < xs.length := by
  unfold atI at h
  cases e : ixN xs.length i with
  | none => rw [e] at h; cases h
  | some j =>
    rw [e] at h
    obtain ⟨h1, h2, h3, h4⟩ := ixN_seq e
    exact ⟨j, h1, h, h2, h3, h4⟩
theorem atI_nat {α : Type} {xs : List α} {j : Nat} {v : α} (h : xs[j]? = some v) : atI xs (j : Int) = some v := by
  have hj : j < xs.length := (List.getElem?_eq_some_iff.mp h).1
  have e : ixN xs.length (j : Int) = some j := by
    unfold ixN
    rw [if_pos (by omega), if_pos (by omega)]; simp
  unfold atI; rw [e]; exact h
noncomputable def PlainIx (b : Expr) : Prop := ∀ o i, subscripted b false o i = operate [o, i] (getItem o i)
noncomputable def IxR (X : Cx) (r : R2) : Prop :=
  ∀ (value slice : Expr) (pins : List (Addr × Obj)) (s : Shared) (σ : St) (H : Hp) (x y : V) (v u : Value) (Q : VK), Inv X pins σ H s → RelV x v → RelV y u → r x y H Q →
    subscripted slice false v u = operate [v, u] (getItem v u) → wpAny (model X.prog X.w) X.A (subscriptTail value slice v u) (EP X pins σ Q) X.xe s
noncomputable def MtR (X : Cx) (id : String) (r : V → List V → Hp → VK → Prop) : Prop :=
  ∀ (pins : List (Addr × Obj)) (s : Shared) (σ : St) (H : Hp) (x : V) (xs : List V) (v : Value) (us : List Value) (Q : VK), Inv X pins σ H s → RelV x v → Vals xs us → r x xs H Q →
    wpAny (model X.prog X.w) X.A (call (.builtin id) (v :: us)) (EP X pins σ Q) X.xe s
section
variable {X : Cx} {a b : Expr} {ta tb : TE} {pos : Pos}
theorem pe_ix {r : R2} (hr : IxR X r) (ha : PE X a ta) (hb : PE X b tb) (hs : PlainIx b) : PE X (.Subscript a b pos) (tOp r ta tb) := by
  intro pins s σ H Q I h
  exact Subscript_ (binT ha hb I h fun v u s2 x y H2 I2 rx ry q => hr a b pins s2 σ H2 x y v u Q I2 rx ry q (hs _ _))
noncomputable def rIxL (K : PySem.W.Frag) : R2 := fun x y H Q => ∃ p xs i v, x = .ref p ∧ y = .int i ∧ SqL K H p xs ∧ atI xs i = some v ∧ Q v H
noncomputable def rIxT (K : PySem.W.Frag) : R2 := fun x y H Q => ∃ p xs i v, x = .ref p ∧ y = .int i ∧ SqT K H p xs ∧ atI xs i = some v ∧ Q v H
theorem ix_list : IxR X (rIxL X.K) := by
  intro value slice pins s σ H x y v u Q I rx ry h hs
  obtain ⟨p, xs, i, z, rfl, rfl, hq, he, q⟩ := h
  cases rx
  obtain ⟨t, rfl⟩ := ry
  obtain ⟨its, r, pl, hz⟩ := I.list hq
  obtain ⟨j, h1, h2, h3, h4, h5⟩ := atI_get he
  obtain ⟨w, ew, rw'⟩ := r.get h2
  have hl := r.length
  have hn := line63
  have fin : EP X pins σ Q w s := ⟨z, H, I, rw', q⟩
  by_cases h0 : 0 ≤ i
  · have hj : i.toNat = j := by
      rw [seqIndex_of h0 h5] at h1
      exact Option.some.inj h1
    exact item_listR pl.isList h0 (by omega) (by rw [hj]; simpa using ew) fin hs
  · have hj : (i + (its.toArray.size : Int)).toNat = j := by
      rw [seqIndex_neg (by omega) h4] at h1
      rw [List.size_toArray, ← hl]
      exact Option.some.inj h1
    exact subscriptTail_builtinR (x := w) pl.isList.typeIs slot_list_getitem.lookup
      (wpAny_getItem_list_neg (Q := fun r s' => r = w ∧ EP X pins σ Q r s') pl.isList (by omega) (by rw [List.size_toArray] <;> omega) (by omega) (by rw [hj]; simpa using ew) ⟨rfl, fin⟩) hs
theorem ix_tup : IxR X (rIxT X.K) := by
  intro value slice pins s σ H x y v u Q I rx ry h hs
  obtain ⟨p, xs, i, z, rfl, rfl, hq, he, q⟩ := h
  cases rx
  obtain ⟨t, rfl⟩ := ry
  obtain ⟨its, r, pl, hz⟩ := I.tuple hq
  obtain ⟨j, h1, h2, h3, h4, h5⟩ := atI_get he
  obtain ⟨w, ew, rw'⟩ := r.get h2
  have hl := r.length
  have hn := line63
  have fin : EP X pins σ Q w s := ⟨z, H, I, rw', q⟩
  exact subscriptTail_builtinR (x := w) pl.typeIs slot_tuple_getitem.lookup
    (getItem_tuple (j := j) (Q := fun r s' => r = w ∧ EP X pins σ Q r s') pl (by omega) (by omega) (by rw [List.size_toArray, ← hl]; exact h1) (by simpa using ew) ⟨rfl, fin⟩) hs
theorem mapSeq_set (its : List Value) (n j : Nat) (u : Value) : Obj.mapSeq (·.setIfInBounds j u) { cls := .type "list", data := .seq its.toArray n } = { cls := .type "list", data := .seq (its.set j u).toArray n } := by
  simp [Obj.mapSeq]
theorem Inv.lst {pins : List (Addr × Obj)} {σ : St} {H : Hp} {s : Shared} {p : Addr} {xs : List V} (I : Inv X pins σ H s) (h : H p = some (.lst xs)) :
    ∃ (its : List Value) (n : Nat), Vals xs its ∧ s.heap.get? p = some { cls := .type "list", data := .seq its.toArray n } ∧ xs.length ≤ sizeLine := by
  obtain ⟨z, its, n, r, e⟩ := I.hok p _ h
  exact ⟨its, n, r, e, z⟩
theorem Inv.lstUpd {pins : List (Addr × Obj)} {σ : St} {H : Hp} {s : Shared} {p : Addr} {xs ys : List V} {its its' : List Value} {n n' : Nat} {f : Obj → Obj} (I : Inv X pins σ H s) (h : H p = some (.lst xs))
    (ho : s.heap.get? p = some { cls := .type "list", data := .seq its.toArray n }) (hf : f { cls := .type "list", data := .seq its.toArray n } = { cls := .type "list", data := .seq its'.toArray n' }) (r : Vals ys its') (hz : ys.length ≤ sizeLine) (t : Nat) :
    Inv X pins σ (upd H p (.lst ys)) { s with heap := s.heap.update p f, toks := t } := by
  have e : (s.heap.update p f).get? p = some { cls := .type "list", data := .seq its'.toArray n' } := by
    rw [Heap.get?_update_self f ho (by rw [hf] <;> rfl), hf]
  refine I.write (x := p) (e := p) (by rw [h]; trivial) (.inl rfl) (fun b u hb q => (Heap.get?_update_other _ _ (Ne.symm hb)).trans q) ⟨_, e⟩ ?_
  exact ⟨hz, its', n', r, e⟩
noncomputable def rSetL : V → V → V → Hp → (Hp → Prop) → Prop := fun o i v H Q => ∃ p xs k j, o = .ref p ∧ i = .int k ∧ H p = some (.lst xs) ∧ ixN xs.length k = some j ∧ Q (upd H p (.lst (xs.set j v)))
theorem set_list : PSet X rSetL := by
  intro pins s σ H o i v ov iv u Q I ro ri rv h
  obtain ⟨p, xs, k, j, rfl, rfl, hp, hj, q⟩ := h
  cases ro
  obtain ⟨t, rfl⟩ := ri
  obtain ⟨its, n, r, ho, hz⟩ := I.lst hp
  obtain ⟨h1, h2, h3, h4⟩ := ixN_seq hj
  have hl := r.length
  have hn := line63
  have I' : Inv X pins σ (upd H p (.lst (xs.set j v))) { s with heap := s.heap.update p (Obj.mapSeq (·.setIfInBounds j u)) } :=
    I.lstUpd hp ho (mapSeq_set its n j u) (r.set rv j) (by rw [List.length_set]; exact hz) s.toks
  by_cases h0 : 0 ≤ k
  · have hk : k.toNat = j := by
      rw [seqIndex_of h0 h4] at h1
      exact Option.some.inj h1
    exact PySem.W.ki_setAt ho h0 (by omega) (by rw [List.size_toArray, ← hl]; exact h4) (by rw [hk]; exact ⟨_, I', q⟩)
  · have hk : (k + (its.toArray.size : Int)).toNat = j := by
      rw [seqIndex_neg (by omega) h3] at h1
      rw [List.size_toArray, ← hl]
      exact Option.some.inj h1
    exact PySem.W.ki_setBack ho (by omega) (by rw [List.size_toArray, ← hl]; exact h3) (by omega) (by rw [hk]; exact ⟨_, I', q⟩)
theorem slice_bounds (lo hi : Option Int) (n : Nat) : (sliceBounds lo hi none n).1 = ((HT.sIx n 0 lo : Nat) : Int) ∧ (sliceBounds lo hi none n).2.1 = ((HT.sIx n n hi : Nat) : Int) ∧ (sliceBounds lo hi none n).2.2 = 1 := by
  refine ⟨?_, ?_, rfl⟩
  · cases lo with
    | none => simp [sliceBounds, HT.sIx]
    | some i =>
      simp only [sliceBounds, HT.sIx, Option.getD_none, show (1 : Int) > 0 by decide, if_true]
      by_cases h : i < 0
      · simp only [h, if_true] <;> omega
      · simp only [h, if_false] <;> omega
  · cases hi with
    | none => simp [sliceBounds, HT.sIx]
    | some i =>
      simp only [sliceBounds, HT.sIx, Option.getD_none, show (1 : Int) > 0 by decide, if_true]
      by_cases h : i < 0
      · simp only [h, if_true] <;> omega
      · simp only [h, if_false] <;> omega
theorem slicePick_cut (its : List Value) (lo hi : Option Int) : slicePick its.toArray lo hi none = ((its.drop (HT.sIx its.length 0 lo)).take (HT.sIx its.length its.length hi - HT.sIx its.length 0 lo)).toArray := by
  obtain ⟨h1, h2, h3⟩ := slice_bounds lo hi its.toArray.size
  unfold slicePick
  rw [h1, h2, h3]
  simp only [sliceRange_one, pick_run, List.size_toArray] <;> rfl
noncomputable def rSlL (K : PySem.W.Frag) : V → Option Int → Option Int → Hp → VK → Prop := fun x lo hi H Q => ∃ a xs, x = .ref a ∧ SqL K H a xs ∧ ∀ p, H p = none → Q (.ref p) (upd H p (.lst (cutV xs lo hi)))
theorem sl_list : SlR X (rSlL X.K) := by
  intro pins s σ H x v vl vu lo hi sl Q I rx hs pl pu h
  obtain ⟨a, xs, rfl, hx, q⟩ := h
  cases rx
  obtain ⟨its, r, ht, hz⟩ := I.list hx
  have hlen := r.length
  refine ⟨"list", _, slot_list_getitem.lookup, ht.isList.typeIs, ?_⟩
  refine wpAny_getItem_list_slice ht.isList hs pl pu .none (by simp) ?_ (by rw [List.size_toArray] <;> omega)
  rw [slicePick_cut, ← hlen]
  refine ⟨.ref s.heap.objs.size, _, I.laid (t' := s.toks) (o := .lst (cutV xs lo hi)) (fun b ob q => Heap.get?_push_of_some _ q) (Nat.le_refl _) ?_, rfl, q _ (I.hok.fresh (Nat.le_refl _))⟩
  exact ⟨Nat.le_trans (cutV_length xs lo hi) hz, _, 0, (r.drop (HT.sIx xs.length 0 lo)).take (HT.sIx xs.length xs.length hi - HT.sIx xs.length 0 lo), Heap.get?_push_size _ rfl⟩
noncomputable def tyV (K : PySem.W.Frag) (T : String) (x : V) (H : Hp) : Prop := match x with
  | .str _ => T = "str"
  | .int _ => T = "int"
  | .ref p => (T = "list" ∧ ∃ xs, SqL K H p xs) ∨ (T = "tuple" ∧ ∃ o, K.lookup p = some o ∧ o.cls = .type "tuple" ∧ o.dict = none) ∨
      (T = "dict" ∧ ((∃ kvs, H p = some (.dK kvs)) ∨ ∃ kvs, H p = some (.dT kvs))) ∨ (T = "set" ∧ ∃ S n, H p = some (.set S n))
  | _ => False
theorem tyV_is {pins : List (Addr × Obj)} {σ : St} {H : Hp} {s : Shared} {T : String} {x : V} {v : Value} (I : Inv X pins σ H s) (r : RelV x v) (ty : tyV X.K T x H) :
    s.TypeIs v T ∧ ∀ a, v = .ref a → ∃ ob, s.heap.get? a = some ob ∧ ob.dict = none := by
  cases x with
  | str z =>
    obtain ⟨t, rfl⟩ := r
    cases (show T = "str" from ty)
    exact ⟨typeIs_str s z t, fun _ e => nomatch e⟩
  | int i =>
    obtain ⟨t, rfl⟩ := r
    cases (show T = "int" from ty)
    exact ⟨typeIs_int s i t, fun _ e => nomatch e⟩
  | ref p =>
    cases r
    rcases ty with ⟨rfl, xs, hq⟩ | ⟨rfl, o, hk, hc, hd⟩ | ⟨rfl, hk⟩ | ⟨rfl, S, n, hk⟩
    · obtain ⟨its, _, pl, _⟩ := I.list hq
      refine ⟨pl.isList.typeIs, fun a e => ?_⟩
      cases e
      obtain ⟨o, n, e, c, hd, _⟩ := pl
      exact ⟨o, e, hd⟩
    · refine ⟨⟨o, I.kIn p o hk, hc⟩, fun a e => ?_⟩
      cases e
      exact ⟨o, I.kIn _ o hk, hd⟩
    · have z : ∃ o, s.heap.get? p = some o ∧ o.ExactDict := by
        rcases hk with ⟨kvs, hk⟩ | ⟨kvs, hk⟩
        · obtain ⟨_, _, _, _, o, _, _, e, ex, _⟩ := I.hok p _ hk
          exact ⟨o, e, ex⟩
        · obtain ⟨_, _, _, _, o, _, _, e, ex, _⟩ := I.hok p _ hk
          exact ⟨o, e, ex⟩
      obtain ⟨o, e, ex⟩ := z
      refine ⟨⟨o, e, ex.1⟩, fun a e2 => ?_⟩
      cases e2
      exact ⟨o, e, ex.2.1⟩
    · obtain ⟨o, _, _, _, e, ex, _⟩ := I.hok p _ hk
      refine ⟨⟨o, e, ex.1⟩, fun a e2 => ?_⟩
      cases e2
      exact ⟨o, e, ex.2.1⟩
  | _ => exact False.elim ty
noncomputable def tBM0 (K : PySem.W.Frag) (T : String) (r : V → List V → Hp → VK → Prop) (to : TE) : TE := fun σ H Q => to σ H fun x H1 => tyV K T x H1 ∧ r x [] H1 Q
noncomputable def tBM (K : PySem.W.Frag) (T : String) (r : V → List V → Hp → VK → Prop) (to : TE) (t : TA) : TE := fun σ H Q => to σ H fun x H1 => tyV K T x H1 ∧ t σ H1 fun xs H2 => r x xs H2 Q
variable {o e : Expr} {es : List Expr} {to : TE} {t : TA} {name : Str} {apos cpos : Pos} {T id : String} {r : V → List V → Hp → VK → Prop}
theorem pe_bm0 (pa : PlainAttrs T) (slot : Slot T name id) (hty : typeOf (.builtin id) = pure (.type "method_descriptor")) (hm : MtR X id r) (ho : PE X o to)
    (hbase : attributeBase o name X.env (eval o X.env) = eval o X.env := by rfl) (hline : (apos.endLine == cpos.line) = true := by rfl) : PE X (.Call (.Attribute o name apos) [] [] cpos) (tBM0 X.K T r to) := by
  intro pins s σ H Q I h
  refine wpAny_Call_method0_late hbase hline (thn (ho pins s σ H _ I h) fun v s1 zz => ?_)
  obtain ⟨x, H1, I1, r1, ty, q1⟩ := zz
  obtain ⟨h1, h2⟩ := tyV_is I1 r1 ty
  exact ⟨T, id, pa, slot, hty, h1, h2, Calls.callWith_builtin rfl (PySem.evalArgs_none (hm pins s1 σ H1 x [] v [] Q I1 r1 .nil q1))⟩
theorem pe_bm (pa : PlainAttrs T) (slot : Slot T name id) (hty : typeOf (.builtin id) = pure (.type "method_descriptor")) (hm : MtR X id r) (ho : PE X o to) (ha : PA X (e :: es) t)
    (hbase : attributeBase o name X.env (eval o X.env) = eval o X.env := by rfl)
    (hfew : ((backTo cpos (starEach (e :: es) X.env)).all (fun x => !x.1) && (backToKw cpos (keywordEach [] X.env)).all (fun x => x.1.isSome)
      && decide ((e :: es).length + ([] : List Keyword).length + (if ([] : List Keyword).isEmpty then 0 else 1) < 30)) = true := by rfl)
    (hline : (apos.endLine == cpos.line) = true := by rfl) (hs : starEach (e :: es) X.env = (false, eval e X.env) :: starEach es X.env := by rfl) (hplain : (backTo cpos (starEach es X.env)).any (·.1) = false := by rfl) :
    PE X (.Call (.Attribute o name apos) (e :: es) [] cpos) (tBM X.K T r to t) := by
  intro pins s σ H Q I h
  refine wpAny_Call_method_late hbase hfew hline rfl (thn (ho pins s σ H _ I h) fun v s1 zz => ?_)
  obtain ⟨x, H1, I1, r1, ty, q1⟩ := zz
  obtain ⟨h1, h2⟩ := tyV_is I1 r1 ty
  refine ⟨T, id, pa, slot, hty, h1, h2, ?_⟩
  have hA := ha cpos pins s1 σ H1 _ I1 q1
  rw [hs] at hA ⊢
  refine Calls.callWith_builtin (by show (false || (backTo cpos (starEach es X.env)).any (·.1)) = false; rw [hplain] <;> rfl) (Calls.evalArgs_plain ?_)
  exact thn hA fun us s2 ⟨vs, H2, I2, r2, q2⟩ => hm pins s2 σ H2 x vs v us Q I2 r1 r2 q2
end
end L2
namespace L2
open PySem PySem.Spec PyProof.Rows
noncomputable def MtM (X : Cx) (id : String) (r : V → List V → Hp → VK → Prop) : Prop :=
  ∀ (pins : List (Addr × Obj)) (s : Shared) (σ : St) (H : Hp) (x : V) (xs : List V) (v : Value) (us : List Value) (Q : VK), Inv X pins σ H s → RelV x v → Vals xs us → r x xs H Q →
    wpAny (model X.prog X.w) X.A (call (.builtin id) (v :: us)) (EP X pins σ Q) X.xe s
theorem Vals.one : ∀ {x : V} {us : List Value}, Vals [x] us → ∃ u, us = [u] ∧ RelV x u
  | _, _, .cons r .nil => ⟨_, rfl, r⟩
theorem Vals.zero : ∀ {us : List Value}, Vals [] us → us = []
  | _, .nil => rfl
section
variable {X : Cx} {pins : List (Addr × Obj)} {σ : St} {H : Hp} {s : Shared} {l b : Addr} {xs ys zs : List V}
theorem Inv.lset {its its' : List Value} {n : Nat} {f : Array Value → Array Value} {t' : Nat} (I : Inv X pins σ H s) (hH : H l = some (.lst xs))
    (e : s.heap.get? l = some { cls := .type "list", data := .seq its.toArray n }) (hf : f its.toArray = its'.toArray) (hv : Vals ys its') (hz : ys.length ≤ sizeLine) :
    Inv X pins σ (upd H l (.lst ys)) { s with heap := s.heap.update l (Obj.mapSeq f), toks := t' } := by
  have q := PySem.IsL.update e f
  rw [hf] at q
  refine I.write (x := l) (e := l) (by rw [hH]; exact trivial) (.inl rfl) (fun b' u hb hu => (Heap.get?_update_other s.heap (Obj.mapSeq f) (Ne.symm hb)).trans hu) ⟨_, q⟩ ?_
  exact ⟨hz, its', _, hv, q⟩
theorem Inv.lnew {its : List Value} {t' : Nat} (I : Inv X pins σ H s) (hv : Vals ys its) (hz : ys.length ≤ sizeLine) :
    Inv X pins σ (upd H s.heap.objs.size (.lst ys)) { s with heap := s.heap.push { cls := .type "list", data := .seq its.toArray }, toks := t' } :=
  I.laid (fun _ _ q => Heap.get?_push_of_some _ q) (Nat.le_refl _) ⟨hz, its, 0, hv, Heap.get?_push_size _ rfl⟩
theorem Inv.fresh (I : Inv X pins σ H s) : H s.heap.objs.size = none := I.hok.fresh (Nat.le_refl _)
theorem Inv.lstM (I : Inv X pins σ H s) (hH : H l = some (.lst xs)) : xs.length ≤ sizeLine ∧ ∃ (its : List Value) (n : Nat), Vals xs its ∧ xs.length = its.length ∧ s.heap.get? l = some { cls := .type "list", data := .seq its.toArray n } := by
  obtain ⟨z, its, n, r, e⟩ := I.hok l _ hH
  exact ⟨z, its, n, r, r.length, e⟩
end
section
variable {X : Cx}
noncomputable def rAppend : V → List V → Hp → VK → Prop := fun x vs H Q => ∃ l xs y, x = .ref l ∧ vs = [y] ∧ H l = some (.lst xs) ∧ xs.length < sizeLine ∧ Q .non (upd H l (.lst (xs ++ [y])))
theorem mt_append : MtM X "list.append" rAppend := by
  intro pins s σ H x vs v us Q I rx rv h
  obtain ⟨l, xs, y, rfl, rfl, hH, hz, q⟩ := h
  cases rx
  obtain ⟨u, rfl, ru⟩ := rv.one
  obtain ⟨z, its, n, r, hl, e⟩ := I.lstM hH
  refine call_meets F.slot_list_append ⟨_, e, rfl⟩ F.entry_list_append (F.args_list_append_2 _ _) (PySem.list_append l its.toArray n u (by rw [List.size_toArray]; omega)) ⟨e, ?_⟩
  refine ⟨.non, _, I.lset (its' := its ++ [u]) hH e (by simp) (r.append (.cons ru .nil)) ?_, rfl, q⟩
  rw [List.length_append, List.length_singleton]
  omega
noncomputable def rClear : V → List V → Hp → VK → Prop := fun x vs H Q => ∃ l xs, x = .ref l ∧ vs = [] ∧ H l = some (.lst xs) ∧ Q .non (upd H l (.lst []))
theorem mt_clear : MtM X "list.clear" rClear := by
  intro pins s σ H x vs v us Q I rx rv h
  obtain ⟨l, xs, rfl, rfl, hH, q⟩ := h
  cases rx
  have hus := rv.zero
  subst hus
  obtain ⟨z, its, n, r, hl, e⟩ := I.lstM hH
  refine call_meets F.slot_list_clear ⟨_, e, rfl⟩ F.entry_list_clear (F.args_list_clear_1 _) (AutoSeq1.list_clear_list_0 l its.toArray n (by rw [List.size_toArray]; omega)) ⟨e, ?_⟩
  exact ⟨.non, _, I.lset (its' := []) (ys := []) hH e rfl .nil (Nat.zero_le _), rfl, q⟩
noncomputable def rCat : R2 := fun x y H Q => ∃ l b xs zs, x = .ref l ∧ y = .ref b ∧ H l = some (.lst xs) ∧ H b = some (.lst zs) ∧ xs.length + zs.length ≤ sizeLine ∧ ∀ p, H p = none → Q (.ref p) (upd H p (.lst (xs ++ zs)))
theorem op_cat : OpR X (binaryOp .Add) rCat := by
  intro pins s σ H x y v u Q I rx ry h
  obtain ⟨l, b, xs, zs, rfl, rfl, hH, hB, hz, q⟩ := h
  cases rx
  cases ry
  obtain ⟨z, its, n, r, hl, e⟩ := I.lstM hH
  obtain ⟨z2, its2, n2, r2, hl2, e2⟩ := I.lstM hB
  refine PySem.P.add_list e e2 ?_ (by rw [List.size_toArray, List.size_toArray]; omega)
  have ea : its.toArray ++ its2.toArray = (its ++ its2).toArray := by simp
  rw [ea]
  exact ⟨.ref _, _, I.lnew (t' := s.toks) (r.append r2) (by rw [List.length_append]; omega), rfl, q _ I.fresh⟩
end
section
variable {prog : Program} {w : World} {A : Around} {E : Value → Shared → Prop} {s : Shared}
end
section
variable {X : Cx}
end
end L2
namespace Att
open PySem PySem.W PySem.Calls PyProof.Rows
theorem ints_of_wellAll {P : Params} {h : Heap} : ∀ (ns : List Int) (vs : List Value), WellAll P h vs (ns.map WData.int) → IntsAre vs ns := by
  intro ns
  induction ns with
  | nil =>
    intro vs w
    rw [List.map_nil] at w
    cases w
    exact .nil
  | cons n ns ih =>
    intro vs w
    rw [List.map_cons] at w
    cases w with
    | cons a b =>
      cases a
      exact .cons _ _ (ih _ b)
theorem script_of {l : OpenLaw} {n : Nat} (hn : l.most = some n) {P : Params} {h : Heap} {args : List WData} {vals : List Value}
    (hpre : l.row.toRowW.claim.pre args = true) (hwl : WellAll P h vals args) :
    ∃ a vs ns, vals = [Value.ref a] ∧ args = [WData.list (ns.map WData.int)] ∧ h.get? a = some { cls := .type "list", data := .seq vs.toArray } ∧ IntsAre vs ns ∧ ns.length ≤ n := by
  have hsh : WShape.hasAll [] args [.list .int] = true := (pre_splitW hpre).1
  have hc : l.pre.holds [] { args := args } = true := (pre_splitW hpre).2
  obtain ⟨d, r, rfl, h1, h2⟩ := hasAllW_cons hsh
  obtain rfl := hasAllW_nil h2
  obtain ⟨xs, rfl, h3⟩ := hasW_list h1
  obtain ⟨ns, rfl⟩ := items_int h3
  have hlen : ns.length ≤ n := by
    unfold OpenLaw.pre at hc
    have h4 : (WTm.not (.lt (.lit (.int (n : Int))) (.len (.arg 0)))).holds [] { args := [.list (ns.map .int)] } = true := by
      have h4 := (holds_andW hc).1
      rw [hn] at h4
      exact h4
    have h5 := condW_of h4 (w_not (w_lt w_lit (w_len_list (w_arg rfl))))
    rw [List.length_map] at h5
    refine Nat.le_of_not_lt fun q => ?_
    have q' : (n : Int) < ((ns.length : Nat) : Int) := by omega
    first
      | (rw [decide_eq_true q'] at h5; exact absurd h5 (by decide))
      | (simp at h5; omega)
  cases hwl with
  | cons w1 w2 =>
    cases w2
    cases w1 with
    | list ho hall => exact ⟨_, _, ns, rfl, rfl, ho, ints_of_wellAll ns _ hall, hlen⟩
theorem post_true (l : OpenLaw) (args : List WData) : l.row.toRowW.claim.post args (.bool true) args = true :=
  postW_of (r := l.row.toRowW) (X := (true == true))
    (show WShape.has [] (.bool true) .bool = true by first | rfl | decide | simp [WShape.has, WShape.arms, WShape.armsAll])
    (show (WTm.eq .res (.lit (.bool true))).value [] { args := args, res := some (.bool true), after := args } = some (.bool (true == true)) from w_eq_bool (w_res rfl) w_lit) rfl
section
variable {prog : Program} {w : World} {A : Around} {E : Value → Shared → Prop} {s : Shared} {K : Frag}
end
end Att
namespace L2
open PySem PySem.Spec PyProof.Rows
theorem vals_ints : ∀ {vs : List Value} {ns : List Int}, IntsAre vs ns → Vals (ns.map V.int) vs
  | _, _, .nil => .nil
  | _, _, .cons n t h => .cons ⟨t, rfl⟩ (vals_ints h)
noncomputable def Only (H : Hp) : Prop := ∀ b, H b = none ∨ ∃ o xs, H b = some (.frz o (.lst xs))
theorem law_call {P : Program} {w : World} {K : PySem.W.Frag} {mg mb : Str → Option Value} {CX : CXT} {k : Nat} {fa a : Addr} {fd : FuncData} {x : Str} {sp : Sp} {s₁ : Shared} {vs : List Value} {ns : List Int}
    (KX : K.In s₁.heap) (hns : s₁.heap.Ns mainGlobals mg) (hb : s₁.heap.Ns builtinsNs mb) (hbb : ∀ x : Str, x ≠ "__name__" → mb x = bootBuiltins x) (hlim : s₁.heap.NoLimit) (hg : s₁.gens = #[])
    (ha : s₁.heap.get? a = some { cls := .type "list", data := .seq vs.toArray }) (hi : IntsAre vs ns) (hl : ns.length ≤ sizeLine) (hr : Room k callerA)
    (F : ∀ base : Heap, K.In base → base.Ns mainGlobals mg → FnOk P w K mg base CX k fa fd [x] sp) (hbind : ∀ (s : Shared) (u : Value), BindsTo s fd ⟨[u], []⟩ [(x, u)])
    (hsp : ∀ H : Hp, Only H → SqL K H a (ns.map V.int) → sp [.ref a] H (fun v _ => v = .bl true) fun _ _ _ => False)
    (hCX : ∀ H e s', CX [] H s₁ (fun _ _ _ => False) e s' → False) :
    codeAny (model P w) callerA (.call (.ref fa) ⟨[.ref a], []⟩) (fun r s' => r = .ok (.ret (.bool true)) ∧ OldK s₁.heap s'.heap ∧ s'.os = s₁.os ∧ AllBare s'.gens) s₁ := by
  have rv := vals_ints hi
  have lenV := hi.length
  have core : ∀ H : Hp, Only H → SqL K H a (ns.map V.int) → HOk P w H s₁.heap → (∀ b, H b ≠ none → b = a) → (H a ≠ none → K.lookup a = none) →
      codeAny (model P w) callerA (.call (.ref fa) ⟨[.ref a], []⟩) (fun r s' => r = .ok (.ret (.bool true)) ∧ OldK s₁.heap s'.heap ∧ s'.os = s₁.os ∧ AllBare s'.gens) s₁ := by
    intro H hO hS hok hA hK
    have base_of : ∀ {b : Addr} {o : Obj}, s₁.heap.get? b = some o → H b = none → (hidT s₁.heap H).get? b = some o := fun e n => hidT_get e n
    have noA : ∀ {b : Addr} {o : Obj} {es : Array DictEntry} {ep : Nat}, s₁.heap.get? b = some o → o.data = .dict es ep → H b = none := fun {b o es ep} e d => by
      cases q : H b with
      | none => rfl
      | some u =>
        have e' : b = a := hA b (by rw [q]; simp)
        subst e'
        rw [ha] at e; cases e
        have d' : Data.seq vs.toArray _ = Data.dict es ep := d
        cases d'
    have nsK : ∀ {b : Addr} {m : Str → Option Value}, s₁.heap.Ns b m → (hidT s₁.heap H).Ns b m := fun {b m} ⟨o, es, ep, e, d, r⟩ => ⟨o, es, ep, base_of e (noA e d), d, r⟩
    have hKb : K.In (hidT s₁.heap H) := fun b o e => base_of (KX b o e) (by
      cases q : H b with
      | none => rfl
      | some u =>
        have e' : b = a := hA b (by rw [q]; simp)
        subst e'
        rw [hK (by rw [q]; simp)] at e; cases e)
    have hM : Mod K mg (hidT s₁.heap H) := ⟨hKb, nsK hns, ⟨mb, nsK hb, hbb⟩, let ⟨mc, h1, h2⟩ := hlim; ⟨mc, nsK h1, h2⟩⟩
    have e0 : Env0 P w K mg (hidT s₁.heap H) callerA [] s₁ H := ⟨rfl, hM, fun b o e => of_hidT e, Nat.le_of_eq (hidT_size _ _), trivial, fun b hb => absurd (show b ∈ ([] : List Addr) from hb) (by simp), hok, .of_eq hg⟩
    refine codeAny_mono ((F _ hKb (nsK hns)).run callerA [] s₁ H ⟨[.ref a], []⟩ [.ref a] [.ref a] _ _ hr e0 (hbind s₁ (.ref a)) (.cons rfl .nil) (hsp H hO hS)) fun r s' h => ?_
    cases r with
    | error e => exact (hCX H e s' h).elim
    | ok fl =>
      cases fl with
      | next => exact False.elim h
      | brk => exact False.elim h
      | cont => exact False.elim h
      | ret u =>
        obtain ⟨v, H', os, bare, un, hok', r', q⟩ := h
        have q' : v = .bl true := q
        subst q'
        obtain rfl : u = Value.bool true := r'
        refine ⟨rfl, OldK.of_keep fun b o e => ?_, os, bare⟩
        cases q : H b with
        | none => exact un.keep b o e q (by intro z; exact absurd (show b ∈ ([] : List Addr) from z) (by simp)) (by simp)
        | some u =>
          rcases hO b with z | ⟨ob, xs, z⟩
          · rw [q] at z; cases z
          · have z2 := un.frzs b ob _ z
            obtain ⟨e1, _⟩ := hok b _ z
            obtain ⟨e2, _⟩ := hok' b _ z2
            rw [e] at e1; cases e1
            exact e2
  cases hk : K.lookup a with
  | some o =>
    have e := KX a o hk
    rw [ha] at e
    cases e
    refine core (fun _ => none) (fun _ => .inl rfl) (.inr ⟨_, vs.toArray, _, hk, rfl, rfl, rfl, by rw [List.size_toArray, lenV]; exact hl, by simpa using rv⟩) (fun b u z => by have z' : (none : Option HO) = some u := z; cases z') (fun b z => absurd rfl z) fun z => absurd rfl z
  | none =>
    refine core (fun b => if b = a then some (.frz { cls := .type "list", data := .seq vs.toArray } (.lst (ns.map V.int))) else none) (fun b => ?_) (.inl (.inr ⟨{ cls := .type "list", data := .seq vs.toArray }, if_pos rfl⟩)) (fun b u z => ?_) (fun b z => ?_) fun _ => hk
    · by_cases hb : b = a
      · exact .inr ⟨_, _, if_pos hb⟩
      · exact .inl (if_neg hb)
    · by_cases hb : b = a
      · have z' := (if_pos hb).symm.trans z
        cases z'
        subst hb
        exact ⟨ha, by rw [List.length_map]; exact hl, vs, _, rv, ha⟩
      · have z' := (if_neg hb).symm.trans z
        cases z'
    · by_cases hb : b = a
      · exact hb
      · exact absurd (if_neg hb) z
end L2
namespace L2
open PySem PySem.Spec PyProof.Rows
end L2
namespace L2
open PySem PySem.Spec PyProof.Rows
noncomputable def defArgs (s : Stmt) : Arguments := match s with
  | .FunctionDef _ a _ _ _ _ _ _ _ _ => a
  | _ => { posonlyargs := [], args := [], vararg := none, kwonlyargs := [], kw_defaults := [], kwarg := none, defaults := [] }
noncomputable def defBody (s : Stmt) : List Stmt := match s with
  | .FunctionDef _ _ b _ _ _ _ _ _ _ => b
  | _ => []
noncomputable def defScope (s : Stmt) : Scope := match s with
  | .FunctionDef _ _ _ _ _ _ sc _ _ _ => sc
  | _ => { kind := .function, names := [], isGenerator := false, isCoroutine := false }
noncomputable abbrev E0 : XK := fun _ _ _ => False
section
variable {P : Program} {w : World} {K : PySem.W.Frag} {mg : Str → Option Value} {base : Heap}
end
section
variable {X : Cx}
theorem pv (i : Nat) {x : Str} {pos : Pos} (hN : X.N[i]? = some x := by rfl) (hv : Vis X.env.scope x := by first | exact Or.inl rfl | exact Or.inr (Or.inl rfl) | exact Or.inr (Or.inr rfl)) (hd : (x == ("__debug__" : Str)) = false := by decide)
    (hcd : (x == ("__classdict__" : Str)) = false := by decide) : PE X (.Name x pos) (tVar i) := pe_var hN hv hd hcd
end
theorem iteF {A B : Prop} (h : B) : if false = true then A else B := by
  rw [if_neg Bool.false_ne_true]
  exact h
theorem iteT {A B : Prop} (h : A) : if true = true then A else B := by
  rw [if_pos rfl]
  exact h
noncomputable def Same (H H' : Hp) : Prop := ∀ b o, H b = some o → H' b = some o
theorem Same.refl (H : Hp) : Same H H := fun _ _ h => h
theorem Same.trans {H H1 H2 : Hp} (a : Same H H1) (b : Same H1 H2) : Same H H2 := fun c o h => b c o (a c o h)
theorem Same.seq {K : PySem.W.Frag} {H H' : Hp} {a : Addr} {xs : List V} (e : Same H H') (h : SqL K H a xs) : SqL K H' a xs := by
  rcases h with (h | ⟨o, h⟩) | h
  · exact .inl (.inl (e _ _ h))
  · exact .inl (.inr ⟨o, e _ _ h⟩)
  · exact .inr h
end L2
set_option maxRecDepth 100000
namespace Kw
theorem gcd_step (g s : Int) (hg : 0 ≤ g) (hs : 0 < s) : Int.gcd s (g % s) = Int.gcd g s := by
  obtain ⟨m, rfl⟩ := Int.eq_ofNat_of_zero_le hg
  obtain ⟨n, rfl⟩ := Int.eq_ofNat_of_zero_le (Int.le_of_lt hs)
  have e : ((m : Int) % (n : Int)) = ((m % n : Nat) : Int) := by omega
  rw [e]
  show Nat.gcd n (m % n) = Nat.gcd m n
  rw [Nat.gcd_comm m n, Nat.gcd_rec n m, Nat.gcd_comm]
theorem gcd_abs (a b : Int) : Int.gcd (if a < 0 then -a else a) (if b < 0 then -b else b) = Int.gcd a b := by
  have e : ∀ x : Int, (if x < 0 then -x else x).natAbs = x.natAbs := fun x => by split <;> omega
  show Nat.gcd _ _ = Nat.gcd _ _
  rw [e, e]
theorem gcd_end (g : Int) (hg : 0 ≤ g) : ((Int.gcd g 0 : Nat) : Int) = g := by
  show ((Nat.gcd g.natAbs 0 : Nat) : Int) = g
  rw [Nat.gcd_zero_right]; omega
theorem abs_nn (a : Int) : 0 ≤ (if a < 0 then -a else a) := by split <;> omega
noncomputable def dv (t b : Int) : Int := if b < 0 then -((Int.gcd t b : Nat) : Int) else ((Int.gcd t b : Nat) : Int)
noncomputable def fT (t b : Int) : Int := t.fdiv (dv t b)
noncomputable def fB (t b : Int) : Int := b.fdiv (dv t b)
theorem dv_ne {t b : Int} (h : b ≠ 0) : dv t b ≠ 0 := by
  have hp : 0 < Int.gcd t b := Int.gcd_pos_of_ne_zero_right _ h
  unfold dv; split <;> omega
theorem dv_le {t b : Int} (h : b ≠ 0) : (dv t b).natAbs ≤ b.natAbs := by
  have hd : Int.gcd t b ∣ b.natAbs := Nat.gcd_dvd_right _ _
  have := Nat.le_of_dvd (by omega) hd
  unfold dv; split <;> omega
theorem dv_dvd_b (t b : Int) : dv t b ∣ b := by
  have h : ((Int.gcd t b : Nat) : Int) ∣ b := Int.gcd_dvd_right ..
  unfold dv; split
  · exact (Int.neg_dvd).mpr h
  · exact h
theorem dv_dvd_t (t b : Int) : dv t b ∣ t := by
  have h : ((Int.gcd t b : Nat) : Int) ∣ t := Int.gcd_dvd_left ..
  unfold dv; split
  · exact (Int.neg_dvd).mpr h
  · exact h
theorem fT_mul (t b : Int) : dv t b * fT t b = t := by
  unfold fT
  exact Int.mul_fdiv_cancel' (dv_dvd_t t b)
theorem fB_mul (t b : Int) : dv t b * fB t b = b := by
  unfold fB
  exact Int.mul_fdiv_cancel' (dv_dvd_b t b)
theorem fB_pos {t b : Int} (h : b ≠ 0) : 0 < fB t b := by
  have e := fB_mul t b
  have hn := dv_ne (t := t) h
  have hg : 0 ≤ ((Int.gcd t b : Nat) : Int) := Int.natCast_nonneg _
  rcases Int.lt_or_gt_of_ne h with hb | hb
  · have hd : dv t b < 0 := by unfold dv at hn ⊢; rw [if_pos hb] at hn ⊢; omega
    refine Int.not_le.mp fun q => ?_
    have := Int.mul_nonneg_of_nonpos_of_nonpos (Int.le_of_lt hd) q
    omega
  · have hd : 0 < dv t b := by unfold dv at hn ⊢; rw [if_neg (by omega)] at hn ⊢; omega
    refine Int.not_le.mp fun q => ?_
    have := Int.mul_nonpos_of_nonneg_of_nonpos (Int.le_of_lt hd) q
    omega
theorem natAbs_le_mul {d x : Int} (h : d ≠ 0) : x.natAbs ≤ (d * x).natAbs := by
  rw [Int.natAbs_mul]
  exact Nat.le_mul_of_pos_left _ (by omega)
theorem fT_le {t b : Int} (h : b ≠ 0) : (fT t b).natAbs ≤ t.natAbs := by
  have q := natAbs_le_mul (x := fT t b) (dv_ne (t := t) h)
  rw [fT_mul] at q; exact q
theorem fB_le {t b : Int} (h : b ≠ 0) : (fB t b).natAbs ≤ b.natAbs := by
  have q := natAbs_le_mul (x := fB t b) (dv_ne (t := t) h)
  rw [fB_mul] at q; exact q
end Kw
set_option Elab.async false
set_option linter.all false
set_option maxRecDepth 100000
set_option maxHeartbeats 4000000
namespace Kw
open PySem PySem.Spec PyProof.Rows L2
noncomputable def But (b : Addr) (H H' : Hp) : Prop := ∀ a o, a ≠ b → H a = some o → H' a = some o
theorem But.refl {b : Addr} (H : Hp) : But b H H := fun _ _ _ h => h
theorem But.trans {b : Addr} {H H1 H2 : Hp} (x : But b H H1) (y : But b H1 H2) : But b H H2 := fun a o n h => y a o n (x a o n h)
theorem But.of {b : Addr} {H H' : Hp} (x : Same H H') : But b H H' := fun a o _ h => x a o h
theorem same_new {H : Hp} {p : Addr} (h : H p = none) (o : HO) : Same H (upd H p o) := fun b u q => by rw [upd_ne (ne_of_none q h)]; exact q
theorem but_upd {H : Hp} {p : Addr} (o : HO) : But p H (upd H p o) := fun b u n q => by rw [upd_ne n]; exact q
theorem Same.tup {K : PySem.W.Frag} {H H' : Hp} {a : Addr} {xs : List V} (e : Same H H') (h : SqT K H a xs) : SqT K H' a xs := by
  rcases h with (h | ⟨o, h⟩) | h
  · exact .inl (.inl (e _ _ h))
  · exact .inl (.inr ⟨o, e _ _ h⟩)
  · exact .inr h
theorem But.tup {K : PySem.W.Frag} {H H' : Hp} {b a : Addr} {ys xs : List V} (e : But b H H') (hb : H b = some (.lst ys)) (h : SqT K H a xs) : SqT K H' a xs := by
  rcases h with (h | ⟨o, h⟩) | h
  · exact .inl (.inl (e _ _ (ne_of h hb (by intro z; cases z)) h))
  · exact .inl (.inr ⟨o, e _ _ (ne_of h hb (by intro z; cases z)) h⟩)
  · exact .inr h
theorem But.seq {K : PySem.W.Frag} {H H' : Hp} {b a : Addr} {xs : List V} (e : But b H H') (n : a ≠ b) (h : SqL K H a xs) : SqL K H' a xs := by
  rcases h with (h | ⟨o, h⟩) | h
  · exact .inl (.inl (e _ _ n h))
  · exact .inl (.inr ⟨o, e _ _ n h⟩)
  · exact .inr h
section
variable {σ : L2.St} {H : Hp} {Q : VK} {v : V} {i j : Int} {K : PySem.W.Frag} {p : Addr} {xs : List V}
theorem rd_new {R : V → Hp → Prop} {o : HO} (h : ∀ p H', Same H H' → H' p = some o → R (.ref p) H') : ∀ p, H p = none → R (.ref p) (upd H p o) := fun p hp => h p _ (same_new hp o) upd_same
end
theorem if_cases {c : Bool} {A B : Prop} (h1 : c = true → A) (h2 : c = false → B) : if c = true then A else B := by
  cases c
  · exact iteF (h2 rfl)
  · exact iteT (h1 rfl)
theorem if_dec {c : Prop} [Decidable c] {A B : Prop} (h1 : c → A) (h2 : ¬ c → B) : if decide c = true then A else B :=
  if_cases (fun e => h1 (of_decide_eq_true e)) (fun e => h2 (of_decide_eq_false e))
theorem if_decI {i j : Int} {A B : Prop} (h1 : i = j → A) (h2 : i ≠ j → B) : if decide (V.int i = V.int j) = true then A else B :=
  if_dec (fun e => h1 (V.int.inj e)) (fun e => h2 fun z => e (congrArg V.int z))
theorem if_neI {i j : Int} {A B : Prop} (h1 : i ≠ j → A) (h2 : i = j → B) : if (!decide (V.int i = V.int j)) = true then A else B := by
  by_cases e : i = j
  · rw [show decide (V.int i = V.int j) = true by simp [e]]; exact iteF (h2 e)
  · rw [show decide (V.int i = V.int j) = false by simp [e]]; exact iteT (h1 e)
section
variable {X : Cx} {a b c : Expr} {ta tb tc : TE} {pos : Pos}
noncomputable def CDivB (_ j : Int) : Prop := j ≠ 0 ∧ j.natAbs.log2 < 9000
theorem op_fdivB : OpR X (binaryOp .FloorDiv) (rI CDivB fun i j => .int (i.fdiv j)) := opI fun _ _ _ _ _ _ _ hc q => floordiv_int hc.1 q (.inl (PyProof.noPylong_of_log2 hc.2))
theorem op_mulB : OpR X (binaryOp .Mult) (rI IntMulOk fun i j => .int (i * j)) := opI fun _ _ _ _ _ _ _ hc q => mul_int q hc
theorem call_divmodB : CallR X (.builtin "divmod") (fun xs H Q => ∃ i j, xs = [.int i, .int j] ∧ (0 < j ∧ j.natAbs.log2 < 9000) ∧ ∀ p, H p = none → Q (.ref p) (upd H p (.tup [.int (i / j), .int (i % j)]))) := by
  intro pins s σ H xs us Q I r h
  obtain ⟨i, j, rfl, ⟨h1, h2⟩, q⟩ := h
  obtain ⟨u, w', rfl, ⟨t, rfl⟩, ⟨t', rfl⟩⟩ := vals2 r
  refine divmod_int (by omega) ?_ (.inl (PyProof.noPylong_of_log2 h2))
  rw [Int.fdiv_eq_ediv_of_nonneg i (by omega), Int.fmod_eq_emod_of_nonneg i (by omega)]
  have hn : H s.heap.objs.size = none := I.hok.fresh (Nat.le_refl _)
  refine ⟨.ref s.heap.objs.size, _, ?_, rfl, q _ hn⟩
  refine I.laid (fun b o e => Heap.get?_push_of_some _ e) (Nat.le_refl _) ⟨by simp only [List.length_cons, List.length_nil]; rw [sizeLine_eq]; decide, [.int (i / j) s.toks, .int (i % j) (s.toks + 1)], .cons ⟨_, rfl⟩ (.cons ⟨_, rfl⟩ .nil), ?_⟩
  exact ⟨_, Heap.get?_push_size s.heap rfl, rfl, 0, rfl⟩
theorem pe_globI {x : Str} {i : Int} {pos : Pos} (hg : Gl X x) (hm : ∃ t, X.mg x = some (.int i t)) (hd : (x == ("__debug__" : Str)) = false := by decide) (hcd : (x == ("__classdict__" : Str)) = false := by decide) : PE X (.Name x pos) (tC (.int i)) := by
  obtain ⟨t, hm⟩ := hm
  exact pe_glob hg hm ⟨t, rfl⟩ hd
theorem pe_bty {x : Str} {T : String} {pos : Pos} (hg : Gl X x) (hm : X.mg x = none) (hv : bootBuiltins x = some (.type T)) (hn : x ≠ "__name__" := by decide) (hd : (x == ("__debug__" : Str)) = false := by decide) : PE X (.Name x pos) (tC (.ty T)) :=
  pe_bltn hg hm hv (v := .ty T) rfl hn hd
noncomputable def valC : V → Value
  | .ty T => .type T
  | .ref C => .ref C
  | _ => .none
noncomputable def IsI (K : PySem.W.Frag) (H : Hp) (x c : V) (b : Bool) : Prop := ∃ t, TyOf K H x t ∧ PySem.W.kitOne K t (valC c) = some b
theorem call_isinst : CallR X (.builtin "isinstance") (fun xs H Q => ∃ x c b, xs = [x, c] ∧ ((∃ T, c = .ty T) ∨ ∃ C, c = .ref C) ∧ IsI X.K H x c b ∧ Q (.bl b) H) := by
  intro pins s σ H xs us Q I r h
  obtain ⟨x, c, b, rfl, hc, ⟨t, ty, e⟩, q⟩ := h
  obtain ⟨u, w', rfl, rx, rc⟩ := vals2 r
  have ec : w' = valC c := by
    rcases hc with ⟨T, rfl⟩ | ⟨C, rfl⟩
    · exact rc
    · exact rc
  subst ec
  exact isinst_ok I rx ty e fun tk => ⟨.bl b, H, I.tok _, rfl, q⟩
end
end Kw
set_option Elab.async false
set_option linter.all false
set_option maxRecDepth 100000
set_option maxHeartbeats 4000000
namespace Kw
open PySem PySem.Spec PyProof.Rows L2
noncomputable def TrD (h bs : Heap) (x : Addr) (c : Value) (od : Option Addr) (a0 fl : Value) : Prop :=
  ∃ o vs T oT ts, h.get? x = some o ∧ o.cls = c ∧ o.dict = od ∧ o.data = .fields vs ∧ vs[0]? = some a0 ∧ vs[1]? = some (.ref T) ∧ bs.get? T = none ∧ T ≠ x ∧ h.get? T = some oT ∧ oT.data = .fields ts ∧ ts[3]? = some fl
structure Noted (bs : Heap) (l : List Env) (x : Addr) (c : Value) (od : Option Addr) (a0 fl : Value) (h h' : Heap) : Prop where
  st : bs.StaysIn h'
  fr : h'.FunFrames bs l
  tr : TrD h' bs x c od a0 fl
  up : h.UpToSlots h'
section
variable {M : Model} {A : Around} {E : Value → Shared → Prop} {s : Shared} {bs : Heap} {l up : List Env} {env : Env} {x L : Addr} {c : Value} {od : Option Addr} {a0 fl : Value} {Q : Unit → Shared → Prop}
theorem Noted.trans {h h1 h2 : Heap} {f1 f2 : Value} (a : Noted bs l x c od a0 f1 h h1) (b : Noted bs l x c od a0 f2 h1 h2) : Noted bs l x c od a0 f2 h h2 := ⟨b.st, b.fr, b.tr, a.up.trans b.up⟩
theorem Noted.tail {h h1 : Heap} (a : Noted bs (env :: up) x c od a0 fl h h1) : Noted bs up x c od a0 fl h h1 := ⟨a.st, a.fr.2.2, a.tr, a.up⟩
theorem flight0 (st : bs.StaysIn s.heap) (fr : s.heap.FunFrames bs l) (tr : TrD s.heap bs x c od a0 fl) (q : ∀ h', Noted bs l x c od a0 .none s.heap h' → Q () { s with heap := h' }) : wpAny M A (setFlight (.ref x) none) Q E s := by
  obtain ⟨o, vs, T, oT, ts, e1, c1, d1, f1, z0, z1, nT, ne, e2, f2, z3⟩ := tr
  have big : 3 < ts.size := (Array.getElem?_eq_some_iff.mp z3).1
  have oth : ∀ b, b ≠ T → (s.heap.update T (Obj.mapFields (·.setIfInBounds 3 Value.none))).get? b = s.heap.get? b := fun b hb => Heap.get?_update_other _ _ (Ne.symm hb)
  have nf : ∀ b u, s.heap.get? b = some u → (∀ ws, u.data ≠ .fields ws) → b ≠ T := fun b u y n z => by
    subst z
    rw [e2] at y
    cases y
    exact n ts f2
  unfold setFlight
  refine wpAny_bind (wpAny_field e1 f1 z1 ?_)
  rw [if_pos (by simp)]
  refine wpAny_setField e2 f2 big (q _ ⟨fun b u y => ?_, ?_, ?_, ?_⟩)
  · exact (oth b fun z => by rw [z, nT] at y; cases y).trans (st b u y)
  · exact fr.of_keeps fun b u y n => ⟨u, (oth b (nf b u y n)).trans y, rfl⟩
  · exact ⟨o, vs, T, _, _, (oth x (Ne.symm ne)).trans e1, c1, d1, f1, z0, z1, nT, ne, Heap.get?_update_self _ e2 (Obj.isFreed_of_fields (Obj.data_mapFields f2 _)), Obj.data_mapFields f2 _, by simp [big]⟩
  · exact fun b u y n => ⟨u.slots, (oth b (nf b u y n)).trans y⟩
theorem entry_done {h h1 : Heap} {o N : Obj} {vs ts : Array Value} (fr : h.FunFrames bs (env :: up)) (so : Heap.SlotsOnly ((env :: up).filterMap (·.frame)) h h1) (ex : h.get? x = some o) (st : bs.StaysIn h) (nx : bs.get? x = none) (fo : o.data = .fields vs) (big : 1 < vs.size)
    (z0 : vs[0]? = some a0) (hN : N.data = .fields ts) (hN3 : ts[3]? = some fl) :
    Noted bs (env :: up) x o.cls o.dict a0 fl h ((h1.push N).update x (Obj.mapFields (·.setIfInBounds 1 (Value.ref h1.objs.size)))) := by
  have out : x ∉ (env :: up).filterMap (·.frame) := fun m => by
    obtain ⟨_, u, y, n⟩ := fr.mem m
    rw [ex] at y
    cases y
    exact n vs fo
  have x1 : h1.get? x = some o := (so.2.1 x out).trans ex
  have b1 : bs.StaysIn h1 := fun b u y => (so.2.1 b fun m => by rw [(fr.mem m).1] at y; cases y).trans (st b u y)
  have nw : h1.objs.size ≠ x := Nat.ne_of_gt (Heap.lt_size x1)
  have kp : ∀ b u, b ≠ x → h1.get? b = some u → ((h1.push N).update x (Obj.mapFields (·.setIfInBounds 1 (Value.ref h1.objs.size)))).get? b = some u := fun b u hb y => by
    rw [Heap.get?_update_other _ _ (Ne.symm hb)]
    exact Heap.get?_push_of_some _ y
  have nf : ∀ b u, h.get? b = some u → (∀ ws, u.data ≠ .fields ws) → b ≠ x := fun b u y n z => by
    subst z
    rw [ex] at y
    cases y
    exact n vs fo
  have d3 := Obj.data_mapFields fo (·.setIfInBounds 1 (Value.ref h1.objs.size))
  have fN : N.isFreed = false := Obj.isFreed_of_fields hN
  refine ⟨fun b u y => kp b u (fun z => by rw [z, nx] at y; cases y) (b1 b u y), fr.of_keeps fun b u y n => ?_, ?_, fun b u y n => ?_⟩
  · obtain ⟨sl, hs⟩ := so.2.2 b u y
    exact ⟨_, kp b _ (nf b u y n) hs, rfl⟩
  · refine ⟨_, _, h1.objs.size, N, ts, Heap.get?_update_self _ (Heap.get?_push_of_some N x1) (Obj.isFreed_of_fields d3), Obj.cls_mapFields _ _, ?_, d3, by rw [Array.getElem?_setIfInBounds_ne (by decide)]; exact z0, by simp [big], b1.fresh, nw, ?_, hN, hN3⟩
    · obtain ⟨oc, odd, oda, osl⟩ := o
      simp only at fo
      subst fo
      rfl
    · rw [Heap.get?_update_other _ _ (Ne.symm nw)]
      exact Heap.get?_push_size h1 fN
  · obtain ⟨sl, hs⟩ := so.2.2 b u y
    exact ⟨sl, kp b _ (nf b u y n) hs⟩
theorem entry1 {o : Obj} {vs : Array Value} {head : Value} {had : Bool} (af : A.frames = some (env :: up)) (fr : s.heap.FunFrames bs (env :: up)) (ef : env.frame = some L) (ex : s.heap.get? x = some o) (st : bs.StaysIn s.heap) (nx : bs.get? x = none) (fo : o.data = .fields vs) (big : 1 < vs.size)
    (z0 : vs[0]? = some a0) (q : ∀ h', Noted bs (env :: up) x o.cls o.dict a0 (rawInt L) s.heap h' → Q () { s with heap := h' }) :
    wpAny M A (do let fa ← frameOf env; let pl ← entryPlaceOf L had; let en ← EntryCells.newEntry head fa .none (rawInt L) .none pl; setField (.ref x) 1 en) Q E s := by
  refine wpAny_bind (wpAny_frameOf_fun af fr ef fun h1 so => ?_)
  refine wpAny_bind (wpAny_entryPlaceOf fun pl hp => ?_)
  unfold EntryCells.newEntry newFields
  refine wpAny_bind (wpAny_newObj_type ?_ (hp.sizeOk5 _ _ _ _ _))
  have out : x ∉ (env :: up).filterMap (·.frame) := fun m => by
    obtain ⟨_, u, y, n⟩ := fr.mem m
    rw [ex] at y
    cases y
    exact n vs fo
  have x1 : h1.get? x = some o := (so.2.1 x out).trans ex
  refine wpAny_setField (Heap.get?_push_of_some _ x1) fo big (q _ (entry_done fr so ex st nx fo big z0 rfl ?_))
  first
    | (simp; done)
    | (rcases hp with rfl | ⟨_, _, _, _, _, _, _, rfl⟩ <;> simp)
theorem elder {T : Addr} {oT : Obj} {ts : Array Value} (e2 : s.heap.get? T = some oT) (f2 : oT.data = .fields ts) (nT : bs.get? T = none) (st : bs.StaysIn s.heap) (fr : s.heap.FunFrames bs l) :
    let h1 := s.heap.update T (Obj.mapFields (·.setIfInBounds 3 Value.none))
    (∀ b, b ≠ T → h1.get? b = s.heap.get? b) ∧ bs.StaysIn h1 ∧ h1.FunFrames bs l ∧ s.heap.UpToSlots h1 := by
  intro h1
  have oth : ∀ b, b ≠ T → h1.get? b = s.heap.get? b := fun b hb => Heap.get?_update_other _ _ (Ne.symm hb)
  have nf : ∀ b u, s.heap.get? b = some u → (∀ ws, u.data ≠ .fields ws) → b ≠ T := fun b u y n z => by
    subst z
    rw [e2] at y
    cases y
    exact n ts f2
  exact ⟨oth, fun b u y => (oth b fun z => by rw [z, nT] at y; cases y).trans (st b u y), fr.of_keeps fun b u y n => ⟨u, (oth b (nf b u y n)).trans y, rfl⟩, fun b u y n => ⟨u.slots, (oth b (nf b u y n)).trans y⟩⟩
theorem look1 (af : A.frames = some (env :: up)) (ef : env.frame = some L) (st : bs.StaysIn s.heap) (fr : s.heap.FunFrames bs (env :: up)) (nx : bs.get? x = none) (tr : TrD s.heap bs x c od a0 .none)
    (q : ∀ h', Noted bs (env :: up) x c od a0 (rawInt L) s.heap h' → Q () { s with heap := h' }) : wpAny M A (noteFrame (.ref x) env) Q E s := by
  obtain ⟨o, vs, T, oT, ts, e1, rfl, rfl, f1, z0, z1, nT, ne, e2, f2, z3⟩ := tr
  unfold noteFrame
  simp only [ef]
  refine wpAny_bind (wpAny_field e1 f1 z1 ?_)
  rw [if_pos (by simp)]
  refine wpAny_bind (wpAny_field e2 f2 z3 ?_)
  rw [if_neg (by simp [rawInt])]
  refine wpAny_bind (wpAny_setField e2 f2 (Array.getElem?_eq_some_iff.mp z3).1 ?_)
  obtain ⟨oth, st1, fr1, up1⟩ := elder e2 f2 nT st fr
  exact entry1 af fr1 ef ((oth x (Ne.symm ne)).trans e1) st1 nx f1 (Array.getElem?_eq_some_iff.mp z1).1 z0 fun h' n => q h' ⟨n.st, n.fr, n.tr, up1.trans n.up⟩
theorem leave1 (af : A.frames = some (env :: up)) (ef : env.frame = some L) (st : bs.StaysIn s.heap) (fr : s.heap.FunFrames bs (env :: up)) (nx : bs.get? x = none) (tr : TrD s.heap bs x c od a0 .none)
    (q : ∀ h', Noted bs up x c od a0 .none s.heap h' → Q () { s with heap := h' }) : wpAny M A (leaving env (.ref x)) Q E s := by
  unfold leaving
  refine wpAny_bind (look1 af ef st fr nx tr fun h1 n1 => ?_)
  exact flight0 n1.st n1.fr n1.tr fun h2 n2 => q h2 (n1.trans n2).tail
theorem leave0 {o : Obj} {vs : Array Value} (af : A.frames = some (env :: up)) (ef : env.frame = some L) (st : bs.StaysIn s.heap) (fr : s.heap.FunFrames bs (env :: up)) (nx : bs.get? x = none) (ex : s.heap.get? x = some o) (fo : o.data = .fields vs) (z0 : vs[0]? = some a0) (z1 : vs[1]? = some .none)
    (q : ∀ h', Noted bs up x o.cls o.dict a0 .none s.heap h' → Q () { s with heap := h' }) : wpAny M A (leaving env (.ref x)) Q E s := by
  unfold leaving
  refine wpAny_bind ?_
  unfold noteFrame
  simp only [ef]
  refine wpAny_bind (wpAny_field ex fo z1 ?_)
  rw [if_neg (by decide)]
  refine entry1 af fr ef ex st nx fo (Array.getElem?_eq_some_iff.mp z1).1 z0 fun h1 n1 => ?_
  exact flight0 n1.st n1.fr n1.tr fun h2 n2 => q h2 (n1.trans n2).tail
end
end Kw
set_option Elab.async false
set_option linter.all false
set_option maxRecDepth 100000
set_option maxHeartbeats 4000000
namespace Kw
open PySem PySem.Spec PyProof.Rows L2
structure FlyAt (H : Hp) (h0 h : Heap) (x : Addr) (C : Value) (od : Option Addr) : Prop where
  new : h0.get? x = none
  free : H x = none
  tr : ∃ oe vs a0 T oT ts, h.get? x = some oe ∧ oe.cls = C ∧ oe.dict = od ∧ oe.data = .fields vs ∧ vs[0]? = some a0 ∧ vs[1]? = some (.ref T) ∧ h0.get? T = none ∧ H T = none ∧ T ≠ x ∧ h.get? T = some oT ∧ oT.data = .fields ts ∧ ts[3]? = some .none
noncomputable def CXE (P : Program) (w : World) : CXT := fun outer H s E e s' =>
  ∃ (x : Addr) (C : Value) (od : Option Addr) (H' : Hp), e = .ref x ∧ s'.os = s.os ∧ AllBare s'.gens ∧ Un (frs outer) [] H H' s.heap s'.heap ∧ HOk P w H' s'.heap ∧ FlyAt H' s.heap s'.heap x C od ∧ E C od H'
theorem passE0 {P : Program} {w : World} {X : Cx} : Passes (CXE P w) X E0 := fun _ _ _ _ _ _ _ h => by
  obtain ⟨_, _, _, _, _, _, _, _, _, _, q⟩ := h
  exact q.elim
theorem objOk_there {P : Program} {w : World} {H : Hp} {h : Heap} {a : Addr} {o : HO} (x : ObjOk P w H h a o) : ∃ ob, h.get? a = some ob := by
  cases o with
  | lst xs => obtain ⟨_, _, _, _, e⟩ := x; exact ⟨_, e⟩
  | tup xs => obtain ⟨_, _, _, p⟩ := x; obtain ⟨ob, e, _⟩ := p; exact ⟨ob, e⟩
  | dK kvs => obtain ⟨_, _, _, _, ob, _, _, e, _⟩ := x; exact ⟨ob, e⟩
  | dT kvs => obtain ⟨_, _, _, _, ob, _, _, e, _⟩ := x; exact ⟨ob, e⟩
  | set S n => obtain ⟨ob, _, _, _, e, _⟩ := x; exact ⟨ob, e⟩
  | ins C dx fs => obtain ⟨_, _, _, e, _⟩ := x; exact ⟨_, e⟩
  | own y => exact x
  | xd fs => obtain ⟨_, ⟨ob, _, _, e, _⟩, _⟩ := x; exact ⟨ob, e⟩
  | rng lo hi => obtain ⟨_, _, _, e⟩ := x; exact ⟨_, e⟩
  | frz ob u => obtain ⟨e, _⟩ := x; exact ⟨_, e⟩
  | tbl ps => exact ⟨_, (show h.get? a = some _ from x)⟩
  | met f y => exact ⟨_, (show h.get? a = some _ from x)⟩
  | ext φ => obtain ⟨_, e, _⟩ := x; exact e
theorem free_of_none {P : Program} {w : World} {H : Hp} {h : Heap} {a : Addr} (k : HOk P w H h) (e : h.get? a = none) : H a = none := by
  cases q : H a with
  | none => rfl
  | some o =>
    obtain ⟨ob, z⟩ := objOk_there (k a o q)
    rw [e] at z; cases z
structure Plain (X : Cx) : Prop where
  ex : X.ex = []
  stk : X.stack = X.env :: X.outer
  fr : X.env.frame = some X.env.locals
section
variable {X : Cx} {pins : List (Addr × Obj)} {σ : L2.St} {H : Hp} {s : Shared} {h' : Heap} {ch : List Addr}
theorem inStack (pl : Plain X) {b : Addr} (hb : b ∈ X.fs) : b ∈ frs X.stack := by
  rw [pl.stk]
  unfold frs
  rw [List.filterMap_cons, pl.fr]
  exact List.mem_cons_of_mem _ hb
theorem locInStack (pl : Plain X) : X.env.locals ∈ frs X.stack := by
  rw [pl.stk]
  unfold frs
  rw [List.filterMap_cons, pl.fr]
  exact List.mem_cons_self
theorem old_notStack (I : Inv X pins σ H s) {b : Addr} {o : Obj} (q : X.s₀.heap.get? b = some o) (hb : b ∉ X.fs) : b ∉ frs X.stack := fun z => by
  rcases List.mem_cons.mp (I.stkSub b z) with e | z
  · subst e
    exact absurd (Heap.lt_size q) (Nat.not_lt.mpr I.ok.above)
  · exact hb z
structure Flown (X : Cx) (H : Hp) (h h' : Heap) (ch : List Addr) : Prop where
  keep : ∀ b o, h.get? b = some o → b ∉ frs X.stack → b ∉ ch → h'.get? b = some o
  slot : ∀ b o, h.get? b = some o → b ∈ frs X.stack → ∃ sl, h'.get? b = some { o with slots := sl }
  young : ∀ b ∈ ch, X.s₀.heap.get? b = none ∧ H b = none
theorem Flown.un (pl : Plain X) (I : Inv X pins σ H s) (f : Flown X H s.heap h' ch) : Un X.fs [] X.H₀ H X.s₀.heap h' where
  keep := fun b o q n hb _ => f.keep b o (I.base.keep b o q n hb (by rw [pl.ex]; simp)) (old_notStack I q hb) fun z => by
    rw [(f.young b z).1] at q; cases q
  slot := fun b o q n hb _ => by
    obtain ⟨sl, e⟩ := I.base.slot b o q n hb (by rw [pl.ex]; simp)
    obtain ⟨sl', e'⟩ := f.slot b _ e (inStack pl hb)
    exact ⟨sl', e'⟩
  free := fun b o q n _ => I.base.free b o q n (by rw [pl.ex]; simp)
  there := fun b o q _ => by
    obtain ⟨o1, e1⟩ := I.base.there b o q (by rw [pl.ex]; simp)
    by_cases hb : b ∈ frs X.stack
    · obtain ⟨sl, e⟩ := f.slot b o1 e1 hb
      exact ⟨_, e⟩
    · exact ⟨o1, f.keep b o1 e1 hb fun z => by rw [(f.young b z).1] at q; cases q⟩
  tups := I.base.tups
  frzs := I.base.frzs
  tbls := I.base.tbls
theorem Flown.hok (I : Inv X pins σ H s) (f : Flown X H s.heap h' ch) : HOk X.prog X.w H h' := fun a o e => by
  have tr : ∀ b, H b ≠ none → b ∉ frs X.stack ∧ b ∉ ch := fun b hb => ⟨fun z => hb (I.stkFree b z), fun z => hb (f.young b z).2⟩
  refine (I.hok a o e).stay (fun b u hb ho => ?_) (fun _ z => z) fun _ _ z => z
  have nb : H b ≠ none := by
    rcases hb with z | z
    · subst z; rw [e]; exact fun q => nomatch q
    · rw [z]; exact fun q => nomatch q
  exact f.keep b u ho (tr b nb).1 (tr b nb).2
theorem Flown.cxe (pl : Plain X) (I : Inv X pins σ H s) (f : Flown X H s.heap h' ch) {x : Addr} {C : Value} {od : Option Addr} {E : XK} {s' : Shared} (hs : s'.heap = h') (ho : s'.os = s.os) (hg : AllBare s'.gens) (fl : FlyAt H X.s₀.heap h' x C od) (q : E C od H) :
    CXE X.prog X.w X.outer X.H₀ X.s₀ E (.ref x) s' := by
  subst hs
  exact ⟨x, C, od, H, rfl, ho.trans I.os, hg, f.un pl I, f.hok I, fl, q⟩
theorem old_of (pl : Plain X) (I : Inv X pins σ H s) {b : Addr} (e : s.heap.get? b = none) : X.s₀.heap.get? b = none := by
  cases q : X.s₀.heap.get? b with
  | none => rfl
  | some o =>
    obtain ⟨o1, z⟩ := I.base.there b o q (by rw [pl.ex]; simp)
    rw [e] at z; cases z
end
theorem frames_hid {X : Cx} {pins : List (Addr × Obj)} {σ : L2.St} {H : Hp} {s : Shared} (pl : Plain X) (I : Inv X pins σ H s) (l : List Addr) : s.heap.FunFrames (PySem.W.hideAll s.heap (l ++ frs X.stack)) (X.env :: X.outer) := by
  have st := I.stack
  rw [pl.stk] at st
  refine PySem.W.funFrames_hide st fun env he a ha => List.mem_append_right _ ?_
  rw [pl.stk]
  exact List.mem_filterMap.mpr ⟨env, he, ha⟩
theorem frame_nofields {X : Cx} {pins : List (Addr × Obj)} {σ : L2.St} {H : Hp} {s : Shared} (I : Inv X pins σ H s) {b : Addr} {o : Obj} (hb : b ∈ frs X.stack) (e : s.heap.get? b = some o) : ∀ vs, o.data ≠ .fields vs := by
  obtain ⟨_, o', e', n⟩ := I.stack.mem hb
  rw [e] at e'
  cases e'
  exact n
theorem leaves {X : Cx} {pins : List (Addr × Obj)} {σ : L2.St} {H : Hp} {s s' : Shared} {x : Addr} {C : Value} {od : Option Addr} {E : XK} (pl : Plain X) (I0 : Inv X pins σ H s) {H' : Hp} (I : Inv X pins σ H' s') (there : ∀ b o, s.heap.get? b = some o → ∃ o', s'.heap.get? b = some o')
    (fly : FlyAt H' s.heap s'.heap x C od) (q : E C od H') {Q : Unit → Shared → Prop} {R : Value → Shared → Prop} (hQ : ∀ s'', CXE X.prog X.w X.outer X.H₀ X.s₀ E (.ref x) s'' → Q () s'') :
    wpAny (model X.prog X.w) X.A (leaving X.env (.ref x)) Q R s' := by
  obtain ⟨new, free, oe, vs, a0, T, oT, ts, he, hcl, hdc, hd, h0, h1, hT0, hTf, hTx, hT, hdT, h3⟩ := fly
  have n0 := old_of pl I0 new
  have nT := old_of pl I0 hT0
  refine leave1 (bs := PySem.W.hideAll s'.heap ([x, T] ++ frs X.stack)) (up := X.outer) (by rw [I.ok.frames, pl.stk]) pl.fr (fun b o z => PySem.W.of_hideAll _ z) (frames_hid pl I _) (PySem.W.hideAll_none _ (by simp))
    ⟨oe, vs, T, oT, ts, he, hcl, hdc, hd, h0, h1, PySem.W.hideAll_none _ (by simp), hTx, hT, hdT, h3⟩ fun h' nt => hQ _ ?_
  have up := nt.up
  have F : Flown X H' s'.heap h' [x, T] := by
    refine ⟨fun b o ho hs hc => nt.st b o (PySem.W.hideAll_get _ ho fun z => ?_), fun b o ho hb => up b o ho (frame_nofields I hb ho), fun b hb => ?_⟩
    · rcases List.mem_append.mp z with z | z
      · exact hc z
      · exact hs z
    · simp only [List.mem_cons, List.not_mem_nil, or_false] at hb
      rcases hb with rfl | rfl
      · exact ⟨n0, free⟩
      · exact ⟨nT, hTf⟩
  refine F.cxe pl I rfl rfl I.bare ⟨n0, free, ?_⟩ q
  obtain ⟨oe', vs', T', oT', ts', he', hc', hdc', hd', h0', h1', hnT', hTe', hT', hdT', h3'⟩ := nt.tr
  refine ⟨oe', vs', a0, T', oT', ts', he', hc', hdc', hd', h0', h1', ?_, ?_, hTe', hT', hdT', h3'⟩
  all_goals
    cases z : s'.heap.get? T' with
    | none => first | exact old_of pl I z | exact free_of_none I.hok z
    | some o1 =>
      have hm : T' ∈ [x, T] ++ frs X.stack := Classical.byContradiction fun hm => by
        rw [PySem.W.hideAll_get _ z hm] at hnT'; cases hnT'
      rcases List.mem_append.mp hm with hm | hm
      · simp only [List.mem_cons, List.not_mem_nil, or_false] at hm
        rcases hm with rfl | rfl
        · exact absurd rfl hTe'
        · first | exact nT | exact hTf
      · obtain ⟨sl, e⟩ := up T' o1 z (frame_nofields I hm z)
        rw [e] at hT'
        cases hT'
        exact absurd hdT' (frame_nofields I hm z _)
noncomputable def Leaves (X : Cx) (E : XK) : Prop := ∀ (e : Value) (s' : Shared), (∀ Q : Unit → Shared → Prop, ∀ R : Value → Shared → Prop, (∀ s'', CXE X.prog X.w X.outer X.H₀ X.s₀ E e s'' → Q () s'') → wpAny (model X.prog X.w) X.A (leaving X.env e) Q R s') → X.xe e s'
theorem passL {X : Cx} {E : XK} (pl : Plain X) (L : Leaves X E) : Passes (CXE X.prog X.w) X E := by
  intro pins σ H s e s' I hc
  obtain ⟨x, C, od, H', rfl, os, bare, un, hok, fly, q⟩ := hc
  have I' : Inv X pins σ H' s' := I.call' (ch := []) os un hok bare (fun b hb => absurd hb (by simp))
  exact L _ _ fun Q R hQ => leaves pl I I' (fun b o z => un.there b o z (by simp)) fly q hQ
theorem plain_cxOf {CX : CXT} {P : Program} {w : World} {K : PySem.W.Frag} {mg : Str → Option Value} {base : Heap} {N : List Str} {qual : Str} {scope : Scope} {f : Addr} {cd : Value} {A : Around} {outer : List Env} {s : Shared} {H : Hp} {E : XK} :
    Plain (cxOf CX P w K mg base N qual scope f cd A outer s H E) := ⟨rfl, rfl, rfl⟩
theorem leaves_cxOf {P : Program} {w : World} {K : PySem.W.Frag} {mg : Str → Option Value} {base : Heap} {N : List Str} {qual : Str} {scope : Scope} {f : Addr} {cd : Value} {A : Around} {outer : List Env} {s : Shared} {H : Hp} {E : XK} :
    Leaves (cxOf (CXE P w) P w K mg base N qual scope f cd A outer s H E) E := fun _ _ h => h _ _ fun _ z => z
end Kw
set_option Elab.async false
set_option linter.all false
set_option maxRecDepth 100000
set_option maxHeartbeats 4000000
namespace Kw
open PySem PySem.Spec PyProof.Rows L2
noncomputable abbrev bmV : List Value := [.type "ValueError", .type "Exception", .type "BaseException", .type "object"]
noncomputable abbrev ExcC (K : PySem.W.Frag) (C : Addr) : Prop := PySem.W.excIn K C bmV "ValueError.__new__" = true
theorem exc_obj {K : PySem.W.Frag} {h : Heap} {C : Addr} (X : K.In h) (q : ExcC K C) :
    ∃ bm N nm qn bs hdct sn sub ab col dd k0 k1 k2 k3 k5 mN, h.get? C = some (excClassObj nm qn C N bs bm hdct sn sub ab col dd k0 k1 k2 k3 k5 "ValueError.__new__") ∧ h.Ns N mN ∧ mN "__init__" = none ∧ OwnTail h bmV bm := by
  have q' : PySem.W.excIn K C bmV "ValueError.__new__" = true := q
  unfold PySem.W.excIn at q'
  cases hl : K.lookup C with
  | none => rw [hl] at q'; cases q'
  | some o =>
    rw [hl] at q'
    split at q'
    · rename_i dd cd sl eo
      cases eo
      split at q'
      · rename_i C' bm k0 k1 k2 k3 n k5 hm hs
        simp only [Bool.and_eq_true, beq_iff_eq, Bool.not_eq_true'] at q'
        obtain ⟨⟨⟨⟨⟨e1, e2⟩, e3⟩, e4⟩, e5⟩, e6⟩ := q'
        subst e1 e2
        cases cd with
        | mk nm bs mro ns qn hd sn sub ab col del =>
          simp only at hm e3 e5 e6
          subst hm e3
          cases sl with
          | mk sll =>
            simp only at hs
            subst hs
            exact ⟨bm, ns, nm, qn, bs, hd, sn, sub, ab, col, dd, k0, k1, k2, k3, k5, _, X _ _ hl, .of_isNs (PySem.W.isNs_of_in X e5), PySem.W.nsMap_none_of_in X e5 e6, PySem.W.tail_of_in X e4⟩
      · cases q'
    · cases q'
section
variable {X : Cx} {x : Str} {C : Addr} {E : XK} {e : Expr} {es : List Expr} {t : TA} {np cpos pos : Pos}
noncomputable def tRaise (C : Addr) (E : XK) (t : TA) : TS := fun _ σ H => t σ H fun vs H1 => vs.length ≤ sizeLine ∧ E (.ref C) none H1
theorem ps_raise (pl : Plain X) (L : Leaves X E) (hc : X.calm = true) (hg : Gl X x) (hm : X.mg x = some (.ref C)) (hC : ExcC X.K C) (ha : PA X (e :: es) t)
    (hd : (x == ("__debug__" : Str)) = false := by decide) (he : starEach (e :: es) X.env = (false, eval e X.env) :: starEach es X.env := by rfl) (hpl : (backTo cpos (starEach es X.env)).any (·.1) = false := by rfl) :
    PS X (.Raise (some (.Call (.Name x np) (e :: es) [] cpos)) none pos) (tRaise C E t) := by
  intro pins s σ H D I h
  obtain ⟨bm, N, nm, qn, bs, hdct, sn, sub, ab, col, dd, k0, k1, k2, k3, k5, mN, hO, hN, hni, TL⟩ := exc_obj I.mod.kin hC
  have hany : (backTo cpos (starEach (e :: es) X.env)).any (·.1) = false := by
    rw [he]
    show (false || (backTo cpos (starEach es X.env)).any (·.1)) = false
    rw [hpl]; rfl
  refine wpAny_Raise_call_subT (C := C) (nm := nm) (q := qn) (N := N) (bs := bs) (bm := bm) (hdct := hdct) (sn := sn) (sub := sub) (ab := ab) (col := col) (dd := dd) (k0 := k0) (k1 := k1) (k2 := k2) (k3 := k3) (k5 := k5)
    PySem.F.excBase_ValueError (mN := mN) (TL.hasType PySem.F.excBase_ValueError.hasBase) (I.ok.hd hc) hany hni (ld_glob I hg hm ⟨rfl, ?_⟩ hd)
  have hargs := ha cpos pins s σ H _ I h
  rw [he] at hargs ⊢
  refine Calls.evalArgs_plain (thn hargs fun us s2 ⟨vs, H2, I2, r, hz, q⟩ => ⟨rfl, by rw [← r.length]; exact hz, I2.bk _ _ hO, hN.keeps I2.bk, TL.keeps I2.bk, fun h' ex hx => ?_⟩)
  refine L _ _ fun Q R hQ => ?_
  obtain ⟨tq, htq, htn, ht⟩ := hx.there
  refine leave0 (bs := PySem.W.hideAll s2.heap ([] ++ frs X.stack)) (up := X.outer) (by rw [I2.ok.frames, pl.stk]) pl.fr (fun b o z => hx.keeps b o (PySem.W.of_hideAll _ z)) ((frames_hid pl I2 _).of_keeps fun b o hb _ => ⟨o, hx.keeps b o hb, rfl⟩) ?_ htq rfl rfl rfl fun h'' nt => hQ _ ?_
  · cases z : (PySem.W.hideAll s2.heap ([] ++ frs X.stack)).get? ex with
    | none => rfl
    | some o =>
      have y := PySem.W.of_hideAll _ z
      rw [hx.new] at y
      cases y
  have up := nt.up
  have F : Flown X H2 s2.heap h'' [] := by
    refine ⟨fun b o ho hs _ => nt.st b o (PySem.W.hideAll_get _ ho hs), fun b o ho hb => ?_, fun b hb => absurd hb (by simp)⟩
    exact up b o (hx.keeps b o ho) (frame_nofields I2 hb ho)
  refine F.cxe pl I2 rfl rfl I2.bare ⟨old_of pl I2 hx.new, free_of_none I2.hok hx.new, ?_⟩ q
  obtain ⟨oe', vs', T', oT', ts', he', hc', hdc', hd', h0', h1', hnT', hTe', hT', hdT', h3'⟩ := nt.tr
  refine ⟨oe', vs', _, T', oT', ts', he', hc', hdc', hd', h0', h1', ?_, ?_, hTe', hT', hdT', h3'⟩
  all_goals
    cases z : s2.heap.get? T' with
    | none => first | exact old_of pl I2 z | exact free_of_none I2.hok z
    | some o1 =>
      have hmm : T' ∈ [] ++ frs X.stack := Classical.byContradiction fun hmm => by
        rw [PySem.W.hideAll_get _ z hmm] at hnT'; cases hnT'
      have hmm' : T' ∈ frs X.stack := hmm
      obtain ⟨sl, ee⟩ := up T' o1 (hx.keeps _ _ z) (frame_nofields I2 hmm' z)
      rw [ee] at hT'
      cases hT'
      exact absurd hdT' (frame_nofields I2 hmm' z _)
end
structure Fu (K : PySem.W.Frag) (x : Str) (st : Stmt) (f : Addr) (fd : FuncData) : Prop where
  ex : ∃ (oc : Value) (od : Option Addr) (dV kV doc pm : Value) (an : Option Addr) (cdv ct : Value) (osl : Array (Option Value)),
    fd = PySem.W.fnOf x x (defArgs st) (defBody st) (defScope st) dV kV doc pm an cdv ct ∧ K.lookup f = some ⟨oc, od, .func fd, osl⟩ ∧ PySem.W.codeIn K cdv x = true
  kp : PySem.W.keepIn K (.ref f) = true
structure Df (K : PySem.W.Frag) (mg : Str → Option Value) (x : Str) (st : Stmt) (ps : List Str) : Prop where
  ex : ∃ f fd, Fu K x st f fd ∧ Binds K fd ps [] ∧ mg x = some (.ref f)
structure Fn (P : Program) (w : World) (K : PySem.W.Frag) (mg : Str → Option Value) (base : Heap) (k : Nat) (x : Str) (ps : List Str) (sp : Sp) : Prop where
  ex : ∃ f fd, FnOk P w K mg base (CXE P w) k f fd ps sp ∧ mg x = some (.ref f) ∧ PySem.W.keepIn K (.ref f) = true ∧ Binds K fd ps [] ∧ ∃ oc od osl, K.lookup f = some ⟨oc, od, .func fd, osl⟩
section
variable {P : Program} {w : World} {K : PySem.W.Frag} {mg : Str → Option Value} {base : Heap} {x : Str} {st : Stmt} {N ps : List Str} {k : Nat} {sp : Sp}
theorem Df.ok0 (D : Df K mg x st ps) (S : FnScope N ps (defScope st)) (len : ∀ vs H Q E, sp vs H Q E → vs.length = ps.length)
    (hbody : ∀ (f : Addr) (cdv : Value) (A : Around) (outer : List Env) (s : Shared) (H : Hp) (vs : List V) (Q : VK) (E : XK), Room k (A.deeper (envOfC x (defScope st) s.heap.objs.size f cdv)) → sp vs H Q E →
      ∃ t, PSs (cxOf (CXE P w) P w K mg base N x (defScope st) f cdv A outer s H E).nox (defBody st) t ∧ t { nx := fun _ H' => Q .non H', rt := Q } (start N vs) H) : Fn P w K mg base (k + 1) x ps sp := by
  obtain ⟨f, fd, ⟨⟨oc, od, dV, kV, doc, pm, an, cdv, ct, osl, rfl, lk, hcd⟩, kp⟩, bd, hm⟩ := D.ex
  refine ⟨f, _, fn_of lk hcd S len fun A outer s H vs Q E hr hsp => ?_, hm, kp, bd, _, _, _, lk⟩
  obtain ⟨t, h, q⟩ := hbody f cdv A outer s H vs Q E hr hsp
  exact ⟨t, h.nox, q⟩
theorem Df.okX (D : Df K mg x st ps) (S : FnScope N ps (defScope st)) (len : ∀ vs H Q E, sp vs H Q E → vs.length = ps.length)
    (hbody : ∀ (f : Addr) (cdv : Value) (A : Around) (outer : List Env) (s : Shared) (H : Hp) (vs : List V) (Q : VK) (E : XK), Room k (A.deeper (envOfC x (defScope st) s.heap.objs.size f cdv)) → sp vs H Q E →
      ∃ t, PSs (cxOf (CXE P w) P w K mg base N x (defScope st) f cdv A outer s H E) (defBody st) t ∧ t { nx := fun _ H' => Q .non H', rt := Q } (start N vs) H) : Fn P w K mg base (k + 1) x ps sp := by
  obtain ⟨f, fd, ⟨⟨oc, od, dV, kV, doc, pm, an, cdv, ct, osl, rfl, lk, hcd⟩, kp⟩, bd, hm⟩ := D.ex
  exact ⟨f, _, fn_of lk hcd S len fun A outer s H vs Q E hr hsp => hbody f cdv A outer s H vs Q E hr hsp, hm, kp, bd, _, _, _, lk⟩
end
section
variable {X : Cx} {k k' : Nat} {x : Str} {ps : List Str} {sp : Sp} {E : XK} {p pos : Pos} {e : Expr} {es : List Expr} {t : TA}
theorem pe_fn (F : Fn X.prog X.w X.K X.mg X.base k x ps sp) (hk : k ≤ k') (hr : Room k' X.A) (hg : Gl X x) (hx : Passes (CXE X.prog X.w) X E) (ha : PA X (e :: es) t) (hdb : (x == ("__debug__" : Str)) = false := by decide)
    (he : starEach (e :: es) X.env = (false, eval e X.env) :: starEach es X.env := by rfl) (hpl : (backTo pos (starEach es X.env)).any (·.1) = false := by rfl) : PE X (.Call (.Name x p) (e :: es) [] pos) (tCall sp [] E t) := by
  obtain ⟨f, fd, G, hm, kp, bd, _⟩ := F.ex
  exact pe_call G (hr.mono hk) hg hm kp bd .nil hx ha hdb he hpl
end
end Kw
set_option Elab.async false
set_option linter.all false
set_option maxRecDepth 100000
set_option maxHeartbeats 4000000
namespace Kw
open PySem PySem.Spec PyProof.Rows L2
noncomputable def Bd (n : Nat) (i : Int) : Prop := i.natAbs < 2 ^ n
theorem Bd.mono {m n : Nat} {i : Int} (h : Bd m i) (l : m ≤ n) : Bd n i := Nat.lt_of_lt_of_le h (Nat.pow_le_pow_right (by decide) l)
theorem Bd.of_le {n : Nat} {i j : Int} (h : Bd n j) (l : i.natAbs ≤ j.natAbs) : Bd n i := Nat.lt_of_le_of_lt l h
theorem Bd.bits {n : Nat} {i : Int} (h : Bd n i) : Builtin.Int.intBits i ≤ n := intBits_le_iff.mpr h
theorem bd_bits {n : Nat} {i : Int} (h : Builtin.Int.intBits i ≤ n) : Bd n i := intBits_le_iff.mp h
theorem Bd.mul {m n : Nat} {i j : Int} (h : Bd m i) (g : Bd n j) : Bd (m + n) (i * j) := bd_bits (intBits_mul_le h.bits g.bits)
theorem Bd.add {m : Nat} {i j : Int} (h : Bd m i) (g : Bd m j) : Bd (m + 1) (i + j) := bd_bits (Nat.le_trans (intBits_add_le h.bits g.bits) (by omega))
theorem Bd.sub {m : Nat} {i j : Int} (h : Bd m i) (g : Bd m j) : Bd (m + 1) (i - j) := bd_bits (Nat.le_trans (intBits_sub_le h.bits g.bits) (by omega))
theorem Bd.ok {m n : Nat} {i j : Int} (h : Bd m i) (g : Bd n j) (l : m + n ≤ 134217728) : IntMulOk i j := .of_le h.bits g.bits l
theorem Bd.small {i : Int} (h1 : -(2 ^ 64) < i) (h2 : i < 2 ^ 64) : Bd 64 i := bd_bits (intBits_le_64 h1 h2)
theorem Bd.log {i : Int} (h : Bd 9000 i) : i.natAbs.log2 < 9000 := by
  by_cases h0 : i.natAbs = 0
  · rw [h0]; decide +kernel
  · exact (Nat.log2_lt h0).mpr h
theorem mulOk_small {i j : Int} (h1 : -(2 ^ 64) < j) (h2 : j < 2 ^ 64) : IntMulOk i j := .of_right (intBits_le_64 h1 h2)
theorem mulOk_smallL {i j : Int} (h1 : -(2 ^ 64) < i) (h2 : i < 2 ^ 64) : IntMulOk i j := .of_left (intBits_le_64 h1 h2)
theorem bd_fT {n : Nat} {t b : Int} (h : b ≠ 0) (g : Bd n t) : Bd n (fT t b) := g.of_le (fT_le h)
theorem bd_fB {n : Nat} {t b : Int} (h : b ≠ 0) (g : Bd n b) : Bd n (fB t b) := g.of_le (fB_le h)
theorem bd_dv {n : Nat} {t b : Int} (h : b ≠ 0) (g : Bd n b) : Bd n (dv t b) := g.of_le (dv_le h)
section
variable {K : PySem.W.Frag}
end
noncomputable def Frac (t b : Int) (H : Hp) (Q : VK) : Prop := ∀ p H', Same H H' → H' p = some (.tup [.int (fT t b), .int (fB t b)]) → Q (.ref p) H'
noncomputable def Scr (K : PySem.W.Frag) (H : Hp) (a : Addr) : Prop := ∃ ns : List Int, SqL K H a (ns.map V.int) ∧ ns.length ≤ 63 ∧ ∀ n ∈ ns, Bd 1048576 n
noncomputable def spCell (K : PySem.W.Frag) : Sp := fun vs H Q _ => ∃ a k, vs = [.ref a, .int k] ∧ Scr K H a ∧ 0 ≤ k ∧ k ≤ 1000 ∧ ∀ c, Bd 1048576 c → Q (.int c) H
noncomputable def spMix : Sp := fun vs H Q _ => ∃ c k, vs = [.int c, .int k] ∧ Bd 1048576 c ∧ 0 ≤ k ∧ k ≤ 1000 ∧ ∀ n, Q (.int n) H
noncomputable def spBox (K : PySem.W.Frag) : Sp := fun vs H Q _ => ∃ a k, vs = [.ref a, .int k] ∧ Scr K H a ∧ 0 ≤ k ∧ k ≤ 1000 ∧ ∀ p n H', H p = none → Same H H' → H' p = some (.lst [.int n]) → Q (.ref p) H'
noncomputable def spTake : Sp := fun vs H Q _ => ∃ b m n, vs = [.ref b, .int m] ∧ H b = some (.lst [.int n]) ∧ 0 < m ∧ Bd 9000 m ∧ ∀ d n' H', 0 ≤ d → d < m → But b H H' → H' b = some (.lst [.int n']) → Q (.int d) H'
noncomputable def spFit : Sp := fun vs H Q _ => ∃ a b : Int, vs = [.int a, .int b] ∧ b ≠ 0 ∧ Bd 9000 b ∧ Frac a b H Q
end Kw
set_option Elab.async false
set_option linter.all false
set_option maxRecDepth 100000
set_option maxHeartbeats 4000000
namespace Kw
open PySem PySem.Spec PyProof.Rows L2
section
variable {X : Cx} {pins : List (Addr × Obj)} {σ : L2.St} {H : Hp} {s : Shared} {h' : Heap} {ch : List Addr} {x : Addr}
theorem Flown.inv (pl : Plain X) (hcell : X.env.cells = []) (I : Inv X pins σ H s) (f : Flown X H s.heap h' ch) (np : ∀ p ∈ X.pn ++ pins, p.1 ∉ ch) {s' : Shared} (hs : s'.heap = h') (ho : s'.os = s.os) (hg : AllBare s'.gens) : Inv X pins σ H s' := by
  subst hs
  refine ⟨I.ok, ho.trans I.os, hg, ?_, ?_, fun x c z => ?_, I.free, I.freeC, fun p hp => ?_, f.hok I, I.len⟩
  · have u := f.un pl I
    rw [pl.ex]
    exact u
  · obtain ⟨m, hn, hl⟩ := I.loc
    obtain ⟨o, es, ep, e1, e2, e3⟩ := hn
    obtain ⟨sl, e4⟩ := f.slot _ o e1 (locInStack pl)
    refine ⟨m, ⟨_, es, ep, e4, e2, e3⟩, fun i x v a b c => ?_⟩
    obtain ⟨u, r, lk⟩ := hl i x v a b c
    refine ⟨u, r, ?_⟩
    rcases lk with lk | ⟨_, c', lk, _⟩
    · exact .inl lk
    · rw [hcell] at lk
      cases lk
  · rw [hcell] at z
    cases z
  · obtain ⟨a, b, c, d, e⟩ := I.pin p hp
    refine ⟨f.keep _ _ a (fun z => ?_) (np p hp), b, c, d, e⟩
    rcases List.mem_cons.mp (I.stkSub _ z) with q | q
    · exact c q
    · exact d q
theorem Inv.adopt (hcl : ∀ y c, X.env.cells.lookup y = some c → c ≠ x)   {o : HO} (I : Inv X pins σ H s) (n0 : X.s₀.heap.get? x = none) (hx : H x = none) (hL : x ≠ X.env.locals) (np : ∀ p ∈ X.pn ++ pins, p.1 ≠ x) (ok : ObjOk X.prog X.w (upd H x o) s.heap x o) :
    Inv X pins σ (upd H x o) s := by
  have nx : ∀ b, H b ≠ none → b ≠ x := fun b hb z => hb (by rw [z]; exact hx)
  refine ⟨I.ok, I.os, I.bare, ⟨I.base.keep, I.base.slot, fun b ob q n hb => ?_, I.base.there, fun b xs q => ?_, fun b ob u q => ?_, fun b ps q => ?_⟩, I.loc, I.cell, ?_, fun y c z => ?_, fun p hp => ?_, fun a u e => ?_, I.len⟩
  · rw [upd_ne fun z => by rw [z, n0] at q; cases q]
    exact I.base.free b ob q n hb
  · have z := I.base.tups b xs q
    rw [upd_ne (nx b (by rw [z]; exact fun q => nomatch q))]
    exact z
  · have z := I.base.frzs b ob u q
    rw [upd_ne (nx b (by rw [z]; exact fun q => nomatch q))]
    exact z
  · obtain ⟨more, z⟩ := I.base.tbls b ps q
    exact ⟨more, by rw [upd_ne (nx b (by rw [z]; exact fun q => nomatch q))]; exact z⟩
  · rw [upd_ne (Ne.symm hL)]
    exact I.free
  · rw [upd_ne (hcl y c z)]
    exact I.freeC y c z
  · obtain ⟨a, b, c, d, e⟩ := I.pin p hp
    exact ⟨a, by rw [upd_ne (np p hp)]; exact b, c, d, e⟩
  · by_cases z : a = x
    · subst z
      rw [upd_same] at e
      cases e
      exact ok
    · rw [upd_ne z] at e
      refine (I.hok a u e).stay (fun b v hb q => q) (fun b q => ?_) fun b xs q => ?_
      · rw [upd_ne (nx b (by rw [q]; exact fun q => nomatch q))]
        exact q
      · rw [upd_ne (nx b (by rw [q]; exact fun q => nomatch q))]
        exact q
end
noncomputable def sut (X : Cx) (x : Addr) : Cx := { X with A := X.A.mark (some (.ref x)), calm := false, xe := fun _ _ => False }
theorem Inv.sut {X : Cx} {pins : List (Addr × Obj)} {σ : L2.St} {H : Hp} {s : Shared} (I : Inv X pins σ H s) (x : Addr) : Inv (sut X x) pins σ H s := by
  obtain ⟨ok, r1, r2, r3, r4, r5, r6, r7, r8, r9, r10⟩ := I
  obtain ⟨a1, a2, a3, a4, a5, a6, a7, a8, a9, a10, a11, a12, a13, a14, a15, a16, a17, a18⟩ := ok
  exact ⟨⟨a1, a2, a3, a4, a5, a6, a7, a8, (fun z => nomatch z), a10, a11, a12, a13, a14, a15, a16, a17, a18⟩, r1, r2, r3, r4, r5, r6, r7, r8, r9, r10⟩
theorem Inv.unsut {X : Cx} {pins : List (Addr × Obj)} {σ : L2.St} {H : Hp} {s : Shared} {x : Addr} (ok : X.Ok) (I : Inv (Kw.sut X x) pins σ H s) : Inv X pins σ H s := by
  obtain ⟨_, r1, r2, r3, r4, r5, r6, r7, r8, r9, r10⟩ := I
  exact ⟨ok, r1, r2, r3, r4, r5, r6, r7, r8, r9, r10⟩
end Kw
set_option Elab.async false
set_option linter.all false
set_option maxRecDepth 100000
set_option maxHeartbeats 4000000
namespace Kw
open PySem PySem.Spec PyProof.Rows L2
section
variable {X : Cx} {pins : List (Addr × Obj)} {σ : L2.St} {H : Hp} {s : Shared}
theorem Inv.forget (pl : Plain X) (hcell : X.env.cells = []) (I : Inv X pins σ H s) {h' : Heap} {m' : Str → Option Value} {tk : Nat} (hn : h'.Ns X.env.locals m') (sb : Heap.SameBut X.env.locals s.heap h') :
    Inv X pins (List.replicate X.N.length none) H { s with heap := h', toks := tk } := by
  have kp : ∀ b, b ≠ X.env.locals → h'.get? b = s.heap.get? b := fun b hb => sb.2 b hb
  have old : ∀ b o, X.s₀.heap.get? b = some o → b ≠ X.env.locals := fun b o q z => by
    subst z
    exact absurd (Heap.lt_size q) (Nat.not_lt.mpr I.ok.above)
  refine ⟨I.ok, I.os, I.bare, ⟨fun b o q n a c => ?_, fun b o q n a c => ?_, I.base.free, fun b o q c => ?_, I.base.tups, I.base.frzs, I.base.tbls⟩, ⟨m', hn, fun i x v a b c => ?_⟩, fun x c z => ?_, I.free, I.freeC, fun p hp => ?_, fun a o e => ?_, by simp⟩
  · exact (kp b (old b o q)).trans (I.base.keep b o q n a c)
  · obtain ⟨sl, z⟩ := I.base.slot b o q n a c
    exact ⟨sl, (kp b (old b o q)).trans z⟩
  · obtain ⟨o', z⟩ := I.base.there b o q c
    exact ⟨o', (kp b (old b o q)).trans z⟩
  · exfalso
    rw [List.getElem?_replicate] at b
    split at b <;> cases b
  · rw [hcell] at z
    cases z
  · obtain ⟨a, b, c, d, e⟩ := I.pin p hp
    exact ⟨(kp _ c).trans a, b, c, d, e⟩
  · refine (I.hok a o e).stay (fun b u hb ho => ?_) (fun _ z => z) fun _ _ z => z
    have nb : b ≠ X.env.locals := fun z => by
      subst z
      rcases hb with q | q
      · rw [← q, I.free] at e; cases e
      · rw [I.free] at q; cases q
    exact (kp b nb).trans ho
end
section
variable {X : Cx} {k k' i j : Nat} {fx y n xK : Str} {ps : List Str} {sp : Sp} {CK : Addr} {e : Expr} {es : List Expr} {t : TA} {ts : TS} {b₀ : Stmt} {suite : List Stmt} {np cpos yp apos kp hpos pos : Pos}
end
end Kw
set_option Elab.async false
set_option linter.all false
set_option maxRecDepth 100000
set_option maxHeartbeats 4000000
namespace Kw
open PySem PySem.Spec PyProof.Rows L2
section
variable {X : Cx}
end
end Kw
set_option Elab.async false
set_option linter.all false
set_option maxRecDepth 100000
set_option maxHeartbeats 4000000
namespace Kw
open PySem PySem.Spec PyProof.Rows L2
section
variable {X : Cx} {pins : List (Addr × Obj)} {σ : L2.St} {H : Hp} {s : Shared} {h' : Heap} {ch : List Addr}
end
end Kw
set_option Elab.async false
set_option linter.all false
set_option maxRecDepth 100000
set_option maxHeartbeats 4000000
namespace Kw
open PySem PySem.Spec PyProof.Rows L2
section
variable {X : Cx}
theorem all_range_eq : ∀ (ns ms : List Int), ((List.range (min ns.length ms.length)).all (fun j => decide (ns[j]? = ms[j]?)) && ns.length == ms.length) = decide (ns = ms) := by
  intro ns ms
  by_cases e : ns = ms
  · subst e
    rw [decide_eq_true rfl, Bool.and_eq_true]
    exact ⟨List.all_eq_true.mpr fun j _ => decide_eq_true rfl, beq_self_eq_true _⟩
  · rw [decide_eq_false e, Bool.and_eq_false_iff]
    by_cases l : ns.length = ms.length
    · left
      refine Bool.eq_false_iff.mpr fun h => e (List.ext_getElem? fun i => ?_)
      by_cases hi : i < ns.length
      · exact of_decide_eq_true (List.all_eq_true.mp h i (List.mem_range.mpr (by omega)))
      · rw [List.getElem?_eq_none (by omega), List.getElem?_eq_none (by omega)]
    · right
      exact beq_eq_false_iff_ne.mpr l
theorem int_item {ns : List Int} {its : List Value} (r : Vals (ns.map V.int) its) {j : Nat} (h : j < its.toArray.size) : ∃ n t, ns[j]? = some n ∧ its.toArray[j] = Value.int n t := by
  have hl := r.length
  rw [List.length_map] at hl
  have hj : j < ns.length := by simp at h; omega
  have e : (ns.map V.int)[j]? = some (V.int ns[j]) := by rw [List.getElem?_map, List.getElem?_eq_getElem hj]; rfl
  obtain ⟨u, hu, t, rfl⟩ := r.get e
  refine ⟨ns[j], t, List.getElem?_eq_getElem hj, ?_⟩
  have hj' : j < its.length := by omega
  rw [List.getElem?_eq_getElem hj'] at hu
  simpa using Option.some.inj hu
theorem op_eqTI (hu : X.A.units < cLine) : OpR X (compareOp .Eq) (fun x y H Q => ∃ (a b : Addr) (ns ms : List Int), x = .ref a ∧ y = .ref b ∧ SqT X.K H a (ns.map V.int) ∧ SqT X.K H b (ms.map V.int) ∧ Q (.bl (decide (ns = ms))) H) := by
  intro pins s σ H x y v u Q I rx ry h
  obtain ⟨a, b, ns, ms, rfl, rfl, ha, hb, q⟩ := h
  cases (show v = Value.ref a from rx)
  cases (show u = Value.ref b from ry)
  obtain ⟨its, r, pl, hz⟩ := I.tuple ha
  obtain ⟨jts, r', pl', hz'⟩ := I.tuple hb
  refine SeqAt.eq_tupleAt (e := fun j => decide (ns[j]? = ms[j]?)) pl pl' hu (fun j h1 h2 => ?_) ?_
  · obtain ⟨n, t, e1, e2⟩ := int_item r h1
    obtain ⟨m, t', e3, e4⟩ := int_item r' h2
    rw [e2, e4, e1, e3]
    have z : decide (some n = some m) = (n == m) := by
      by_cases c : n = m
      · subst c; simp
      · simp [c]
    rw [z]
    exact SeqAt.EqAt.int_int n t m t'
  · have l1 : its.toArray.size = ns.length := by rw [List.size_toArray, ← r.length, List.length_map]
    have l2 : jts.toArray.size = ms.length := by rw [List.size_toArray, ← r'.length, List.length_map]
    rw [l1, l2, all_range_eq]
    exact ⟨.bl (decide (ns = ms)), H, I, rfl, q⟩
end
end Kw
set_option Elab.async false
set_option linter.all false
set_option maxRecDepth 100000
set_option maxHeartbeats 4000000
namespace Kw
open PySem PySem.Spec PyProof.Rows L2
theorem weight_items : ∀ (ns : List Int) (n : Int), n ∈ ns → Builtin.Int.intBits n ≤ PySem.W.WData.weightAll (ns.map PySem.W.WData.int)
  | [], _, h => nomatch h
  | m :: r, n, h => by
    have e : PySem.W.WData.weightAll ((m :: r).map PySem.W.WData.int) = Builtin.Int.intBits m + 1 + PySem.W.WData.weightAll (r.map PySem.W.WData.int) := rfl
    rw [e]
    rcases List.mem_cons.mp h with z | z
    · subst z; omega
    · have := weight_items r n z
      omega
theorem script_bits {ns : List Int} (h : PySem.W.WData.layableAll [PySem.W.WData.list (ns.map PySem.W.WData.int)] = true) : ∀ n ∈ ns, Bd 1048576 n := fun n hn => by
  have h1 : PySem.W.WData.layable (PySem.W.WData.list (ns.map PySem.W.WData.int)) = true := by
    unfold PySem.W.WData.layableAll at h
    simpa using h
  unfold PySem.W.WData.layable at h1
  rw [Bool.and_eq_true] at h1
  have h2 : PySem.W.WData.weightAll (ns.map PySem.W.WData.int) ≤ 2 ^ 20 := of_decide_eq_true h1.2
  exact bd_bits (Nat.le_trans (weight_items ns n hn) h2)
noncomputable def spLaw (K : PySem.W.Frag) : Sp := fun vs H Q _ => ∃ a, vs = [.ref a] ∧ Scr K H a ∧ ∀ H', Q (.bl true) H'
theorem walk_kw {pn : Str} {l : PySem.W.OpenLaw} {k : Nat} {q : Program} {loose : List Str} {XP : (Str → Option Value) → Heap → Prop} {YP : World → Heap → Prop} {d : DefRec} {K : Params → PySem.W.Frag}
    (hn : l.most = some 63) (hdf : d.params.defaults = []) (hr : Room k callerA) (hY : ∀ (w : World) (h : Heap), YP w h → (K w.params).In h) (hnm : d.name = "law")
    (F : ∀ (w : World) (mg : Str → Option Value) (h : Heap), (K w.params).In h → h.Ns mainGlobals mg → ∃ fa, mg "law" = some (.ref fa) ∧ ∃ fd : FuncData, (∀ (s : Shared) (u : Value), BindsTo s fd ⟨[u], []⟩ [(pn, u)]) ∧
      ∀ base : Heap, (K w.params).In base → base.Ns mainGlobals mg → FnOk l.prog w (K w.params) mg base (CXE l.prog w) k fa fd [pn] (spLaw (K w.params))) :
    PySem.W.WalkO q loose XP YP l.row.toRowW d [] (fun f vs => PySem.call f vs) := by
  intro w s₀ s₁ mg mb G Y fa o pm cd doc dV kV ho hd hcd hD hmg hg args vals as hpre hlay hrd hwl hlo
  obtain ⟨a, vs, ns, e1, e2, hobj, hints, hlen⟩ := Att.script_of hn hpre hwl
  subst e1 e2
  have KX := hY w _ Y
  obtain ⟨fa', hfa, fd, hb, hF⟩ := F w mg _ KX G.T.g
  rw [hnm, hfa] at hmg
  cases hmg
  have core := law_call KX G.T.g G.T.b G.T.builtins G.T.nolimit hg hobj hints (Nat.le_trans hlen (by decide)) hr hF hb (fun H hO hS => ⟨a, rfl, ⟨ns, hS, hlen, script_bits hlay⟩, fun _ => rfl⟩) (fun H e s' z => by
    obtain ⟨_, _, _, _, _, _, _, _, _, _, z⟩ := z
    exact z)
  refine PySem.W.enter_call (codeAny_mono core fun r s' hq => ?_)
  obtain ⟨rfl, h2, h3, h4⟩ := hq
  exact ⟨.inl ⟨.bool true, .bool true, [], rfl, fun _ => rfl, .bool true, Att.post_true l _, fun _ => ⟨List.Pairwise.nil, fun _ hm => (nomatch hm)⟩⟩, h2, h3, h4⟩
theorem plain_nox {CX : CXT} {P : Program} {w : World} {K : PySem.W.Frag} {mg : Str → Option Value} {base : Heap} {N : List Str} {qual : Str} {scope : Scope} {f : Addr} {cd : Value} {A : Around} {outer : List Env} {s : Shared} {H : Hp} {E : XK} :
    Plain (cxOf CX P w K mg base N qual scope f cd A outer s H E).nox := ⟨rfl, rfl, rfl⟩
theorem df_mk {K : PySem.W.Frag} {h : Heap} {mg : Str → Option Value} {x : Str} {st : Stmt} {ps : List Str} {f : Addr} {od an : Option Addr} {sl : Array (Option Value)} {oc kV dc pm cd ct : Value} (X : K.In h) (G : h.Ns mainGlobals mg)
    (a : PySem.W.nsIn K mainGlobals x = some (some (.ref f))) (l : K.lookup f = some ⟨oc, od, .func (PySem.W.fnOf x x (defArgs st) (defBody st) (defScope st) .none kV dc pm an cd ct), sl⟩) (c : PySem.W.codeIn K cd x = true) (k : PySem.W.keepIn K (.ref f) = true)
    (b : ∀ us : List Value, us.length = ps.length → bindArgs (PySem.W.fnOf x x (defArgs st) (defBody st) (defScope st) .none kV dc pm an cd ct) ⟨us, []⟩ = pure (ps.zip us)) : Df K mg x st ps :=
  ⟨f, _, ⟨⟨oc, od, .none, kV, dc, pm, an, cd, ct, sl, rfl, l, c⟩, k⟩, .all b, PySem.W.mg_of X G a⟩
theorem law_end {pn : Str} {P : Program} {w : World} {K : PySem.W.Frag} {h : Heap} {mg : Str → Option Value} {st : Stmt} {f : Addr} {od an : Option Addr} {sl : Array (Option Value)} {oc kV dc pm cd ct : Value} {k : Nat} (X : K.In h) (G : h.Ns mainGlobals mg)
    (a : PySem.W.nsIn K mainGlobals "law" = some (some (.ref f))) (l : K.lookup f = some ⟨oc, od, .func (PySem.W.fnOf "law" "law" (defArgs st) (defBody st) (defScope st) .none kV dc pm an cd ct), sl⟩)
    (b : ∀ u : Value, bindArgs (PySem.W.fnOf "law" "law" (defArgs st) (defBody st) (defScope st) .none kV dc pm an cd ct) ⟨[u], []⟩ = pure [(pn, u)])
    (F : ∀ base : Heap, K.In base → base.Ns mainGlobals mg → Fn P w K mg base k "law" [pn] (spLaw K)) :
    ∃ fa, mg "law" = some (.ref fa) ∧ ∃ fd : FuncData, (∀ (s : Shared) (u : Value), BindsTo s fd ⟨[u], []⟩ [(pn, u)]) ∧ ∀ base : Heap, K.In base → base.Ns mainGlobals mg → FnOk P w K mg base (CXE P w) k fa fd [pn] (spLaw K) := by
  have hm := PySem.W.mg_of X G a
  refine ⟨f, hm, _, fun s u => .of_eq (b u), fun base kb nb => ?_⟩
  obtain ⟨f', fd', G', hm', _, _, _, _, _, lk⟩ := (F base kb nb).ex
  rw [hm] at hm'
  cases hm'
  rw [l] at lk
  cases lk
  exact G'
end Kw
set_option Elab.async false
set_option linter.all false
set_option maxRecDepth 100000
set_option maxHeartbeats 4000000
namespace Kw
open PySem PySem.Spec PyProof.Rows L2 PySem.Builtin PySem.Builtin.ObjectAttr PySem.Builtin.Getset_descriptor
structure ExcQ (K : PySem.W.Frag) (C : Addr) : Prop where
  ga : PySem.W.findIn K (.ref C) "__getattribute__" = some (some (.builtin "BaseException.__getattribute__"))
  hk : PySem.W.findIn K (.ref C) "__getattr__" = some none
  cl : PySem.W.findIn K (.ref C) "__class__" = some (some (.builtin "object.__class__"))
  gt : PySem.W.specialIn K (.builtin "object.__class__") "__get__" = some (some (.builtin "getset_descriptor.__get__"))
  tk : PySem.W.takesIn K (.builtin "object.__class__") = some true
  ob : PySem.W.mroIn K C (.type "object") = some true
  be : PySem.W.mroIn K C (.type "BaseException") = some true
section
variable {prog : Program} {w : World} {A : Around} {E : Value → Shared → Prop} {s : Shared} {K : PySem.W.Frag} {x C : Addr}
theorem ga_check {nameV : Value} {Q : Unit → Shared → Prop} (kx : K.In s.heap) (L0 : PySem.W.Looks (model prog w) s.heap (typeOf (.ref x)) (.ref C)) (q : ExcQ K C) (want : Q () s) :
    wpAny (model prog w) A (checkBuiltinCall "BaseException.__getattribute__" ⟨[.ref x, nameV], []⟩) Q E s := by
  obtain ⟨z0, z1, z2, z3, z4⟩ := s
  have hk : builtinKind "BaseException.__getattribute__" = some .slot := by decide +kernel
  have hsp : splitId "BaseException.__getattribute__" = some ("BaseException", "__getattribute__") := by decide +kernel
  have L1 := PySem.W.looks_mroIn (M := model prog w) kx q.be
  have ha := PySem.F.args_bexc_ga (.ref x) nameV
  simp only [checkBuiltinCall, hk, hsp]
  refine wpAny_bind ?_
  unfold isInstance
  repeat (first | lk | wp_step)
  exact want
end
section
variable {X : Cx}
end
end Kw
set_option Elab.async false
set_option linter.all false
set_option maxRecDepth 100000
set_option maxHeartbeats 4000000
namespace Kw
open PySem PySem.Spec PyProof.Rows L2
mutual
inductive Dp (K : PySem.W.Frag) (H : Hp) : V → PyData → Prop
  | non : Dp K H .non .none
  | bl (b : Bool) : Dp K H (.bl b) (.bool b)
  | int (i : Int) : Dp K H (.int i) (.int i)
  | str (x : Str) : Dp K H (.str x) (.str x)
  | lst {p : Addr} {xs : List V} {ds : List PyData} : SqL K H p xs → Dps K H xs ds → Dp K H (.ref p) (.list ds)
  | tup {p : Addr} {xs : List V} {ds : List PyData} : SqT K H p xs → Dps K H xs ds → Dp K H (.ref p) (.tuple ds)
inductive Dps (K : PySem.W.Frag) (H : Hp) : List V → List PyData → Prop
  | nil : Dps K H [] []
  | cons {x : V} {xs : List V} {d : PyData} {ds : List PyData} : Dp K H x d → Dps K H xs ds → Dps K H (x :: xs) (d :: ds)
end
section
variable {X : Cx} {pins : List (Addr × Obj)} {σ : L2.St} {H : Hp} {s : Shared}
mutual
theorem Dp.reads (I : Inv X pins σ H s) : ∀ {x : V} {d : PyData} {u : Value}, Dp X.K H x d → RelV x u → ∃ as, Reads s.heap u d as
  | _, _, _, .non, r => by cases r; exact ⟨_, .none⟩
  | _, _, _, .bl b, r => by cases r; exact ⟨_, .bool b⟩
  | _, _, _, .int i, r => by obtain ⟨t, rfl⟩ := r; exact ⟨_, .int i t⟩
  | _, _, _, .str x, r => by obtain ⟨t, rfl⟩ := r; exact ⟨_, .str x t⟩
  | _, _, _, .lst h q, r => by
    cases r
    obtain ⟨its, r', pl, hz⟩ := I.list h
    obtain ⟨as, ra⟩ := Dps.reads I q r'
    obtain ⟨o, n, ho, hc, _, hd⟩ := pl
    exact ⟨_, .list ho hc hd ra⟩
  | _, _, _, .tup h q, r => by
    cases r
    obtain ⟨its, r', pl, hz⟩ := I.tuple h
    obtain ⟨as, ra⟩ := Dps.reads I q r'
    obtain ⟨o, ho, hc, n, hd⟩ := pl
    exact ⟨_, .tuple ho hc hd ra⟩
theorem Dps.reads (I : Inv X pins σ H s) : ∀ {xs : List V} {ds : List PyData} {us : List Value}, Dps X.K H xs ds → Vals xs us → ∃ as, ReadsAll s.heap us ds as
  | _, _, _, .nil, r => by cases r; exact ⟨_, .nil⟩
  | _, _, _, .cons h q, r => by
    cases r with
    | cons a b =>
      obtain ⟨as, ra⟩ := Dp.reads I h a
      obtain ⟨bs, rb⟩ := Dps.reads I q b
      exact ⟨_, .cons ra rb⟩
end
noncomputable def rDp (K : PySem.W.Frag) (g : Bool → Bool) : V → V → Hp → VK → Prop := fun x y H Q => ∃ dx dy, Dp K H x dx ∧ Dp K H y dy ∧ dx.canLay0 = true ∧ dy.canLay0 = true ∧ min dx.depth dy.depth ≤ 60 ∧ Q (.bl (g (PyData.eqv dx dy))) H
theorem op_eqD {K : PySem.W.Frag} (hK : X.K = K) (hu : X.A.units + 100 < cLine) : OpR X (compareOp .Eq) (rDp K id) := by
  subst hK
  intro pins s σ H x y v u Q I rx ry h
  obtain ⟨dx, dy, hx, hy, cx, cy, dep, q⟩ := h
  obtain ⟨as, ra⟩ := hx.reads I rx
  obtain ⟨bs, rb⟩ := hy.reads I ry
  exact SeqAt.compareEq_reads ra rb cx cy (by omega) ⟨.bl (PyData.eqv dx dy), H, I, rfl, q⟩
theorem op_neD {K : PySem.W.Frag} (hK : X.K = K) (hu : X.A.units + 100 < cLine) : OpR X (compareOp .NotEq) (rDp K not) := by
  subst hK
  intro pins s σ H x y v u Q I rx ry h
  obtain ⟨dx, dy, hx, hy, cx, cy, dep, q⟩ := h
  obtain ⟨as, ra⟩ := hx.reads I rx
  obtain ⟨bs, rb⟩ := hy.reads I ry
  exact SeqAt.compareNe_reads ra rb cx cy (by omega) ⟨.bl (!PyData.eqv dx dy), H, I, rfl, q⟩
end
end Kw
set_option Elab.async false
set_option linter.all false
set_option maxRecDepth 100000
set_option maxHeartbeats 4000000
namespace Kw
open PySem PySem.Spec PyProof.Rows L2
section
variable {X : Cx} {pos : Pos} {k v : Expr} {x : Str} {i : Int}
end
end Kw
namespace Kw
open PySem PySem.Spec PyProof.Rows L2
section
variable {X : Cx}
end
section
variable {K : PySem.W.Frag} {H H' : Hp} {v : V} {t : Value}
end
end Kw
namespace Kw
open PySem PySem.Spec PyProof.Rows L2
section
variable {X : Cx} {k k' : Nat} {x : Str} {ps : List Str} {sp : Sp} {E : XK} {p pos : Pos} {e : Expr} {es : List Expr} {t : TA} {dv : V}
end
end Kw
namespace Kw
end Kw
namespace Kw
open PySem PySem.Spec PyProof.Rows L2
end Kw
namespace Kw
open PySem PySem.Spec PyProof.Rows L2
theorem newO {H : Hp} {p : Addr} (hp : H p = none) (o : HO) : ∃ H', upd H p o = H' ∧ Same H H' ∧ H' p = some o := ⟨_, rfl, same_new hp o, upd_same⟩
end Kw
namespace Kw
open PySem PySem.Spec PyProof.Rows L2
end Kw
theorem Kw.u100 {k : Nat} {A : PySem.Around} (r : L2.Room k A) : A.units + 100 < PySem.cLine := by have := r.un; omega
namespace Kw
open PySem PySem.Spec PyProof.Rows L2
theorem cut1 {s1 r : TS} {D : Ends} {σ : L2.St} {H : Hp} (P : L2.St → Hp → Prop) (h : ∀ N : L2.St → Hp → Prop, (∀ σ' H', P σ' H' → N σ' H') → s1 { D with nx := N } σ H) (rest : ∀ σ' H', P σ' H' → r D σ' H') :
    tSeq s1 r D σ H := h (r D) rest
end Kw
set_option Elab.async false
set_option linter.all false
set_option maxRecDepth 100000
set_option maxHeartbeats 4000000
namespace Kw
open PySem PySem.Spec PyProof.Rows L2
noncomputable def cxC (X : Cx) (N : List Str) (scope : Scope) (cl : List (Str × Addr)) (C : Addr) (s : Shared) (H : Hp) (fp : List Addr) : Cx :=
  { X with N := N, s₀ := s, H₀ := H, env := compEnvC scope cl C X.env, outer := X.stack, stack := X.stack, ex := fp, fn := fun _ => false, pn := [], xe := fun _ _ => False }
section
variable {X : Cx} {pins : List (Addr × Obj)} {σ : L2.St} {H : Hp} {s : Shared} {N ns : List Str} {scope : Scope} {cl : List (Str × Addr)} {C : Addr} {fp : List Addr} {x : Str} {idx : List Nat}
theorem okC (I : Inv X pins σ H s) (f : ∀ b ∈ fp, FpOk X pins H b) (lt : ∀ b ∈ fp, b < s.heap.objs.size) (hC : s.heap.objs.size ≤ C) (hkind : scope.kind = .function) (hcl : ∀ y c, cl.lookup y = some c → X.env.cells.lookup y = some c)
    (hfr : ∀ y, ((compEnvC scope cl C X.env).kindOf y = some .cell ∨ (compEnvC scope cl C X.env).kindOf y = some .free) → ∃ c, cl.lookup y = some c) : (cxC X N scope cl C s H fp).Ok where
  mod := I.ok.mod
  kind := hkind
  glob := I.ok.glob
  blt := I.ok.blt
  above := hC
  inj := fun x y c e1 e2 => I.ok.inj x y c (hcl _ _ e1) (hcl _ _ e2)
  has := hfr
  cab := fun _ _ h => nomatch h
  hd := I.ok.hd
  frames := I.ok.frames
  stk := .inl rfl
  exf := fun b hb => ⟨Nat.ne_of_lt (Nat.lt_of_lt_of_le (lt b hb) hC), fun x c e => (f b hb).2.2.2.2.1 x c (hcl _ _ e)⟩
  bs := I.bs
  bsz := Nat.le_trans I.ok.bsz I.sz
  noex := fun b o e hb => by
    rcases (f b hb).2.2.2.1 with z | z
    · exact I.ok.noex b o e z
    · exact absurd (Nat.lt_of_lt_of_le (Heap.lt_size e) (Nat.le_trans I.ok.bsz z)) (Nat.lt_irrefl _)
  exfs := fun b hb hs => by
    rcases List.mem_cons.mp (I.stkSub b hs) with z | z
    · exact (f b hb).2.1 z
    · exact (f b hb).2.2.1 z
  funs := I.stack
  frf := I.stkFree
noncomputable def Capt (X : Cx) (scope : Scope) (cl : List (Str × Addr)) (ns : List Str) (idx : List Nat) : Prop :=
  idx.length = ns.length ∧ ∀ (k : Nat) (y : Str), ns[k]? = some y → ∃ j c, idx[k]? = some j ∧ X.N[j]? = some y ∧ X.env.kindOf y = some .cell ∧ X.env.cells.lookup y = some c ∧ cl.lookup y = some c ∧ ((relabel scope X.env).names.lookup y = some .cell ∨ (relabel scope X.env).names.lookup y = some .free)
noncomputable def stIn (v : Option V) (idx : List Nat) (σ : L2.St) : L2.St := v :: idx.map fun j => (σ[j]?).join
theorem invC {D : Addr} {h1 : Heap} {t : Nat} {o : Obj} {mC : Str → Option Value} (I : Inv X pins σ H s) (ok : (cxC X (x :: ns) scope cl C s H fp).Ok) (cap : Capt X scope cl ns idx) (hcl : ∀ y c, cl.lookup y = some c → X.env.cells.lookup y = some c)
    (keep : ∀ b u, s.heap.get? b = some u → h1.get? b = some u) (hC : s.heap.objs.size ≤ C) (hns : h1.Ns C mC) (hD : h1.get? D = some o) (hDs : s.heap.objs.size ≤ D) (hDC : D ≠ C) (hod : ∀ v, o.data ≠ .cell v) (hx : (relabel scope X.env).names.lookup x = some .local) :
    Inv (cxC X (x :: ns) scope cl C s H fp) [(D, o)] (stIn none idx σ) H { s with heap := h1, toks := t } := by
  have cellK : ∀ y c, cl.lookup y = some c → ∀ v, s.heap.IsCell c v → h1.IsCell c v := fun y c e v ⟨o, ho, hd⟩ => ⟨o, keep _ _ ho, hd⟩
  refine ⟨ok, rfl, I.bare, Un.kept keep, ⟨mC, hns, fun i y v e1 e2 e3 => ?_⟩, fun y c e => ?_, I.hok.fresh hC, fun y c e => I.freeC y c (hcl y c e), fun p hp => ?_, I.hok.kept keep, ?_⟩
  · cases i with
    | zero => cases e2
    | succ k =>
      have e1' : ns[k]? = some y := e1
      obtain ⟨j, c, h1', h2, h3, h4, h5, h6⟩ := cap.2 k y e1'
      have e2' : (idx.map fun j => (σ[j]?).join)[k]? = some (some v) := e2
      rw [List.getElem?_map, h1'] at e2'
      have e4 : (σ[j]?).join = some v := Option.some.inj e2'
      have e5 : σ[j]? = some (some v) := by
        cases q : σ[j]? with
        | none => rw [q] at e4; cases e4
        | some z => rw [q] at e4; exact congrArg some e4
      obtain ⟨m, hn, hl⟩ := I.loc
      obtain ⟨u, r, lk⟩ := hl j y v h2 e5 (.inr (.inl h3))
      refine ⟨u, r, .inr ⟨h6, c, h5, ?_⟩⟩
      rcases lk with ⟨z, _⟩ | ⟨_, c', z, ic⟩
      · rw [h3] at z; cases z
      · rw [h4] at z; cases z
        exact cellK y c h5 _ ic
  · obtain ⟨v, ic⟩ := I.cell y c (hcl y c e)
    exact ⟨v, cellK y c e v ic⟩
  · have e : p = (D, o) := by simpa [cxC] using hp
    subst e
    refine ⟨hD, I.hok.fresh hDs, hDC, fun hs => ?_, hod⟩
    obtain ⟨_, o', ho', _⟩ := I.stack.mem hs
    exact absurd (Heap.lt_size ho') (Nat.not_lt.mpr hDs)
  · unfold stIn
    rw [List.length_cons, List.length_map, cap.1]
    rfl
end
noncomputable abbrev NoE : Value → Shared → Prop := fun _ _ => False
noncomputable abbrev testsOf (ifs : List Expr) (env : Env) : Sem Bool := forIn ifs true fun c r => if r = true then do let ok ← isTrue c env (eval c env); pure (ForInStep.yield ok) else pure (ForInStep.yield r)
noncomputable def PTs (X : Cx) (ifs : List Expr) (t : TT) : Prop :=
  ∀ (pins : List (Addr × Obj)) (s : Shared) (σ : L2.St) (H : Hp) (Q : Bool → Hp → Prop), Inv X pins σ H s → t σ H Q → wpAny (model X.prog X.w) X.A (testsOf ifs X.env) (TP X pins σ Q) X.xe s
noncomputable def ttNil : TT := fun _ H Q => Q true H
theorem pts_nil {X : Cx} : PTs X [] ttNil := fun _ _ _ H _ I h => wpAny_tests_nil ⟨H, I, h⟩
theorem lc_loop {prog : Program} {w : World} {A : Around} {R : Result → Shared → Prop} {s : Shared} {elt target iter : Expr} {ifs : List Expr} {scope : Scope} {pos : Pos} {it acc : Value} {env : Env} (Z : Nat → Shared → Prop)
    (turn : ∀ n z, Z n z → wpAny (model prog w) A (pyNext it) (fun r z1 => match r with
      | none => R (.ok .next) z1
      | some v => wpAny (model prog w) A (letOwnedTupleGo target it v) (fun _ z2 => wpAny (model prog w) A (assign target env v) (fun _ z3 => wpAny (model prog w) A (testsOf ifs env) (fun ok z4 => if ok = true then
          wpAny (model prog w) A (eval elt env) (fun y z5 => wpAny (model prog w) A (call (.builtin "list.append") [acc, y]) (fun _ z6 => ∃ m, m < n ∧ Z m z6) NoE z5) NoE z4 else ∃ m, m < n ∧ Z m z4) NoE z3) NoE z2) NoE z1) NoE z)
    (n : Nat) (h : Z n s) : codeAny (model prog w) A (.compLoop (.ListComp elt [⟨target, iter, ifs, 0⟩] scope pos) 0 it acc env) R s := by
  refine codeAny_loop rfl Z (fun n z hZ => ?_) n h
  show wpAny _ A ((compTurn (.ListComp elt [⟨target, iter, ifs, 0⟩] scope pos) 0 it acc env).onRaise (fun q => do noteFrame q env; theTreesLotGoes q)) _ _ z
  refine wpAny_noted ?_
  rw [compTurn_list]
  refine wpAny_bind (wpAny_standAt (wpAny_bind (wpAny_mono (turn n z hZ) (fun r z1 k1 => ?_) fun _ _ q => q.elim)))
  cases r with
  | none => exact wpAny_pure k1
  | some v =>
    refine wpAny_bind (wpAny_mono k1 (fun _ z2 k2 => ?_) fun _ _ q => q.elim)
    refine wpAny_bind (wpAny_mono k2 (fun _ z3 k3 => ?_) fun _ _ q => q.elim)
    refine wpAny_bind (wpAny_mono k3 (fun ok z4 k4 => ?_) fun _ _ q => q.elim)
    cases ok with
    | false => exact wpAny_pure ⟨rfl, k4⟩
    | true =>
      refine wpAny_bind (wpAny_bind (wpAny_mono (show wpAny _ _ _ _ _ _ from k4) (fun y z5 k5 => ?_) fun _ _ q => q.elim))
      exact wpAny_bind (wpAny_mono k5 (fun _ z6 k6 => wpAny_pure (wpAny_pure ⟨rfl, k6⟩)) fun _ _ q => q.elim)
noncomputable def LcBody (J : It) (idx : List Nat) (te : TE) (σ : L2.St) (Q : VK) (H1 : Hp) : Prop := ∃ W : Nat → Nat → List V → Hp → Prop, (∃ m, W 0 m [] H1) ∧ ∀ i m ys H, W i m ys H → ys.length ≤ sizeLine ∧
  ((J.stop i H ∧ ∀ p, H p = none → Q (.ref p) (upd H p (.lst ys))) ∨ (J.go i H ∧ ∀ y H', J.yld i H y H' → te (stIn (some y) idx σ) H' fun v H2 => ∃ m', m' < m ∧ W (i + 1) m' (ys ++ [v]) H2))
noncomputable def tLc (wi : TI) (idx : List Nat) (te : TE) : TE := fun σ H Q => wi σ H fun J H1 => LcBody J idx te σ Q H1
noncomputable def LcBodyT (J : It) (idx : List Nat) (tt : TT) (te : TE) (σ : L2.St) (Q : VK) (H1 : Hp) : Prop := ∃ W : Nat → Nat → List V → Hp → Prop, (∃ m, W 0 m [] H1) ∧ ∀ i m ys H, W i m ys H → ys.length ≤ sizeLine ∧
  ((J.stop i H ∧ ∀ p, H p = none → Q (.ref p) (upd H p (.lst ys))) ∨ (J.go i H ∧ ∀ y H', J.yld i H y H' → tt (stIn (some y) idx σ) H' fun b H3 => if b = true then te (stIn (some y) idx σ) H3 fun v H2 => ∃ m', m' < m ∧ W (i + 1) m' (ys ++ [v]) H2
    else ∃ m', m' < m ∧ W (i + 1) m' ys H3))
theorem LcBody.toT {J : It} {idx : List Nat} {te : TE} {σ : L2.St} {Q : VK} {H1 : Hp} (h : LcBody J idx te σ Q H1) : LcBodyT J idx ttNil te σ Q H1 := by
  obtain ⟨W, w0, turn⟩ := h
  refine ⟨W, w0, fun i m ys H w => ?_⟩
  obtain ⟨hz, h⟩ := turn i m ys H w
  refine ⟨hz, h.imp id fun h => ⟨h.1, fun y H' yl => ?_⟩⟩
  show (if true = true then te (stIn (some y) idx σ) H' (fun v H2 => ∃ m', m' < m ∧ W (i + 1) m' (ys ++ [v]) H2) else ∃ m', m' < m ∧ W (i + 1) m' ys H')
  rw [if_pos rfl]
  exact h.2 y H' yl
section
variable {X : Cx} {elt iter : Expr} {ifs : List Expr} {x : Str} {px pos : Pos} {scope : Scope} {cl : List (Str × Addr)} {wi : TI} {tt : TT} {te : TE} {ns : List Str} {idx : List Nat}
structure LcEnd (X : Cx) (fp : List Addr) (H2 H4 : Hp) (s2 s5 : Shared) (C D : Addr) (ys : List V) : Prop where
  dn : D = s2.heap.objs.size
  cn : s2.heap.objs.size ≤ C
  dc : D ≠ C
  un : Un (frs X.stack) fp H2 H4 s2.heap s5.heap
  hok : HOk X.prog X.w H4 s5.heap
  cf : H4 C = none
  df : H4 D = none
  os : s5.os = s2.os
  bare : AllBare s5.gens
  ns : ∃ m, s5.heap.Ns C m
  obj : ∃ us, Vals ys us ∧ s5.heap.get? D = some (LCg.lst us)
  len : ys.length ≤ sizeLine
theorem lc_main (hc : X.calm = true) (hi : PI X (.Name x px) iter wi) (hclos : closureFor scope X.env = pure cl) (hcell : ∀ y ∈ scope.names, y.2 ≠ .cell) (hkind : scope.kind = .function)
    (hnames : ∀ y ∈ scope.names, y.2 = .local → scope.names.lookup y.1 = some .local) (hx : scope.names.lookup x = some .local) (nd : (x :: ns).Nodup) (cap : Capt X scope cl ns idx)
    (hcl : ∀ y c, cl.lookup y = some c → X.env.cells.lookup y = some c) (hfr : ∀ y, ((relabel scope X.env).names.lookup y = some .cell ∨ (relabel scope X.env).names.lookup y = some .free) → ∃ c, cl.lookup y = some c)
    (htt : ∀ (C : Addr) (s : Shared) (H : Hp) (fp : List Addr), PTs (cxC X (x :: ns) scope cl C s H fp) ifs tt) (hel : ∀ (C : Addr) (s : Shared) (H : Hp) (fp : List Addr), PE (cxC X (x :: ns) scope cl C s H fp) elt te)
    {pins : List (Addr × Obj)} {σ : L2.St} {Q : VK} {itv : Value} {s2 : Shared} {E : Value → Shared → Prop} {RR : Value → Addr → Result → Shared → Prop} (h2 : PIE X pins σ (.Name x px) (fun J H1 => LcBodyT J idx tt te σ Q H1) itv s2)
    (hRR : ∀ fp H2 H4 s5 C D ys, Inv X pins σ H2 s2 → (∀ b ∈ fp, FpOk X pins H2 b) → LcEnd X fp H2 H4 s2 s5 C D ys → Q (.ref D) (upd H4 D (.lst ys)) → RR (.ref D) C (.ok .next) s5) :
    wpAny (model X.prog X.w) X.A (newList []) (fun acc s3 => wpAny (model X.prog X.w) X.A (newFunctionEnv scope X.env.globals cl [] X.env.qual none .none (some X.env)) (fun cenv s4 =>
      codeAny (model X.prog X.w) X.A (.compStart (.ListComp elt [⟨.Name x px, iter, ifs, 0⟩] scope pos) 0 itv acc { cenv with scope := relabel scope X.env }) (RR acc cenv.locals) s4) E s3) E s2 := by
  obtain ⟨it, fp, tn, J, H2, e, I2, T, st2, f2, W, ⟨m0, w0⟩, turn⟩ := h2
  subst e
  refine wpAny_newObj_type (wpAny_newFunctionEnv hcell (by intro y hy; simp at hy) (fun h1 hns1 hsb1 => ?_) hkind)
  dsimp only at hns1 hsb1 ⊢
  generalize hH2 : s2.heap.push { cls := .type "list", dict := none, data := .seq ([] : List Value).toArray } = g2 at hns1 hsb1 ⊢
  have hC : g2.objs.size = s2.heap.objs.size + 1 := by rw [← hH2, Heap.size_push]
  have hDC : s2.heap.objs.size ≠ g2.objs.size := by rw [hC]; exact Nat.ne_of_lt (Nat.lt_succ_self _)
  have hCle : s2.heap.objs.size ≤ g2.objs.size := by rw [hC]; exact Nat.le_succ _
  have keep1 : ∀ b o, s2.heap.get? b = some o → h1.get? b = some o := fun b o e => hsb1.extBut b o (Nat.ne_of_lt (Nat.lt_of_lt_of_le (Heap.lt_size e) hCle)) (Heap.get?_push_of_some _ (hH2 ▸ Heap.get?_push_of_some _ e))
  have hacc : h1.get? s2.heap.objs.size = some { cls := .type "list", data := .seq ([] : List Value).toArray 0 } := hsb1.extBut _ _ hDC (Heap.get?_push_of_some _ (hH2 ▸ Heap.get?_push_size _ rfl))
  have lt : ∀ b ∈ fp, b < s2.heap.objs.size := fun b hb => by
    obtain ⟨o, e, _⟩ := T.obj _ _ st2 b hb
    exact Heap.lt_size e
  have hxr : (relabel scope X.env).names.lookup x = some .local := lookup_relabel_local hx
  have ok := okC (N := x :: ns) (scope := scope) (cl := cl) (C := g2.objs.size) I2 f2 lt hCle hkind hcl hfr
  have I3 := invC (D := s2.heap.objs.size) (t := s2.toks + ([] : List (Str × Value)).length) I2 ok cap hcl keep1 hCle hns1 hacc (Nat.le_refl _) hDC (fun v z => by cases z) hxr
  have fC : ∀ {H' : Hp} {pl : List (Addr × Obj)}, (∀ p ∈ pl, p.1 = s2.heap.objs.size) → (∀ b ∈ fp, H' b = none) → ∀ b ∈ fp, FpOk (cxC X (x :: ns) scope cl g2.objs.size s2 H2 fp) pl H' b := fun {H' pl} hpl hn b hb =>
    ⟨hn b hb, (ok.exf b hb).1, fun z => ok.exfs b hb z, .inl hb, (ok.exf b hb).2, fun p hp z => by
      have q := hpl p (by simpa [cxC] using hp)
      have := lt b hb
      rw [← z, q] at this
      exact Nat.lt_irrefl _ this⟩
  have lnc : ∀ us : List Value, ∀ v, (LCg.lst us).data ≠ .cell v := fun us v z => by cases z
  have loop : ∀ s3 : Shared, s3 = { s2 with heap := h1, toks := s2.toks + ([] : List (Str × Value)).length } →
      codeAny (model X.prog X.w) X.A (.compLoop (.ListComp elt [⟨.Name x px, iter, ifs, 0⟩] scope pos) 0 (.ref it) (.ref s2.heap.objs.size) (compEnvC scope cl g2.objs.size X.env))
        (RR (.ref s2.heap.objs.size) g2.objs.size) s3 := by
    rintro s3 rfl
    refine lc_loop (fun n s' => ∃ i ys us r H', Inv (cxC X (x :: ns) scope cl g2.objs.size s2 H2 fp) [(s2.heap.objs.size, LCg.lst us)] (stIn r idx σ) H' s' ∧ tn i s'.heap ∧ (∀ b ∈ fp, H' b = none) ∧ Vals ys us ∧ W i n ys H') ?_ m0
      ⟨0, [], [], none, H2, I3, T.keep _ _ _ st2 fun b _ o e => keep1 b o e, fun b hb => (f2 b hb).1, .nil, w0⟩
    rintro n s4 ⟨i, ys, us, r, H4, I4, st4, fr4, vs4, w4⟩
    obtain ⟨hz, ⟨stop, qn⟩ | ⟨go, step⟩⟩ := turn i n ys H4 w4
    · refine thn (T.done (cxC X (x :: ns) scope cl g2.objs.size s2 H2 fp) rfl rfl rfl hc i _ s4 _ H4 NoE I4 (fC (fun p hp => by rw [List.mem_singleton.mp hp]) fr4) st4 stop) fun r5 s5 zz => ?_
      obtain ⟨hr5, I5⟩ := zz
      subst hr5
      obtain ⟨mC, hnC, _⟩ := I5.loc
      obtain ⟨pD1, pD2, _⟩ := I5.pin (s2.heap.objs.size, LCg.lst us) (List.mem_append_right _ (List.mem_singleton.mpr rfl))
      exact hRR fp H2 H4 s5 g2.objs.size s2.heap.objs.size ys I2 f2 ⟨rfl, hCle, hDC, I5.base, I5.hok, I5.free, pD2, I5.os, I5.bare, ⟨mC, hnC⟩, ⟨us, vs4, pD1⟩, hz⟩ (qn _ pD2)
    · refine thn (T.item (cxC X (x :: ns) scope cl g2.objs.size s2 H2 fp) rfl rfl rfl hc i _ s4 _ H4 NoE I4 (fC (fun p hp => by rw [List.mem_singleton.mp hp]) fr4) st4 go) fun r5 s5 zz => ?_
      obtain ⟨u, hr5, k5⟩ := zz
      subst hr5
      refine thn k5 fun _ s6 zz => ?_
      obtain ⟨y, H6, I6, r6, y6, st6, fr6⟩ := zz
      have I6' := I6.pinned (fC (fun p hp => by rw [List.mem_singleton.mp hp]) fr6) (T.obj _ _ st6)
      have G := pg_name (X := cxC X (x :: ns) scope cl g2.objs.size s2 H2 fp) (pos := px) (i := 0) (x := x) nd rfl (.inl hxr) (.inr hxr)
      refine thn (G _ s6 _ H6 y u (fun σ' H' => σ' = stIn (some y) idx σ ∧ H' = H6) I6' r6 ⟨rfl, rfl⟩) fun _ s7 zz => ?_
      obtain ⟨σ7, H7, I7, e7, eH⟩ := zz
      subst e7 eH
      refine thn (htt g2.objs.size s2 H2 fp _ s7 _ _ _ I7 (step y _ y6)) fun ok s71 zz => ?_
      obtain ⟨H71, I71, k71⟩ := zz
      cases ok with
      | false =>
        obtain ⟨m', lm, w8⟩ := (show ∃ m', m' < n ∧ W (i + 1) m' ys H71 from k71)
        have kf : ∀ b ∈ fp, ∀ o, s6.heap.get? b = some o → s71.heap.get? b = some o ∧ H71 b = none := fun b hb o e => by
          have q := I71.pin (b, o) (List.mem_append_right _ (List.mem_append_right _ (mem_pinsAt hb e)))
          exact ⟨q.1, q.2.1⟩
        obtain ⟨pD1, pD2, pD3, pD4, _⟩ := I71.pin (s2.heap.objs.size, LCg.lst us) (by simp [cxC])
        refine ⟨m', lm, i + 1, ys, us, some y, H71, I71.pins_of fun p hp => ?_, ?_, fun b hb => ?_, vs4, w8⟩
        · rw [List.mem_singleton.mp hp]
          exact ⟨pD1, pD2, pD3, pD4, lnc _⟩
        · exact T.keep _ _ _ st6 fun b hb o e => (kf b hb o e).1
        · obtain ⟨o, e, _⟩ := T.obj _ _ st6 b hb
          exact (kf b hb o e).2
      | true =>
      refine thn (hel g2.objs.size s2 H2 fp _ s71 _ _ _ I71 k71) fun y8 s8 zz => ?_
      obtain ⟨v, H8, I8, r8, m', lm, w8⟩ := zz
      obtain ⟨pD1, pD2, pD3, pD4, _⟩ := I8.pin (s2.heap.objs.size, LCg.lst us) (by simp [cxC])
      have kf : ∀ b ∈ fp, ∀ o, s6.heap.get? b = some o → s8.heap.get? b = some o ∧ H8 b = none := fun b hb o e => by
        have q := I8.pin (b, o) (List.mem_append_right _ (List.mem_append_right _ (mem_pinsAt hb e)))
        exact ⟨q.1, q.2.1⟩
      refine append_at (hsz := by show us.toArray.size ≤ sizeLine; rw [List.size_toArray, ← vs4.length]; exact hz) pD1 fun h9 sb9 hD9 => ?_
      have I8' : Inv (cxC X (x :: ns) scope cl g2.objs.size s2 H2 fp) [] (stIn (some y) idx σ) H8 s8 := I8.pins_of fun p hp => nomatch hp
      have I9 := I8'.turned (it := s2.heap.objs.size) (h' := h9) (t' := s8.toks) (fun b o hb e => (sb9.2 b hb).trans e) pD2 pD3 (.inr (Nat.le_refl _)) (fun y c e z => by
          obtain ⟨v, q⟩ := I2.cell y c (hcl y c e)
          exact absurd q.lt (by rw [z]; exact Nat.lt_irrefl _)) (fun p hp => by simp [cxC] at hp)
      refine ⟨m', lm, i + 1, ys ++ [v], us ++ [y8], some y, H8, I9.pins_of fun p hp => ?_, ?_, fun b hb => ?_, vs4.append (.cons r8 .nil), w8⟩
      · rw [List.mem_singleton.mp hp]
        exact ⟨hD9.trans (congrArg some (LCg.lst_snoc us y8)), pD2, pD3, pD4, lnc _⟩
      · exact T.keep _ _ _ st6 fun b hb o e => (sb9.2 b (Nat.ne_of_lt (lt b hb))).trans (kf b hb o e).1
      · obtain ⟨o, e, _⟩ := T.obj _ _ st6 b hb
        exact (kf b hb o e).2
  exact codeAny_compStart_list (loop _ rfl) (T.self _ 0 _ _ _ (T.keep _ _ _ st2 fun b _ o e => keep1 b o e) (loop _ rfl))
theorem LcEnd.inv {fp : List Addr} {H2 H4 : Hp} {s2 s5 : Shared} {C D : Addr} {ys : List V} {pins : List (Addr × Obj)} {σ : L2.St} {h' : Heap} (L : LcEnd X fp H2 H4 s2 s5 C D ys) (I2 : Inv X pins σ H2 s2) (f2 : ∀ b ∈ fp, FpOk X pins H2 b) (sb : Heap.SameBut C s5.heap h') :
    Inv X pins σ (upd H4 D (.lst ys)) { s5 with heap := h' } := by
  obtain ⟨rfl, hCle, hDC, U, hok, cf, pD2, eo, bare, ⟨mC, hnC⟩, ⟨us, vs4, pD1⟩, hz⟩ := L
  have neC : ∀ b o, s2.heap.get? b = some o → b ≠ C := fun b o e => Nat.ne_of_lt (Nat.lt_of_lt_of_le (Heap.lt_size e) hCle)
  have U' : Un (frs X.stack) fp H2 H4 s2.heap h' := ⟨fun b o e n hb hx => (sb.2 b (neC b o e)).trans (U.keep b o e n hb hx), fun b o e n hb hx => by
      obtain ⟨sl, q⟩ := U.slot b o e n hb hx
      exact ⟨sl, (sb.2 b (neC b o e)).trans q⟩, U.free, fun b o e hx => by
      obtain ⟨o', q⟩ := U.there b o e hx
      exact ⟨o', (sb.2 b (neC b o e)).trans q⟩, U.tups, U.frzs, U.tbls⟩
  have hok' : HOk X.prog X.w H4 h' := fun a o e => by
    refine (hok a o e).stay (fun b u hb q => (sb.2 b ?_).trans q) (fun _ z => z) fun _ _ z => z
    rintro rfl
    rcases hb with hb | hb
    · rw [← hb, cf] at e; cases e
    · rw [cf] at hb; cases hb
  have I6 := I2.call (ch := fp) (h' := h') (g' := s5.gens) (t' := s5.toks) (d' := s5.drawn) U' hok' bare fun b hb => ⟨(f2 b hb).2.2.2.1, (f2 b hb).2.1, (f2 b hb).2.2.2.2.1, (f2 b hb).2.2.2.2.2⟩
  have I7 := Inv.adopt (x := s2.heap.objs.size) (o := .lst ys) (fun y c e z => by
      obtain ⟨v, q⟩ := I2.cell y c e
      exact absurd q.lt (by rw [z]; exact Nat.lt_irrefl _)) I6 (Heap.get?_none_of_le I2.sz) pD2 (Nat.ne_of_gt I2.lt) (fun p hp z => by
      have := Heap.lt_size (I2.pin p hp).1
      rw [z] at this
      exact Nat.lt_irrefl _ this) ⟨hz, us, us.length, vs4, (sb.2 _ hDC).trans pD1⟩
  rw [← eo] at I7
  exact I7
theorem pie_toT {pins : List (Addr × Obj)} {σ : L2.St} {tg : Expr} {Q : VK} {itv : Value} {s2 : Shared} (h : PIE X pins σ tg (fun J H1 => LcBody J idx te σ Q H1) itv s2) : PIE X pins σ tg (fun J H1 => LcBodyT J idx ttNil te σ Q H1) itv s2 := by
  obtain ⟨it, fp, tn, J, H', a, b, c, d, e, q⟩ := h
  exact ⟨it, fp, tn, J, H', a, b, c, d, e, q.toT⟩
theorem pe_lc (hc : X.calm = true) (hi : PI X (.Name x px) iter wi) (hclos : closureFor scope X.env = pure cl) (hcell : ∀ y ∈ scope.names, y.2 ≠ .cell) (hkind : scope.kind = .function)
    (hnames : ∀ y ∈ scope.names, y.2 = .local → scope.names.lookup y.1 = some .local) (hx : scope.names.lookup x = some .local) (nd : (x :: ns).Nodup) (cap : Capt X scope cl ns idx)
    (hcl : ∀ y c, cl.lookup y = some c → X.env.cells.lookup y = some c) (hfr : ∀ y, ((relabel scope X.env).names.lookup y = some .cell ∨ (relabel scope X.env).names.lookup y = some .free) → ∃ c, cl.lookup y = some c)
    (hel : ∀ (C : Addr) (s : Shared) (H : Hp) (fp : List Addr), PE (cxC X (x :: ns) scope cl C s H fp) elt te) (hs : ∀ v, foldedSetIterable iter X.env v = pure v := by intro _; rfl) :
    PE X (.ListComp elt [⟨.Name x px, iter, [], 0⟩] scope pos) (tLc wi idx te) := by
  intro pins s σ H Q I h
  rw [eval_ListComp]
  refine wpAny_comprehension_free (use := none) rfl hs hclos hkind hnames (thn (hi pins s σ H _ I h) fun v s1 h1 => thn h1 fun itv s2 h2 => ?_)
  refine lc_main (tt := ttNil) hc hi hclos hcell hkind hnames hx nd cap hcl hfr (fun _ _ _ _ => pts_nil) hel (RR := fun acc C => compPost (model X.prog X.w) X.A X.xe none (EP X pins σ Q) acc C) (pie_toT h2) fun fp H2 H4 s5 C D ys I2 f2 L q => ?_
  obtain ⟨mC, hnC⟩ := L.ns
  exact ⟨mC, hnC, fun h' sb => ⟨.ref D, _, L.inv I2 f2 sb, rfl, q⟩⟩
end
end Kw
set_option Elab.async false
set_option linter.all false
set_option maxRecDepth 100000
set_option maxHeartbeats 4000000
namespace Kw
open PySem PySem.Spec PyProof.Rows L2
section
variable {X : Cx}
end
end Kw
namespace Kw
open PySem PySem.Spec PyProof.Rows L2
section
variable {prog : Program} {w : World} {A : Around} {E : Value → Shared → Prop} {s : Shared} {I l S : Addr} {items : Array Value}
end
end Kw
namespace Kw
open PySem PySem.Spec PyProof.Rows L2
section
variable {X : Cx}
noncomputable def del (H : Hp) (a : Addr) : Hp := fun b => if b = a then none else H b
theorem del_ne {H : Hp} {a b : Addr} (h : b ≠ a) : del H a b = H b := if_neg h
theorem del_same {H : Hp} {a : Addr} : del H a a = none := if_pos rfl
theorem del_none {H : Hp} {a b : Addr} (h : H b = none) : del H a b = none := by
  unfold del
  split
  · rfl
  · exact h
theorem Inv.drop {pins : List (Addr × Obj)} {σ : L2.St} {H : Hp} {s : Shared} {it : Addr} {φ : Heap → Prop} (I : Inv X pins σ H s) (hi : H it = some (.ext φ)) : Inv X pins σ (del H it) s := by
  have nt : ∀ b u, H b = some u → (∀ ψ, u ≠ .ext ψ) → b ≠ it := fun b u e k y => by rw [y, hi] at e; cases e; exact k _ rfl
  refine ⟨I.ok, I.os, I.bare, ⟨I.base.keep, I.base.slot, fun b o q n hx => del_none (I.base.free b o q n hx), I.base.there, fun b xs q => ?_, fun b ob u q => ?_, fun b ps q => ?_⟩, I.loc, I.cell, del_none I.free, fun y c e => del_none (I.freeC y c e), fun p hp => ?_, fun a u e => ?_, I.len⟩
  · have e := I.base.tups b xs q
    rw [del_ne (nt b _ e fun ψ y => by cases y)]
    exact e
  · have e := I.base.frzs b ob u q
    rw [del_ne (nt b _ e fun ψ y => by cases y)]
    exact e
  · obtain ⟨more, e⟩ := I.base.tbls b ps q
    exact ⟨more, by rw [del_ne (nt b _ e fun ψ y => by cases y)]; exact e⟩
  · obtain ⟨a, b, c⟩ := I.pin p hp
    exact ⟨a, del_none b, c⟩
  · have na : a ≠ it := fun y => by rw [y, del_same] at e; cases e
    rw [del_ne na] at e
    refine (I.hok a u e).stay (fun _ _ _ q => q) (fun b q => ?_) fun b xs q => ?_
    · rw [del_ne (nt b _ q fun ψ y => by cases y)]
      exact q
    · rw [del_ne (nt b _ q fun ψ y => by cases y)]
      exact q
end
end Kw
set_option Elab.async false
set_option linter.all false
set_option maxRecDepth 100000
set_option maxHeartbeats 4000000
namespace Kw
open PySem PySem.Spec PyProof.Rows L2
section
variable {X : Cx}
end
end Kw
set_option Elab.async false
set_option linter.all false
set_option maxRecDepth 100000
set_option maxHeartbeats 4000000
namespace Kw
open PySem PySem.Spec PyProof.Rows L2
section
variable {K : PySem.W.Frag} {idx : List Nat} {te : TE} {σ : L2.St} {H : Hp} {Q : VK}
theorem lc_list {a : Addr} {xs : List V} (Pv : Nat → List V → Hp → Prop) (h0 : Pv 0 [] H) (hz : xs.length ≤ sizeLine) (hy : ∀ i ys H, Pv i ys H → ys.length = i) (hl : ∀ i ys H, Pv i ys H → SqL K H a xs)
    (hs : ∀ i x ys H (Q' : VK), xs[i]? = some x → Pv i ys H → (∀ v H2, Pv (i + 1) (ys ++ [v]) H2 → Q' v H2) → te (stIn (some x) idx σ) H Q') (hd : ∀ ys H, Pv xs.length ys H → ∀ p, H p = none → Q (.ref p) (upd H p (.lst ys))) :
    LcBody (Itl K a) idx te σ Q H := by
  refine ⟨fun i m ys H => m = xs.length - i ∧ i ≤ xs.length ∧ Pv i ys H, ⟨xs.length, by simp, Nat.zero_le _, h0⟩, ?_⟩
  rintro i m ys H ⟨rfl, hi, p⟩
  have q := hl i ys H p
  refine ⟨by rw [hy i ys H p]; omega, ?_⟩
  by_cases hlt : i < xs.length
  · refine .inr ⟨⟨xs, xs[i], q, by simp [hlt]⟩, fun y H' yl => ?_⟩
    obtain ⟨e, yl⟩ := yl
    subst e
    exact hs i y ys _ _ (yl xs q) p fun v H2 z => ⟨xs.length - (i + 1), by omega, rfl, hlt, z⟩
  · have e : i = xs.length := by omega
    subst e
    exact .inl ⟨⟨xs, q, Nat.le_refl _⟩, hd ys H p⟩
end
end Kw
namespace Kw
open PySem PySem.Spec PyProof.Rows L2
section
variable {K : PySem.W.Frag} {H H' : Hp} {b : Addr} {v : V}
theorem kit_lst_lst : PySem.W.kitOne K (.type "list") (.type "list") = some true := by with_unfolding_all rfl
end
end Kw
namespace Kw
open PySem PySem.Spec PyProof.Rows L2
section
variable {K : PySem.W.Frag} {H H' : Hp} {b c : Addr} {x : V}
end
end Kw
namespace Kw
open PySem PySem.Spec PyProof.Rows L2
theorem cap_one {X : Cx} {scope : Scope} {cl : List (Str × Addr)} {y : Str} {j : Nat} {c : Addr} (h1 : X.N[j]? = some y) (h2 : X.env.kindOf y = some .cell) (h3 : X.env.cells.lookup y = some c) (h4 : cl.lookup y = some c)
    (h5 : (relabel scope X.env).names.lookup y = some .cell ∨ (relabel scope X.env).names.lookup y = some .free) : Capt X scope cl [y] [j] :=
  ⟨rfl, fun k z h => by
    cases k with
    | zero => cases h; exact ⟨j, c, rfl, h1, h2, h3, h4, h5⟩
    | succ k => simp at h⟩
theorem cap_fr {names : List (Str × NameKind)} {cl : List (Str × Addr)} (h : names.all (fun z => (z.2 != .cell && z.2 != .free) || (cl.lookup z.1).isSome) = true) : ∀ y, (names.lookup y = some .cell ∨ names.lookup y = some .free) → ∃ c, cl.lookup y = some c := fun y hy => by
  have mem : ∀ (l : List (Str × NameKind)) k, l.lookup y = some k → (y, k) ∈ l := fun l => by
    induction l with
    | nil => intro k e; cases e
    | cons a r ih =>
      intro k e
      rw [List.lookup_cons] at e
      split at e
      · rename_i q
        have e1 : y = a.1 := by simpa using q
        have e2 := Option.some.inj e
        rw [e1, ← e2]
        exact List.mem_cons_self
      · exact List.mem_cons_of_mem _ (ih k e)
  rcases hy with e | e
  all_goals
    have := List.all_eq_true.mp h _ (mem _ _ e)
    exact Option.isSome_iff_exists.mp (by simpa using this)
end Kw
theorem Kw.ixL {X : L2.Cx} {K : PySem.W.Frag} (hK : X.K = K) : L2.IxR X (L2.rIxL K) := by
  subst hK
  exact L2.ix_list
namespace Kw
open PySem PySem.Spec PyProof.Rows L2
section
variable {K : PySem.W.Frag} {H : Hp} {b : Addr} {x : V}
end
end Kw
set_option maxRecDepth 100000
namespace Kw
theorem q_of {n d : Int} (hd : 0 < d) (hg : Int.gcd n d = 1) : (Rat.divInt n d).num = n ∧ (((Rat.divInt n d).den : Nat) : Int) = d := by
  rw [Rat.num_divInt, Rat.den_divInt, Int.gcd_comm, hg, Int.sign_eq_one_of_pos hd, if_neg (by omega)]
  constructor
  · simp
  · simp; omega
theorem q_is {q : Rat} {n d : Int} (hd : 0 < d) (hg : Int.gcd n d = 1) (e : q = Rat.divInt n d) : n = q.num ∧ d = ((q.den : Nat) : Int) := by
  subst e
  obtain ⟨a, b⟩ := q_of hd hg
  exact ⟨a.symm, b.symm⟩
theorem gcd_fT_fB {t b : Int} (h : b ≠ 0) : Int.gcd (fT t b) (fB t b) = 1 := by
  have hp : 0 < Int.gcd t b := Int.gcd_pos_of_ne_zero_right _ h
  have e1 := fT_mul t b
  have e2 := fB_mul t b
  have e : Int.gcd (dv t b * fT t b) (dv t b * fB t b) = (dv t b).natAbs * Int.gcd (fT t b) (fB t b) := Int.gcd_mul_left ..
  rw [e1, e2] at e
  have hn : (dv t b).natAbs = Int.gcd t b := by unfold dv; split <;> simp
  rw [hn] at e
  exact Nat.eq_of_mul_eq_mul_left hp (by omega)
theorem q_fit {t b : Int} (h : b ≠ 0) : fT t b = (Rat.divInt t b).num ∧ fB t b = (((Rat.divInt t b).den : Nat) : Int) := by
  refine q_is (fB_pos h) (gcd_fT_fB h) ?_
  have e := Rat.divInt_mul_left (n := fT t b) (d := fB t b) (dv_ne (t := t) h)
  rw [fT_mul, fB_mul] at e
  exact e
theorem q_red (q : Rat) : Int.gcd q.num ((q.den : Nat) : Int) = 1 := by
  have := q.reduced
  simpa [Int.gcd, Nat.Coprime] using this
theorem q_pos (q : Rat) : 0 < ((q.den : Nat) : Int) := by
  have := q.den_nz
  omega
theorem q_add (x y : Rat) : Rat.divInt (x.num * y.den + y.num * x.den) (x.den * y.den) = x + y := by
  conv => rhs; rw [← Rat.num_divInt_den x, ← Rat.num_divInt_den y]
  rw [Rat.divInt_add_divInt _ _ (by have := q_pos x; omega) (by have := q_pos y; omega)]
theorem q_sub (x y : Rat) : Rat.divInt (x.num * y.den - y.num * x.den) (x.den * y.den) = x - y := by
  conv => rhs; rw [← Rat.num_divInt_den x, ← Rat.num_divInt_den y]
  rw [Rat.divInt_sub_divInt _ _ (by have := q_pos x; omega) (by have := q_pos y; omega)]
theorem q_mul (x y : Rat) : Rat.divInt (x.num * y.num) (x.den * y.den) = x * y := by
  conv => rhs; rw [← Rat.num_divInt_den x, ← Rat.num_divInt_den y]
  rw [Rat.divInt_mul_divInt]
theorem q_inv (y : Rat) : Rat.divInt y.den y.num = y⁻¹ := by
  conv => rhs; rw [← Rat.num_divInt_den y]
  rw [Rat.inv_divInt]
theorem q_div (x y : Rat) : Rat.divInt (x.num * y.den) (x.den * y.num) = x / y := by
  rw [Rat.div_def, ← q_inv]
  conv => rhs; rw [← Rat.num_divInt_den x]
  rw [Rat.divInt_mul_divInt]
theorem q_neg (y : Rat) : (-y).num = -y.num ∧ (-y).den = y.den := ⟨rfl, rfl⟩
theorem q_lt (x y : Rat) : x < y ↔ x.num * y.den < y.num * x.den := Rat.lt_iff x y
theorem fd_mul {x g : Int} (h : g ∣ x) : g * x.fdiv g = x := Int.mul_fdiv_cancel' h
theorem quot_dvd {x g : Int} (h : g ∣ x) : x.fdiv g ∣ x := ⟨g, by rw [Int.mul_comm]; exact (fd_mul h).symm⟩
theorem cop_dvd {a b b' : Int} (h : Int.gcd a b = 1) (d : b' ∣ b) : Int.gcd a b' = 1 := by
  have h1 : Int.gcd a b' ∣ Int.gcd a b := Int.dvd_gcd (Int.gcd_dvd_left ..) (Int.dvd_trans (Int.gcd_dvd_right ..) d)
  rw [h] at h1
  exact Nat.dvd_one.mp h1
theorem cop_mul {a b c : Int} (h : Int.gcd a b = 1) (k : Int.gcd a c = 1) : Int.gcd a (b * c) = 1 := by
  show Nat.gcd a.natAbs (b * c).natAbs = 1
  rw [Int.natAbs_mul]
  exact Nat.Coprime.mul_right h k
theorem cop_add {a b c : Int} (h : Int.gcd a b = 1) : Int.gcd (a + c * b) b = 1 := by
  rw [Int.gcd_add_mul_right_left]; exact h
theorem cop_quot {a b : Int} (h : b ≠ 0) (g : Int) (hg : g = ((Int.gcd a b : Nat) : Int)) : Int.gcd (a.fdiv g) (b.fdiv g) = 1 := by
  have hp : 0 < Int.gcd a b := Int.gcd_pos_of_ne_zero_right _ h
  have e1 : g * a.fdiv g = a := fd_mul (by rw [hg]; exact Int.gcd_dvd_left ..)
  have e2 : g * b.fdiv g = b := fd_mul (by rw [hg]; exact Int.gcd_dvd_right ..)
  have e : Int.gcd (g * a.fdiv g) (g * b.fdiv g) = g.natAbs * Int.gcd (a.fdiv g) (b.fdiv g) := Int.gcd_mul_left ..
  rw [e1, e2] at e
  have hn : g.natAbs = Int.gcd a b := by rw [hg]; simp
  rw [hn] at e
  exact Nat.eq_of_mul_eq_mul_left hp (by omega)
theorem quot_pos {b g : Int} (hb : 0 < b) (hg : 0 < g) (d : g ∣ b) : 0 < b.fdiv g := by
  have e := fd_mul d
  refine Int.not_le.mp fun q => ?_
  have := Int.mul_nonpos_of_nonneg_of_nonpos (Int.le_of_lt hg) q
  omega
theorem gpos {a b : Int} (h : b ≠ 0) : 0 < ((Int.gcd a b : Nat) : Int) := by
  have := Int.gcd_pos_of_ne_zero_right a h
  omega
theorem q_plus (x y : Rat) (g t h : Int) (hg : g = ((Int.gcd ((x.den : Nat) : Int) ((y.den : Nat) : Int) : Nat) : Int)) (ht : t = x.num * ((y.den : Nat) : Int).fdiv g + y.num * ((x.den : Nat) : Int).fdiv g) (hh : h = ((Int.gcd t g : Nat) : Int)) :
    t.fdiv h = (x + y).num ∧ ((x.den : Nat) : Int).fdiv g * ((y.den : Nat) : Int).fdiv h = (((x + y).den : Nat) : Int) := by
  have hb := q_pos x
  have hd := q_pos y
  have rx := q_red x
  have ry := q_red y
  have ea := q_add x y
  revert hb hd rx ry hg ht ea
  generalize x.num = a
  generalize y.num = c
  generalize ((x.den : Nat) : Int) = b
  generalize ((y.den : Nat) : Int) = d
  intro hg ht hb hd rx ry ea
  have g0 : 0 < g := by rw [hg]; exact gpos (by omega)
  have h0 : 0 < h := by rw [hh]; exact gpos (by omega)
  have gb : g ∣ b := by rw [hg]; exact Int.gcd_dvd_left ..
  have gd : g ∣ d := by rw [hg]; exact Int.gcd_dvd_right ..
  have hht : h ∣ t := by rw [hh]; exact Int.gcd_dvd_left ..
  have hhg : h ∣ g := by rw [hh]; exact Int.gcd_dvd_right ..
  have eb := fd_mul gb
  have ed := fd_mul gd
  have et := fd_mul hht
  have eg := fd_mul hhg
  have b0 := quot_pos hb g0 gb
  have d0 := quot_pos hd g0 gd
  have k0 := quot_pos g0 h0 hhg
  have cbd : Int.gcd (b.fdiv g) (d.fdiv g) = 1 := cop_quot (by omega) g hg
  have ctg : Int.gcd (t.fdiv h) (g.fdiv h) = 1 := cop_quot (by omega) h hh
  have dh : d.fdiv h = g.fdiv h * d.fdiv g := by
    have e := fd_mul (Int.dvd_trans hhg gd)
    have e2 : h * (g.fdiv h * d.fdiv g) = d := by rw [← Int.mul_assoc, eg, ed]
    exact Int.eq_of_mul_eq_mul_left (by omega) (e.trans e2.symm)
  have ct1 : Int.gcd t (b.fdiv g) = 1 := by
    rw [ht]
    refine cop_add ?_
    rw [Int.gcd_comm]
    exact cop_mul (by rw [Int.gcd_comm]; exact cop_dvd rx ⟨g, by rw [Int.mul_comm]; exact eb.symm⟩) cbd
  have ct2 : Int.gcd t (d.fdiv g) = 1 := by
    rw [ht, Int.add_comm]
    refine cop_add ?_
    rw [Int.gcd_comm]
    exact cop_mul (by rw [Int.gcd_comm]; exact cop_dvd ry ⟨g, by rw [Int.mul_comm]; exact ed.symm⟩) (by rw [Int.gcd_comm]; exact cbd)
  have sub : ∀ z, Int.gcd t z = 1 → Int.gcd (t.fdiv h) z = 1 := fun z hz => by
    rw [Int.gcd_comm] at hz ⊢
    exact cop_dvd hz ⟨h, by rw [Int.mul_comm]; exact et.symm⟩
  rw [dh]
  refine q_is ?_ ?_ ?_
  · exact Int.mul_pos b0 (Int.mul_pos k0 d0)
  · exact cop_mul (sub _ ct1) (cop_mul ctg (sub _ ct2))
  · rw [← ea]
    have z := Rat.divInt_mul_left (n := t.fdiv h) (d := b.fdiv g * (g.fdiv h * d.fdiv g)) (a := g * h) (by have := Int.mul_pos g0 h0; omega)
    rw [← z]
    congr 1
    · rw [Int.mul_assoc, et, ht, Int.mul_add]
      congr 1
      · rw [← Int.mul_assoc, Int.mul_comm g, Int.mul_assoc, ed]
      · rw [← Int.mul_assoc, Int.mul_comm g, Int.mul_assoc, eb]
    · rw [show g * h * (b.fdiv g * (g.fdiv h * d.fdiv g)) = (g * b.fdiv g) * ((h * g.fdiv h) * d.fdiv g) by grind, eb, eg, ed]
theorem q_times (x y : Rat) (f s : Int) (hf : f = ((Int.gcd x.num ((y.den : Nat) : Int) : Nat) : Int)) (hs : s = ((Int.gcd y.num ((x.den : Nat) : Int) : Nat) : Int)) :
    x.num.fdiv f * y.num.fdiv s = (x * y).num ∧ ((x.den : Nat) : Int).fdiv s * ((y.den : Nat) : Int).fdiv f = (((x * y).den : Nat) : Int) := by
  have hb := q_pos x
  have hd := q_pos y
  have rx := q_red x
  have ry := q_red y
  have ea := q_mul x y
  revert hb hd rx ry hf hs ea
  generalize x.num = a
  generalize y.num = c
  generalize ((x.den : Nat) : Int) = b
  generalize ((y.den : Nat) : Int) = d
  intro hf hs hb hd rx ry ea
  have f0 : 0 < f := by rw [hf]; exact gpos (by omega)
  have s0 : 0 < s := by rw [hs]; exact gpos (by omega)
  have fa : f ∣ a := by rw [hf]; exact Int.gcd_dvd_left ..
  have fd : f ∣ d := by rw [hf]; exact Int.gcd_dvd_right ..
  have sc : s ∣ c := by rw [hs]; exact Int.gcd_dvd_left ..
  have sb : s ∣ b := by rw [hs]; exact Int.gcd_dvd_right ..
  have ea' := fd_mul fa
  have ed := fd_mul fd
  have ec := fd_mul sc
  have eb := fd_mul sb
  have c1 : Int.gcd (a.fdiv f) (d.fdiv f) = 1 := cop_quot (by omega) f hf
  have c2 : Int.gcd (c.fdiv s) (b.fdiv s) = 1 := cop_quot (by omega) s hs
  have c3 : Int.gcd (a.fdiv f) (b.fdiv s) = 1 := by
    refine cop_dvd (b := b) ?_ (quot_dvd sb)
    rw [Int.gcd_comm] at rx ⊢
    exact cop_dvd rx (quot_dvd fa)
  have c4 : Int.gcd (c.fdiv s) (d.fdiv f) = 1 := by
    refine cop_dvd (b := d) ?_ (quot_dvd fd)
    rw [Int.gcd_comm] at ry ⊢
    exact cop_dvd ry (quot_dvd sc)
  refine q_is (Int.mul_pos (quot_pos hb s0 sb) (quot_pos hd f0 fd)) ?_ ?_
  · rw [Int.gcd_comm]
    refine cop_mul ?_ ?_
    · rw [Int.gcd_comm]; exact cop_mul c3 c1
    · rw [Int.gcd_comm]; exact cop_mul c2 c4
  · rw [← ea]
    have z := Rat.divInt_mul_left (n := a.fdiv f * c.fdiv s) (d := b.fdiv s * d.fdiv f) (a := f * s) (by have := Int.mul_pos f0 s0; omega)
    rw [← z]
    congr 1
    · rw [show f * s * (a.fdiv f * c.fdiv s) = (f * a.fdiv f) * (s * c.fdiv s) by grind, ea', ec]
    · rw [show f * s * (b.fdiv s * d.fdiv f) = (s * b.fdiv s) * (f * d.fdiv f) by grind, eb, ed]
theorem q_dv (a b : Int) : Rat.divInt a b = (a : Rat) / (b : Rat) := by
  have h := q_div (a : Rat) (b : Rat)
  have e1 : (a : Rat).num * (((b : Rat).den : Nat) : Int) = a := by show a * 1 = a; omega
  have e2 : (((a : Rat).den : Nat) : Int) * (b : Rat).num = b := by show 1 * b = b; omega
  rw [e1, e2] at h
  exact h
theorem q_wpos {i : Int} (h : 1 ≤ i) : (0 : Rat) < (i : Rat) := by
  have : ((0 : Int) : Rat) < (i : Rat) := Rat.intCast_lt_intCast.mpr (by omega)
  exact this
theorem q_divpos {a b : Int} (ha : 0 < a) (hb : 0 < b) : (0 : Rat) < Rat.divInt a b := by
  rw [q_dv]
  rw [Rat.div_def]
  exact Rat.mul_pos (q_wpos (by omega)) (Rat.inv_pos.mpr (q_wpos (by omega)))
theorem q_div_pos {a b : Rat} (ha : 0 < a) (hb : 0 < b) : (0 : Rat) < a / b := by
  rw [Rat.div_def]
  exact Rat.mul_pos ha (Rat.inv_pos.mpr hb)
end Kw
set_option Elab.async false
set_option linter.all false
set_option maxRecDepth 100000
set_option maxHeartbeats 4000000
namespace Kw
open PySem PySem.Spec PyProof.Rows L2
noncomputable abbrev FQ (K : PySem.W.Frag) (H : Hp) (p : Addr) (x : Rat) : Prop := SqT K H p [.int x.num, .int ((x.den : Nat) : Int)]
section
variable {K : PySem.W.Frag} {H H' : Hp} {p q : Addr} {x y : Rat} {m n : Nat}
theorem FQ.cast (h : FQ K H p x) (e : x = y) : FQ K H p y := e ▸ h
theorem FQ.dp (h : FQ K H p x) : Dp K H (.ref p) (.tuple [.int x.num, .int ((x.den : Nat) : Int)]) := .tup h (.cons (.int _) (.cons (.int _) .nil))
theorem FQ.fit {t b : Int} (h : b ≠ 0) (e : SqT K H p [.int (fT t b), .int (fB t b)]) : FQ K H p (Rat.divInt t b) := by
  obtain ⟨e1, e2⟩ := q_fit (t := t) h
  rw [e1, e2] at e
  exact e
theorem FQ.ofInt {i : Int} (h : SqT K H p [.int i, .int 1]) : FQ K H p (i : Rat) := h
theorem FQ.ofNeg {i : Int} (h : SqT K H p [.int i, .int ((x.den : Nat) : Int)]) (e : i = -x.num) : FQ K H p (-x) := by
  subst e
  exact h
theorem FQ.lit {t b : Int} (h : SqT K H p [.int t, .int b]) (e1 : 0 < b) (e2 : Int.gcd t b = 1) : FQ K H p (Rat.divInt t b) := by
  obtain ⟨z1, z2⟩ := q_of e1 e2
  unfold FQ
  rw [z1, z2]
  exact h
noncomputable def FB (n : Nat) (x : Rat) : Prop := Bd n x.num ∧ Bd n ((x.den : Nat) : Int)
theorem FB.mono (h : FB m x) (l : m ≤ n) : FB n x := ⟨h.1.mono l, h.2.mono l⟩
theorem FB.fit {t b : Int} (h : b ≠ 0) (g1 : Bd n t) (g2 : Bd n b) : FB n (Rat.divInt t b) := by
  obtain ⟨e1, e2⟩ := q_fit (t := t) h
  refine ⟨?_, ?_⟩
  · rw [← e1]; exact bd_fT h g1
  · rw [← e2]; exact bd_fB h g2
theorem q_ne (x : Rat) : ((x.den : Nat) : Int) ≠ 0 := by have := q_pos x; omega
theorem q_num_ne (h : x ≠ 0) : x.num ≠ 0 := fun e => h (Rat.num_eq_zero.mp e)
theorem FB.add (h : FB m x) (g : FB n y) : FB (m + n + 1) (x + y) := by
  rw [← q_add]
  exact FB.fit (Int.mul_ne_zero (q_ne x) (q_ne y)) ((h.1.mul g.2).add ((g.1.mul h.2).mono (by omega))) ((h.2.mul g.2).mono (by omega))
theorem FB.sub (h : FB m x) (g : FB n y) : FB (m + n + 1) (x - y) := by
  rw [← q_sub]
  exact FB.fit (Int.mul_ne_zero (q_ne x) (q_ne y)) ((h.1.mul g.2).sub ((g.1.mul h.2).mono (by omega))) ((h.2.mul g.2).mono (by omega))
theorem FB.mul (h : FB m x) (g : FB n y) : FB (m + n) (x * y) := by
  rw [← q_mul]
  exact FB.fit (Int.mul_ne_zero (q_ne x) (q_ne y)) (h.1.mul g.1) (h.2.mul g.2)
theorem FB.div (h : FB m x) (g : FB n y) (y0 : y ≠ 0) : FB (m + n) (x / y) := by
  rw [← q_div]
  exact FB.fit (Int.mul_ne_zero (q_ne x) (q_num_ne y0)) (h.1.mul g.2) (h.2.mul g.1)
theorem FB.neg (h : FB n x) : FB n (-x) := by
  refine ⟨?_, h.2⟩
  have := h.1
  unfold Bd at this ⊢
  rw [(q_neg x).1]
  omega
theorem FB.ofInt {i : Int} (h : Bd n i) (l : 64 ≤ n) : FB n (i : Rat) := ⟨h, (Bd.small (i := 1) (by decide) (by decide)).mono l⟩
theorem bd_quot {b g : Int} (hb : Bd n b) (d : g ∣ b) (g0 : g ≠ 0) : Bd n (b.fdiv g) := by
  refine hb.of_le ?_
  have e := fd_mul d
  have q := natAbs_le_mul (x := b.fdiv g) g0
  rw [e] at q
  exact q
theorem bd_gcdR {a b : Int} (h : b ≠ 0) (hb : Bd n b) : Bd n ((Int.gcd a b : Nat) : Int) := by
  refine hb.of_le ?_
  have hd : Int.gcd a b ∣ b.natAbs := Nat.gcd_dvd_right _ _
  have := Nat.le_of_dvd (by omega) hd
  omega
end
theorem But.fresh {b : Addr} {H H' : Hp} (h : H b = none) (s : But b H H') : Same H H' := fun a o e => s a o (ne_of_none e h) e
theorem atI_mem (ns : List Int) (d : Int) (lo : 0 ≤ d) (hi : d < (ns.length : Int)) : ∃ v, atI (ns.map V.int) d = some (.int v) ∧ v ∈ ns := by
  have hk : d.toNat < ns.length := by omega
  have ek : d = ((d.toNat : Nat) : Int) := by omega
  have z : atI (ns.map V.int) ((d.toNat : Nat) : Int) = some (.int ns[d.toNat]) := atI_nat (by rw [List.getElem?_map, List.getElem?_eq_getElem hk] <;> rfl)
  rw [← ek] at z
  exact ⟨_, z, List.getElem_mem hk⟩
theorem Scr.same {K : PySem.W.Frag} {H H' : Hp} {a : Addr} (h : Scr K H a) (s : Same H H') : Scr K H' a := by
  obtain ⟨ns, x, y⟩ := h
  exact ⟨ns, s.seq x, y⟩
theorem Fn.imp {P : Program} {w : World} {K : PySem.W.Frag} {mg : Str → Option Value} {base : Heap} {k : Nat} {x : Str} {ps : List Str} {sp sp' : Sp} (F : Fn P w K mg base k x ps sp) (h : ∀ vs H Q E, sp' vs H Q E → sp vs H Q E) : Fn P w K mg base k x ps sp' := by
  obtain ⟨f, fd, g, r⟩ := F.ex
  exact ⟨f, fd, g.imp h, r⟩
theorem if_not {c : Prop} [Decidable c] {A B : Prop} (h1 : ¬ c → A) (h2 : c → B) : if (!decide c) = true then A else B := by
  by_cases e : c
  · rw [decide_eq_true e]; exact iteF (h2 e)
  · rw [decide_eq_false e]; exact iteT (h1 e)
section
variable {X : Cx}
noncomputable def rAl (K : PySem.W.Frag) (r : Bool) : V → V → Hp → VK → Prop := fun x y H Q => ∃ d, Dp K H x d ∧ Dp K H y d ∧ d.canLay0 = true ∧ Nat.ble d.depth 60 = true ∧ Q (.bl r) H
theorem op_eqA {K : PySem.W.Frag} (hK : X.K = K) (hu : X.A.units + 100 < cLine) : OpR X (compareOp .Eq) (rAl K true) := by
  intro pins s σ H x y v u Q I rx ry h
  obtain ⟨d, hx, hy, c, dep, q⟩ := h
  refine op_eqD hK hu pins s σ H x y v u Q I rx ry ⟨d, d, hx, hy, c, c, ?_, ?_⟩
  · have := Nat.le_of_ble_eq_true dep
    omega
  · rw [SeqAt.eqv_refl d c]
    exact q
theorem op_neA {K : PySem.W.Frag} (hK : X.K = K) (hu : X.A.units + 100 < cLine) : OpR X (compareOp .NotEq) (rAl K false) := by
  intro pins s σ H x y v u Q I rx ry h
  obtain ⟨d, hx, hy, c, dep, q⟩ := h
  refine op_neD hK hu pins s σ H x y v u Q I rx ry ⟨d, d, hx, hy, c, c, ?_, ?_⟩
  · have := Nat.le_of_ble_eq_true dep
    omega
  · rw [SeqAt.eqv_refl d c]
    exact q
theorem q_list {x y : Rat} : ([x.num, ((x.den : Nat) : Int)] = [y.num, ((y.den : Nat) : Int)]) ↔ x = y := by
  constructor
  · intro e
    simp only [List.cons.injEq, and_true] at e
    exact Rat.ext e.1 (by omega)
  · intro e
    rw [e]
theorem op_eqQ {K : PySem.W.Frag} (hK : X.K = K) (hu : X.A.units + 100 < cLine) : OpR X (compareOp .Eq) (fun a b H Q => ∃ (p q : Addr) (x y : Rat), a = .ref p ∧ b = .ref q ∧ FQ K H p x ∧ FQ K H q y ∧ Q (.bl (decide (x = y))) H) := by
  subst hK
  intro pins s σ H a b v u Q I rx ry h
  obtain ⟨p, q, x, y, rfl, rfl, hx, hy, k⟩ := h
  refine op_eqTI (by omega) pins s σ H _ _ v u Q I rx ry ⟨p, q, [x.num, ((x.den : Nat) : Int)], [y.num, ((y.den : Nat) : Int)], rfl, rfl, hx, hy, ?_⟩
  rw [decide_eq_decide.mpr q_list]
  exact k
end
end Kw
set_option Elab.async false
set_option linter.all false
set_option maxRecDepth 100000
set_option maxHeartbeats 4000000
namespace Kw
open PySem PySem.Spec PyProof.Rows L2
section
variable {X : Cx}
noncomputable def rBits : V → List V → Hp → VK → Prop := fun x vs H Q => ∃ i : Int, x = .int i ∧ vs = [] ∧ Q (.int ((Builtin.Int.intBits i : Nat) : Int)) H
theorem mt_bits : MtR X "int.bit_length" rBits := by
  intro pins s σ H x vs v us Q I rx rv h
  obtain ⟨i, rfl, rfl, q⟩ := h
  obtain ⟨t, rfl⟩ := rx
  cases rv
  exact call_gives PySem.F.slot_int_bit_length (typeIs_int s i t) PySem.F.entry_int_bit_length (PySem.F.args_int_bit_length_1 _) (PySem.AutoIntG2.int_bit_length_int_0 i t) ⟨.int ((Builtin.Int.intBits i : Nat) : Int), H, I.tok _, ⟨_, rfl⟩, q⟩
end
noncomputable def spGcdB : Sp := fun vs H Q _ => ∃ a b : Int, vs = [.int a, .int b] ∧ Bd 4000 b ∧ Q (.int ((Int.gcd a b : Nat) : Int)) H
theorem short_min {a b : Int} (h : Bd 4000 b) : ¬ (((Builtin.Int.intBits (if (if b < 0 then -b else b) < (if a < 0 then -a else a) then (if b < 0 then -b else b) else (if a < 0 then -a else a)) : Nat) : Int) > 4000) := by
  have l : Bd 4000 (if (if b < 0 then -b else b) < (if a < 0 then -a else a) then (if b < 0 then -b else b) else (if a < 0 then -a else a)) := by
    refine h.of_le ?_
    split <;> split <;> (try split) <;> omega
  have := l.bits
  omega
end Kw
set_option Elab.async false
set_option linter.all false
set_option maxRecDepth 100000
set_option maxHeartbeats 4000000
namespace Kw
open PySem PySem.Spec PyProof.Rows L2
end Kw
namespace Kw
open PySem PySem.Spec PyProof.Rows L2
theorem cap_two {X : Cx} {scope : Scope} {cl : List (Str × Addr)} {y y' : Str} {j j' : Nat} {c c' : Addr} (h1 : X.N[j]? = some y) (h2 : X.env.kindOf y = some .cell) (h3 : X.env.cells.lookup y = some c) (h4 : cl.lookup y = some c)
    (h5 : (relabel scope X.env).names.lookup y = some .cell ∨ (relabel scope X.env).names.lookup y = some .free)
    (g1 : X.N[j']? = some y') (g2 : X.env.kindOf y' = some .cell) (g3 : X.env.cells.lookup y' = some c') (g4 : cl.lookup y' = some c')
    (g5 : (relabel scope X.env).names.lookup y' = some .cell ∨ (relabel scope X.env).names.lookup y' = some .free) : Capt X scope cl [y, y'] [j, j'] :=
  ⟨rfl, fun k z h => by
    match k with
    | 0 => cases h; exact ⟨j, c, rfl, h1, h2, h3, h4, h5⟩
    | 1 => cases h; exact ⟨j', c', rfl, g1, g2, g3, g4, g5⟩
    | k + 2 => simp at h⟩
theorem fit_cmp {a b : Int} (hb : 0 < b) : Rat.divInt a b * (b : Rat) = (a : Rat) := by
  have : (b : Rat) ≠ 0 := fun e => (show b ≠ 0 by omega) (Rat.intCast_eq_zero_iff.mp e)
  rw [q_dv]
  grind
theorem fit_neg {a b : Int} (ha : a < 0) (hb : 0 < b) : Rat.divInt a b < 0 := by
  have h1 := fit_cmp (a := a) hb
  have h2 : (0 : Rat) < (b : Rat) := Rat.intCast_pos.mpr hb
  have h3 : (a : Rat) < (0 : Rat) := by have := Rat.intCast_lt_intCast.mpr ha; simpa using this
  apply Rat.not_le.mp
  intro z
  have := Rat.mul_le_mul_of_nonneg_right z (Rat.le_of_lt h2)
  rw [h1, Rat.zero_mul] at this
  grind
end Kw
namespace Kw
theorem cl_two {cells : List (PySem.Str × PySem.Addr)} {y1 y2 : PySem.Str} {c1 c2 : PySem.Addr} (h1 : cells.lookup y1 = some c1) (h2 : cells.lookup y2 = some c2) : ∀ y c, List.lookup y [(y1, c1), (y2, c2)] = some c → cells.lookup y = some c := by
  intro y c e
  rw [List.lookup_cons] at e
  split at e
  · rename_i q
    have e1 : y = y1 := by simpa using q
    cases e
    rw [e1]
    exact h1
  · rw [List.lookup_cons] at e
    split at e
    · rename_i q
      have e1 : y = y2 := by simpa using q
      cases e
      rw [e1]
      exact h2
    · cases e
end Kw
set_option Elab.async false
set_option linter.all false
set_option maxRecDepth 100000
set_option maxHeartbeats 4000000
namespace Kw
open PySem PySem.Spec PyProof.Rows L2
noncomputable def Al2 {β : Type} (R : V → β → Prop) : List V → List β → Prop
  | [], [] => True
  | x :: xs, b :: bs => R x b ∧ Al2 R xs bs
  | _, _ => False
section
variable {β : Type} {R R' : V → β → Prop}
theorem Al2.imp (h : ∀ x b, R x b → R' x b) : ∀ {xs : List V} {bs : List β}, Al2 R xs bs → Al2 R' xs bs
  | [], [], _ => trivial
  | _ :: _, _ :: _, z => ⟨h _ _ z.1, Al2.imp h z.2⟩
  | [], _ :: _, z => z.elim
  | _ :: _, [], z => z.elim
theorem Al2.len : ∀ {xs : List V} {bs : List β}, Al2 R xs bs → xs.length = bs.length
  | [], [], _ => rfl
  | _ :: _, _ :: _, z => by simp [Al2.len z.2]
  | [], _ :: _, z => z.elim
  | _ :: _, [], z => z.elim
theorem Al2.get : ∀ {xs : List V} {bs : List β} {i : Nat} {x : V}, Al2 R xs bs → xs[i]? = some x → ∃ b, bs[i]? = some b ∧ R x b
  | [], _, _, _, _, e => by simp at e
  | _ :: _, [], _, _, z, _ => z.elim
  | _ :: _, b :: _, 0, _, z, e => by
    simp only [List.getElem?_cons_zero, Option.some.injEq] at e
    subst e
    exact ⟨b, rfl, z.1⟩
  | _ :: _, _ :: _, i + 1, _, z, e => by
    simp only [List.getElem?_cons_succ] at e
    obtain ⟨b, h1, h2⟩ := Al2.get z.2 e
    exact ⟨b, by simpa using h1, h2⟩
theorem Al2.snoc : ∀ {xs : List V} {bs : List β} {x : V} {b : β}, Al2 R xs bs → R x b → Al2 R (xs ++ [x]) (bs ++ [b])
  | [], [], _, _, _, h => ⟨h, trivial⟩
  | _ :: _, _ :: _, _, _, z, h => ⟨z.1, Al2.snoc z.2 h⟩
  | [], _ :: _, _, _, z, _ => z.elim
  | _ :: _, [], _, _, z, _ => z.elim
theorem take_snoc {bs : List β} {i : Nat} {b : β} (h : bs[i]? = some b) : bs.take (i + 1) = bs.take i ++ [b] := by
  rw [List.take_add_one, h]
  rfl
end
noncomputable def FrQ (K : PySem.W.Frag) (H : Hp) (n : Nat) (x : V) (q : Rat) : Prop := ∃ p, x = .ref p ∧ FQ K H p q ∧ FB n q
noncomputable def BdQ (K : PySem.W.Frag) (H : Hp) (n : Nat) (x : V) (b : Rat × Rat × Int) : Prop := ∃ p a c, x = .ref p ∧ SqT K H p [.ref a, .ref c, .int b.2.2] ∧ FQ K H a b.1 ∧ FQ K H c b.2.1 ∧ FB n b.1 ∧ FB n b.2.1 ∧ 1 ≤ b.2.2 ∧ b.2.2 ≤ 10000
section
variable {K : PySem.W.Frag} {H H' : Hp} {n m : Nat} {x : V} {q : Rat} {b : Rat × Rat × Int}
theorem BdQ.same (h : BdQ K H n x b) (s : Same H H') : BdQ K H' n x b := by
  obtain ⟨p, a, c, e, h1, h2, h3, r⟩ := h
  exact ⟨p, a, c, e, Kw.Same.tup s h1, Kw.Same.tup s h2, Kw.Same.tup s h3, r⟩
theorem bds_same {xs : List V} {bs : List (Rat × Rat × Int)} (h : Al2 (BdQ K H n) xs bs) (s : Same H H') : Al2 (BdQ K H' n) xs bs := Al2.imp (fun _ _ z => z.same s) h
end
section
variable {X : Cx} {K : PySem.W.Frag}
noncomputable def tGlobT (K : PySem.W.Frag) (t b : Int) : TE := fun _ H Q => ∀ N, (∀ H1, SqT K H1 N [.int t, .int b]) → Q (.ref N) H
theorem pe_globT {x : Str} {t b : Int} {pos : Pos} (hK : X.K = K) (hg : Gl X x) (hm : ∃ N, X.mg x = some (.ref N) ∧ ∀ H, SqT K H N [.int t, .int b]) (hd : (x == ("__debug__" : Str)) = false := by decide) : PE X (.Name x pos) (tGlobT K t b) := by
  obtain ⟨N, hm, hN⟩ := hm
  intro pins s σ H Q I h
  exact pe_glob hg hm (v := .ref N) rfl hd pins s σ H Q I (h N hN)
theorem sqt_const {A : Addr} {o : Option Addr} {t b : Int} {k1 k2 : Tok} {n : Nat} {sl : Array (Option Value)} (h : K.lookup A = some ⟨.type "tuple", o, .seq #[.int t k1, .int b k2] n, sl⟩) : ∀ H, SqT K H A [.int t, .int b] := fun H =>
  .inr ⟨_, _, _, h, rfl, rfl, by show 2 ≤ sizeLine; decide, .cons ⟨_, rfl⟩ (.cons ⟨_, rfl⟩ .nil)⟩
end
end Kw
set_option Elab.async false
set_option linter.all false
set_option maxRecDepth 100000
set_option maxHeartbeats 4000000
namespace Kw
open PySem PySem.Spec PyProof.Rows L2
section
variable {pr : Program} {wd : World} {Ar : Around} {Er : Value → Shared → Prop}
end
section
variable {X : Cx} {pos : Pos}
end
end Kw
set_option Elab.async false
set_option linter.all false
set_option maxRecDepth 100000
set_option maxHeartbeats 4000000
namespace Kw
open PySem PySem.Spec PyProof.Rows L2
section
variable {K : PySem.W.Frag} {te : TE} {σ : L2.St} {H : Hp} {Q : VK} {idx : List Nat}
end
end Kw
set_option Elab.async false
set_option linter.all false
set_option maxRecDepth 100000
set_option maxHeartbeats 4000000
namespace Kw
open PySem PySem.Spec PyProof.Rows L2
section
variable {K : PySem.W.Frag} {H H' : Hp} {n : Nat} {x : V} {q : Rat} {b : Rat × Rat × Int} {c : Addr} {zs xs : List V} {bs : List (Rat × Rat × Int)}
theorem BdQ.but (h : BdQ K H n x b) (s : But c H H') (hc : H c = some (.lst zs)) : BdQ K H' n x b := by
  obtain ⟨p, a, e, z, h1, h2, h3, r⟩ := h
  exact ⟨p, a, e, z, s.tup hc h1, s.tup hc h2, s.tup hc h3, r⟩
theorem bds_but (h : Al2 (BdQ K H n) xs bs) (s : But c H H') (hc : H c = some (.lst zs)) : Al2 (BdQ K H' n) xs bs := Al2.imp (fun _ _ z => z.but s hc) h
noncomputable def frD (q : Rat) : PyData := .tuple [.int q.num, .int ((q.den : Nat) : Int)]
noncomputable def bdD (b : Rat × Rat × Int) : PyData := .tuple [frD b.1, frD b.2.1, .int b.2.2]
theorem BdQ.dp (h : BdQ K H n x b) : Dp K H x (bdD b) := by
  obtain ⟨p, a, e, rfl, h1, h2, h3, r⟩ := h
  exact .tup h1 (.cons (FQ.dp h2) (.cons (FQ.dp h3) (.cons (.int _) .nil)))
theorem bds_dp : ∀ {xs : List V} {bs : List (Rat × Rat × Int)}, Al2 (BdQ K H n) xs bs → Dps K H xs (bs.map bdD)
  | [], [], _ => .nil
  | _ :: _, _ :: _, z => .cons z.1.dp (bds_dp z.2)
  | [], _ :: _, z => z.elim
  | _ :: _, [], z => z.elim
theorem bds_lay : ∀ bs : List (Rat × Rat × Int), PyData.canLayAll0 (bs.map bdD) = true
  | [] => rfl
  | b :: bs => by
    show (PyData.canLay0 (bdD b) && PyData.canLayAll0 (bs.map bdD)) = true
    rw [bds_lay bs]
    rfl
theorem bds_deep : ∀ bs : List (Rat × Rat × Int), PyData.depthAll (bs.map bdD) ≤ 2
  | [] => Nat.zero_le _
  | b :: bs => by
    show max (PyData.depth (bdD b)) (PyData.depthAll (bs.map bdD)) ≤ 2
    have e : PyData.depth (bdD b) = 2 := rfl
    rw [e]
    have := bds_deep bs
    omega
theorem bds_ok (bs : List (Rat × Rat × Int)) : (PyData.list (bs.map bdD)).canLay0 = true ∧ Nat.ble (PyData.list (bs.map bdD)).depth 60 = true := by
  refine ⟨bds_lay bs, Nat.ble_eq_true_of_le ?_⟩
  have : (PyData.list (bs.map bdD)).depth = PyData.depthAll (bs.map bdD) + 1 := rfl
  have := bds_deep bs
  omega
theorem newB {H : Hp} {p : Addr} (o : HO) : ∃ H', upd H p o = H' ∧ But p H H' ∧ H' p = some o := ⟨_, rfl, but_upd _, upd_same⟩
theorem none_of_but {H H' : Hp} {a c : Addr} (s : But c H H') (h : H' a = none) (n : a ≠ c) : H a = none := by
  cases e : H a with
  | none => rfl
  | some o => have := s _ _ n e; rw [h] at this; cases this
noncomputable def Asc (bs : List (Rat × Rat × Int)) : Prop := List.Pairwise (fun a b => a.1 < b.1) bs
theorem Asc.snoc (h : Asc bs) (k : ∀ a ∈ bs, a.1 < b.1) : Asc (bs ++ [b]) := by
  unfold Asc
  rw [List.pairwise_append]
  exact ⟨h, List.pairwise_singleton _ _, fun a ha z hz => by rw [List.mem_singleton.mp hz]; exact k a ha⟩
end
section
theorem same_then_but {H H1 H2 : Hp} {c : Addr} (n : H c = none) (s : Same H H1) (t : But c H1 H2) : Same H H2 := fun a o e => t a o (ne_of_none e n) (s a o e)
end
theorem most_of (ns : List Int) (N : Int) (h : 1 ≤ N) : ∃ m : Int, (if (if N < (((ns.map V.int).length : Nat) : Int) then N else (((ns.map V.int).length : Nat) : Int)) > 1 then (if N < (((ns.map V.int).length : Nat) : Int) then N else (((ns.map V.int).length : Nat) : Int)) else 1) = m ∧ 1 ≤ m ∧ m ≤ N := by
  refine ⟨_, rfl, ?_⟩
  split
  · split <;> omega
  · omega
end Kw
set_option Elab.async false
set_option linter.all false
set_option maxRecDepth 100000
set_option maxHeartbeats 4000000
namespace Kw
open PySem PySem.Spec PyProof.Rows L2
section
variable {X : Cx} {pins : List (Addr × Obj)} {σ : L2.St} {H : Hp} {s : Shared} {N ns xs : List Str} {scope : Scope} {cl : List (Str × Addr)} {C : Addr} {fp : List Addr} {idx : List Nat}
end
section
variable {X : Cx} {elt iter tg : Expr} {ifs : List Expr} {xs : List Str} {pos : Pos} {scope : Scope} {cl : List (Str × Addr)} {wi : TI} {g : TG} {tt : TT} {te : TE} {ns : List Str} {idx : List Nat}
end
section
variable {K : PySem.W.Frag} {te : TE} {tt : TT} {g : TG} {σ : L2.St} {H : Hp} {Q : VK} {idx : List Nat} {k : Nat}
end
section
variable {X : Cx} {pos : Pos}
end
end Kw
set_option Elab.async false
set_option linter.all false
set_option maxRecDepth 100000
set_option maxHeartbeats 4000000
namespace Kw
open PySem PySem.Spec PyProof.Rows L2
end Kw
set_option Elab.async false
set_option linter.all false
set_option maxRecDepth 100000
set_option maxHeartbeats 4000000
namespace Kw
open PySem PySem.Spec PyProof.Rows L2
noncomputable def excO (K : PySem.W.Frag) (C : Addr) : Bool := match K.lookup C with
  | some ⟨.type "type", _, .cls klass, sl⟩ => (match klass.mro, sl.toList with
    | .ref C' :: bm, [_, _, _, _, some (.builtin n), _] => C' == C && n == "ValueError.__new__" && !klass.hasDel && PySem.W.tailIn K bmV bm && PySem.W.nsOkIn K klass.ns
    | _, _ => false)
  | _ => false
theorem excO_obj {K : PySem.W.Frag} {h : Heap} {C : Addr} (X : K.In h) (q : excO K C = true) :
    ∃ bm N nm qn bs hdct sn sub ab col dd k0 k1 k2 k3 k5, h.get? C = some (excClassObj nm qn C N bs bm hdct sn sub ab col dd k0 k1 k2 k3 k5 "ValueError.__new__") ∧ OwnTail h bmV bm := by
  unfold excO at q
  cases hl : K.lookup C with
  | none => rw [hl] at q; cases q
  | some o =>
    rw [hl] at q
    split at q
    · rename_i dd klass sl eo
      cases eo
      split at q
      · rename_i C' bm k0 k1 k2 k3 n k5 hm hs
        simp only [Bool.and_eq_true, beq_iff_eq, Bool.not_eq_true'] at q
        obtain ⟨⟨⟨⟨e1, e2⟩, e3⟩, e4⟩, e5⟩ := q
        subst e1 e2
        cases klass with
        | mk nm bs mro ns qn hd sn sub ab col del =>
          simp only at hm e3 e5
          subst hm e3
          cases sl with
          | mk sll =>
            simp only at hs
            subst hs
            exact ⟨bm, ns, nm, qn, bs, hd, sn, sub, ab, col, dd, k0, k1, k2, k3, k5, X _ _ hl, PySem.W.tail_of_in X e4⟩
      · cases q
    · cases q
noncomputable abbrev newX (C t : Addr) : Obj := { cls := .ref C, data := .fields #[.ref t, .none, .none, .none, .bool false, .none] }
section
variable {prog : Program} {w : World} {A : Around} {E : Value → Shared → Prop} {h : Heap} {g : Array GenState} {d : Drawn} {t : Nat} {os : OsState} {C f : Addr} {K : PySem.W.Frag}
theorem type_call_init {more : List Value} {Q : Fin → Shared → Prop} (kx : K.In h) (q : excO K C = true) (hi : PySem.W.findIn K (.ref C) "__init__" = some (some (.ref f))) (hf : PySem.W.typeIn K (.ref f) = some (.type "function"))
    (hz : more.length ≤ sizeLine)
    (want : codeAny (model prog w) A (.call (.ref f) ⟨.ref (h.objs.size + 1) :: more, []⟩) (fun r s' => match r with | .ok (.ret v) => v = .none ∧ Q (.done (.ret (.ref (h.objs.size + 1)))) s' | .ok _ => False | .error e => E e s')
      ⟨(h.push { cls := .type "tuple", data := .seq more.toArray }).push (newX C h.objs.size), g, d, t, os⟩) :
    wpAny (model prog w) A (Builtin.«type.__call__» ⟨.ref C :: more, []⟩) Q E ⟨h, g, d, t, os⟩ := by
  obtain ⟨bm, N, nm, qn, bs, hdct, sn, sub, ab, col, dd, k0, k1, k2, k3, k5, kC, T⟩ := excO_obj kx q
  have F := PySem.F.excBase_ValueError
  repeat (first | with_reducible refine wpAny_madeBy_exc kC ?_ | with_reducible refine wpAny_loadPart_at kC ?_ | wp_step)
  refine codeAny_call_builtin_code (Code.quiet_builtin _ F.quiet) (wpAny_check_new_subT F T kC ?_)
  refine codeAny_exc_new_subT F T kC ?_ hz
  show wpAny _ _ _ _ _ _
  have hk : ∀ b o, h.get? b = some o → ((h.push { cls := .type "tuple", data := .seq more.toArray }).push (newX C h.objs.size)).get? b = some o := fun b o e => Heap.get?_push_of_some _ (Heap.get?_push_of_some _ e)
  have kC1 := hk _ _ kC
  have kx1 : K.In ((h.push { cls := .type "tuple", data := .seq more.toArray }).push (newX C h.objs.size)) := fun a o e => hk a o (kx a o e)
  have hget : ((h.push { cls := .type "tuple", data := .seq more.toArray }).push (newX C h.objs.size)).get? (h.objs.size + 1) = some (newX C h.objs.size) := by heap_get
  have kself : (Value.ref C :: bm).contains (.ref C) = true := by simp
  unfold isInstance
  repeat (first | with_reducible refine wpAny_loadPart_at hget ?_ | (with_reducible refine wpAny_isSubtype_exc kC1 ?_; rw [kself]) | wp_step)
  show wpAny _ _ (typeLookup (.ref C) _) _ _ _
  refine (PySem.W.looks_findIn kx1 hi).at ?_
  refine wpAny_holding (wpAny_bind ((PySem.W.bind_fn kx1 (.ref (h.objs.size + 1)) hf).at ?_))
  dsimp only
  refine wpAny_bind (wpAny_call (codeAny_mono want fun r z hr => ?_))
  cases r with
  | error e => exact hr
  | ok fl =>
    cases fl with
    | ret v =>
      obtain ⟨rfl, hq⟩ := hr
      refine wpAny_pure ?_
      exact wpAny_pure hq
    | next => exact hr.elim
    | brk => exact hr.elim
    | cont => exact hr.elim
theorem call_init {more : List Value} {Q : Value → Shared → Prop} (kx : K.In h) (q : excO K C = true) (hi : PySem.W.findIn K (.ref C) "__init__" = some (some (.ref f))) (hf : PySem.W.typeIn K (.ref f) = some (.type "function")) (hz : more.length ≤ sizeLine)
    (want : ∀ A' : Around, A' = A.under (.builtin "type.__call__" ⟨.ref C :: more, []⟩) → codeAny (model prog w) A' (.call (.ref f) ⟨.ref (h.objs.size + 1) :: more, []⟩) (fun r s' => match r with | .ok (.ret v) => v = .none ∧ Q (.ref (h.objs.size + 1)) s' | .ok _ => False | .error e => E e s')
      ⟨(h.push { cls := .type "tuple", data := .seq more.toArray }).push (newX C h.objs.size), g, d, t, os⟩) :
    wpAny (model prog w) A (call (.ref C) more) Q E ⟨h, g, d, t, os⟩ := by
  obtain ⟨bm, N, nm, qn, bs, hdct, sn, sub, ab, col, dd, k0, k1, k2, k3, k5, kC, T⟩ := excO_obj kx q
  have f1 := tc_lookup
  have f2 := tc_bind (.ref C)
  have tC : (⟨h, g, d, t, os⟩ : Shared).TypeIs (.ref C) "type" := ⟨_, kC, rfl⟩
  refine wpAny_call (codeAny_of_tree ?_)
  show wpAny _ _ (callAny (.ref C) _) _ _ _
  repeat (any_goals (first | assumption | with_reducible refine wpAny_loadPart_at kC ?_ | wp_step))
  refine ⟨rfl, ?_⟩
  refine codeAny_call_builtin_at (Code.quiet_builtin _ (by decide +kernel)) entry_typeCall (wpAny_check_type_call_sub kC (type_call_init kx q hi hf hz (codeAny_mono (want _ ?_) fun r z hr => ?_)))
  · rfl
  · cases r with
    | error e => exact hr
    | ok fl =>
      cases fl with
      | ret v => exact hr
      | next => exact hr.elim
      | brk => exact hr.elim
      | cont => exact hr.elim
end
end Kw
namespace Kw
open PySem PySem.Spec PyProof.Rows L2
section
variable {prog : Program} {w : World} {A : Around} {E : Value → Shared → Prop} {h : Heap} {g : Array GenState} {d : Drawn} {t : Nat} {os : OsState} {C e : Addr} {K : PySem.W.Frag} {oe : Obj} {vs : Array Value}
theorem base_init {more : List Value} {Q : Value → Shared → Prop} (kx : K.In h) (q : excO K C = true) (he : h.get? e = some oe) (hcls : oe.cls = .ref C) (hd : oe.data = .fields vs) (h0 : 0 < vs.size) (hz : more.length ≤ sizeLine)
    (want : ∀ h', (∀ b o, b ≠ e → h.get? b = some o → h'.get? b = some o) → (∃ v, h'.get? e = some { oe with data := .fields (vs.setIfInBounds 0 v) }) → Q .none ⟨h', g, d, t, os⟩) :
    wpAny (model prog w) A (call (.builtin "ValueError.__init__") (.ref e :: more)) Q E ⟨h, g, d, t, os⟩ := by
  obtain ⟨bm, N, nm, qn, bs, hdct, sn, sub, ab, col, dd, k0, k1, k2, k3, k5, kC, T⟩ := excO_obj kx q
  have F := PySem.F.excBase_ValueError
  refine wpAny_call (codeAny_call_builtin F.init.plain F.initEntry (wpAny_check_init_subT F T kC he hcls ?_))
  have he1 := Heap.get?_push_of_some { cls := .type "tuple", data := .seq more.toArray } he
  repeat (first | wp_step)
  rw [hd]
  refine wpAny_pure ?_
  rw [Array.getElem?_eq_getElem h0]
  refine wpAny_pure ?_
  refine wpAny_bind (wpAny_setField he1 hd h0 ?_)
  have fin := want ((h.push { cls := .type "tuple", data := .seq more.toArray }).update e (Obj.mapFields (·.setIfInBounds 0 (.ref h.objs.size)))) (fun b o hb e' => by
      rw [Heap.get?_update_other _ _ (Ne.symm hb)]
      exact Heap.get?_push_of_some _ e') (by
      obtain ⟨c, dd', da, sl⟩ := oe
      simp only at hd
      subst hd
      refine ⟨.ref h.objs.size, ?_⟩
      rw [Heap.get?_update_self _ he1 rfl]
      rfl)
  generalize vs[0] = v0
  cases v0 <;> first | exact wpAny_pure (wpAny_pure fin) | exact wpAny_letGo (wpAny_pure fin)
end
end Kw
namespace Kw
open PySem PySem.Spec PyProof.Rows L2 PySem.Builtin PySem.Builtin.ObjectAttr
noncomputable def isRefV : Value → Bool
  | .ref _ => true
  | _ => false
noncomputable def onlyExc : List Value → Bool
  | [] => false
  | c :: r => (c :: r) == bmV || (isRefV c && onlyExc r)
theorem refuse_skip (self : Value) {n : String} {l : List Value} (h : fastBuiltinOwn n "__setattr__" = none) (h1 : (n == "_thread._local") = false) (h2 : (n == "_pickle.Pickler" || n == "_pickle.Unpickler") = false) :
    PySem.refuseLoop self "__setattr__" (.type n :: l) = PySem.refuseLoop self "__setattr__" l := by
  have e : classOwn (.type n) "__setattr__" = pure none := by
    show (pure (builtinOwn n "__setattr__") : Sem (Option Value)) = pure none
    rw [builtinOwn_eq_fast, h]
  unfold PySem.refuseLoop
  simp only [List.forIn_cons, h1, h2, e]
  rfl
theorem refuse_bm (self : Value) : PySem.refuseLoop self "__setattr__" bmV = pure () := by
  unfold bmV
  rw [refuse_skip self (by decide +kernel) (by decide) (by decide), refuse_skip self (by decide +kernel) (by decide) (by decide), refuse_skip self (by decide +kernel) (by decide) (by decide)]
  exact PySem.F.store_object.passes self
theorem isRefV_eq {c : Value} (h : isRefV c = true) : ∃ a, c = .ref a := by
  cases c <;> first | exact ⟨_, rfl⟩ | cases h
theorem refuse_exc (self : Value) : ∀ {l : List Value}, onlyExc l = true → PySem.refuseLoop self "__setattr__" l = pure ()
  | c :: r, e => by
    unfold onlyExc at e
    rcases Bool.or_eq_true_iff.mp e with e | e
    · rw [beq_iff_eq.mp e]
      exact refuse_bm self
    · rw [Bool.and_eq_true] at e
      obtain ⟨a, rfl⟩ := isRefV_eq e.1
      rw [PySem.refuseLoop_ref]
      exact refuse_exc self e.2
noncomputable def excOver (K : PySem.W.Frag) (C : Addr) : Bool := (PySem.W.clsIn K C).any fun klass => onlyExc klass.mro && klass.hasDict
section
variable {prog : Program} {w : World} {A : Around} {R : Result → Shared → Prop} {s : Shared} {K : PySem.W.Frag} {x C : Addr} {ox : Obj} {od : Option Obj} {name : Str} {tk : Tok} {v : Value}
theorem xsa_open (X : K.In s.heap) (I : PySem.W.InstAt s.heap x ox C od) (hp : excOver K C = true) (ob : PySem.W.mroIn K C (.type "object") = some true) (hn : PySem.W.findIn K (.ref C) name = some none)
    (want : ∀ b, wpAny (model prog w) A.in1 (storeInOwnDict (.ref x) (.ref C) (.str name tk) name v b) (fun fin z => match fin with | .done f => R (.ok f) z | .again c => c.quiet = true ∧ codeAny (model prog w) A c R z) (fun e z => R (.error e) z) s) :
    codeAny (model prog w) A (.call (.builtin "object.__setattr__") ⟨[.ref x, .str name tk, v], []⟩) R s := by
  have sto := PySem.F.store_object
  obtain ⟨klass, hc, ho⟩ := PySem.W.any_some hp
  rw [Bool.and_eq_true] at ho
  have isO : PySem.W.Looks (model prog w) s.heap (isInstance (.ref x) (.type "object")) true := I.type.andThen (PySem.W.looks_mroIn X ob)
  refine codeAny_call_builtin sto.slot.plain sto.entry (@PySem.W.check_slot (model prog w) _ _ s "object.__setattr__" "object" "__setattr__" (.ref x) [.str name tk, v] [] _ sto.kind sto.split isO (sto.args (.ref x) (.str name tk) v) ?_)
  have lm : PySem.W.Looks (model prog w) s.heap (mroOf (.ref C)) klass.mro := (PySem.W.looks_clsIn X hc).andThen .now
  have lt : PySem.W.Looks (model prog w) s.heap (storeTaker? none) none := .now
  rw [PySem.W.osa_eq, PySem.refuse_eq]
  refine wpAny_bind (wpAny_bind (I.type.here (wpAny_bind (lm.here ?_))))
  rw [refuse_exc _ ho.1]
  refine wpAny_pure (wpAny_bind (I.type.here (wpAny_bind ((PySem.W.looks_findIn X hn).here (wpAny_bind (lt.here ?_))))))
  exact want _
end
end Kw
set_option Elab.async false
set_option linter.all false
set_option maxRecDepth 100000
set_option maxHeartbeats 4000000
namespace Kw
open PySem PySem.Spec PyProof.Rows L2 PySem.Builtin PySem.Builtin.ObjectAttr
section
variable {prog : Program} {w : World} {A : Around} {R : Result → Shared → Prop} {s : Shared} {K : PySem.W.Frag} {x C : Addr} {ox : Obj} {od : Option Obj} {name : Str} {tk : Tok} {v : Value}
theorem set_first {Q : Unit → Shared → Prop} {E : Value → Shared → Prop} {vs : Array Value} {sl : Array (Option Value)} (X : K.In s.heap) (hx : s.heap.get? x = some ⟨.ref C, none, .fields vs, sl⟩) (hp : excOver K C = true) (ob : PySem.W.mroIn K C (.type "object") = some true)
    (hsa : PySem.W.findIn K (.ref C) "__setattr__" = some (some (.builtin "object.__setattr__"))) (hn : PySem.W.findIn K (.ref C) name = some none)
    (want : ∀ h' tk', h'.get? x = some ⟨.ref C, some s.heap.objs.size, .fields vs, sl⟩ → h'.Ns1 s.heap.objs.size (fun y => if y = name then some v else none) → (∀ b o, b ≠ x → s.heap.get? b = some o → h'.get? b = some o) → Q () { s with heap := h', toks := tk' }) :
    wpAny (model prog w) A (setAttr (.ref x) name v) Q E s := by
  have I : PySem.W.InstAt s.heap x ⟨.ref C, none, .fields vs, sl⟩ C none := ⟨hx, rfl, rfl, True.intro⟩
  refine PySem.W.set_plain X I hsa (xsa_open (s := { s with toks := s.toks + 1 }) X I hp ob hn fun b => ?_)
  obtain ⟨cd, hc, ho⟩ := PySem.W.any_some hp
  rw [Bool.and_eq_true] at ho
  unfold storeInOwnDict
  refine wpAny_bind (wpAny_pure ?_)
  rw [if_neg (by intro z; cases (beq_iff_eq.mp z))]
  unfold ownDictForStores
  refine wpAny_bind ?_
  unfold instanceDict
  refine wpAny_bind (wpAny_loadPart hx ?_)
  dsimp only
  refine wpAny_bind (PySem.W.Looks.here (s := { s with toks := s.toks + 1 }) (PySem.W.looks_clsIn X hc) ?_)
  rw [ho.2]
  rw [if_neg (by decide), if_neg (by show ¬ ((!true || !true) = true); decide)]
  refine wpAny_bind (wpAny_alloc ?_)
  have hx1 := Heap.get?_push_of_some { cls := .type "dict", data := .dict #[] } hx
  refine wpAny_bind (wpAny_update hx1 ?_)
  refine wpAny_pure ?_
  unfold storeInDict
  have hlt : x < s.heap.objs.size := Heap.lt_size hx
  have nx : x ≠ s.heap.objs.size := Nat.ne_of_lt hlt
  have hd1 : ((s.heap.push { cls := .type "dict", data := .dict #[] }).update x fun o => { o with dict := some s.heap.objs.size }).Ns1 s.heap.objs.size fun _ => none :=
    ⟨_, #[], 0, (Heap.get?_update_other _ _ nx).trans (Heap.get?_push_size _ rfl), rfl, (fun e he => by simp at he), (by simp [UniqKeys]), fun _ => rfl⟩
  refine wpAny_bind (wpAny_pure (wpAny_bind ?_))
  refine wpAny_nsSet1 hd1 fun h' hn2 hs2 => ?_
  obtain ⟨oD, esD, epD, kD1, kD2, kD3⟩ := hn2.count (PySem.Within.cons name v (ns := []) (fun y hy => by simp at hy))
  refine wpAny_bind (wpAny_lookBehind kD1 (by rw [kD2]; exact pastItsLine_dict (Nat.le_trans kD3 (by rw [sizeLine_eq]; simp))) ?_)
  refine wpAny_pure (want h' _ ?_ hn2 fun b o hb e => ?_)
  · rw [hs2.2 x nx, Heap.get?_update_self _ hx1 rfl]
  · have hb' : b ≠ s.heap.objs.size := Nat.ne_of_lt (Heap.lt_size e)
    rw [hs2.2 b hb', Heap.get?_update_other _ _ (Ne.symm hb)]
    exact Heap.get?_push_of_some _ e
theorem set_more {Q : Unit → Shared → Prop} {E : Value → Shared → Prop} {vs : Array Value} {sl : Array (Option Value)} {dx : Addr} {mA : Str → Option Value} {ns : List Str} (X : K.In s.heap) (hx : s.heap.get? x = some ⟨.ref C, some dx, .fields vs, sl⟩) (hd : s.heap.Ns1 dx mA) (hw : PySem.Within mA ns) (hz : ns.length < sizeLine)
    (hp : excOver K C = true) (ob : PySem.W.mroIn K C (.type "object") = some true) (hsa : PySem.W.findIn K (.ref C) "__setattr__" = some (some (.builtin "object.__setattr__"))) (hn : PySem.W.findIn K (.ref C) name = some none)
    (want : ∀ h' tk', h'.Ns1 dx (fun y => if y = name then some v else mA y) → Heap.SameBut dx s.heap h' → Q () { s with heap := h', toks := tk' }) : wpAny (model prog w) A (setAttr (.ref x) name v) Q E s := by
  obtain ⟨odx, es, ep, e1, e2⟩ := id hd
  have I : PySem.W.InstAt s.heap x ⟨.ref C, some dx, .fields vs, sl⟩ C (some odx) := ⟨hx, rfl, rfl, e1⟩
  refine PySem.W.set_plain X I hsa (xsa_open (s := { s with toks := s.toks + 1 }) X I hp ob hn fun b => ?_)
  obtain ⟨cd, hc, ho⟩ := PySem.W.any_some hp
  rw [Bool.and_eq_true] at ho
  unfold storeInOwnDict
  refine wpAny_bind (wpAny_pure ?_)
  rw [if_neg (by intro z; cases (beq_iff_eq.mp z))]
  unfold ownDictForStores
  refine wpAny_bind ?_
  unfold instanceDict
  refine wpAny_bind (wpAny_loadPart hx ?_)
  dsimp only
  refine wpAny_bind (PySem.W.Looks.here (s := { s with toks := s.toks + 1 }) (PySem.W.looks_clsIn X hc) ?_)
  rw [ho.2, if_neg (by decide)]
  refine wpAny_pure ?_
  unfold storeInDict
  refine wpAny_bind (wpAny_pure (wpAny_bind ?_))
  refine wpAny_nsSet1 (s := { s with toks := s.toks + 1 }) hd fun h' hn2 hs2 => ?_
  obtain ⟨oD, esD, epD, kD1, kD2, kD3⟩ := hn2.count (PySem.Within.cons name v hw)
  refine wpAny_bind (wpAny_lookBehind kD1 (by rw [kD2]; exact pastItsLine_dict (Nat.le_trans kD3 (by rw [List.length_cons]; omega))) ?_)
  exact wpAny_pure (want h' _ hn2 hs2)
end
end Kw
set_option Elab.async false
set_option linter.all false
set_option maxRecDepth 100000
set_option maxHeartbeats 4000000
namespace Kw
open PySem PySem.Spec PyProof.Rows L2 PySem.Builtin PySem.Builtin.ObjectAttr
theorem look_ns1 {h : Heap} {dx : Addr} {mA : Str → Option Value} {name : Str} (hd : h.Ns1 dx mA) : ∃ o, h.get? dx = some o ∧ PySem.W.lookIn name o = some (mA name) := by
  obtain ⟨o, es, ep, e1, e2, k, _, f⟩ := hd
  refine ⟨o, e1, ?_⟩
  unfold PySem.W.lookIn
  rw [e2]
  dsimp only
  have e3 : (es.toList.find? (·.key.isStr name)).map (·.val) = mA name := by
    rw [← f name]
    unfold nsFind findBy
    rw [← Array.find?_toList]
  cases q : es.toList.find? (·.key.isStr name) with
  | some en =>
    rw [q] at e3
    exact congrArg some e3
  | none =>
    rw [q] at e3
    have ha : es.toList.any (·.refKey) = false := by
      rw [List.any_eq_false]
      intro en hen
      obtain ⟨n, t, ek⟩ := k en (by simpa using hen)
      simp [DictEntry.refKey, ek]
    dsimp only
    rw [ha, if_neg (by decide)]
    exact congrArg some e3
section
variable {prog : Program} {w : World} {A : Around} {E : Value → Shared → Prop} {s : Shared} {K : PySem.W.Frag} {x C : Addr} {ox : Obj} {odx : Obj} {name : Str} {v : Value}
theorem ga_value {tk : Tok} {Q : Fin → Shared → Prop} (kx : K.In s.heap) (I : PySem.W.InstAt s.heap x ox C (some odx)) (hf : PySem.W.findObj K C (some odx) name = some (.value v)) (want : Q (.done (.ret v)) s) :
    wpAny (model prog w) A (Builtin.«object.__getattribute__» ⟨[.ref x, .str name tk], []⟩) Q E s := by
  obtain ⟨z0, z1, z2, z3, z4⟩ := s
  have L0 := I.type (M := model prog w)
  have L1 := PySem.W.looks_find (M := model prog w) kx I hf
  unfold Builtin.«object.__getattribute__»
  repeat lk
  exact want
theorem exc_fld {expr : Bool} {Q : Value → Shared → Prop} (kx : K.In s.heap) (I : PySem.W.InstAt s.heap x ox C (some odx)) (q : ExcQ K C) (hf : PySem.W.findObj K C (some odx) name = some (.value v)) (hh : PySem.W.handedIn v = true) (want : Q v { s with toks := s.toks + 1 }) :
    wpAny (model prog w) A (getAttr (.ref x) name expr) Q E s := by
  obtain ⟨z0, z1, z2, z3, z4⟩ := s
  have L0 := I.type (M := model prog w)
  have L1 := PySem.W.looks_findIn (M := model prog w) kx q.ga
  have L2 := PySem.W.looks_findIn (M := model prog w) kx q.hk
  have f3 := PySem.F.excAttr_ValueError.ga.bind (.ref x)
  unfold getAttr getAttrBy
  refine wpAny_bind (wpAny_mkText (wpAny_holding (wpAny_bind (L0.at (wpAny_bind (L1.at ?_))))))
  dsimp only
  have e1 : (Value.builtin "BaseException.__getattribute__" == Value.builtin "object.__getattribute__") = false := by decide +kernel
  rw [e1, Bool.and_false, if_neg (by decide)]
  unfold getAttrByItsOwn hookBefore
  rw [show onTheHeap (Value.ref C) = true from rfl, if_pos rfl]
  refine wpAny_bind (L2.at ?_)
  refine wpAny_bind (wpAny_attempt (wpAny_holding ?_))
  unfold callGetattribute boundAndCalled
  rw [if_neg (by cases expr <;> decide), f3]
  refine wpAny_bind (wpAny_pure ?_)
  dsimp only
  refine wpAny_call (codeAny_call_builtin PySem.F.excAttr_ValueError.ga.plain PySem.F.entry_bexc_ga (ga_check kx L0 q (ga_value kx I hf ?_)))
  show wpAny _ _ (handedOut v) _ _ _
  rw [PySem.W.handedOut_of hh]
  exact wpAny_pure want
end
end Kw
set_option Elab.async false
set_option linter.all false
set_option maxRecDepth 100000
set_option maxHeartbeats 4000000
namespace Kw
open PySem PySem.Spec PyProof.Rows L2
noncomputable def XoIs (x C : Addr) (od : Option Addr) (h : Heap) : Prop := ∃ (vs : Array Value) (sl : Array (Option Value)), (∃ a, vs = #[a, .none, .none, .none, .bool false, .none]) ∧ h.get? x = some ⟨.ref C, od, .fields vs, sl⟩
noncomputable abbrev Xo (x C : Addr) (od : Option Addr) : HO := .ext (XoIs x C od)
noncomputable def XdIs (d : Addr) (fs : List (Str × V)) (h : Heap) : Prop := ∃ mA, h.Ns1 d mA ∧ (∀ f, RelO (fs.lookup f) (mA f)) ∧ PySem.Within mA (fs.map (·.1))
noncomputable abbrev Xd (d : Addr) (fs : List (Str × V)) : HO := .ext (XdIs d fs)
section
variable {P : Program} {w : World} {H : Hp} {h : Heap} {x C d : Addr} {od : Option Addr} {fs : List (Str × V)}
theorem xo_ok (e : XoIs x C od h) : ObjOk P w H h x (Xo x C od) := by
  obtain ⟨vs, sl, a, b⟩ := id e
  exact ⟨e, ⟨_, b⟩, fun _ _ ⟨vs, sl, a, b⟩ k => ⟨vs, sl, a, k _ b⟩⟩
theorem xd_ok (e : XdIs d fs h) : ObjOk P w H h d (Xd d fs) := by
  obtain ⟨mA, ⟨o, es, ep, ho, _⟩, _⟩ := id e
  exact ⟨e, ⟨o, ho⟩, fun _ _ ⟨mA, ⟨o, es, ep, q, c⟩, r, wi⟩ k => ⟨mA, ⟨o, es, ep, k _ q, c⟩, r, wi⟩⟩
end
structure MkX (K : PySem.W.Frag) (C f : Addr) : Prop where
  o : excO K C = true
  init : PySem.W.findIn K (.ref C) "__init__" = some (some (.ref f))
  fn : PySem.W.typeIn K (.ref f) = some (.type "function")
  kp : PySem.W.keepIn K (.ref C) = true
structure XCls (K : PySem.W.Frag) (C : Addr) : Prop where
  ov : excOver K C = true
  ob : PySem.W.mroIn K C (.type "object") = some true
  sa : PySem.W.findIn K (.ref C) "__setattr__" = some (some (.builtin "object.__setattr__"))
  hd : PySem.W.hasDictIn K C = true
noncomputable def tMkx (C : Addr) (sp : Sp) (E : XK) (t : TA) : TE := fun σ H Q => t σ H fun vs H1 => vs.length ≤ sizeLine ∧ ∀ x, H1 x = none →
  sp (.ref x :: vs) (upd H1 x (Xo x C none)) (fun v H2 => v = .non ∧ Q (.ref x) H2) E
noncomputable def tBase (K : PySem.W.Frag) (t : TA) : TE := fun σ H Q => t σ H fun vs H1 => ∃ x C od more, vs = .ref x :: more ∧ H1 x = some (Xo x C od) ∧ excO K C = true ∧ more.length ≤ sizeLine ∧ Q .non H1
noncomputable def sXf (K : PySem.W.Frag) (ta tv : TE) (f : Str) : TS := fun D σ H => tv σ H fun y H1 => ta σ H1 fun x H2 => ∃ a C, x = .ref a ∧ XCls K C ∧ NoAttr K C f ∧
  ((H2 a = some (Xo a C none) ∧ ∀ d, H2 d = none → D.nx σ (upd (upd H2 d (Xd d [(f, y)])) a (Xo a C (some d)))) ∨
    ∃ d fs, H2 a = some (Xo a C (some d)) ∧ H2 d = some (Xd d fs) ∧ fs.length < 1000 ∧ D.nx σ (upd H2 d (Xd d (putF f y fs))))
structure FnI (P : Program) (w : World) (K : PySem.W.Frag) (mg : Str → Option Value) (base : Heap) (k : Nat) (C : Addr) (ps : List Str) (sp : Sp) : Prop where
  ex : ∃ f fd, FnOk P w K mg base (CXE P w) k f fd ps sp ∧ MkX K C f ∧ Binds K fd ps []
structure DfI (K : PySem.W.Frag) (C : Addr) (qual : Str) (st : Stmt) (ps : List Str) : Prop where
  ex : ∃ (f : Addr) (oc : Value) (od : Option Addr) (kV doc pm : Value) (an : Option Addr) (cdv ct : Value) (osl : Array (Option Value)),
    K.lookup f = some ⟨oc, od, .func (PySem.W.fnOf "__init__" qual (defArgs st) (defBody st) (defScope st) .none kV doc pm an cdv ct), osl⟩ ∧ PySem.W.codeIn K cdv qual = true ∧ MkX K C f ∧
    Binds K (PySem.W.fnOf "__init__" qual (defArgs st) (defBody st) (defScope st) .none kV doc pm an cdv ct) ps []
section
variable {P : Program} {w : World} {K : PySem.W.Frag} {mg : Str → Option Value} {base : Heap} {C : Addr} {qual : Str} {st : Stmt} {N ps : List Str} {k : Nat} {sp : Sp}
theorem DfI.ok (D : DfI K C qual st ps) (S : FnScope N ps (defScope st)) (len : ∀ vs H Q E, sp vs H Q E → vs.length = ps.length)
    (hbody : ∀ (f : Addr) (cdv : Value) (A : Around) (outer : List Env) (s : Shared) (H : Hp) (vs : List V) (Q : VK) (E : XK), Room k (A.deeper (envOfC qual (defScope st) s.heap.objs.size f cdv)) → sp vs H Q E →
      ∃ t, PSs (cxOf (CXE P w) P w K mg base N qual (defScope st) f cdv A outer s H E).nox (defBody st) t ∧ t { nx := fun _ H' => Q .non H', rt := Q } (start N vs) H) : FnI P w K mg base (k + 1) C ps sp := by
  obtain ⟨f, oc, od, kV, doc, pm, an, cdv, ct, osl, lk, hcd, M, bd⟩ := D.ex
  refine ⟨f, _, fn_of lk hcd S len fun A outer s H vs Q E hr hsp => ?_, M, bd⟩
  obtain ⟨t, h, q⟩ := hbody f cdv A outer s H vs Q E hr hsp
  exact ⟨t, h.nox, q⟩
end
section
variable {X : Cx} {pins : List (Addr × Obj)} {σ : L2.St} {H : Hp} {s : Shared} {k k' : Nat} {f C CK : Addr} {fd : FuncData} {ps : List Str} {sp : Sp} {E : XK} {x : Str} {p pos apos : Pos} {e : Expr} {es : List Expr} {t : TA}
theorem run_mkx {Q : VK} {us : List Value} {vs : List V} (M : MkX X.K C f) (F : FnOk X.prog X.w X.K X.mg X.base (CXE X.prog X.w) k f fd ps sp) (hr : Room (k + 1) X.A) (hb : Binds X.K fd ps [])
    (hx : Passes (CXE X.prog X.w) X E) (I : Inv X pins σ H s) (r : Vals vs us) (hz : vs.length ≤ sizeLine)
    (h : ∀ x, H x = none → sp (.ref x :: vs) (upd H x (Xo x C none)) (fun v H2 => v = .non ∧ Q (.ref x) H2) E) :
    wpAny (model X.prog X.w) X.A (call (.ref C) us) (EP X pins σ Q) X.xe s := by
  obtain ⟨hh, g, d, t, os⟩ := s
  have hq := h (hh.objs.size + 1) (I.hok.fresh (Nat.le_succ _))
  have I1 := I.kept (h' := hh.push { cls := .type "tuple", data := .seq us.toArray }) (t' := t) (fun b u q => Heap.get?_push_of_some _ q)
  have e2 : ((hh.push { cls := .type "tuple", data := .seq us.toArray }).push (newX C hh.objs.size)).get? (hh.objs.size + 1) = some (newX C hh.objs.size) := by heap_get
  have I2 := I1.laid (a := hh.objs.size + 1) (o := Xo (hh.objs.size + 1) C none) (h' := (hh.push { cls := .type "tuple", data := .seq us.toArray }).push (newX C hh.objs.size)) (t' := t)
    (fun b u q => Heap.get?_push_of_some _ q) (Nat.le_of_eq (Heap.size_push _ _)) (xo_ok ⟨_, _, ⟨_, rfl⟩, e2⟩)
  have r2 : Vals (V.ref (hh.objs.size + 1) :: vs) (Value.ref (hh.objs.size + 1) :: us) := .cons rfl r
  have hl : (Value.ref (hh.objs.size + 1) :: us).length = ps.length := by
    have e := r2.length
    rw [F.len _ _ _ _ hq] at e
    exact e.symm
  refine call_init I.kIn M.o M.init M.fn (by rw [← r.length]; exact hz) fun A' eA => ?_
  subst eA
  have bd := hb _ (Value.ref (hh.objs.size + 1) :: us) I2.kIn (by rw [List.append_nil]; exact hl)
  rw [List.append_nil] at bd
  refine codeAny_mono (F.run _ X.stack _ _ ⟨Value.ref (hh.objs.size + 1) :: us, []⟩ (Value.ref (hh.objs.size + 1) :: us) _ _ E (hr.make C us []) (I2.env0.make C us []) bd r2 hq) fun r s' hq' => ?_
  cases r with
  | error e => exact hx pins σ _ _ e s' I2 hq'
  | ok fl =>
    cases fl with
    | ret u =>
      obtain ⟨v, H', I3, rv, ev, q3⟩ := I2.after hq'
      subst ev
      exact ⟨rv, ⟨V.ref (hh.objs.size + 1), H', I3, rfl, q3⟩⟩
    | next => exact False.elim hq'
    | brk => exact False.elim hq'
    | cont => exact False.elim hq'
theorem pe_mkx (M : FnI X.prog X.w X.K X.mg X.base k C ps sp) (hk : k + 1 ≤ k') (hr : Room k' X.A) (hg : Gl X x) (hm : X.mg x = some (.ref C)) (hx : Passes (CXE X.prog X.w) X E)
    (ha : PA X (e :: es) t) (hdb : (x == ("__debug__" : Str)) = false := by decide) (he : starEach (e :: es) X.env = (false, eval e X.env) :: starEach es X.env := by rfl) (hpl : (backTo pos (starEach es X.env)).any (·.1) = false := by rfl) :
    PE X (.Call (.Name x p) (e :: es) [] pos) (tMkx C sp E t) := by
  intro pins s σ H Q I h
  obtain ⟨f, fd, F, MX, bd⟩ := M.ex
  refine wpAny_Call_Name_kw (ld_glob I hg hm ?_ hdb)
  refine PySem.W.callWith_K (h₀ := X.base) I.ok.mod.kin MX.kp (thn (ha pos pins s σ H _ I h) fun us s1 ⟨vs, H1, I1, r, hz, q⟩ => ⟨I1.kIn, ?_⟩) he hpl
  exact run_mkx MX F (hr.mono hk) bd hx I1 r hz q
theorem upd_self {H : Hp} {a : Addr} {o : HO} (h : H a = some o) : upd H a o = H := by
  funext b
  unfold upd
  split
  · rename_i z; rw [z, h]
  · rfl
theorem pe_base {pl : Sem Bool} (hg : Gl X x) (hm : X.mg x = some (.ref CK)) (rd : PySem.W.readsIn X.K CK (.type "type") = true) (fc : PySem.W.findCls X.K (.ref CK) (.type "type") "__init__" = some (.val (.builtin "ValueError.__init__")))
    (gs : PySem.W.specialIn X.K (.ref CK) "__getattribute__" = some (some (.builtin "type.__getattribute__"))) (ha : PA X (e :: es) t) (hdb : (x == ("__debug__" : Str)) = false := by decide)
    (hst : starEach (e :: es) X.env = (false, eval e X.env) :: starEach es X.env := by rfl) (hpl : (backTo pos (starEach es X.env)).any (·.1) = false := by rfl)
    (ht : eval (.Call (.Attribute (.Name x p) "__init__" apos) (e :: es) [] pos) X.env = (do
      let ov ← eval (.Name x p) X.env
      standAt apos.atName
      let (f, first) ← holding [ov] (getMethod ov "__init__" pl)
      callWith pos f first (backTo pos (starEach (e :: es) X.env)) (backToKw pos (keywordEach [] X.env))) := by rfl) :
    PE X (.Call (.Attribute (.Name x p) "__init__" apos) (e :: es) [] pos) (tBase X.K t) := by
  intro pins s σ H Q I h
  refine PySem.W.methodCall_KW (pl := pl) (ld_glob I hg hm ?_ hdb) ht
  refine PySem.W.method_cls I.kIn gs (PySem.W.cls_value I.kIn rd fc rfl ?_)
  refine PyProof.Rows.callWith_builtin1 (thn (ha pos pins _ σ H _ (I.tok _) h) fun us s1 ⟨vs, H1, I1, r, y, C, od, more, ev, hx, ho, hz, q⟩ => ?_) hst hpl
  subst ev
  cases r with
  | @cons _ u0 _ us' r0 r =>
    cases (show u0 = Value.ref y from r0)
    obtain ⟨vs', sl, h0, he⟩ := (show ObjOk X.prog X.w H1 s1.heap y (Xo y C od) from I1.hok y _ hx).1
    obtain ⟨hh, g, d, tk, os⟩ := s1
    obtain ⟨a0, rfl⟩ := h0
    refine base_init I1.kIn ho he rfl rfl (by simp) (by rw [← r.length]; exact hz) fun h' keep ⟨v0, e2⟩ => ⟨.non, H1, ?_, rfl, q⟩
    have J := I1.write (x := y) (e := y) (o := Xo y C od) (h' := h') (t' := tk) (by rw [hx]; exact True.intro) (.inl rfl) keep ⟨_, e2⟩ (xo_ok ⟨_, sl, ⟨v0, rfl⟩, e2⟩)
    rw [upd_self hx] at J
    exact J
theorem Inv.dressed {a C d : Addr} {fs : List (Str × V)} {h' : Heap} {tk' : Nat} (I : Inv X pins σ H s) (hx : H a = some (Xo a C none)) (hd : s.heap.objs.size ≤ d)
    (h1 : XoIs a C (some d) h') (h2 : XdIs d fs h') (keep : ∀ b o, b ≠ a → s.heap.get? b = some o → h'.get? b = some o) : Inv X pins σ (upd (upd H d (Xd d fs)) a (Xo a C (some d))) { s with heap := h', toks := tk' } := by
  have hdn : H d = none := I.hok.fresh hd
  have nda : d ≠ a := fun z => by rw [z, hx] at hdn; cases hdn
  have nl : ∀ b o, s.heap.get? b = some o → b ≠ d := fun b o q => Nat.ne_of_lt (Nat.lt_of_lt_of_le (Heap.lt_size q) hd)
  have na : ∀ b, H b = none → b ≠ a := fun b q z => by rw [z, hx] at q; cases q
  have oth : ∀ b u, H b = some u → (∀ φ, u ≠ .ext φ) → upd (upd H d (Xd d fs)) a (Xo a C (some d)) b = H b := fun b u q nu => by
    rw [upd_ne (fun z => by rw [z, hx] at q; exact nu _ (Option.some.inj q).symm), upd_ne (fun z => by rw [z, hdn] at q; cases q)]
  refine I.un ⟨fun b o q n _ _ => keep b o (na b n) q, fun b o q n _ _ => ⟨o.slots, keep b o (na b n) q⟩, fun b o q n _ => by rw [upd_ne (na b n), upd_ne (nl b o q)]; exact n, fun b o q _ => ?_,
    fun b xs q => by rw [oth b _ q fun φ z => nomatch z]; exact q, fun b o u q => by rw [oth b _ q fun φ z => nomatch z]; exact q, fun b ps q => ⟨#[], by rw [oth b _ q fun φ z => nomatch z]; simpa using q⟩⟩ fun b u q => ?_
  · by_cases z : b = a
    · obtain ⟨vs, sl, _, e⟩ := h1
      exact ⟨_, by rw [z]; exact e⟩
    · exact ⟨o, keep b o z q⟩
  · by_cases z : b = a
    · subst z
      rw [upd_same] at q
      cases q
      exact xo_ok h1
    · rw [upd_ne z] at q
      by_cases y : b = d
      · subst y
        rw [upd_same] at q
        cases q
        exact xd_ok h2
      · rw [upd_ne y] at q
        refine (I.hok b u q).stay (fun c v hc r => keep c v ?_ r) (fun c r => by rw [oth c _ r fun φ z => nomatch z]; exact r) fun c xs r => by rw [oth c _ r fun φ z => nomatch z]; exact r
        rcases hc with rfl | hc
        · exact z
        · rintro rfl
          rw [hx] at hc
          cases hc
theorem xd_put {h' : Heap} {d : Addr} {fs : List (Str × V)} {mA : Str → Option Value} {f : Str} {y : V} {u : Value} (hn : h'.Ns1 d fun g => if g = f then some u else mA g) (r : ∀ g, RelO (fs.lookup g) (mA g)) (wi : PySem.Within mA (fs.map (·.1))) (ry : RelV y u) :
    XdIs d (putF f y fs) h' := by
  refine ⟨_, hn, fun g => ?_, fun g hg => ?_⟩
  · rw [lookup_putF]
    by_cases q : g = f
    · rw [if_pos q, if_pos q]; exact ry
    · rw [if_neg q, if_neg q]; exact r g
  · by_cases q : g = f
    · rw [q]; exact (keys_putF f y fs).1
    · refine (keys_putF f y fs).2 g (wi g fun z => hg ?_)
      show (if g = f then some u else mA g) = none
      rw [if_neg q]; exact z
variable {o value : Expr} {f : Str} {pos' : Pos} {ta tv : TE}
theorem ps_xf (ha : PE X o ta) (hv : PE X value tv) (hs : swapsWith value (some (.Attribute o f pos')) pos.line X.env = pure false := by rfl) : PS X (.Assign [.Attribute o f pos'] value pos) (sXf X.K ta tv f) := by
  intro pins s σ H D I h
  refine plainObj_wpAny_Assign_Attribute (thn (hv pins s σ H _ I h) fun u s1 ⟨y, H1, I1, ry, q⟩ => thn (ha pins s1 σ H1 _ I1 q) fun ov s2 ⟨x, H2, I2, rx, a, C, ex, xc, n, q2⟩ => ?_) hs
  subst ex
  obtain rfl : ov = Value.ref a := rx
  rcases q2 with ⟨hx, q2⟩ | ⟨d, fs, hx, hd, hl, q2⟩
  · obtain ⟨vs, sl, h0, e0⟩ := (show ObjOk X.prog X.w H2 s2.heap a (Xo a C none) from I2.hok a _ hx).1
    refine set_first I2.kIn e0 xc.ov xc.ob xc.sa n fun h' tk' e1 e2 keep => ⟨σ, _, ?_, q2 s2.heap.objs.size (I2.hok.fresh (Nat.le_refl _))⟩
    exact Kw.Inv.dressed I2 hx (Nat.le_refl _) ⟨vs, sl, h0, e1⟩ (xd_put (fs := []) e2 (fun _ => True.intro) (fun g hg => absurd rfl hg) ry) keep
  · obtain ⟨vs, sl, h0, e0⟩ := (show ObjOk X.prog X.w H2 s2.heap a (Xo a C (some d)) from I2.hok a _ hx).1
    obtain ⟨mA, hn, r, wi⟩ := (show ObjOk X.prog X.w H2 s2.heap d (Xd d fs) from I2.hok d _ hd).1
    refine set_more I2.kIn e0 hn wi (by rw [List.length_map, sizeLine_eq]; omega) xc.ov xc.ob xc.sa n fun h' tk' e1 sb => ⟨σ, _, ?_, q2⟩
    have e1' := e1
    obtain ⟨o', _, _, e2, _⟩ := e1'
    exact I2.write (x := d) (e := d) (h' := h') (t' := tk') (by rw [hd]; exact True.intro) (.inl rfl) (fun b v hb z => (sb.2 b hb).trans z) ⟨o', e2⟩ (xd_ok (xd_put e1 r wi ry))
end
end Kw
set_option Elab.async false
set_option linter.all false
set_option maxRecDepth 100000
set_option maxHeartbeats 4000000
namespace Kw
open PySem PySem.Spec PyProof.Rows L2
noncomputable def xq (K : PySem.W.Frag) (C : Addr) : Bool := PySem.W.findIn K (.ref C) "__getattribute__" == some (some (.builtin "BaseException.__getattribute__")) && PySem.W.findIn K (.ref C) "__getattr__" == some none &&
  PySem.W.findIn K (.ref C) "__class__" == some (some (.builtin "object.__class__")) && PySem.W.specialIn K (.builtin "object.__class__") "__get__" == some (some (.builtin "getset_descriptor.__get__")) &&
  PySem.W.takesIn K (.builtin "object.__class__") == some true && PySem.W.mroIn K C (.type "object") == some true && PySem.W.mroIn K C (.type "BaseException") == some true
theorem xq_ok {K : PySem.W.Frag} {C : Addr} (h : xq K C = true) : ExcQ K C := by
  simp only [xq, Bool.and_eq_true, beq_iff_eq] at h
  obtain ⟨⟨⟨⟨⟨⟨a, b⟩, c⟩, d⟩, e⟩, f⟩, g⟩ := h
  exact ⟨a, b, c, d, e, f, g⟩
noncomputable def xcb (K : PySem.W.Frag) (C : Addr) : Bool := excOver K C && PySem.W.mroIn K C (.type "object") == some true && PySem.W.findIn K (.ref C) "__setattr__" == some (some (.builtin "object.__setattr__")) && PySem.W.hasDictIn K C
theorem xcb_ok {K : PySem.W.Frag} {C : Addr} (h : xcb K C = true) : XCls K C := by
  simp only [xcb, Bool.and_eq_true, beq_iff_eq] at h
  obtain ⟨⟨⟨a, b⟩, c⟩, d⟩ := h
  exact ⟨a, b, c, d⟩
noncomputable def chk1 (K : PySem.W.Frag) (CK : Addr) (C : Nat → Addr) (n m i : Nat) : Bool := xq K (C i) && PySem.W.keepIn K (.ref (C i)) && PySem.W.kitOne K (.ref (C i)) (.ref CK) == some true && PySem.W.kitOne K (.ref (C i)) (.type "ValueError") == some true &&
  ((List.range n).all fun j => PySem.W.kitOne K (.ref (C i)) (.ref (C j)) == some (decide (i = j))) && (if i < m then PySem.W.excIn K (C i) bmV "ValueError.__new__" else excO K (C i) && xcb K (C i))
noncomputable def chkN (K : PySem.W.Frag) (CK : Addr) (C : Nat → Addr) (n m : Nat) : Bool := (List.range n).all (chk1 K CK C n m)
structure Refs (K : PySem.W.Frag) (CK : Addr) (C : Nat → Addr) (n m : Nat) : Prop where
  q : ∀ i, i < n → ExcQ K (C i)
  kp : ∀ i, i < n → PySem.W.keepIn K (.ref (C i)) = true
  k : ∀ i, i < n → PySem.W.kitOne K (.ref (C i)) (.ref CK) = some true
  v : ∀ i, i < n → PySem.W.kitOne K (.ref (C i)) (.type "ValueError") = some true
  mm : ∀ i j, i < n → j < n → PySem.W.kitOne K (.ref (C i)) (.ref (C j)) = some (decide (i = j))
  x : ∀ i, i < m → i < n → ExcC K (C i)
  o : ∀ i, m ≤ i → i < n → excO K (C i) = true
  c : ∀ i, m ≤ i → i < n → XCls K (C i)
theorem refs_ok {K : PySem.W.Frag} {CK : Addr} {C : Nat → Addr} {n m : Nat} (h : chkN K CK C n m = true) : Refs K CK C n m := by
  have g : ∀ i, i < n → chk1 K CK C n m i = true := fun i hi => List.all_eq_true.mp h i (List.mem_range.mpr hi)
  have g' : ∀ i, i < n → (((((xq K (C i) = true ∧ PySem.W.keepIn K (.ref (C i)) = true) ∧ PySem.W.kitOne K (.ref (C i)) (.ref CK) = some true) ∧ PySem.W.kitOne K (.ref (C i)) (.type "ValueError") = some true) ∧
      ((List.range n).all fun j => PySem.W.kitOne K (.ref (C i)) (.ref (C j)) == some (decide (i = j))) = true) ∧ (if i < m then PySem.W.excIn K (C i) bmV "ValueError.__new__" else excO K (C i) && xcb K (C i)) = true) := fun i hi => by
    have z := g i hi
    simp only [chk1, Bool.and_eq_true, beq_iff_eq] at z
    exact z
  refine ⟨fun i hi => xq_ok (g' i hi).1.1.1.1.1, fun i hi => (g' i hi).1.1.1.1.2, fun i hi => (g' i hi).1.1.1.2, fun i hi => (g' i hi).1.1.2, fun i j hi hj => ?_, fun i hm hi => ?_, fun i hm hi => ?_, fun i hm hi => ?_⟩
  · exact beq_iff_eq.mp (List.all_eq_true.mp (g' i hi).1.2 j (List.mem_range.mpr hj))
  · have z := (g' i hi).2
    rw [if_pos hm] at z
    exact z
  · have z := (g' i hi).2
    rw [if_neg (by omega), Bool.and_eq_true] at z
    exact z.1
  · have z := (g' i hi).2
    rw [if_neg (by omega), Bool.and_eq_true] at z
    exact xcb_ok z.2
noncomputable def clsAt (l : List Addr) (n : Nat) : Addr := l.getD n 0
theorem dfi_mk {K : PySem.W.Frag} {C f : Addr} {qual : Str} {st : Stmt} {ps : List Str} {od an : Option Addr} {sl : Array (Option Value)} {oc kV dc pm cd ct : Value} (i : PySem.W.findIn K (.ref C) "__init__" = some (some (.ref f)))
    (t : PySem.W.typeIn K (.ref f) = some (.type "function")) (l : K.lookup f = some ⟨oc, od, .func (PySem.W.fnOf "__init__" qual (defArgs st) (defBody st) (defScope st) .none kV dc pm an cd ct), sl⟩) (q : PySem.W.codeIn K cd qual = true) (o : excO K C = true) (kp : PySem.W.keepIn K (.ref C) = true)
    (b : ∀ us : List Value, us.length = ps.length → bindArgs (PySem.W.fnOf "__init__" qual (defArgs st) (defBody st) (defScope st) .none kV dc pm an cd ct) ⟨us, []⟩ = pure (ps.zip us)) : DfI K C qual st ps :=
  ⟨⟨f, oc, od, kV, dc, pm, an, cd, ct, sl, l, q, ⟨o, i, t, kp⟩, .all b⟩⟩
noncomputable def mthOf (s : Stmt) : Stmt := match s with
  | .ClassDef _ _ _ b _ _ _ _ _ _ _ => b.headD (.Pass ⟨0, 0, 0, 0⟩)
  | _ => .Pass ⟨0, 0, 0, 0⟩
theorem same_of_but {H H' : Hp} {x : Addr} {o : HO} (hx : H x = none) (b : But x (upd H x o) H') : Same H H' := fun a u q => by
  have nx : a ≠ x := ne_of_none q hx
  exact b a u nx (by rw [upd_ne nx]; exact q)
theorem dressO {H : Hp} {x d : Addr} {o0 : HO} (o1 o2 : HO) (hx : H x = some o0) (hd : H d = none) : ∃ H', upd (upd H d o1) x o2 = H' ∧ But x H H' ∧ H' x = some o2 ∧ H' d = some o1 := by
  have nd : d ≠ x := fun z => by rw [z, hx] at hd; cases hd
  exact ⟨_, rfl, fun a o na q => by rw [upd_ne na, upd_ne (ne_of_none q hd)]; exact q, upd_same, by rw [upd_ne nd, upd_same]⟩
end Kw
set_option Elab.async false
set_option linter.all false
set_option maxRecDepth 100000
set_option maxHeartbeats 4000000
namespace Kw
open PySem PySem.Spec PyProof.Rows L2
noncomputable def XcIs (x C : Addr) (od : Option Addr) (h : Heap) : Prop := ∃ (vs : Array Value) (sl : Array (Option Value)), h.get? x = some ⟨.ref C, od, .fields vs, sl⟩
noncomputable abbrev Xc (x C : Addr) (od : Option Addr) : HO := .ext (XcIs x C od)
theorem xc_ok {P : Program} {w : World} {H : Hp} {h : Heap} {x C : Addr} {od : Option Addr} (e : XcIs x C od h) : ObjOk P w H h x (Xc x C od) := by
  obtain ⟨vs, sl, b⟩ := id e
  exact ⟨e, ⟨_, b⟩, fun _ _ ⟨vs, sl, b⟩ k => ⟨vs, sl, k _ b⟩⟩
noncomputable def ClsX (K : PySem.W.Frag) (C : Addr) : Prop := ∀ h : Heap, K.In h → ∃ bm N nm qn bs hdct sn sub ab col dd k0 k1 k2 k3 k5, h.get? C = some (excClassObj nm qn C N bs bm hdct sn sub ab col dd k0 k1 k2 k3 k5 "ValueError.__new__") ∧ OwnTail h bmV bm
theorem clsx_o {K : PySem.W.Frag} {C : Addr} (q : excO K C = true) : ClsX K C := fun _ X => excO_obj X q
theorem clsx_c {K : PySem.W.Frag} {C : Addr} (q : ExcC K C) : ClsX K C := fun _ X => by
  obtain ⟨bm, N, nm, qn, bs, hdct, sn, sub, ab, col, dd, k0, k1, k2, k3, k5, _, hO, _, _, TL⟩ := exc_obj X q
  exact ⟨bm, N, nm, qn, bs, hdct, sn, sub, ab, col, dd, k0, k1, k2, k3, k5, hO, TL⟩
theorem raise_made {M : Model} {A : Around} {E : Value → Shared → Prop} {s : Shared} {env : Env} {x : Sem Value} {Q : Flow → Shared → Prop} {K : PySem.W.Frag} (hh : A.handled = none)
    (h : wpAny M A x (fun v s1 => ∃ e C od a sl, v = .ref e ∧ K.In s1.heap ∧ ClsX K C ∧ s1.heap.get? e = some ⟨.ref C, od, .fields #[a, .none, .none, .none, .bool false, .none], sl⟩ ∧ E (.ref e) s1) E s) :
    wpAny M A (raiseStmt env (some x) none) Q E s := by
  unfold raiseStmt
  refine wpAny_bind (wpAny_mono h (fun v s1 h1 => ?_) fun _ _ z => z)
  obtain ⟨e, C, od, a, sl, rfl, kx, cx, he, hE⟩ := h1
  obtain ⟨hp, g, d, tk, os⟩ := s1
  obtain ⟨bm, N, nm, qn, bs, hdct, sn, sub, ab, col, dd, k0, k1, k2, k3, k5, hO, TL⟩ := cx hp kx
  have hB : (Value.ref C :: bm).contains (.type "BaseException") = true := by rw [List.contains_cons, TL.hasType PySem.F.excBase_ValueError.hasBase, Bool.or_true]
  repeat (first
    | with_reducible refine wpAny_loadPart_at he ?_
    | with_reducible refine wpAny_loadPart_at hO ?_
    | (with_reducible refine wpAny_isSubtype_exc hO ?_; rw [hB])
    | wp_step)
  exact wpAny_raiseNew_none hh hE
section
variable {X : Cx} {E : XK} {e : Expr} {te : TE} {pos : Pos}
noncomputable def tRaiseX (K : PySem.W.Frag) (H0 : Hp) (E : XK) (te : TE) : TS := fun _ σ H => te σ H fun v H1 => ∃ x C od, v = .ref x ∧ H1 x = some (Xo x C od) ∧ H0 x = none ∧ ClsX K C ∧ E (.ref C) od (del H1 x)
theorem ps_raiseX (pl : Plain X) (L : Leaves X E) (hc : X.calm = true) (he : PE X e te) : PS X (.Raise (some e) none pos) (tRaiseX X.K X.H₀ E te) := by
  intro pins s σ H D I h
  rw [arm_exec_Raise]
  refine wpAny_bind (wpAny_standAt ?_)
  refine raise_made (K := X.K) (I.ok.hd hc) (wpAny_bind (wpAny_mono (he pins s σ H _ I h) (fun v s1 h1 => wpAny_bind (wpAny_standAt (wpAny_pure ?_))) fun _ _ z => z))
  obtain ⟨y, H1, I1, r, x, C, od, rfl, hx, hx0, cx, q⟩ := h1
  cases (show v = Value.ref x from r)
  obtain ⟨vs, sl, ⟨a0, rfl⟩, hox⟩ := (show ObjOk X.prog X.w H1 s1.heap x (Xo x C od) from I1.hok x _ hx).1
  refine ⟨x, C, od, a0, sl, rfl, I1.kIn, cx, hox, ?_⟩
  have n0 : X.s₀.heap.get? x = none := by
    cases z : X.s₀.heap.get? x with
    | none => rfl
    | some o =>
      have y := I1.base.free x o z hx0 (by rw [pl.ex]; simp)
      rw [hx] at y
      cases y
  have I2 := Kw.Inv.drop I1 hx
  refine L _ _ fun Q R hQ => ?_
  refine leave0 (bs := PySem.W.hideAll s1.heap ([x] ++ frs X.stack)) (up := X.outer) (by rw [I2.ok.frames, pl.stk]) pl.fr (fun b o z => PySem.W.of_hideAll _ z) (frames_hid pl I2 _) (PySem.W.hideAll_none _ (by simp)) hox rfl rfl rfl fun h' nt => hQ _ ?_
  have up := nt.up
  have F : Flown X (del H1 x) s1.heap h' [x] := by
    refine ⟨fun b o ho hs hn => nt.st b o (PySem.W.hideAll_get _ ho fun z => (List.mem_append.mp z).elim hn hs), fun b o ho hb => up b o ho (frame_nofields I2 hb ho), fun b hb => ?_⟩
    cases List.mem_singleton.mp hb
    exact ⟨n0, del_same⟩
  refine F.cxe pl I2 rfl rfl I2.bare ⟨n0, del_same, ?_⟩ q
  obtain ⟨oe', vs', T', oT', ts', he', hc', hdc', hd', h0', h1', hnT', hTe', hT', hdT', h3'⟩ := nt.tr
  refine ⟨oe', vs', _, T', oT', ts', he', hc', hdc', hd', h0', h1', ?_, ?_, hTe', hT', hdT', h3'⟩
  all_goals
    cases z : s1.heap.get? T' with
    | none => first | exact old_of pl I2 z | exact free_of_none I2.hok z
    | some o1 =>
      have hmm : T' ∈ [x] ++ frs X.stack := Classical.byContradiction fun hmm => by
        rw [PySem.W.hideAll_get _ z hmm] at hnT'; cases hnT'
      rcases List.mem_append.mp hmm with hm | hm
      · exact absurd (List.mem_singleton.mp hm) hTe'
      · obtain ⟨sl, ee⟩ := up T' o1 z (frame_nofields I2 hm z)
        rw [ee] at hT'
        cases hT'
        exact absurd hdT' (frame_nofields I2 hm z _)
variable {o : Expr} {f : Str} {ta : TE}
noncomputable def tXcf (K : PySem.W.Frag) (ta : TE) (f : Str) : TE := fun σ H Q => ta σ H fun x H1 => ∃ a C d fs v, x = .ref a ∧ H1 a = some (Xc a C (some d)) ∧ H1 d = some (Xd d fs) ∧ ExcQ K C ∧ XCls K C ∧ NoAttr K C f ∧ fs.lookup f = some v ∧ Q v H1
theorem pe_xcf (he : PE X o ta) (hb : attributeBase o f X.env (eval o X.env) = eval o X.env := by rfl) : PE X (.Attribute o f pos) (tXcf X.K ta f) := by
  intro pins s σ H Q I h
  refine attr_of hb (thn (he pins s σ H _ I h) fun u s1 zz => ?_)
  obtain ⟨x, H1, I1, rx, a, C, d, fs, v, ex, hx, hd, eq, xc, n, l, q⟩ := zz
  subst ex
  obtain rfl : u = Value.ref a := rx
  obtain ⟨vs, sl, e0⟩ := (show ObjOk X.prog X.w H1 s1.heap a (Xc a C (some d)) from I1.hok a _ hx).1
  obtain ⟨mA, hn, r, wi⟩ := (show ObjOk X.prog X.w H1 s1.heap d (Xd d fs) from I1.hok d _ hd).1
  obtain ⟨od, e1, e2⟩ := look_ns1 (name := f) hn
  obtain ⟨u, hu, ru⟩ := RelO.some_of (v := v) (o := mA f) (by rw [← l]; exact r f)
  have J : PySem.W.InstAt s1.heap a ⟨.ref C, some d, .fields vs, sl⟩ C (some od) := ⟨e0, rfl, rfl, e1⟩
  exact exc_fld I1.kIn J eq (PySem.W.findObj_own xc.hd n rfl (by rw [e2, hu])) (handed_of ru) ⟨v, H1, I1.tok _, ru, q⟩
theorem pe_xcfK {K : PySem.W.Frag} (hK : X.K = K) (he : PE X o ta) (hb : attributeBase o f X.env (eval o X.env) = eval o X.env := by rfl) : PE X (.Attribute o f pos) (tXcf K ta f) := by
  subst hK
  exact pe_xcf he hb
end
end Kw
set_option Elab.async false
set_option linter.all false
set_option maxRecDepth 100000
set_option maxHeartbeats 4000000
namespace Kw
open PySem PySem.Spec PyProof.Rows L2
noncomputable abbrev Cx.cat (X : Cx) (pn0 : List (Addr × Obj)) (E0 : Value → Shared → Prop) : Cx := { X with pn := X.pn ++ pn0, xe := E0 }
section
variable {X : Cx} {pins pins' : List (Addr × Obj)} {σ : L2.St} {H : Hp} {s : Shared} {E0 : Value → Shared → Prop}
theorem Inv.cat (I : Inv X pins σ H s) : Inv (Cx.cat X pins E0) [] σ H s := by
  obtain ⟨ok, r1, r2, r3, r4, r5, r6, r7, r8, r9, r10⟩ := I
  obtain ⟨a1, a2, a3, a4, a5, a6, a7, a8, a9, a10, a11, a12, a13, a14, a15, a16, a17, a18⟩ := ok
  exact ⟨⟨a1, a2, a3, a4, a5, a6, a7, a8, a9, a10, a11, a12, a13, a14, a15, a16, a17, a18⟩, r1, r2, r3, r4, r5, r6, r7, fun p hp => r8 p (by rw [List.append_nil] at hp; exact hp), r9, r10⟩
theorem Inv.uncat (I : Inv (Cx.cat X pins E0) pins' σ H s) : Inv X pins σ H s := by
  obtain ⟨ok, r1, r2, r3, r4, r5, r6, r7, r8, r9, r10⟩ := I
  obtain ⟨a1, a2, a3, a4, a5, a6, a7, a8, a9, a10, a11, a12, a13, a14, a15, a16, a17, a18⟩ := ok
  exact ⟨⟨a1, a2, a3, a4, a5, a6, a7, a8, a9, a10, a11, a12, a13, a14, a15, a16, a17, a18⟩, r1, r2, r3, r4, r5, r6, r7, fun p hp => r8 p (List.mem_append_left _ hp), r9, r10⟩
theorem SP.uncat {D : Ends} {f : Flow} (h : SP (Cx.cat X pins E0) [] D f s) : SP X pins D f s := by
  cases f with
  | next => obtain ⟨σ', H', I, q⟩ := h; exact ⟨σ', H', Kw.Inv.uncat I, q⟩
  | brk => obtain ⟨σ', H', I, q⟩ := h; exact ⟨σ', H', Kw.Inv.uncat I, q⟩
  | cont => obtain ⟨σ', H', I, q⟩ := h; exact ⟨σ', H', Kw.Inv.uncat I, q⟩
  | ret u => obtain ⟨v, σ', H', I, r, q⟩ := h; exact ⟨v, σ', H', Kw.Inv.uncat I, r, q⟩
end
noncomputable abbrev blank (X : Cx) : L2.St := List.replicate X.N.length none
structure AtH (X : Cx) (pins : List (Addr × Obj)) (H : Hp) (s : Shared) (hc : Heap) (x CA : Addr) (od : Option Addr) : Prop where
  inv : Inv X pins (blank X) H s
  fly : FlyAt H hc s.heap x (.ref CA) od
  pn : ∀ p ∈ X.pn ++ pins, ∃ o, hc.get? p.1 = some o
  old : ∀ b o, X.s₀.heap.get? b = some o → ∃ o', hc.get? b = some o'
  thr : ∀ b o, hc.get? b = some o → ∃ o', s.heap.get? b = some o'
section
variable {X : Cx} {pins : List (Addr × Obj)} {H : Hp} {s : Shared} {hc : Heap} {x CA : Addr} {od : Option Addr}
theorem AtH.young (a : AtH X pins H s hc x CA od) {b : Addr} (e : hc.get? b = none) : X.s₀.heap.get? b = none := by
  cases q : X.s₀.heap.get? b with
  | none => rfl
  | some o =>
    obtain ⟨o', z⟩ := a.old b o q
    rw [e] at z
    cases z
theorem AtH.go {G : Prop} (pl : Plain X) (hcell : X.env.cells = []) (a : AtH X pins H s hc x CA od)
    (step : ∀ (bs : Heap) (a0 : Value), bs.StaysIn s.heap → s.heap.FunFrames bs (X.env :: X.outer) → bs.get? x = none → TrD s.heap bs x (.ref CA) od a0 .none → (∀ h', Noted bs (X.env :: X.outer) x (.ref CA) od a0 .none s.heap h' → AtH X pins H { s with heap := h' } hc x CA od) → G) : G := by
  obtain ⟨I, ⟨new, free, oe, vs, a0, T, oT, ts, he, hcl, hdc, hd, h0, h1, hT0, hTf, hTx, hT, hdT, h3⟩, pn, old, thr⟩ := id a
  have n0 := a.young new
  have nT := a.young hT0
  refine step (PySem.W.hideAll s.heap ([x, T] ++ frs X.stack)) a0 (fun b o z => PySem.W.of_hideAll _ z) (frames_hid pl I _) (PySem.W.hideAll_none _ (by simp))
    ⟨oe, vs, T, oT, ts, he, hcl, hdc, hd, h0, h1, PySem.W.hideAll_none _ (by simp), hTx, hT, hdT, h3⟩ fun h' nt => ?_
  have up := nt.up
  have F : Flown X H s.heap h' [x, T] := by
    refine ⟨fun b o ho hs hn => nt.st b o (PySem.W.hideAll_get _ ho fun z => (List.mem_append.mp z).elim hn hs), fun b o ho hb => up b o ho (frame_nofields I hb ho), fun b hb => ?_⟩
    simp only [List.mem_cons, List.not_mem_nil, or_false] at hb
    rcases hb with rfl | rfl
    · exact ⟨n0, free⟩
    · exact ⟨nT, hTf⟩
  have np : ∀ p ∈ X.pn ++ pins, p.1 ∉ [x, T] := fun p hp z => by
    obtain ⟨o, y⟩ := pn p hp
    simp only [List.mem_cons, List.not_mem_nil, or_false] at z
    rcases z with z | z
    · rw [z, new] at y; cases y
    · rw [z, hT0] at y; cases y
  refine ⟨F.inv pl hcell I np rfl rfl I.bare, ⟨new, free, ?_⟩, pn, old, fun b o y => ?_⟩
  · obtain ⟨oe', vs', T', oT', ts', he', hc', hdc', hd', h0', h1', hnT', hTe', hT', hdT', h3'⟩ := nt.tr
    have both : hc.get? T' = none ∧ H T' = none := by
      cases z : s.heap.get? T' with
      | none =>
        refine ⟨?_, free_of_none I.hok z⟩
        cases y : hc.get? T' with
        | none => rfl
        | some o =>
          obtain ⟨o', w'⟩ := thr T' o y
          rw [z] at w'
          cases w'
      | some o1 =>
        have hm : T' ∈ [x, T] ++ frs X.stack := Classical.byContradiction fun hm => by
          rw [PySem.W.hideAll_get _ z hm] at hnT'; cases hnT'
        rcases List.mem_append.mp hm with hm | hm
        · simp only [List.mem_cons, List.not_mem_nil, or_false] at hm
          rcases hm with rfl | rfl
          · exact absurd rfl hTe'
          · exact ⟨hT0, hTf⟩
        · obtain ⟨sl, ee⟩ := up T' o1 z (frame_nofields I hm z)
          rw [ee] at hT'
          cases hT'
          exact absurd hdT' (frame_nofields I hm z _)
    exact ⟨oe', vs', a0, T', oT', ts', he', hc', hdc', hd', h0', h1', both.1, both.2, hTe', hT', hdT', h3'⟩
  · obtain ⟨o', y'⟩ := thr b o y
    by_cases hb : b ∈ frs X.stack
    · obtain ⟨sl, ee⟩ := up b o' y' (frame_nofields I hb y')
      exact ⟨_, ee⟩
    · refine ⟨o', nt.st b o' (PySem.W.hideAll_get _ y' fun z => ?_)⟩
      rcases List.mem_append.mp z with z | z
      · simp only [List.mem_cons, List.not_mem_nil, or_false] at z
        rcases z with rfl | rfl
        · rw [new] at y; cases y
        · rw [hT0] at y; cases y
      · exact hb z
theorem AtH.led {R : Value → Shared → Prop} {Q : Unit → Shared → Prop} {A : Around} (pl : Plain X) (hcell : X.env.cells = []) (a : AtH X pins H s hc x CA od) (q : ∀ h', AtH X pins H { s with heap := h' } hc x CA od → Q () { s with heap := h' }) :
    wpAny (model X.prog X.w) A (setFlight (.ref x) none) Q R s :=
  a.go pl hcell fun bs a0 st fr nx tr k => flight0 st fr tr fun h' n => q h' (k h' n)
theorem AtH.noted {R : Value → Shared → Prop} {Q : Unit → Shared → Prop} (pl : Plain X) (hcell : X.env.cells = []) (a : AtH X pins H s hc x CA od) (q : ∀ h', AtH X pins H { s with heap := h' } hc x CA od → Q () { s with heap := h' }) :
    wpAny (model X.prog X.w) X.A (noteFrame (.ref x) X.env) (fun _ s' => wpAny (model X.prog X.w) X.A (setFlight (.ref x) none) Q R s') R s :=
  a.go pl hcell fun bs a0 st fr nx tr k => look1 (up := X.outer) (by rw [a.inv.ok.frames, pl.stk]) pl.fr st fr nx tr fun h1 n1 => flight0 n1.st n1.fr n1.tr fun h2 n2 => q h2 (k h2 (n1.trans n2))
end
theorem excMatches_g {M : Model} {A : Around} {R : Value → Shared → Prop} {Q : Bool → Shared → Prop} {K : PySem.W.Frag} {s : Shared} {x C CK : Addr} {oe : Obj} {b : Bool} (X : K.In s.heap) (he : s.heap.get? x = some oe) (hc : oe.cls = .ref C) (hK : ClsX K CK)
    (hsub : PySem.W.Looks M s.heap (isSubtype (.ref C) (.ref CK)) b) (hq : Q b s) : wpAny M A (excMatches (.ref x) (.ref CK)) Q R s := by
  obtain ⟨hp, gg, dd, tt, oo⟩ := s
  obtain ⟨bm, N, nm, qn, bs, hdct, sn, sub, ab, col, dct, k0, k1, k2, k3, k5, hO, TL⟩ := hK hp X
  have hB : (Value.ref CK :: bm).contains (.type "BaseException") = true := by
    rw [List.contains_cons, TL.hasType PySem.F.excBase_ValueError.hasBase, Bool.or_true]
  have nt := tc_notTuple
  unfold excMatches
  repeat (first
    | (with_reducible refine hsub.at ?_)
    | (with_reducible refine wpAny_loadPart_at he ?_; rw [hc])
    | with_reducible refine wpAny_loadPart_at hO ?_
    | (with_reducible refine wpAny_isSubtype_exc hO ?_; rw [hB])
    | wp_step)
  cases b
  · repeat (first | wp_step)
    exact hq
  · repeat (first | wp_step)
    exact hq
section
variable {X : Cx} {pins : List (Addr × Obj)} {σ : L2.St} {H : Hp} {s : Shared}
theorem Inv.unname (pl : Plain X) (hcell : X.env.cells = []) (hN : X.N.Nodup) {j : Nat} {n : Str} (hj : X.N[j]? = some n) (I : Inv X pins σ H s) {h' : Heap} {m : Str → Option Value} {v : Option Value} {tk : Nat} (hm : s.heap.Ns X.env.locals m)
    (hl : ∀ (i : Nat) (x : Str) (v : V), X.N[i]? = some x → σ[i]? = some (some v) → Vis X.env.scope x → ∃ u, RelV v u ∧ Look X.env s.heap m x u)
    (hn : h'.Ns X.env.locals (fun y => if y = n then v else m y)) (sb : Heap.SameBut X.env.locals s.heap h') : Inv X pins (σ.set j none) H { s with heap := h', toks := tk } := by
  have kp : ∀ b, b ≠ X.env.locals → h'.get? b = s.heap.get? b := fun b hb => sb.2 b hb
  have old : ∀ b o, X.s₀.heap.get? b = some o → b ≠ X.env.locals := fun b o q z => by
    subst z
    exact absurd (Heap.lt_size q) (Nat.not_lt.mpr I.ok.above)
  refine ⟨I.ok, I.os, I.bare, ⟨fun b o q n a c => ?_, fun b o q n a c => ?_, I.base.free, fun b o q c => ?_, I.base.tups, I.base.frzs, I.base.tbls⟩, ⟨_, hn, fun i x v a b c => ?_⟩, fun x c z => ?_, I.free, I.freeC, fun p hp => ?_, fun a o e => ?_, by rw [List.length_set]; exact I.len⟩
  · exact (kp b (old b o q)).trans (I.base.keep b o q n a c)
  · obtain ⟨sl, z⟩ := I.base.slot b o q n a c
    exact ⟨sl, (kp b (old b o q)).trans z⟩
  · obtain ⟨o', z⟩ := I.base.there b o q c
    exact ⟨o', (kp b (old b o q)).trans z⟩
  · have hij : j ≠ i := fun z => by
      subst z
      rw [List.getElem?_set] at b
      simp at b
    rw [List.getElem?_set_ne hij] at b
    obtain ⟨u, r, lk⟩ := hl i x v a b c
    refine ⟨u, r, ?_⟩
    rcases lk with ⟨k1, k2⟩ | ⟨_, c', lk, _⟩
    · refine .inl ⟨k1, ?_⟩
      show (if x = n then _ else m x) = some u
      rw [if_neg fun z => hij (nodup_ix hN hj (by rw [a, z]))]
      exact k2
    · rw [hcell] at lk
      cases lk
  · rw [hcell] at z
    cases z
  · obtain ⟨a, b, c, d, e⟩ := I.pin p hp
    exact ⟨(kp _ c).trans a, b, c, d, e⟩
  · refine (I.hok a o e).stay (fun b u hb ho => ?_) (fun _ z => z) fun _ _ z => z
    have nb : b ≠ X.env.locals := fun z => by
      subst z
      rcases hb with q | q
      · rw [← q, I.free] at e; cases e
      · rw [I.free] at q; cases q
    exact (kp b nb).trans ho
end
noncomputable def PH (X : Cx) (hs : List ExceptHandler) (t : Ends → Addr → Option Addr → Hp → Prop) : Prop :=
  ∀ (pins : List (Addr × Obj)) (s : Shared) (H : Hp) (hc : Heap) (x CA : Addr) (od : Option Addr) (D : Ends), AtH X pins H s hc x CA od → t D CA od H → wpAny (model X.prog X.w) X.A (handleBy (.ref x) X.env hs) (SP X pins D) X.xe s
noncomputable def tHnil : Ends → Addr → Option Addr → Hp → Prop := fun _ _ _ _ => False
noncomputable def tHas (K : PySem.W.Frag) (N : List Str) (CK : Addr) (j : Nat) (ts : TS) (tr : Ends → Addr → Option Addr → Hp → Prop) : Ends → Addr → Option Addr → Hp → Prop := fun D CA od H =>
  (PySem.W.subIn K (.ref CA) (.ref CK) = some true ∧ ∀ x, H x = none → ts { nx := fun σ H' => D.nx (σ.set j none) H', rt := D.rt } ((List.replicate N.length none).set j (some (.ref x))) (upd H x (Xc x CA od))) ∨
  (PySem.W.subIn K (.ref CA) (.ref CK) = some false ∧ tr D CA od H)
noncomputable def tHno (K : PySem.W.Frag) (N : List Str) (CK : Addr) (ts : TS) (tr : Ends → Addr → Option Addr → Hp → Prop) : Ends → Addr → Option Addr → Hp → Prop := fun D CA od H =>
  (PySem.W.subIn K (.ref CA) (.ref CK) = some true ∧ ts { nx := D.nx, rt := D.rt } (List.replicate N.length none) H) ∨ (PySem.W.subIn K (.ref CA) (.ref CK) = some false ∧ tr D CA od H)
section
variable {X : Cx} {j : Nat} {n xK : Str} {CK : Addr} {ts : TS} {b₀ : Stmt} {suite : List Stmt} {kp hpos pos : Pos} {rest : List ExceptHandler} {tr : Ends → Addr → Option Addr → Hp → Prop}
theorem ph_nil : PH X [] tHnil := fun _ _ _ _ _ _ _ _ _ h => h.elim
theorem ph_as (pl : Plain X) (hcell : X.env.cells = []) (hN : X.N.Nodup) (hj : X.N[j]? = some n) (hn : X.env.scope.names.lookup n = some .local) (hgK : Gl X xK) (hmK : X.mg xK = some (.ref CK)) (hCK : ClsX X.K CK)
    (hs : ∀ x, PSs (sut X x) (b₀ :: suite) ts) (hr : PH X rest tr) (hfn : X.fn n = true := by rfl) (hdK : (xK == ("__debug__" : Str)) = false := by decide)
    (hkc : (X.env.scope.kind == .class || (X.env.scope.kind == .module && X.env.locals != X.env.globals)) = false := by rfl) (hkn : X.env.kindOf n = some .local := by rfl) :
    PH X (.ExceptHandler (some (.Name xK kp)) (some n) (b₀ :: suite) hpos :: rest) (tHas X.K X.N CK j ts tr) := by
  intro pins s H hc x CA od D a h
  obtain ⟨o5, ho5, hc5⟩ : ∃ o, s.heap.get? x = some o ∧ o.cls = .ref CA := by
    obtain ⟨oe, _, _, _, _, _, z1, z2, _⟩ := a.fly.tr
    exact ⟨oe, z1, z2⟩
  refine wpAny_handleBy_cons (codeAny_handlers_test (ld_glob (X := sut X x) (Kw.Inv.sut a.inv x) hgK hmK ?_ hdK)) (by intro z; cases z)
  rcases h with ⟨hsub, hq⟩ | ⟨hsub, hq⟩
  · refine excMatches_g (K := X.K) a.inv.kIn ho5 hc5 hCK (PySem.W.looks_subIn a.inv.kIn hsub) ?_
    refine codeAny_handlers_suite_as ?_
    refine a.led pl hcell fun h6 a6 => ?_
    have I6 := a6.inv
    have n0 := a6.young a6.fly.new
    obtain ⟨o6, v6, _, _, _, _, ho6, hc6, hdc6, hd6, _⟩ := a6.fly.tr
    have free := a6.fly.free
    have hxL : x ≠ X.env.locals := fun z => by
      obtain ⟨m, ⟨o, es', ep, e1, e2, _⟩, _⟩ := I6.loc
      rw [← z] at e1
      have e1' : h6.get? x = some o := e1
      have ho6' : h6.get? x = some o6 := ho6
      rw [ho6'] at e1'
      cases e1'
      rw [hd6] at e2
      cases e2
    have ok : XcIs x CA od h6 := by
      obtain ⟨c6, d6, da6, sl6⟩ := o6
      simp only at hc6 hdc6 hd6
      subst hc6 hdc6 hd6
      exact ⟨v6, sl6, ho6⟩
    have I7 : Inv X pins (blank X) (upd H x (Xc x CA od)) { s with heap := h6 } := Kw.Inv.adopt (fun y c z => by rw [hcell] at z; cases z) I6 n0 free hxL (fun p hp z => by
      obtain ⟨o, y⟩ := a6.pn p hp
      rw [z, a6.fly.new] at y
      cases y) (xc_ok ok)
    refine store_ok (X := sut X x) (Kw.Inv.sut I7 x) hN hj (.inl hn) (v := .ref x) rfl (fun s8 I8 => ?_) (.inl hfn)
    refine wpAny_mono (hs x pins s8 _ _ _ I8 (hq x free)) (fun f9 s9 h9 => ?_) fun _ _ z => z.elim
    cases f9 with
    | ret u =>
      obtain ⟨v, σ9, H9, I9, r9, q9⟩ := h9
      have J9 := Kw.Inv.unsut a.inv.ok I9
      obtain ⟨m, hn9, _⟩ := J9.loc
      exact wpAny_nameGoes hkn hn9 hkc fun h10 m10 hn10 sb => ⟨v, _, H9, Kw.Inv.forget pl hcell J9 hn10 sb, r9, q9⟩
    | next =>
      obtain ⟨σ9, H9, I9, q9⟩ := h9
      have J9 := Kw.Inv.unsut a.inv.ok I9
      obtain ⟨m, hn9, hl9⟩ := J9.loc
      exact wpAny_nameGoes_keeps hkn hn9 hkc fun h10 v10 hn10 sb => ⟨_, H9, Kw.Inv.unname pl hcell hN hj J9 hn9 hl9 hn10 sb, q9⟩
    | brk =>
      obtain ⟨_, _, _, z⟩ := h9
      exact False.elim z
    | cont =>
      obtain ⟨_, _, _, z⟩ := h9
      exact False.elim z
  · refine excMatches_g (K := X.K) a.inv.kIn ho5 hc5 hCK (PySem.W.looks_subIn a.inv.kIn hsub) ?_
    exact hr pins s H hc x CA od D a hq
theorem ph_no (pl : Plain X) (hcell : X.env.cells = []) (hgK : Gl X xK) (hmK : X.mg xK = some (.ref CK)) (hCK : ClsX X.K CK)
    (hs : ∀ x, PSs (sut X x) (b₀ :: suite) ts) (hr : PH X rest tr) (hdK : (xK == ("__debug__" : Str)) = false := by decide) :
    PH X (.ExceptHandler (some (.Name xK kp)) none (b₀ :: suite) hpos :: rest) (tHno X.K X.N CK ts tr) := by
  intro pins s H hc x CA od D a h
  obtain ⟨o5, ho5, hc5⟩ : ∃ o, s.heap.get? x = some o ∧ o.cls = .ref CA := by
    obtain ⟨oe, _, _, _, _, _, z1, z2, _⟩ := a.fly.tr
    exact ⟨oe, z1, z2⟩
  refine wpAny_handleBy_cons (codeAny_handlers_test (ld_glob (X := sut X x) (Kw.Inv.sut a.inv x) hgK hmK ?_ hdK)) (by intro z; cases z)
  rcases h with ⟨hsub, hq⟩ | ⟨hsub, hq⟩
  · refine excMatches_g (K := X.K) a.inv.kIn ho5 hc5 hCK (PySem.W.looks_subIn a.inv.kIn hsub) ?_
    refine codeAny_handlers_suite ?_
    refine a.led pl hcell fun h6 a6 => ?_
    refine wpAny_mono (hs x pins _ _ _ { nx := D.nx, rt := D.rt } (Kw.Inv.sut a6.inv x) hq) (fun f9 s9 h9 => ?_) fun _ _ z => z.elim
    cases f9 with
    | ret u =>
      obtain ⟨v, σ9, H9, I9, r9, q9⟩ := h9
      exact ⟨v, σ9, H9, Kw.Inv.unsut a.inv.ok I9, r9, q9⟩
    | next =>
      obtain ⟨σ9, H9, I9, q9⟩ := h9
      exact ⟨σ9, H9, Kw.Inv.unsut a.inv.ok I9, q9⟩
    | brk =>
      obtain ⟨_, _, _, z⟩ := h9
      exact False.elim z
    | cont =>
      obtain ⟨_, _, _, z⟩ := h9
      exact False.elim z
  · refine excMatches_g (K := X.K) a.inv.kIn ho5 hc5 hCK (PySem.W.looks_subIn a.inv.kIn hsub) ?_
    exact hr pins s H hc x CA od D a hq
variable {body : List Stmt} {tb : XK → TS} {th : Ends → Addr → Option Addr → Hp → Prop} {h₀ : ExceptHandler} {hs : List ExceptHandler}
noncomputable def tTryG (tb : XK → TS) (th : Ends → Addr → Option Addr → Hp → Prop) : TS := fun D σ H => tb (fun C od H2 => ∃ CA, C = .ref CA ∧ th D CA od H2) D σ H
theorem ps_tryG (pl : Plain X) (hcell : X.env.cells = []) (hb : ∀ (E : XK) (pn0 : List (Addr × Obj)) (E0 : Value → Shared → Prop), Passes (CXE X.prog X.w) (Cx.cat X pn0 E0) E → PSs (Cx.cat X pn0 E0) body (tb E)) (hh : PH X (h₀ :: hs) th) :
    PS X (.Try body (h₀ :: hs) [] [] pos) (tTryG tb th) := by
  intro pins s σ H D I h
  refine wpAny_Try_except ?_
  have pass : Passes (CXE X.prog X.w) (Cx.cat X pins fun e s' => ∃ hc x CA od H2, e = .ref x ∧ AtH X pins H2 s' hc x CA od ∧ th D CA od H2) (fun C od H2 => ∃ CA, C = .ref CA ∧ th D CA od H2) := by
    intro pins' σ' H' s1 e s2 I1 hc1
    obtain ⟨x, C, od, H2, rfl, os, bare, un, hok, fly, CA, rfl, hth⟩ := hc1
    have I2 := I1.call' (ch := []) os un hok bare (fun b hb => absurd hb (by simp))
    have I3 := Kw.Inv.uncat I2
    refine ⟨s1.heap, x, CA, od, H2, rfl, ⟨I3.weak (by rw [List.length_replicate]; exact I3.len.symm) fun i v z => ?_, fly, fun p hp => ⟨_, ((Kw.Inv.uncat I1).pin p hp).1⟩, fun b o z => (Kw.Inv.uncat I1).base.there b o z (by rw [pl.ex]; simp), fun b o z => un.there b o z (by simp)⟩, hth⟩
    rw [List.getElem?_replicate] at z
    split at z <;> cases z
  refine wpAny_mono (hb _ pins _ pass [] s σ H D (Kw.Inv.cat I) h) (fun f s' h' => ?_) fun e s' h' => ?_
  · have h2 := Kw.SP.uncat h'
    cases f with
    | next => exact wpAny_execs_nil h2
    | ret u => exact h2
    | brk => exact h2
    | cont => exact h2
  · obtain ⟨hc, x, CA, od, H2, rfl, a, hth⟩ := h'
    exact a.noted pl hcell fun h2 a2 => hh pins _ H2 hc x CA od D a2 hth
end
end Kw
set_option Elab.async false
set_option linter.all false
set_option maxRecDepth 100000
set_option maxHeartbeats 4000000
namespace Kw
open PySem PySem.Spec PyProof.Rows L2
theorem list_ins {prog : Program} {w : World} {A : Around} {E : Value → Shared → Prop} {s : Shared} {l : Addr} {items : Array Value} {n : Nat} {x : Int} {t : Tok} {y : Value} {Q : Value → Shared → Prop} (e : s.heap.get? l = some { cls := .type "list", dict := none, data := .seq items n, slots := #[] })
    (hf : ¬ (!Builtin.List.listFitsIndex x) = true) (hz : items.size ≤ sizeLine)
    (want : ∀ f : Array Value → Array Value, (∀ xs, f xs = (xs.extract 0 (if x < 0 then (x + (xs.size : Int)).toNat else min x.toNat xs.size)).push y ++ xs.extract (if x < 0 then (x + (xs.size : Int)).toNat else min x.toNat xs.size)) → Q .none { s with heap := s.heap.update l (Obj.mapSeq f), toks := s.toks }) :
    wpAny (model prog w) A (call (.builtin "list.insert") [.ref l, .int x t, y]) Q E s :=
  call_meets PySem.F.slot_list_insert ⟨_, e, rfl⟩ PySem.F.entry_list_insert (PySem.F.args_list_insert_3 _ _ _) (PySem.AutoSeq1.list_insert_list_int_val_1 l _ n x t y hf hz) ⟨e, want _ fun _ => rfl⟩
section
variable {X : Cx}
noncomputable def rInsert : V → List V → Hp → VK → Prop := fun x vs H Q => ∃ l xs y, ∃ k : Nat, x = .ref l ∧ vs = [.int (k : Int), y] ∧ H l = some (.lst xs) ∧ k ≤ xs.length ∧ xs.length < sizeLine ∧ Q .non (upd H l (.lst (xs.take k ++ y :: xs.drop k)))
theorem mt_insert : MtM X "list.insert" rInsert := by
  intro pins s σ H x vs v us Q I rx rv h
  obtain ⟨l, xs, y, k, rfl, rfl, hH, hk, hz, q⟩ := h
  cases rx
  obtain ⟨u1, u2, rfl, r1, r2⟩ := vals2 rv
  obtain ⟨t, rfl⟩ := r1
  obtain ⟨z, its, n, r, hl, e⟩ := I.lstM hH
  have hk2 : k ≤ its.length := by omega
  have s2 := sizeLine_eq
  have hf : Builtin.List.listFitsIndex (k : Int) = true := by
    unfold Builtin.List.listFitsIndex
    rw [Bool.and_eq_true, decide_eq_true_iff, decide_eq_true_iff]
    omega
  have nf : ¬ (!Builtin.List.listFitsIndex (k : Int)) = true := by rw [hf]; exact Bool.false_ne_true
  have sz : its.toArray.size ≤ sizeLine := by rw [List.size_toArray]; omega
  refine list_ins e nf sz fun f hfx => ?_
  refine ⟨.non, _, I.lset (its' := its.take k ++ u2 :: its.drop k) hH e ?_ ((r.take k).append (.cons r2 (r.drop k))) ?_, rfl, q⟩
  · have ek : (if (k : Int) < 0 then ((k : Int) + (its.toArray.size : Int)).toNat else min (k : Int).toNat its.toArray.size) = k := by
      rw [if_neg (by omega), List.size_toArray]
      omega
    rw [hfx, ek]
    exact PySem.W.kl_ins_eq its k u2
  · rw [List.length_append, List.length_cons, List.length_take, List.length_drop]
    omega
end
section
variable {K : PySem.W.Frag} {idx : List Nat} {tt : TT} {te : TE} {σ : L2.St} {H : Hp} {Q : VK}
end
end Kw
set_option Elab.async false
set_option linter.all false
set_option maxRecDepth 100000
set_option maxHeartbeats 4000000
namespace Kw
open PySem PySem.Spec PyProof.Rows L2
section
variable {S : V → Prop} {lt : V → V → Bool} {x y : V} {row : List V}
end
end Kw
set_option Elab.async false
set_option linter.all false
set_option maxRecDepth 100000
set_option maxHeartbeats 4000000
namespace Kw
open PySem PySem.Spec PyProof.Rows L2
noncomputable def spInitN (C : Addr) (fs : List Str) : Sp := fun vs H Q _ => ∃ x ys, vs = .ref x :: ys ∧ ys.length = fs.length ∧ H x = some (Xo x C none) ∧ ∀ d H', d ≠ x → But x H H' → H' x = some (Xo x C (some d)) → H' d = some (Xd d (fs.zip ys)) → Q .non H'
section
variable {K : PySem.W.Frag} {H H' : Hp} {c : Addr} {x : V} {k k' : Int × Int} {xs ys : List V} {key : V → Int × Int}
end
end Kw
set_option Elab.async false
set_option linter.all false
set_option maxRecDepth 100000
set_option maxHeartbeats 4000000
namespace Kw
open PySem PySem.Spec PyProof.Rows L2
section
variable {K : PySem.W.Frag} {H H' : Hp} {b c : Addr} {x : V} {xs ys : List V}
end
end Kw
namespace Kw
open PySem PySem.Spec PyProof.Rows L2
end Kw
namespace Kw
open PySem PySem.Spec PyProof.Rows L2
end Kw
namespace Kw
open PySem PySem.Spec PyProof.Rows L2
end Kw
namespace Kw
open PySem PySem.Spec PyProof.Rows L2
theorem g_go {i : Nat} {x : V} {σ : L2.St} {H : Hp} {Q : L2.St → Hp → Prop} (h : Q (σ.set i (some x)) H) : gName i x σ H Q := h
end Kw
set_option Elab.async false
set_option linter.all false
set_option maxRecDepth 100000
set_option maxHeartbeats 4000000
namespace Kw
open PySem PySem.Spec PyProof.Rows L2
noncomputable abbrev Bod := Rat × Rat × Int
theorem atI_z {xs : List V} {j : Nat} {x : V} (h : xs[j]? = some x) : atI xs (0 + (j : Int)) = some x := by
  rw [Int.zero_add]
  exact atI_nat h
section
variable {K : PySem.W.Frag} {te : TE} {tt : TT} {σ : L2.St} {H : Hp} {Q : VK} {idx : List Nat} {n : Nat}
end
section
variable {K : PySem.W.Frag} {H : Hp} {m n : Nat} {x : V} {b : Bod}
theorem BdQ.mono (h : BdQ K H m x b) (l : m ≤ n) : BdQ K H n x b := by
  obtain ⟨p, a, c, e, h1, h2, h3, d1, d2, r⟩ := h
  exact ⟨p, a, c, e, h1, h2, h3, d1.mono l, d2.mono l, r⟩
theorem bds_mono {xs : List V} {bs : List Bod} (h : Al2 (BdQ K H m) xs bs) (l : m ≤ n) : Al2 (BdQ K H n) xs bs := Al2.imp (fun _ _ z => z.mono l) h
end
theorem q_div_le {a b : Rat} (ha : 0 ≤ a) (hb : 0 < b) : (0 : Rat) ≤ a / b := by
  by_cases e : a = 0
  · subst e
    rw [Rat.div_def, Rat.zero_mul]
    exact Rat.le_refl
  · have := q_div_pos (a := a) (b := b) (by grind) hb
    grind
theorem q_div_nn {a b : Int} (ha : 0 ≤ a) (hb : 0 < b) : (0 : Rat) ≤ (a : Rat) / (b : Rat) := by
  refine q_div_le ?_ (q_wpos (by omega))
  by_cases e : a = 0
  · subst e
    exact Rat.le_refl
  · have := q_wpos (i := a) (by omega)
    grind
end Kw
set_option Elab.async false
set_option linter.all false
set_option maxRecDepth 100000
set_option maxHeartbeats 4000000
namespace Kw
open PySem PySem.Spec PyProof.Rows L2
noncomputable def Six (B : Int) (x : Rat) : Prop := ∃ n : Int, x = (n : Rat) / 6 ∧ -B ≤ n ∧ n ≤ B
section
variable {B C : Int} {x y : Rat}
theorem Six.add (h : Six B x) (g : Six C y) : Six (B + C) (x + y) := by
  obtain ⟨n, rfl, a, b⟩ := h
  obtain ⟨m, rfl, c, d⟩ := g
  refine ⟨n + m, ?_, by omega, by omega⟩
  rw [Rat.intCast_add]
  grind
theorem Six.mono (h : Six B x) (l : B ≤ C) : Six C x := by
  obtain ⟨n, e, a, b⟩ := h
  exact ⟨n, e, by omega, by omega⟩
theorem six_dv (n : Int) : Rat.divInt n 6 = (n : Rat) / 6 := q_dv n 6
theorem Six.fb (h : Six B x) (l : B ≤ 1000000000) : FB 64 x := by
  obtain ⟨n, rfl, a, b⟩ := h
  rw [← six_dv]
  exact FB.fit (by decide) (Bd.small (by omega) (by omega)) (Bd.small (by decide) (by decide))
theorem six_fit {n d N : Int} (d1 : 1 ≤ d) (d3 : d ≤ 3) (a : -N ≤ n) (b : n ≤ N) : Six (6 * N) (Rat.divInt n d) := by
  rw [q_dv]
  rcases (show d = 1 ∨ d = 2 ∨ d = 3 by omega) with rfl | rfl | rfl
  · refine ⟨6 * n, ?_, by omega, by omega⟩
    rw [Rat.intCast_mul]
    show (n : Rat) / 1 = 6 * n / 6
    grind
  · refine ⟨3 * n, ?_, by omega, by omega⟩
    rw [Rat.intCast_mul]
    show (n : Rat) / 2 = 3 * n / 6
    grind
  · refine ⟨2 * n, ?_, by omega, by omega⟩
    rw [Rat.intCast_mul]
    show (n : Rat) / 3 = 2 * n / 6
    grind
end
end Kw
set_option Elab.async false
set_option linter.all false
set_option maxRecDepth 100000
set_option maxHeartbeats 4000000
namespace Kw
open PySem PySem.Spec PyProof.Rows L2
noncomputable def Ahd (a b : Bod) : Prop := a.1 < b.1 ∨ (a.1 = b.1 ∧ a.2.1 < b.2.1)
noncomputable instance (a b : Bod) : Decidable (Ahd a b) := inferInstanceAs (Decidable (a.1 < b.1 ∨ (a.1 = b.1 ∧ a.2.1 < b.2.1)))
noncomputable def ltI (bs : List Bod) (i j : Nat) : Bool := match bs[i]?, bs[j]? with
  | some a, some b => decide (Ahd a b)
  | _, _ => false
theorem ltI_of {bs : List Bod} {i j : Nat} {a b : Bod} (h : bs[i]? = some a) (g : bs[j]? = some b) : ltI bs i j = decide (Ahd a b) := by
  unfold ltI
  rw [h, g]
noncomputable def insN (lt : Nat → Nat → Bool) (k : Nat) : List Nat → List Nat
  | [] => [k]
  | y :: ys => if lt y k = true then y :: insN lt k ys else k :: y :: ys
noncomputable def ordN (lt : Nat → Nat → Bool) : Nat → List Nat
  | 0 => []
  | n + 1 => insN lt n (ordN lt n)
theorem insN_at {lt : Nat → Nat → Bool} {k : Nat} : ∀ (os : List Nat) (s : Nat), s ≤ os.length → (∀ i y, i < s → os[i]? = some y → lt y k = true) → (∀ y, os[s]? = some y → lt y k = false) → os.take s ++ k :: os.drop s = insN lt k os
  | [], 0, _, _, _ => rfl
  | [], _ + 1, h, _, _ => absurd h (by simp)
  | y :: ys, 0, _, _, hn => by
    have e : lt y k = false := hn y rfl
    show k :: y :: ys = _
    unfold insN
    rw [e]
    simp
  | y :: ys, s + 1, h, hl, hn => by
    have e : lt y k = true := hl 0 y (by omega) rfl
    have ih := insN_at ys s (by simpa using h) (fun i z hi hz => hl (i + 1) z (by omega) (by simpa using hz)) (fun z hz => hn z (by simpa using hz))
    show y :: (ys.take s ++ k :: ys.drop s) = _
    rw [ih]
    unfold insN
    rw [if_pos e]
    cases ys <;> rfl
theorem insN_mem {lt : Nat → Nat → Bool} {k : Nat} : ∀ (os : List Nat) (z : Nat), z ∈ insN lt k os → z = k ∨ z ∈ os
  | [], z, h => .inl (List.mem_singleton.mp h)
  | y :: ys, z, h => by
    unfold insN at h
    split at h
    · rcases List.mem_cons.mp h with e | e
      · exact .inr (by rw [e]; exact List.mem_cons_self)
      · rcases insN_mem ys z e with w | w
        · exact .inl w
        · exact .inr (List.mem_cons_of_mem _ w)
    · rcases List.mem_cons.mp h with e | e
      · exact .inl e
      · exact .inr e
theorem insN_len {lt : Nat → Nat → Bool} {k : Nat} : ∀ os : List Nat, (insN lt k os).length = os.length + 1
  | [] => rfl
  | y :: ys => by
    unfold insN
    split
    · simp [insN_len ys]
    · simp
theorem ordN_len (lt : Nat → Nat → Bool) : ∀ n, (ordN lt n).length = n
  | 0 => rfl
  | n + 1 => by
    show (insN lt n (ordN lt n)).length = _
    rw [insN_len, ordN_len lt n]
theorem ordN_lt (lt : Nat → Nat → Bool) : ∀ n, ∀ z ∈ ordN lt n, z < n
  | 0, z, h => nomatch h
  | n + 1, z, h => by
    rcases insN_mem _ _ h with e | e
    · omega
    · have := ordN_lt lt n z e
      omega
noncomputable def numV (os : List Nat) : List V := os.map fun n : Nat => V.int (n : Int)
theorem numV_len (os : List Nat) : (numV os).length = os.length := List.length_map ..
theorem numV_at {os : List Nat} {s y : Nat} (h : os[s]? = some y) : (numV os)[s]? = some (.int (y : Int)) := by
  unfold numV
  rw [List.getElem?_map, h]
  rfl
theorem numV_ins (os : List Nat) (s k : Nat) : (numV os).take s ++ V.int (k : Int) :: (numV os).drop s = numV (os.take s ++ k :: os.drop s) := by
  unfold numV
  rw [List.map_append, List.map_cons, List.map_take, List.map_drop]
noncomputable def permQ (bs : List Bod) (os : List Nat) : List Bod := os.filterMap fun k => bs[k]?
theorem permQ_snoc {bs : List Bod} {os : List Nat} {k : Nat} {b : Bod} (h : bs[k]? = some b) : permQ bs (os ++ [k]) = permQ bs os ++ [b] := by
  unfold permQ
  rw [List.filterMap_append]
  simp [h]
noncomputable def sortQ (bs : List Bod) : List Bod := permQ bs (ordN (ltI bs) bs.length)
theorem numV_get {os : List Nat} {i : Nat} {x : V} (h : (numV os)[i]? = some x) : ∃ y, os[i]? = some y ∧ x = .int (y : Int) := by
  unfold numV at h
  rw [List.getElem?_map] at h
  cases e : os[i]? with
  | none => rw [e] at h; cases h
  | some y => rw [e] at h; cases h; exact ⟨y, rfl, rfl⟩
end Kw
set_option maxRecDepth 100000
set_option linter.all false
namespace Kw
end Kw
namespace Kw
end Kw
set_option Elab.async false
set_option linter.all false
set_option maxRecDepth 100000
set_option maxHeartbeats 4000000
namespace Kw
open PySem PySem.Spec PyProof.Rows L2
end Kw
namespace Kw
open PySem PySem.Spec PyProof.Rows L2
end Kw
namespace Kw
open PySem PySem.Spec PyProof.Rows L2
theorem atI_neg {xs : List V} {k : Nat} {x : V} (h1 : 1 ≤ k) (h2 : k ≤ xs.length) (e : xs[xs.length - k]? = some x) : atI xs (-(k : Int)) = some x := by
  have z : ixN xs.length (-(k : Int)) = some (xs.length - k) := by
    unfold ixN
    rw [if_neg (by omega), if_pos (by omega)]
    congr 1
    omega
  unfold atI
  rw [z]
  exact e
end Kw
set_option Elab.async false
set_option linter.all false
set_option maxRecDepth 100000
set_option maxHeartbeats 4000000
namespace Kw
open PySem PySem.Spec PyProof.Rows L2
section
variable {idx : List Nat} {tt : TT} {te : TE} {σ : L2.St} {H : Hp} {Q : VK}
end
theorem lay_world (i : Int) : (PyData.tuple [.str (Str.ofString "world"), .int i]).canLay0 = true := by
  have e : (PyData.str (Str.ofString "world")).canLay0 = true := by decide +kernel
  show (PyData.canLay0 (.str (Str.ofString "world")) && PyData.canLayAll0 [.int i]) = true
  rw [e]
  rfl
end Kw
set_option Elab.async false
set_option linter.all false
set_option maxRecDepth 100000
set_option maxHeartbeats 4000000
namespace Kw
open PySem PySem.Spec PyProof.Rows L2
section
variable {X : Cx}
end
end Kw
namespace Kw
open PySem PySem.Spec PyProof.Rows L2
section
variable {X : Cx} {pos : Pos}
end
theorem insN_perm (lt : Nat → Nat → Bool) (k : Nat) : ∀ os : List Nat, (insN lt k os).Perm (k :: os)
  | [] => List.Perm.refl _
  | y :: ys => by
    unfold insN
    split
    · exact ((insN_perm lt k ys).cons y).trans (List.Perm.swap k y ys)
    · exact List.Perm.refl _
theorem ordN_perm (lt : Nat → Nat → Bool) : ∀ n : Nat, (ordN lt n).Perm (List.range n)
  | 0 => List.Perm.refl _
  | n + 1 => by
    show (insN lt n (ordN lt n)).Perm _
    rw [List.range_succ]
    exact (insN_perm lt n _).trans (((ordN_perm lt n).cons n).trans (List.perm_append_singleton n _).symm)
end Kw
set_option Elab.async false
set_option linter.all false
set_option maxRecDepth 100000
set_option maxHeartbeats 4000000
namespace Kw
open PySem PySem.Spec PyProof.Rows L2
theorem Ahd.trans' {a b c : Bod} (h1 : ¬ Ahd b a) (h2 : ¬ Ahd c b) : ¬ Ahd c a := by
  unfold Ahd at *
  grind
theorem Ahd.asym {a b : Bod} (h : Ahd a b) : ¬ Ahd b a := by
  unfold Ahd at *
  grind
noncomputable def SrtB (bs : List Bod) : Prop := bs.Pairwise fun a b => ¬ Ahd b a
theorem SrtB.uniq {bs cs : List Bod} {w : Int} (hb : ∀ b ∈ bs, b.2.2 = w) (hc : ∀ c ∈ cs, c.2.2 = w) (s1 : SrtB bs) (s2 : SrtB cs) (p : bs.Perm cs) : bs = cs := by
  refine List.Perm.eq_of_pairwise (le := fun a b => ¬ Ahd b a) (fun a b ha hb' h1 h2 => ?_) s1 s2 p
  have e1 := hb a ha
  have e2 := hc b hb'
  have z : a.1 = b.1 ∧ a.2.1 = b.2.1 := by
    unfold Ahd at h1 h2
    grind
  refine Prod.ext z.1 (Prod.ext z.2 (e1.trans e2.symm))
theorem insN_srt {lt : Nat → Nat → Bool} (tr : ∀ a b c, lt b a = false → lt c b = false → lt c a = false) (as : ∀ a b, lt a b = true → lt b a = false) (k : Nat) : ∀ os : List Nat, os.Pairwise (fun a b => lt b a = false) → (insN lt k os).Pairwise (fun a b => lt b a = false)
  | [], _ => List.pairwise_singleton ..
  | y :: ys, h => by
    unfold insN
    have h' := List.pairwise_cons.mp h
    split
    · rename_i e
      refine List.pairwise_cons.mpr ⟨fun z hz => ?_, insN_srt tr as k ys h'.2⟩
      rcases insN_mem ys z hz with w | w
      · subst w
        exact as _ _ e
      · exact h'.1 z w
    · rename_i e
      have e' : lt y k = false := by simpa using e
      refine List.pairwise_cons.mpr ⟨fun z hz => ?_, h⟩
      rcases List.mem_cons.mp hz with w | w
      · subst w
        exact e'
      · exact tr k y z e' (h'.1 z w)
theorem ordN_srt {lt : Nat → Nat → Bool} (tr : ∀ a b c, lt b a = false → lt c b = false → lt c a = false) (as : ∀ a b, lt a b = true → lt b a = false) : ∀ n : Nat, (ordN lt n).Pairwise (fun a b => lt b a = false)
  | 0 => List.Pairwise.nil
  | n + 1 => insN_srt tr as n _ (ordN_srt tr as n)
theorem permQ_map {bs : List Bod} : ∀ {os : List Nat}, (∀ k ∈ os, k < bs.length) → ∃ f : Nat → Bod, (∀ k, k < bs.length → bs[k]? = some (f k)) ∧ permQ bs os = os.map f := by
  intro os h
  refine ⟨fun k => bs.getD k (0, 0, 0), fun k hk => by show bs[k]? = some (bs.getD k (0, 0, 0)); rw [List.getD_eq_getElem?_getD, List.getElem?_eq_getElem hk]; rfl, ?_⟩
  induction os with
  | nil => rfl
  | cons k os ih =>
    have hk := h k (by simp)
    show (k :: os).filterMap (fun k => bs[k]?) = _
    rw [List.filterMap_cons, List.getElem?_eq_getElem hk]
    show bs[k] :: permQ bs os = _
    rw [ih fun j hj => h j (by simp [hj]), List.map_cons]
    congr 1
    rw [List.getD_eq_getElem?_getD, List.getElem?_eq_getElem hk]
    rfl
theorem permQ_range (bs : List Bod) : permQ bs (List.range bs.length) = bs := by
  obtain ⟨f, hf, e⟩ := permQ_map (bs := bs) (os := List.range bs.length) fun k hk => List.mem_range.mp hk
  rw [e]
  refine List.ext_getElem? fun i => ?_
  rw [List.getElem?_map]
  by_cases c : i < bs.length
  · rw [List.getElem?_range c, hf i c]
    rfl
  · rw [List.getElem?_eq_none (by rw [List.length_range]; omega), List.getElem?_eq_none (by omega)]
    rfl
theorem sortQ_perm (bs : List Bod) : (sortQ bs).Perm bs := by
  have p : (permQ bs (ordN (ltI bs) bs.length)).Perm (permQ bs (List.range bs.length)) := (ordN_perm (ltI bs) bs.length).filterMap _
  rw [permQ_range] at p
  exact p
theorem sortQ_srt (bs : List Bod) : SrtB (sortQ bs) := by
  have ol := ordN_lt (ltI bs) bs.length
  obtain ⟨f, hf, e⟩ := permQ_map (bs := bs) (os := ordN (ltI bs) bs.length) ol
  unfold SrtB sortQ
  rw [e, List.pairwise_map]
  have q := ordN_perm (ltI bs) bs.length
  have lt' : ∀ i j, i < bs.length → j < bs.length → ltI bs i j = decide (Ahd (f i) (f j)) := fun i j hi hj => ltI_of (hf i hi) (hf j hj)
  have same : ∀ n, n ≤ bs.length → ordN (ltI bs) n = ordN (fun i j => decide (Ahd (f i) (f j))) n := by
    have ins : ∀ (k : Nat) (os : List Nat), k < bs.length → (∀ z ∈ os, z < bs.length) → insN (ltI bs) k os = insN (fun i j => decide (Ahd (f i) (f j))) k os := fun k os hk => by
      induction os with
      | nil => intro _; rfl
      | cons y ys ih =>
        intro hz
        unfold insN
        rw [lt' y k (hz y (by simp)) hk, ih fun z h => hz z (by simp [h])]
    intro n
    induction n with
    | zero => intro _; rfl
    | succ n ih =>
      intro h
      show insN (ltI bs) n (ordN (ltI bs) n) = insN _ n (ordN _ n)
      rw [ins n _ (by omega) fun z hz => by have := ordN_lt (ltI bs) n z hz; omega, ih (by omega)]
  rw [same _ (Nat.le_refl _)]
  refine (ordN_srt (lt := fun i j => decide (Ahd (f i) (f j))) (fun a b c h1 h2 => ?_) (fun a b h => ?_) bs.length).imp fun {a b} h => ?_
  · exact decide_eq_false (Ahd.trans' (of_decide_eq_false h1) (of_decide_eq_false h2))
  · exact decide_eq_false (Ahd.asym (of_decide_eq_true h))
  · exact of_decide_eq_false h
theorem sortQ_all {bs : List Bod} {w : Int} (h : ∀ b ∈ bs, b.2.2 = w) : ∀ b ∈ sortQ bs, b.2.2 = w := fun b hb => h b ((sortQ_perm bs).mem_iff.mp hb)
theorem sortQ_is {bs cs : List Bod} {w : Int} (hb : ∀ b ∈ bs, b.2.2 = w) (s : SrtB cs) (p : cs.Perm bs) : sortQ bs = cs :=
  SrtB.uniq (sortQ_all hb) (fun c hc => hb c (p.mem_iff.mp hc)) (sortQ_srt bs) s ((sortQ_perm bs).trans p.symm)
end Kw
set_option Elab.async false
set_option linter.all false
set_option maxRecDepth 100000
set_option maxHeartbeats 4000000
namespace Kw
open PySem PySem.Spec PyProof.Rows L2
end Kw
set_option Elab.async false
set_option linter.all false
set_option maxRecDepth 100000
set_option maxHeartbeats 4000000
namespace Kw
open PySem PySem.Spec PyProof.Rows L2
theorem dvLow {t b m : Int} (hb : 0 < b) (h : m * b ≤ t) : (m : Rat) ≤ Rat.divInt t b := by
  rw [Rat.divInt_eq_div]
  have b0 : (0 : Rat) < (b : Rat) := Rat.intCast_lt_intCast.mpr hb
  refine Rat.not_lt.mp fun c => ?_
  have e : (t : Rat) / b * b = t := Rat.div_mul_cancel (Rat.ne_of_gt b0)
  have c2 := Rat.mul_lt_mul_of_pos_right c b0
  rw [e, ← Rat.intCast_mul] at c2
  have := Rat.intCast_lt_intCast.mp c2
  omega
theorem dvLt {t b m : Int} (hb : 0 < b) (h : t < m * b) : Rat.divInt t b < (m : Rat) := by
  rw [Rat.divInt_eq_div]
  have b0 : (0 : Rat) < (b : Rat) := Rat.intCast_lt_intCast.mpr hb
  refine Rat.not_le.mp fun c => ?_
  have e : (t : Rat) / b * b = t := Rat.div_mul_cancel (Rat.ne_of_gt b0)
  have c2 := Rat.mul_le_mul_of_nonneg_right c (Rat.le_of_lt b0)
  rw [e, ← Rat.intCast_mul] at c2
  have := Rat.intCast_le_intCast.mp c2
  omega
theorem fl_dv {a b : Int} (hb : 0 < b) : ((a.fdiv b : Int) : Rat) ≤ Rat.divInt a b ∧ Rat.divInt a b < ((a.fdiv b : Int) : Rat) + 1 := by
  have e : a.fdiv b = a / b := Int.fdiv_eq_ediv_of_nonneg _ (by omega)
  have h1 := Int.mul_ediv_add_emod a b
  have h2 := Int.emod_nonneg a (Int.ne_of_gt hb)
  have h3 := Int.emod_lt_of_pos a hb
  refine ⟨dvLow hb ?_, ?_⟩
  · rw [e, Int.mul_comm]
    omega
  · have z : Rat.divInt a b < ((a.fdiv b + 1 : Int) : Rat) := by
      refine dvLt hb ?_
      rw [e, Int.add_mul, Int.one_mul, Int.mul_comm (a / b)]
      omega
    rw [Rat.intCast_add] at z
    exact z
theorem q_numpos {y : Rat} (h : 0 < y) : 0 < y.num := by
  have z := (q_lt 0 y).mp h
  have e1 : (0 : Rat).num = 0 := rfl
  have e2 : (0 : Rat).den = 1 := rfl
  rw [e1, e2] at z
  omega
theorem q_numneg {y : Rat} : y.num < 0 ↔ y < 0 := by
  have z := q_lt y 0
  have e1 : (0 : Rat).num = 0 := rfl
  have e2 : (0 : Rat).den = 1 := rfl
  rw [e1, e2] at z
  refine ⟨fun h => z.mpr (by omega), fun h => ?_⟩
  have := z.mp h
  omega
theorem led_in {x y : Rat} {k : Int} (hy : 0 < y) (h1 : (k : Rat) ≤ x / y) (h2 : x / y < (k : Rat) + 1) : 0 ≤ x - k * y ∧ x - k * y < y := by
  have e : x / y * y = x := Rat.div_mul_cancel (Rat.ne_of_gt hy)
  have c1 := Rat.mul_le_mul_of_nonneg_right h1 (Rat.le_of_lt hy)
  have c2 := Rat.mul_lt_mul_of_pos_right h2 hy
  rw [e] at c1 c2
  grind
theorem fl_div {x y : Rat} (hy : 0 < y) : 0 ≤ x - ((Int.fdiv (x.num * (y.den : Int)) ((x.den : Int) * y.num) : Int) : Rat) * y ∧ x - ((Int.fdiv (x.num * (y.den : Int)) ((x.den : Int) * y.num) : Int) : Rat) * y < y := by
  have b0 : 0 < (x.den : Int) * y.num := Int.mul_pos (by have := x.den_pos; omega) (q_numpos hy)
  have z := fl_dv (a := x.num * (y.den : Int)) b0
  rw [q_div] at z
  exact led_in hy z.1 z.2
theorem fl_own {x y : Rat} (hy : 0 < y) : 0 ≤ x - (((x / y).num.fdiv ((x / y).den : Int) : Int) : Rat) * y ∧ x - (((x / y).num.fdiv ((x / y).den : Int) : Int) : Rat) * y < y := by
  have b0 : 0 < ((x / y).den : Int) := by have := (x / y).den_pos; omega
  have z := fl_dv (a := (x / y).num) b0
  rw [Rat.num_divInt_den] at z
  exact led_in hy z.1 z.2
noncomputable def spotQ (x y : Rat) : Rat := x - ((Int.fdiv (x.num * (y.den : Int)) ((x.den : Int) * y.num) : Int) : Rat) * y
theorem spot_in {x y : Rat} (hy : 0 < y) : 0 ≤ spotQ x y ∧ spotQ x y < y := fl_div hy
theorem spot_is {x y : Rat} {k : Int} (hy : 0 < y) (h : 0 ≤ x - k * y ∧ x - k * y < y) : x - k * y = spotQ x y := by
  have z := fl_div (x := x) hy
  unfold spotQ
  generalize Int.fdiv (x.num * (y.den : Int)) ((x.den : Int) * y.num) = j at z ⊢
  have e : k = j := by
    rcases Int.lt_trichotomy k j with c | c | c
    · have c1 : ((k + 1 : Int) : Rat) ≤ (j : Rat) := Rat.intCast_le_intCast.mpr (by omega)
      have c2 := Rat.mul_le_mul_of_nonneg_right c1 (Rat.le_of_lt hy)
      rw [Rat.intCast_add] at c2
      grind
    · exact c
    · have c1 : ((j + 1 : Int) : Rat) ≤ (k : Rat) := Rat.intCast_le_intCast.mpr (by omega)
      have c2 := Rat.mul_le_mul_of_nonneg_right c1 (Rat.le_of_lt hy)
      rw [Rat.intCast_add] at c2
      grind
  rw [e]
theorem fdiv_bd {a b : Int} {n : Nat} (hb : 0 < b) (h : Bd n a) : Bd n (a.fdiv b) := by
  refine h.of_le ?_
  rw [Int.fdiv_eq_ediv_of_nonneg _ (by omega)]
  exact Int.natAbs_ediv_le_natAbs a b
noncomputable def absQ (v : Rat) : Rat := if v < 0 then -v else v
theorem FQ.abs {K : PySem.W.Frag} {H : Hp} {p : Addr} {v : Rat} (h : SqT K H p [.int (if v.num < 0 then -v.num else v.num), .int ((v.den : Nat) : Int)]) : FQ K H p (absQ v) := by
  have e : v.num < 0 ↔ v < 0 := q_numneg
  unfold absQ
  by_cases c : v < 0
  · rw [if_pos (e.mpr c)] at h
    rw [if_pos c]
    exact h
  · rw [if_neg (fun z => c (e.mp z))] at h
    rw [if_neg c]
    exact h
theorem FQ.negabs {K : PySem.W.Frag} {H : Hp} {p : Addr} {v : Rat} (h : SqT K H p [.int (0 - (if v.num < 0 then -v.num else v.num)), .int ((v.den : Nat) : Int)]) : FQ K H p (-absQ v) := by
  have e : v.num < 0 ↔ v < 0 := q_numneg
  refine FQ.ofNeg (x := absQ v) ?_ (Int.zero_sub _)
  unfold absQ
  by_cases c : v < 0
  · rw [if_pos (e.mpr c)] at h
    rw [if_pos c]
    exact h
  · rw [if_neg (fun z => c (e.mp z))] at h
    rw [if_neg c]
    exact h
theorem FB.abs {n : Nat} {v : Rat} (h : FB n v) : FB n (absQ v) := by
  unfold absQ
  split
  · exact FB.neg h
  · exact h
theorem absQ_pos {v : Rat} (h : v ≠ 0) : 0 < absQ v := by
  unfold absQ
  split <;> grind
noncomputable def foldQ (L t : Rat) (b : Bod) : Bod :=
  let s := spotQ (b.1 + b.2.1 * t) (L + L)
  if s = 0 then (s, absQ b.2.1, b.2.2) else if s = L then (s, -absQ b.2.1, b.2.2) else if L < s then (L + L - s, -b.2.1, b.2.2) else (s, b.2.1, b.2.2)
section
variable {β : Type} {R : V → β → Prop} {xs : List V} {bs : List β}
theorem Al2.takeR : ∀ {xs : List V} {bs : List β} (k : Nat), Al2 R xs bs → Al2 R (xs.take k) (bs.take k)
  | [], [], k, _ => by simp [Al2]
  | _ :: _, _ :: _, 0, _ => trivial
  | _ :: _, _ :: _, k + 1, z => ⟨z.1, Al2.takeR k z.2⟩
  | [], _ :: _, _, z => z.elim
  | _ :: _, [], _, z => z.elim
theorem Al2.dropR : ∀ {xs : List V} {bs : List β} (k : Nat), Al2 R xs bs → Al2 R (xs.drop k) (bs.drop k)
  | [], [], k, _ => by simp [Al2]
  | _ :: _, _ :: _, 0, z => z
  | _ :: _, _ :: _, k + 1, z => Al2.dropR k z.2
  | [], _ :: _, _, z => z.elim
  | _ :: _, [], _, z => z.elim
end
theorem cut_dropR {xs : List V} {k : Nat} (h : k ≤ xs.length) : cutV xs (some (k : Int)) none = xs.drop k := by
  unfold cutV
  rw [HT.sIx_none, HT.sIx_nat, Nat.min_eq_left h]
  exact List.take_of_length_le (by rw [List.length_drop]; omega)
theorem cut_initR {xs : List V} (h : 1 ≤ xs.length) : cutV xs none (some (-1)) = xs.take (xs.length - 1) := by
  unfold cutV
  rw [HT.sIx_none]
  have e : HT.sIx xs.length xs.length (some (-1)) = xs.length - 1 := by
    show (if (-1 : Int) < 0 then ((-1 : Int) + (xs.length : Int)).toNat else min (-1 : Int).toNat xs.length) = _
    rw [if_pos (by decide)]
    omega
  rw [e]
  rfl
theorem weigh_other (W : Int) (h : 1 ≤ W) (h2 : W ≤ 1000) : 1 + W.fdiv 2 + 500 * (if decide (W < 3) = true then 1 else 0) ≠ W ∧ 1 ≤ 1 + W.fdiv 2 + 500 * (if decide (W < 3) = true then 1 else 0) ∧ 1 + W.fdiv 2 + 500 * (if decide (W < 3) = true then 1 else 0) ≤ 10000 := by
  rw [Int.fdiv_eq_ediv_of_nonneg _ (by decide)]
  by_cases q : W < 3
  · rw [decide_eq_true q, if_pos rfl]
    omega
  · rw [decide_eq_false q, if_neg (by decide)]
    omega
theorem srt_ins {bs : List Bod} {c : Bod} {k : Nat} (h : SrtB bs) (lo : ∀ i a, i < k → bs[i]? = some a → Ahd a c) (hi : ∀ a, bs[k]? = some a → ¬ Ahd a c) : SrtB (bs.take k ++ c :: bs.drop k) := by
  unfold SrtB at *
  have h' := h
  rw [← List.take_append_drop k bs] at h'
  obtain ⟨p1, p2, p3⟩ := List.pairwise_append.mp h'
  have lo' : ∀ a ∈ bs.take k, Ahd a c := fun a ha => by
    obtain ⟨i, hi'⟩ := List.mem_iff_getElem?.mp ha
    rw [List.getElem?_take] at hi'
    split at hi'
    · exact lo i a (by assumption) hi'
    · cases hi'
  have hi2 : ∀ a ∈ bs.drop k, ¬ Ahd a c := fun a ha => by
    cases e : bs.drop k with
    | nil => rw [e] at ha; cases ha
    | cons d ds =>
      have hd : bs[k]? = some d := by
        have z := congrArg (·[0]?) e
        simpa [List.getElem?_drop] using z
      have nd := hi d hd
      rw [e] at ha p2
      rcases List.mem_cons.mp ha with rfl | ha
      · exact nd
      · exact Ahd.trans' nd ((List.pairwise_cons.mp p2).1 a ha)
  refine List.pairwise_append.mpr ⟨p1, List.pairwise_cons.mpr ⟨hi2, p2⟩, fun a ha b hb => ?_⟩
  rcases List.mem_cons.mp hb with rfl | hb
  · exact (lo' a ha).asym
  · exact p3 a ha b hb
theorem perm_ins (bs : List Bod) (c : Bod) (k : Nat) : (bs.take k ++ c :: bs.drop k).Perm (bs ++ [c]) := by
  have z : (bs.take k ++ c :: bs.drop k).Perm (c :: (bs.take k ++ bs.drop k)) := List.perm_middle
  rw [List.take_append_drop] at z
  exact z.trans (List.perm_append_singleton c bs).symm
theorem al_ins {K : PySem.W.Frag} {H : Hp} {m : Nat} {v : V} {c : Bod} : ∀ (n : Nat) {ys : List V} {cs : List Bod}, Al2 (BdQ K H m) ys cs → BdQ K H m v c → Al2 (BdQ K H m) (ys.take n ++ v :: ys.drop n) (cs.take n ++ c :: cs.drop n)
  | 0, ys, cs, h, g => by simpa using (show Al2 (BdQ K H m) (v :: ys) (c :: cs) from ⟨g, h⟩)
  | n + 1, [], [], h, g => ⟨g, trivial⟩
  | n + 1, [], _ :: _, h, g => h.elim
  | n + 1, _ :: _, [], h, g => h.elim
  | n + 1, y :: ys, b :: cs, h, g => ⟨h.1, al_ins n h.2 g⟩
theorem bd_same {K : PySem.W.Frag} {H H' : Hp} {m : Nat} {v : V} {c : Bod} (h : BdQ K H m v c) (s : Same H H') : BdQ K H' m v c := (bds_same (xs := [v]) (bs := [c]) ⟨h, trivial⟩ s).1
noncomputable def Inrm (L : Rat) (b : Bod) : Prop := 0 < b.1 ∧ b.1 < L
noncomputable def FirstO (L : Rat) (bs : List Bod) (i : Nat) : Prop := (∃ b, bs[i]? = some b ∧ ¬ Inrm L b) ∧ ∀ j b, j < i → bs[j]? = some b → Inrm L b
theorem FirstO.uniq {L : Rat} {bs : List Bod} {i j : Nat} (h : FirstO L bs i) (g : FirstO L bs j) : i = j := by
  obtain ⟨⟨b, hb, nb⟩, lo⟩ := h
  obtain ⟨⟨c, hc, nc⟩, lo'⟩ := g
  rcases Nat.lt_trichotomy i j with z | z | z
  · exact absurd (lo' i b z hb) nb
  · exact z
  · exact absurd (lo j c z hc) nc
theorem FirstO.not {L : Rat} {bs : List Bod} {i : Nat} (h : FirstO L bs i) : ¬ ∀ b ∈ bs, Inrm L b := fun z => by
  obtain ⟨⟨b, hb, nb⟩, _⟩ := h
  exact nb (z b (List.mem_of_getElem? hb))
theorem Asc.lt {bs : List Bod} (h : Asc bs) {i j : Nat} {a c : Bod} (ha : bs[i]? = some a) (hc : bs[j]? = some c) (l : i < j) : a.1 < c.1 := by
  obtain ⟨hi, ei⟩ := List.getElem?_eq_some_iff.mp ha
  obtain ⟨hj, ej⟩ := List.getElem?_eq_some_iff.mp hc
  have z := List.pairwise_iff_getElem.mp h i j hi hj l
  rw [ei, ej] at z
  exact z
end Kw
set_option Elab.async false
set_option linter.all false
set_option maxRecDepth 100000
set_option maxHeartbeats 4000000
namespace Prf
open PySem PySem.Spec PyProof.Rows L2 Kw
noncomputable def top (i : Nat) : Stmt := PySem.Challenge.pw_knockwright_k56_a_room.main.body.getD i (.Pass ⟨0, 0, 0, 0⟩)
structure Tx (K : PySem.W.Frag) (mg : Str → Option Value) (CK : Addr) (C : Nat → Addr) : Prop where
  b_isinstance : mg "isinstance" = none
  b_int : mg "int" = none
  b_bool : mg "bool" = none
  b_list : mg "list" = none
  b_abs : mg "abs" = none
  b_len : mg "len" = none
  b_divmod : mg "divmod" = none
  b_range : mg "range" = none
  b_max : mg "max" = none
  b_min : mg "min" = none
  c_KnockError : mg "KnockError" = some (.ref CK)
  c_NoMoment : mg "NoMoment" = some (.ref (C 0))
  c_NoWorld : mg "NoWorld" = some (.ref (C 1))
  R : Refs K CK C 2 1
  rd : PySem.W.readsIn K CK (.type "type") = true
  fc : PySem.W.findCls K (.ref CK) (.type "type") "__init__" = some (.val (.builtin "ValueError.__init__"))
  gs : PySem.W.specialIn K (.ref CK) "__getattribute__" = some (some (.builtin "type.__getattribute__"))
  n_NoWorld_at : NoAttr K (C 1) "at"
  s_NoWorld_NoWorld : PySem.W.subIn K (.ref (C 1)) (.ref (C 1)) = some true
  s_NoMoment_NoMoment : PySem.W.subIn K (.ref (C 0)) (.ref (C 0)) = some true
  z_NoMoment_NoWorld : PySem.W.subIn K (.ref (C 0)) (.ref (C 1)) = some false
  k_LONG_BITS : ∃ t, mg "LONG_BITS" = some (.int 4000 t)
  k_NOUGHT : ∃ N, mg "NOUGHT" = some (.ref N) ∧ ∀ H, SqT K H N [.int 0, .int 1]
  k_TWO : ∃ N, mg "TWO" = some (.ref N) ∧ ∀ H, SqT K H N [.int 2, .int 1]
section
variable {P : Program} {w : World} {K : PySem.W.Frag} {mg : Str → Option Value} {base : Heap} {CK : Addr} {C : Nat → Addr}
theorem Tx.x_NoMoment (T : Tx K mg CK C) : ExcC K (C 0) := T.R.x 0 (by decide) (by decide)
theorem Tx.g_NoMoment (T : Tx K mg CK C) : ClsX K (C 0) := clsx_c T.x_NoMoment
theorem Tx.o_NoWorld (T : Tx K mg CK C) : excO K (C 1) = true := T.R.o 1 (by decide) (by decide)
theorem Tx.p_NoWorld (T : Tx K mg CK C) : PySem.W.keepIn K (.ref (C 1)) = true := T.R.kp 1 (by decide)
theorem Tx.g_NoWorld (T : Tx K mg CK C) : ClsX K (C 1) := clsx_o T.o_NoWorld
theorem sc_NoWorld___init__ : FnScope ["self", "at"] ["self", "at"] (defScope (mthOf (top 4))) := ⟨rfl, rfl, rfl, by decide +kernel, rfl, by decide +kernel, by decide +kernel⟩
theorem ok_NoWorld___init__ (D : DfI K (C 1) "NoWorld.__init__" (mthOf (top 4)) ["self", "at"]) (T : Tx K mg CK C) : FnI P w K mg base 1 (C 1) ["self", "at"] (spInitN (C 1) ["at"]) := by
  refine D.ok sc_NoWorld___init__ (fun vs H Q E h => ?_) (fun f cdv A outer s H vs Q E hr h => ?_)
  · obtain ⟨x, ys, rfl, hl, _⟩ := h
    exact congrArg Nat.succ hl
  obtain ⟨x, ys, rfl, hl, hx, q⟩ := h
  obtain ⟨y0, rfl⟩ : ∃ y0, ys = [y0] := List.length_eq_one_iff.mp hl
  refine ⟨_, (pss_cons (ps_expr (pe_base (by rfl) T.c_KnockError T.rd T.fc T.gs (pa_cons (pv 0) (pa_cons (pv 1) pa_nil))))
      (pss_one (ps_xf (pv 0) (pv 1)))), ?_⟩
  refine ⟨_, rfl, _, rfl, x, C 1, none, [y0], rfl, hx, T.o_NoWorld, (by show 1 ≤ sizeLine; decide), ?_⟩
  refine ⟨_, rfl, _, rfl, x, C 1, rfl, T.R.c 1 (by decide) (by decide), T.n_NoWorld_at, .inl ⟨hx, fun d hd => ?_⟩⟩
  obtain ⟨H0, q0, b0, x0, d0⟩ := dressO (Xd d [("at", y0)]) (Xo x (C 1) (some d)) hx hd
  dsimp only
  rw [q0]
  exact q d H0 (fun z => by rw [z, hx] at hd; cases hd) b0 x0 d0
theorem seq_go {a rest : TS} {D : Ends} {σ : L2.St} {H : Hp} (h : ∀ N : L2.St → Hp → Prop, (∀ σ' H', rest D σ' H' → N σ' H') → a { D with nx := N } σ H) : tSeq a rest D σ H := h (fun σ' H' => rest D σ' H') (fun _ _ z => z)
theorem nil_go {D : Ends} {σ : L2.St} {H : Hp} (h : D.nx σ H) : tNext D σ H := h
theorem if_go {tt : TT} {a b : TS} {D : Ends} {σ : L2.St} {H : Hp} (h : ∀ N : Bool → Hp → Prop, (∀ c H', (if c = true then a D σ H' else b D σ H') → N c H') → tt σ H N) : tIfS tt a b D σ H := h (fun c H' => if c = true then a D σ H' else b D σ H') (fun _ _ z => z)
theorem for_go {wi : TI} {g : TG} {tb : TS} {D : Ends} {σ : L2.St} {H : Hp} (h : ∀ B : TS, (∀ D' σ' H', (∀ E : Ends, (∀ σ H, D'.nx σ H → E.nx σ H) → (∀ v H, D'.rt v H → E.rt v H) → (∀ σ H, D'.bk σ H → E.bk σ H) → (∀ σ H, D'.ct σ H → E.ct σ H) → tb E σ' H') → B D' σ' H') → tFor wi g B D σ H) : tFor wi g tb D σ H := h tb (fun D' _ _ z => z D' (fun _ _ y => y) (fun _ _ y => y) (fun _ _ y => y) (fun _ _ y => y))
theorem while_go {tt : TT} {tb : TS} {D : Ends} {σ : L2.St} {H : Hp} (h : ∀ B : TS, (∀ D' σ' H', (∀ E : Ends, (∀ σ H, D'.nx σ H → E.nx σ H) → (∀ v H, D'.rt v H → E.rt v H) → (∀ σ H, D'.bk σ H → E.bk σ H) → (∀ σ H, D'.ct σ H → E.ct σ H) → tb E σ' H') → B D' σ' H') → tWhile tt B D σ H) : tWhile tt tb D σ H := h tb (fun D' _ _ z => z D' (fun _ _ y => y) (fun _ _ y => y) (fun _ _ y => y) (fun _ _ y => y))
theorem sc_common_divisor : FnScope ["one", "other", "great", "small", "steps", "rest"] ["one", "other"] (defScope (top 10)) := ⟨rfl, rfl, rfl, by decide +kernel, rfl, by decide +kernel, by decide +kernel⟩
theorem ok_common_divisor (D : Df K mg "common_divisor" (top 10) ["one", "other"]) (T : Tx K mg CK C) : Fn P w K mg base 1 "common_divisor" ["one", "other"] spGcdB := by
  refine D.ok0 sc_common_divisor (fun vs H Q E h => ?_) (fun f cdv A outer s H vs Q E hr h => ?_)
  · obtain ⟨a, b, rfl, _⟩ := h
    rfl
  obtain ⟨a, b, rfl, hb, q⟩ := h
  refine ⟨_, (pss_cons (ps_set (i := 2) sc_common_divisor.nd rfl (Or.inl rfl) (pe_callB call_abs (by rfl) T.b_abs PyProof.Rows.Boot.«abs» (pa_cons (pv 0) pa_nil)))
      (pss_cons (ps_set (i := 3) sc_common_divisor.nd rfl (Or.inl rfl) (pe_callB call_abs (by rfl) T.b_abs PyProof.Rows.Boot.«abs» (pa_cons (pv 1) pa_nil)))
      (pss_cons (ps_while PassesOwn.never (pt_cmpR op_gt (pe_bm0 PySem.F.plainAttrs_int PySem.F.slot_int_bit_length PySem.F.type_int_bit_length mt_bits (pe_callB (call_min2 rfl) (by rfl) T.b_min PyProof.Rows.Boot.«min» (pa_cons (pv 2) (pa_cons (pv 3) pa_nil)))) (pe_globI (by rfl) T.k_LONG_BITS) (nomark _)) pss_never)
      (pss_cons (ps_while PassesOwn.never (pt_cmpR op_gt (pv 3) pe_int (nomark _)) (pss_cons (ps_set (i := 5) sc_common_divisor.nd rfl (Or.inl rfl) (pe_op op_mod (pv 2) (pv 3)))
      (pss_cons (ps_set (i := 2) sc_common_divisor.nd rfl (Or.inl rfl) (pv 3))
      (pss_one (ps_set (i := 3) sc_common_divisor.nd rfl (Or.inl rfl) (pv 5))))))
      (pss_one (ps_ret (pv 2))))))), ?_⟩
  try dsimp only [cxK, cxK0]
  refine ⟨_, rfl, _, rfl, _, rfl, _, rfl, ?_⟩
  with_reducible refine g_go ?_
  with_reducible refine seq_go fun N2 hN2 => ?_
  with_reducible refine while_go fun B2 hB2 => ?_
  refine ⟨fun m σ' H' => ∃ r1 r2 : Option V, σ' = [some (.int a), some (.int b), some (.int (if a < 0 then -a else a)), some (.int (if b < 0 then -b else b)), r1, r2] ∧ H' = H, ⟨0, _, _, rfl, rfl⟩, ?_⟩
  rintro m σ' H' ⟨r1, r2, rfl, rfl⟩
  refine ⟨_, rfl, _, rfl, _, _, rfl, rfl, _, rfl, rfl, _, _, rfl, rfl, _, rfl, ?_⟩
  refine if_dec (fun c => absurd c (short_min hb)) (fun _ => ?_)
  with_reducible refine hN2 _ _ ?_
  with_reducible refine seq_go fun N2 hN2 => ?_
  with_reducible refine while_go fun B2 hB2 => ?_
  refine ⟨fun m σ' H2 => ∃ g s : Int, ∃ r1 r2 : Option V, σ' = [some (.int a), some (.int b), some (.int g), some (.int s), r1, r2] ∧ H2 = H' ∧ 0 ≤ g ∧ 0 ≤ s ∧ m = s.toNat ∧ Int.gcd g s = Int.gcd a b, ⟨_, _, _, _, _, rfl, rfl, abs_nn a, abs_nn b, rfl, gcd_abs a b⟩, ?_⟩
  rintro m σ' H2 ⟨g, s, r1, r2, rfl, rfl, hg, hs, rfl, e⟩
  refine ⟨_, rfl, _, _, rfl, rfl, _, rfl, ?_⟩
  refine if_dec (fun c => ?_) (fun c => ?_)
  · skip
    refine ⟨_, fun _ _ n => n, ?_⟩
    with_reducible refine hB2 _ _ _ fun E4 hE4 hR4 _ _ => ?_
    refine ⟨_, rfl, _, rfl, _, _, rfl, rfl, c, _, rfl, _, rfl, ?_⟩
    have l := Int.emod_lt_of_pos g c
    have l0 := Int.emod_nonneg g (show s ≠ 0 by omega)
    with_reducible refine g_go ?_
    with_reducible refine hE4 _ _ ?_
    exact ⟨_, by omega, s, g % s, _, _, rfl, rfl, by omega, l0, rfl, (gcd_step g s hg c).trans e⟩
  · skip
    with_reducible refine hN2 _ _ ?_
    refine ⟨_, rfl, ?_⟩
    have s0 : s = 0 := by omega
    subst s0
    have z := gcd_end g hg
    rw [e] at z
    rw [← z]
    exact q
noncomputable def sp_plus (K : PySem.W.Frag) : Sp := fun vs H Q _ => ∃ (p_x : Addr) (x : Rat) (p_y : Addr) (y : Rat), vs = [.ref p_x, .ref p_y] ∧ FQ K H p_x x ∧ FB 8900 x ∧ FQ K H p_y y ∧ FB 4000 y ∧ (∀ (p_r : Addr) (H1 : Hp), Same H H1 → FQ K H1 p_r (x + y) → Q (.ref p_r) H1)
theorem sc_plus : FnScope ["one", "other", "shared", "top", "divisor"] ["one", "other"] (defScope (top 12)) := ⟨rfl, rfl, rfl, by decide +kernel, rfl, by decide +kernel, by decide +kernel⟩
theorem ok_plus (D : Df K mg "plus" (top 12) ["one", "other"]) (T : Tx K mg CK C) (F_common_divisor : Fn P w K mg base 1 "common_divisor" ["one", "other"] spGcdB) : Fn P w K mg base 2 "plus" ["one", "other"] (sp_plus K) := by
  refine D.ok0 sc_plus (fun vs H Q E h => ?_) (fun f cdv A outer s H vs Q E hr h => ?_)
  · obtain ⟨p, x, q, y, rfl, _⟩ := h
    rfl
  obtain ⟨p, x, q, y, rfl, hp, ⟨ha, hb⟩, hq, ⟨hc, hd⟩, k⟩ := h
  refine ⟨_, (pss_cons (ps_set (i := 2) sc_plus.nd rfl (Or.inl rfl) (pe_fn F_common_divisor (by decide) hr (by rfl) passE0 (pa_cons (pe_ix ix_tup (pv 0) pe_int (fun _ _ => rfl)) (pa_cons (pe_ix ix_tup (pv 1) pe_int (fun _ _ => rfl)) pa_nil))))
      (pss_cons (ps_set (i := 3) sc_plus.nd rfl (Or.inl rfl) (pe_op op_add (pe_op op_mulB (pe_ix ix_tup (pv 0) pe_int (fun _ _ => rfl)) (pe_op op_fdivB (pe_ix ix_tup (pv 1) pe_int (fun _ _ => rfl)) (pv 2))) (pe_op op_mulB (pe_ix ix_tup (pv 1) pe_int (fun _ _ => rfl)) (pe_op op_fdivB (pe_ix ix_tup (pv 0) pe_int (fun _ _ => rfl)) (pv 2)))))
      (pss_cons (ps_set (i := 4) sc_plus.nd rfl (Or.inl rfl) (pe_fn F_common_divisor (by decide) hr (by rfl) passE0 (pa_cons (pv 3) (pa_cons (pv 2) pa_nil))))
      (pss_one (ps_ret (pe_tup (pa_cons (pe_op op_fdivB (pv 3) (pv 4)) (pa_cons (pe_op op_mulB (pe_op op_fdivB (pe_ix ix_tup (pv 0) pe_int (fun _ _ => rfl)) (pv 2)) (pe_op op_fdivB (pe_ix ix_tup (pv 1) pe_int (fun _ _ => rfl)) (pv 4))) pa_nil)))))))), ?_⟩
  try dsimp only [cxK, cxK0]
  with_reducible refine seq_go fun N2 hN2 => ?_
  refine ⟨_, rfl, p, _, _, _, rfl, rfl, hp, rfl, _, rfl, q, _, _, _, rfl, rfl, hq, rfl, _, _, rfl, hd, ?_⟩
  have g0 := gpos (a := ((x.den : Nat) : Int)) (q_ne y)
  have bg := bd_gcdR (a := ((x.den : Nat) : Int)) (q_ne y) hd
  have dg1 : (((Int.gcd ((x.den : Nat) : Int) ((y.den : Nat) : Int) : Nat) : Int)) ∣ ((x.den : Nat) : Int) := Int.gcd_dvd_left ..
  have dg2 : (((Int.gcd ((x.den : Nat) : Int) ((y.den : Nat) : Int) : Nat) : Int)) ∣ ((y.den : Nat) : Int) := Int.gcd_dvd_right ..
  generalize hg : ((Int.gcd ((x.den : Nat) : Int) ((y.den : Nat) : Int) : Nat) : Int) = g at g0 bg dg1 dg2 ⊢
  have g1 : g ≠ 0 := by omega
  have lg := (bg.mono (n := 9000) (by decide)).log
  have b1 := bd_quot hd dg2 g1
  have b2 := bd_quot hb dg1 g1
  with_reducible refine g_go ?_
  with_reducible refine hN2 _ _ ?_
  with_reducible refine seq_go fun N2 hN2 => ?_
  refine ⟨_, rfl, p, _, _, _, rfl, rfl, hp, rfl, _, rfl, q, _, _, _, rfl, rfl, hq, rfl, _, rfl, _, _, rfl, rfl, ⟨g1, lg⟩, _, _, rfl, rfl, ha.ok b1 (by decide), _, rfl, q, _, _, _, rfl, rfl, hq, rfl, _, rfl, p, _, _, _, rfl, rfl, hp, rfl, _, rfl, _, _, rfl, rfl, ⟨g1, lg⟩, _, _, rfl, rfl, hc.ok b2 (by decide), _, _, rfl, rfl, ?_⟩
  try dsimp only
  have bt := (ha.mul b1).add (hc.mul b2)
  generalize ht : x.num * ((y.den : Nat) : Int).fdiv g + y.num * ((x.den : Nat) : Int).fdiv g = t at bt ⊢
  with_reducible refine g_go ?_
  with_reducible refine hN2 _ _ ?_
  with_reducible refine seq_go fun N2 hN2 => ?_
  refine ⟨_, rfl, _, rfl, _, _, rfl, bg, ?_⟩
  have h0 := gpos (a := t) g1
  have bh := bd_gcdR (a := t) g1 bg
  have dh : ((Int.gcd t g : Nat) : Int) ∣ g := Int.gcd_dvd_right ..
  generalize hh : ((Int.gcd t g : Nat) : Int) = h at h0 bh dh ⊢
  have h1 : h ≠ 0 := by omega
  have lh := (bh.mono (n := 9000) (by decide)).log
  have b3 := bd_quot hd (Int.dvd_trans dh dg2) h1
  with_reducible refine g_go ?_
  with_reducible refine hN2 _ _ ?_
  refine ⟨_, rfl, _, rfl, _, _, rfl, rfl, ⟨h1, lh⟩, _, rfl, p, _, _, _, rfl, rfl, hp, rfl, _, rfl, _, _, rfl, rfl, ⟨g1, lg⟩, _, rfl, q, _, _, _, rfl, rfl, hq, rfl, _, rfl, _, _, rfl, rfl, ⟨h1, lh⟩, _, _, rfl, rfl, b2.ok b3 (by decide), by show 2 ≤ sizeLine; decide, ?_⟩
  refine rd_new fun r H1 sm hr1 => k r H1 sm ?_
  obtain ⟨e1, e2⟩ := q_plus x y g t h hg.symm ht.symm hh.symm
  have z := SqT.of (K := K) hr1
  dsimp only at z
  rw [e1, e2] at z
  exact z
noncomputable def sp_minus (K : PySem.W.Frag) : Sp := fun vs H Q _ => ∃ (p_x : Addr) (x : Rat) (p_y : Addr) (y : Rat), vs = [.ref p_x, .ref p_y] ∧ FQ K H p_x x ∧ FB 8900 x ∧ FQ K H p_y y ∧ FB 4000 y ∧ (∀ (p_r : Addr) (H1 : Hp), Same H H1 → FQ K H1 p_r (x - y) → Q (.ref p_r) H1)
theorem sc_minus : FnScope ["one", "other"] ["one", "other"] (defScope (top 13)) := ⟨rfl, rfl, rfl, by decide +kernel, rfl, by decide +kernel, by decide +kernel⟩
theorem ok_minus (D : Df K mg "minus" (top 13) ["one", "other"]) (T : Tx K mg CK C) (F_plus : Fn P w K mg base 2 "plus" ["one", "other"] (sp_plus K)) : Fn P w K mg base 3 "minus" ["one", "other"] (sp_minus K) := by
  refine D.ok0 sc_minus (fun vs H Q E h => ?_) (fun f cdv A outer s H vs Q E hr h => ?_)
  · obtain ⟨p_x, x, p_y, y, rfl, _⟩ := h
    rfl
  obtain ⟨p_x, x, p_y, y, rfl, g_x, d_x, g_y, d_y, k0⟩ := h
  refine ⟨_, (pss_one (ps_ret (pe_fn F_plus (by decide) hr (by rfl) passE0 (pa_cons (pv 0) (pa_cons (pe_tup (pa_cons (pe_un un_neg (pe_ix ix_tup (pv 1) pe_int (fun _ _ => rfl))) (pa_cons (pe_ix ix_tup (pv 1) pe_int (fun _ _ => rfl)) pa_nil))) pa_nil))))), ?_⟩
  try dsimp only [cxK, cxK0]
  refine ⟨_, rfl, _, rfl, p_y, _, _, _, rfl, rfl, g_y, rfl, _, rfl, _, rfl, p_y, _, _, _, rfl, rfl, g_y, rfl, by show 2 ≤ sizeLine; decide, ?_⟩
  intro p1 n1
  obtain ⟨H1, q1, s1, e1⟩ := newO n1 (.tup [.int ((-(y).num)), .int ((((y).den : Nat) : Int))])
  rw [q1]
  clear q1
  have h1 := SqT.of (K := K) e1
  have g1 : FQ K H1 p1 (-(y)) := by exact FQ.ofNeg h1 (by omega)
  replace g_x := (Kw.Same.tup s1 g_x)
  refine ⟨_, _, _, _, rfl, g_x, (FB.mono d_x (by decide)), g1, (FB.mono (FB.neg d_y) (by decide)), fun p_r2 H2 s2 g_r2 => ?_⟩
  have d_r2 : FB 12901 (x + ((-(y)))) := (FB.mono (FB.add d_x (FB.neg d_y)) (by decide))
  have e3 : ((x + ((-(y)))) : Rat) = x - y := by grind
  exact k0 _ _ (s1.trans s2) (FQ.cast g_r2 e3)
noncomputable def sp_times (K : PySem.W.Frag) : Sp := fun vs H Q _ => ∃ (p_x : Addr) (x : Rat) (p_y : Addr) (y : Rat), vs = [.ref p_x, .ref p_y] ∧ FQ K H p_x x ∧ FB 4000 x ∧ FQ K H p_y y ∧ FB 4000 y ∧ (∀ (p_r : Addr) (H1 : Hp), Same H H1 → FQ K H1 p_r (x * y) → Q (.ref p_r) H1)
theorem sc_times : FnScope ["one", "other", "first", "second"] ["one", "other"] (defScope (top 14)) := ⟨rfl, rfl, rfl, by decide +kernel, rfl, by decide +kernel, by decide +kernel⟩
theorem ok_times (D : Df K mg "times" (top 14) ["one", "other"]) (T : Tx K mg CK C) (F_common_divisor : Fn P w K mg base 1 "common_divisor" ["one", "other"] spGcdB) : Fn P w K mg base 2 "times" ["one", "other"] (sp_times K) := by
  refine D.ok0 sc_times (fun vs H Q E h => ?_) (fun f cdv A outer s H vs Q E hr h => ?_)
  · obtain ⟨p, x, q, y, rfl, _⟩ := h
    rfl
  obtain ⟨p, x, q, y, rfl, hp, ⟨ha, hb⟩, hq, ⟨hc, hd⟩, k⟩ := h
  refine ⟨_, (pss_cons (ps_set (i := 2) sc_times.nd rfl (Or.inl rfl) (pe_fn F_common_divisor (by decide) hr (by rfl) passE0 (pa_cons (pe_ix ix_tup (pv 0) pe_int (fun _ _ => rfl)) (pa_cons (pe_ix ix_tup (pv 1) pe_int (fun _ _ => rfl)) pa_nil))))
      (pss_cons (ps_set (i := 3) sc_times.nd rfl (Or.inl rfl) (pe_fn F_common_divisor (by decide) hr (by rfl) passE0 (pa_cons (pe_ix ix_tup (pv 1) pe_int (fun _ _ => rfl)) (pa_cons (pe_ix ix_tup (pv 0) pe_int (fun _ _ => rfl)) pa_nil))))
      (pss_one (ps_ret (pe_tup (pa_cons (pe_op op_mulB (pe_op op_fdivB (pe_ix ix_tup (pv 0) pe_int (fun _ _ => rfl)) (pv 2)) (pe_op op_fdivB (pe_ix ix_tup (pv 1) pe_int (fun _ _ => rfl)) (pv 3))) (pa_cons (pe_op op_mulB (pe_op op_fdivB (pe_ix ix_tup (pv 0) pe_int (fun _ _ => rfl)) (pv 3)) (pe_op op_fdivB (pe_ix ix_tup (pv 1) pe_int (fun _ _ => rfl)) (pv 2))) pa_nil))))))), ?_⟩
  try dsimp only [cxK, cxK0]
  with_reducible refine seq_go fun N2 hN2 => ?_
  refine ⟨_, rfl, p, _, _, _, rfl, rfl, hp, rfl, _, rfl, q, _, _, _, rfl, rfl, hq, rfl, _, _, rfl, hd, ?_⟩
  have f0 := gpos (a := x.num) (q_ne y)
  have bf := bd_gcdR (a := x.num) (q_ne y) hd
  have df1 : ((Int.gcd x.num ((y.den : Nat) : Int) : Nat) : Int) ∣ x.num := Int.gcd_dvd_left ..
  have df2 : ((Int.gcd x.num ((y.den : Nat) : Int) : Nat) : Int) ∣ ((y.den : Nat) : Int) := Int.gcd_dvd_right ..
  generalize hf : ((Int.gcd x.num ((y.den : Nat) : Int) : Nat) : Int) = f1 at f0 bf df1 df2 ⊢
  with_reducible refine g_go ?_
  with_reducible refine hN2 _ _ ?_
  with_reducible refine seq_go fun N2 hN2 => ?_
  refine ⟨_, rfl, q, _, _, _, rfl, rfl, hq, rfl, _, rfl, p, _, _, _, rfl, rfl, hp, rfl, _, _, rfl, hb, ?_⟩
  have s0 := gpos (a := y.num) (q_ne x)
  have bs := bd_gcdR (a := y.num) (q_ne x) hb
  have ds1 : ((Int.gcd y.num ((x.den : Nat) : Int) : Nat) : Int) ∣ y.num := Int.gcd_dvd_left ..
  have ds2 : ((Int.gcd y.num ((x.den : Nat) : Int) : Nat) : Int) ∣ ((x.den : Nat) : Int) := Int.gcd_dvd_right ..
  generalize hs : ((Int.gcd y.num ((x.den : Nat) : Int) : Nat) : Int) = s1 at s0 bs ds1 ds2 ⊢
  have f1' : f1 ≠ 0 := by omega
  have s1' : s1 ≠ 0 := by omega
  have lf := (bf.mono (n := 9000) (by decide)).log
  have ls := (bs.mono (n := 9000) (by decide)).log
  with_reducible refine g_go ?_
  with_reducible refine hN2 _ _ ?_
  refine ⟨_, rfl, p, _, _, _, rfl, rfl, hp, rfl, _, rfl, _, _, rfl, rfl, ⟨f1', lf⟩, _, rfl, q, _, _, _, rfl, rfl, hq, rfl, _, rfl, _, _, rfl, rfl, ⟨s1', ls⟩, _, _, rfl, rfl, (bd_quot ha df1 f1').ok (bd_quot hc ds1 s1') (by decide), _, rfl, p, _, _, _, rfl, rfl, hp, rfl, _, rfl, _, _, rfl, rfl, ⟨s1', ls⟩, _, rfl, q, _, _, _, rfl, rfl, hq, rfl, _, rfl, _, _, rfl, rfl, ⟨f1', lf⟩, _, _, rfl, rfl, (bd_quot hb ds2 s1').ok (bd_quot hd df2 f1') (by decide), by show 2 ≤ sizeLine; decide, ?_⟩
  refine rd_new fun r H1 sm hr1 => k r H1 sm ?_
  obtain ⟨e1, e2⟩ := q_times x y f1 s1 hf.symm hs.symm
  have z := SqT.of (K := K) hr1
  dsimp only at z
  rw [e1, e2] at z
  exact z
noncomputable def sp_under (K : PySem.W.Frag) : Sp := fun vs H Q _ => ∃ (p_x : Addr) (x : Rat) (p_y : Addr) (y : Rat), vs = [.ref p_x, .ref p_y] ∧ FQ K H p_x x ∧ FB 8900 x ∧ FQ K H p_y y ∧ FB 8900 y ∧ (∀  (H1 : Hp), Same H H1 → Q (.bl (decide (x < y))) H1)
theorem sc_under : FnScope ["one", "other"] ["one", "other"] (defScope (top 16)) := ⟨rfl, rfl, rfl, by decide +kernel, rfl, by decide +kernel, by decide +kernel⟩
theorem ok_under (D : Df K mg "under" (top 16) ["one", "other"]) (T : Tx K mg CK C) : Fn P w K mg base 1 "under" ["one", "other"] (sp_under K) := by
  refine D.ok0 sc_under (fun vs H Q E h => ?_) (fun f cdv A outer s H vs Q E hr h => ?_)
  · obtain ⟨p_x, x, p_y, y, rfl, _⟩ := h
    rfl
  obtain ⟨p_x, x, p_y, y, rfl, g_x, d_x, g_y, d_y, k0⟩ := h
  refine ⟨_, (pss_one (ps_ret (pe_cmpR op_lt (pe_op op_mulB (pe_ix ix_tup (pv 0) pe_int (fun _ _ => rfl)) (pe_ix ix_tup (pv 1) pe_int (fun _ _ => rfl))) (pe_op op_mulB (pe_ix ix_tup (pv 1) pe_int (fun _ _ => rfl)) (pe_ix ix_tup (pv 0) pe_int (fun _ _ => rfl))) (nomark _)))), ?_⟩
  try dsimp only [cxK, cxK0]
  refine ⟨_, rfl, p_x, _, _, _, rfl, rfl, g_x, rfl, _, rfl, p_y, _, _, _, rfl, rfl, g_y, rfl, _, _, rfl, rfl, (d_x.1.ok d_y.2 (by decide)), _, rfl, p_y, _, _, _, rfl, rfl, g_y, rfl, _, rfl, p_x, _, _, _, rfl, rfl, g_x, rfl, _, _, rfl, rfl, (d_y.1.ok d_x.2 (by decide)), _, _, rfl, rfl, ?_⟩
  try dsimp only
  rw [show decide (((x).num * (((y).den : Nat) : Int)) < ((y).num * (((x).den : Nat) : Int))) = decide (x < y) from decide_eq_decide.mpr (by exact (q_lt x y).symm)]
  exact k0 _ (Same.refl _)
theorem none_of_sm {H H1 : Hp} {a : Addr} (s : Same H H1) (n : H1 a = none) : H a = none := by
  cases e : H a with
  | none => rfl
  | some o => have := s _ _ e; rw [n] at this; cases this
theorem same_del {H H' : Hp} {x : Addr} (n : H x = none) (s : Same H H') : Same H (del H' x) := fun a u e => by
  rw [del_ne (ne_of_none e n)]
  exact s a u e
noncomputable def FirstU (bs : List Bod) (i : Nat) : Prop := 1 ≤ i ∧ ∃ b0 b, bs[0]? = some b0 ∧ bs[i]? = some b ∧ b.2.2 ≠ b0.2.2 ∧ ∀ j c, 1 ≤ j → j < i → bs[j]? = some c → c.2.2 = b0.2.2
noncomputable def spX_refuse_unlike (K : PySem.W.Frag) (C : Nat → Addr) : Sp := fun vs H Q E => ∃ (p : Addr) (xs : List V) (bs : List Bod), vs = [.ref p] ∧ H p = some (.lst xs) ∧ Al2 (BdQ K H 1990) xs bs ∧ 1 ≤ bs.length ∧ bs.length ≤ 12 ∧ ((∃ w, ∀ b ∈ bs, b.2.2 = w) → ∀ H1, Same H H1 → Q .non H1) ∧ ∀ i, FirstU bs i → ∀ (d : Addr) (H1 : Hp), Same H H1 → H1 d = some (Xd d [("at", .int (i : Int))]) → E (.ref (C 1)) (some d) H1
theorem sc_refuse_unlike : FnScope ["world", "number"] ["world"] (defScope (top 24)) := ⟨rfl, rfl, rfl, by decide +kernel, rfl, by decide +kernel, by decide +kernel⟩
theorem ok_refuse_unlike (D : Df K mg "refuse_unlike" (top 24) ["world"]) (T : Tx K mg CK C) (F_NoWorld___init__ : FnI P w K mg base 1 (C 1) ["self", "at"] (spInitN (C 1) ["at"])) : Fn P w K mg base 3 "refuse_unlike" ["world"] (spX_refuse_unlike K C) := by
  refine D.okX sc_refuse_unlike (fun vs H Q E h => ?_) (fun f cdv A outer s H vs Q E hr h => ?_)
  · obtain ⟨p, xs, bs, rfl, _⟩ := h
    rfl
  obtain ⟨p, xs, bs, rfl, hp, al, l1, l12, k, kx⟩ := h
  refine ⟨_, (pss_one (ps_for PassesOwn.leaving rfl (pi_range2 (by rfl) T.b_range (pa_cons pe_int (pa_cons (pe_callB call_len (by rfl) T.b_len PyProof.Rows.Boot.«len» (pa_cons (pv 0) pa_nil)) pa_nil))) (pg_name (i := 1) sc_refuse_unlike.nd rfl (Or.inl rfl)) (pss_one (ps_if (pt_cmpR op_ne (pe_ix ix_tup (pe_ix ix_list (pv 0) (pv 1) (fun _ _ => rfl)) pe_int (fun _ _ => rfl)) (pe_ix ix_tup (pe_ix ix_list (pv 0) pe_int (fun _ _ => rfl)) pe_int (fun _ _ => rfl)) (nomark _)) (pss_one (ps_raiseX plain_cxOf leaves_cxOf rfl (pe_mkx F_NoWorld___init__ (by decide) hr (by rfl) T.c_NoWorld passE0 (pa_cons (pv 1) pa_nil)))) pss_nil)))), ?_⟩
  try dsimp only [cxK, cxK0]
  have hz := Al2.len al
  obtain ⟨x0, hx0⟩ : ∃ x, xs[0]? = some x := ⟨_, List.getElem?_eq_getElem (by omega)⟩
  obtain ⟨b0, hb0, p0, a0, c0, rfl, e0, _⟩ := Al2.get al hx0
  with_reducible refine for_go fun B2 hB2 => ?_
  refine ⟨_, rfl, _, _, rfl, .inl ⟨_, SqL.of hp, rfl⟩, _, _, rfl, ⟨by decide, by decide, by omega, by omega⟩, for_range (lo := 1) (fun i σ1 H1 => ∃ r : Option V, σ1 = [some (.ref p), r] ∧ H1 = H ∧ ∀ j c, 1 ≤ j → j < 1 + i → bs[j]? = some c → c.2.2 = b0.2.2) ⟨_, rfl, rfl, fun j c h1 h2 => absurd h1 (by omega)⟩ ?_ ?_⟩
  · rintro i σ1 H1 hi ⟨r, rfl, eH, below⟩
    subst eH
    have hi' : 1 + i < xs.length := by omega
    obtain ⟨x, hx⟩ : ∃ x, xs[1 + i]? = some x := ⟨_, List.getElem?_eq_getElem hi'⟩
    obtain ⟨b, hb, p1, a1, c1, rfl, e1, _⟩ := Al2.get al hx
    have ez : (((1 + i : Nat)) : Int) = 1 + (i : Int) := by omega
    have atx : atI xs (1 + (i : Int)) = some (.ref p1) := by
      have z := atI_nat hx
      rwa [ez] at z
    have at0 : atI xs 0 = some (.ref p0) := atI_nat hx0
    with_reducible refine g_go ?_
    with_reducible refine hB2 _ _ _ fun E4 hE4 hR4 _ _ => ?_
    with_reducible refine if_go fun K4 hK4 => ?_
    refine ⟨_, rfl, _, rfl, p, _, _, _, rfl, rfl, SqL.of hp, atx, p1, _, _, _, rfl, rfl, e1, rfl, _, rfl, p, _, _, _, rfl, rfl, SqL.of hp, at0, p0, _, _, _, rfl, rfl, e0, rfl, rfl, _, rfl, ?_⟩
    with_reducible refine hK4 _ _ ?_
    refine if_neI (fun c => ?_) (fun c => ?_)
    · skip
      refine ⟨_, rfl, by show 1 ≤ sizeLine; decide, fun x nx => ⟨x, [.int (1 + (i : Int))], rfl, rfl, upd_same, fun d H3 nd b3 e3 f3 => ⟨rfl, ?_⟩⟩⟩
      have s3 := same_of_but nx b3
      refine ⟨x, C 1, some d, rfl, e3, nx, clsx_o T.o_NoWorld, kx (1 + i) ⟨by omega, b0, b, hb0, hb, c, fun j c' h1 h2 => below j c' h1 h2⟩ d _ (same_del nx s3) ?_⟩
      rw [del_ne nd, ez]
      exact f3
    · skip
      with_reducible refine nil_go ?_
      with_reducible refine hE4 _ _ ?_
      refine ⟨_, rfl, rfl, fun j c' h1 h2 h3 => ?_⟩
      by_cases ej : j = 1 + i
      · subst ej
        cases hb.symm.trans h3
        exact c
      · skip
        exact below j c' h1 (by omega) h3
  · rintro σ1 H1 ⟨r, rfl, eH, below⟩
    subst eH
    refine k ⟨b0.2.2, fun b hb => ?_⟩ _ (Same.refl _)
    obtain ⟨j, hj, ej⟩ := List.mem_iff_getElem.mp hb
    have h3 : bs[j]? = some b := by rw [List.getElem?_eq_getElem hj, ej]
    by_cases j0 : j = 0
    · subst j0
      cases hb0.symm.trans h3
      rfl
    · skip
      exact below j b (by omega) (by omega) h3
noncomputable def spX_below (K : PySem.W.Frag) (C : Nat → Addr) : Sp := fun vs H Q E => ∃ (p : Addr) (x : Rat), vs = [.ref p] ∧ FQ K H p x ∧ FB 8900 x ∧ (0 ≤ x → ∀ H1, Same H H1 → Q .non H1) ∧ (¬ 0 ≤ x → ∀ H1, Same H H1 → E (.ref (C 0)) none H1)
theorem sc_refuse_below_nought : FnScope ["moment"] ["moment"] (defScope (top 19)) := ⟨rfl, rfl, rfl, by decide +kernel, rfl, by decide +kernel, by decide +kernel⟩
theorem ok_refuse_below_nought (D : Df K mg "refuse_below_nought" (top 19) ["moment"]) (T : Tx K mg CK C) (F_under : Fn P w K mg base 1 "under" ["one", "other"] (sp_under K)) : Fn P w K mg base 2 "refuse_below_nought" ["moment"] (spX_below K C) := by
  refine D.okX sc_refuse_below_nought (fun vs H Q E h => ?_) (fun f cdv A outer s H vs Q E hr h => ?_)
  · obtain ⟨p, q, rfl, _⟩ := h
    rfl
  obtain ⟨p, q, rfl, hp, dq, k, kx⟩ := h
  refine ⟨_, (pss_one (ps_if (pt_val (pe_fn F_under (by decide) hr (by rfl) passE0 (pa_cons (pv 0) (pa_cons (pe_globT (K := K) rfl (by rfl) T.k_NOUGHT) pa_nil))) (fun _ => rfl)) (pss_one (ps_raise plain_cxOf leaves_cxOf rfl rfl T.c_NoMoment T.x_NoMoment (pa_cons pe_str pa_nil))) pss_nil)), ?_⟩
  try dsimp only [cxK, cxK0]
  with_reducible refine if_go fun K2 hK2 => ?_
  refine ⟨_, rfl, fun N hN => ?_⟩
  have gN : FQ K H N (((0 : Int)) : Rat) := hN _
  have dN : FB 64 (((0 : Int)) : Rat) := FB.ofInt (Bd.small (i := 0) (by decide) (by decide)) (by decide)
  have eN : (((0 : Int)) : Rat) = 0 := rfl
  refine ⟨_, _, _, _, rfl, hp, dq.mono (by decide), gN, dN.mono (by decide), fun H1 s1 => ⟨_, rfl, ?_⟩⟩
  with_reducible refine hK2 _ _ ?_
  refine if_dec (fun c => ?_) (fun c => ?_)
  · skip
    exact ⟨by show 1 ≤ sizeLine; decide, kx (by rw [eN] at c; grind) H1 s1⟩
  · skip
    with_reducible refine nil_go ?_
    exact k (by rw [eN] at c; grind) H1 s1
noncomputable def AllW (bs : List Bod) : Prop := ∃ w, ∀ b ∈ bs, b.2.2 = w
theorem FirstU.not {bs : List Bod} {i : Nat} (h : FirstU bs i) : ¬ AllW bs := by
  rintro ⟨w, hw⟩
  obtain ⟨_, b0, b, h0, h1, ne, _⟩ := h
  exact ne ((hw _ (List.mem_of_getElem? h1)).trans (hw _ (List.mem_of_getElem? h0)).symm)
noncomputable def spX_refuse_outside (K : PySem.W.Frag) (C : Nat → Addr) : Sp := fun vs H Q E => ∃ (p : Addr) (xs : List V) (bs : List Bod) (q : Addr) (L : Rat), vs = [.ref p, .ref q] ∧ H p = some (.lst xs) ∧ Al2 (BdQ K H 64) xs bs ∧ bs.length ≤ 12 ∧ FQ K H q L ∧ FB 200 L ∧ ((∀ b ∈ bs, Inrm L b) → ∀ H1, Same H H1 → Q .non H1) ∧ ∀ i, FirstO L bs i → ∀ (d : Addr) (H1 : Hp), Same H H1 → H1 d = some (Xd d [("at", .int (i : Int))]) → E (.ref (C 1)) (some d) H1
theorem sc_refuse_outside : FnScope ["world", "length", "number", "place"] ["world", "length"] (defScope (top 30)) := ⟨rfl, rfl, rfl, by decide +kernel, rfl, by decide +kernel, by decide +kernel⟩
theorem ok_refuse_outside (D : Df K mg "refuse_outside" (top 30) ["world", "length"]) (T : Tx K mg CK C) (F_under : Fn P w K mg base 1 "under" ["one", "other"] (sp_under K)) (F_NoWorld___init__ : FnI P w K mg base 1 (C 1) ["self", "at"] (spInitN (C 1) ["at"])) : Fn P w K mg base 3 "refuse_outside" ["world", "length"] (spX_refuse_outside K C) := by
  refine D.okX sc_refuse_outside (fun vs H Q E h => ?_) (fun f cdv A outer s H vs Q E hr h => ?_)
  · obtain ⟨p, xs, bs, q, L, rfl, _⟩ := h
    rfl
  obtain ⟨p, xs, bs, q, L, rfl, hp, al, l12, gL, dL, k, kx⟩ := h
  refine ⟨_, (pss_one (ps_for PassesOwn.leaving rfl (pi_range1 (by rfl) T.b_range (pa_cons (pe_callB call_len (by rfl) T.b_len PyProof.Rows.Boot.«len» (pa_cons (pv 0) pa_nil)) pa_nil)) (pg_name (i := 2) sc_refuse_outside.nd rfl (Or.inl rfl)) (pss_cons (ps_set (i := 3) sc_refuse_outside.nd rfl (Or.inl rfl) (pe_ix ix_tup (pe_ix ix_list (pv 0) (pv 2) (fun _ _ => rfl)) pe_int (fun _ _ => rfl)))
      (pss_one (ps_if (pw_or (pt_not (pt_val (pe_fn F_under (by decide) hr (by rfl) passE0 (pa_cons (pe_globT (K := K) rfl (by rfl) T.k_NOUGHT) (pa_cons (pv 3) pa_nil))) (fun _ => rfl))) (pw_or1 (pt_not (pt_val (pe_fn F_under (by decide) hr (by rfl) passE0 (pa_cons (pv 3) (pa_cons (pv 1) pa_nil))) (fun _ => rfl))))).pt (pss_one (ps_raiseX plain_cxOf leaves_cxOf rfl (pe_mkx F_NoWorld___init__ (by decide) hr (by rfl) T.c_NoWorld passE0 (pa_cons (pv 2) pa_nil)))) pss_nil))))), ?_⟩
  try dsimp only [cxK, cxK0]
  have hz := Al2.len al
  with_reducible refine for_go fun B2 hB2 => ?_
  refine ⟨_, rfl, _, _, rfl, .inl ⟨_, SqL.of hp, rfl⟩, _, rfl, by omega, by omega, for_range (n := xs.length) (fun i σ1 H1 => ∃ u2 u3 : Option V, σ1 = [some (.ref p), some (.ref q), u2, u3] ∧ Same H H1 ∧ ∀ j b, j < i → bs[j]? = some b → Inrm L b) ⟨_, _, rfl, Same.refl _, fun j b h => absurd h (by omega)⟩ ?_ ?_⟩
  · rintro i σ1 H1 hi ⟨u2, u3, rfl, s1, below⟩
    obtain ⟨x, hx⟩ : ∃ x, xs[i]? = some x := ⟨_, List.getElem?_eq_getElem hi⟩
    obtain ⟨b, hb, p1, a1, c1, rfl, e1, e2, e3, d1, d2, _⟩ := Al2.get (bds_same al s1) hx
    with_reducible refine g_go ?_
    with_reducible refine hB2 _ _ _ fun E4 hE4 hR4 _ _ => ?_
    with_reducible refine seq_go fun N4 hN4 => ?_
    refine ⟨_, rfl, _, rfl, p, _, _, _, rfl, rfl, SqL.of (s1 _ _ hp), atI_z hx, p1, _, _, _, rfl, rfl, e1, rfl, ?_⟩
    have no : ¬ Inrm L b → ∀ H3 : Hp, Same H1 H3 → ∀ (d : Addr) (H4 : Hp), Same H3 H4 → H4 d = some (Xd d [("at", .int (0 + (i : Int)))]) → E (.ref (C 1)) (some d) H4 := fun nw H3 s3 d H4 s4 e4 => by
      rw [Int.zero_add] at e4
      exact kx i ⟨⟨b, hb, nw⟩, below⟩ d H4 (s1.trans (s3.trans s4)) e4
    with_reducible refine g_go ?_
    with_reducible refine hN4 _ _ ?_
    with_reducible refine if_go fun K4 hK4 => ?_
    refine fun N hN => ?_
    have gN : FQ K H1 N (((0 : Int)) : Rat) := hN _
    have dN : FB 8900 (((0 : Int)) : Rat) := (FB.ofInt (Bd.small (i := 0) (by decide) (by decide)) (by decide)).mono (by decide)
    have eN : (((0 : Int)) : Rat) = 0 := rfl
    refine ⟨_, rfl, _, _, _, _, rfl, gN, dN, e2, d1.mono (by decide), fun H2 s2 => ⟨_, rfl, ?_⟩⟩
    refine if_not (fun c => ?_) (fun c => ?_)
    · skip
      with_reducible refine hK4 _ _ ?_
      refine ⟨_, rfl, by show 1 ≤ sizeLine; decide, fun x nx => ⟨x, [.int (0 + (i : Int))], rfl, rfl, upd_same, fun d H3 nd b3 e3 f3 => ⟨rfl, ?_⟩⟩⟩
      have s3 := same_of_but nx b3
      refine ⟨x, C 1, some d, rfl, e3, none_of_sm (s1.trans s2) nx, clsx_o T.o_NoWorld, no (fun z => c (by rw [eN]; exact z.1)) _ s2 d _ (same_del nx s3) ?_⟩
      rw [del_ne nd]
      exact f3
    · skip
      refine ⟨_, rfl, _, rfl, _, _, _, _, rfl, Kw.Same.tup s2 e2, d1.mono (by decide), Kw.Same.tup (s1.trans s2) gL, dL.mono (by decide), fun H3 s3 => ⟨_, rfl, ?_⟩⟩
      have s23 := s2.trans s3
      with_reducible refine hK4 _ _ ?_
      refine if_not (fun c2 => ?_) (fun c2 => ?_)
      · skip
        refine ⟨_, rfl, by show 1 ≤ sizeLine; decide, fun x nx => ⟨x, [.int (0 + (i : Int))], rfl, rfl, upd_same, fun d H4 nd b3 e3 f3 => ⟨rfl, ?_⟩⟩⟩
        have s4 := same_of_but nx b3
        refine ⟨x, C 1, some d, rfl, e3, none_of_sm (s1.trans s23) nx, clsx_o T.o_NoWorld, no (fun z => c2 z.2) _ s23 d _ (same_del nx s4) ?_⟩
        rw [del_ne nd]
        exact f3
      · skip
        with_reducible refine nil_go ?_
        with_reducible refine hE4 _ _ ?_
        refine ⟨_, _, rfl, s1.trans s23, fun j b' h1 h2 => ?_⟩
        by_cases ej : j = i
        · subst ej
          cases hb.symm.trans h2
          rw [eN] at c
          exact ⟨c, c2⟩
        · skip
          exact below j b' (by omega) h2
  · rintro σ1 H1 ⟨u2, u3, rfl, s1, below⟩
    refine k (fun b hb => ?_) _ s1
    obtain ⟨j, hj, ej⟩ := List.mem_iff_getElem.mp hb
    have h3 : bs[j]? = some b := by rw [List.getElem?_eq_getElem hj, ej]
    exact below j b (by omega) h3
noncomputable def sp_led_back (K : PySem.W.Frag) : Sp := fun vs H Q _ => ∃ (p : Addr) (x : Rat) (q : Addr) (y : Rat), vs = [.ref p, .ref q] ∧ FQ K H p x ∧ FB 800 x ∧ FQ K H q y ∧ FB 300 y ∧ 0 < y ∧ ∀ (r : Addr) (H1 : Hp), Same H H1 → FQ K H1 r (spotQ x y) → FB 2300 (spotQ x y) → Q (.ref r) H1
theorem sc_led_back : FnScope ["place", "ring", "often"] ["place", "ring"] (defScope (top 31)) := ⟨rfl, rfl, rfl, by decide +kernel, rfl, by decide +kernel, by decide +kernel⟩
theorem ok_led_back (D : Df K mg "led_back" (top 31) ["place", "ring"]) (T : Tx K mg CK C) (F_times : Fn P w K mg base 2 "times" ["one", "other"] (sp_times K)) (F_minus : Fn P w K mg base 3 "minus" ["one", "other"] (sp_minus K)) : Fn P w K mg base 4 "led_back" ["place", "ring"] (sp_led_back K) := by
  refine D.ok0 sc_led_back (fun vs H Q E h => ?_) (fun f cdv A outer s H vs Q E hr h => ?_)
  · obtain ⟨p, x, q, y, rfl, _⟩ := h
    rfl
  obtain ⟨p, x, q, y, rfl, hp, dx, hq, dy, y0, k⟩ := h
  refine ⟨_, (pss_cons (ps_set (i := 2) sc_led_back.nd rfl (Or.inl rfl) (pe_op op_fdivB (pe_op op_mulB (pe_ix ix_tup (pv 0) pe_int (fun _ _ => rfl)) (pe_ix ix_tup (pv 1) pe_int (fun _ _ => rfl))) (pe_op op_mulB (pe_ix ix_tup (pv 0) pe_int (fun _ _ => rfl)) (pe_ix ix_tup (pv 1) pe_int (fun _ _ => rfl)))))
      (pss_one (ps_ret (pe_fn F_minus (by decide) hr (by rfl) passE0 (pa_cons (pv 0) (pa_cons (pe_fn F_times (by decide) hr (by rfl) passE0 (pa_cons (pe_tup (pa_cons (pv 2) (pa_cons pe_int pa_nil))) (pa_cons (pv 1) pa_nil))) pa_nil)))))), ?_⟩
  try dsimp only [cxK, cxK0]
  have b0 : 0 < ((x.den : Nat) : Int) * y.num := Int.mul_pos (by have := x.den_pos; omega) (q_numpos y0)
  have bo : Bd (800 + 300) (Int.fdiv (x.num * ((y.den : Nat) : Int)) (((x.den : Nat) : Int) * y.num)) := fdiv_bd b0 (dx.1.mul dy.2)
  with_reducible refine seq_go fun N2 hN2 => ?_
  refine ⟨_, rfl, p, _, _, _, rfl, rfl, hp, rfl, _, rfl, q, _, _, _, rfl, rfl, hq, rfl, _, _, rfl, rfl, dx.1.ok dy.2 (by omega), _, rfl, p, _, _, _, rfl, rfl, hp, rfl, _, rfl, q, _, _, _, rfl, rfl, hq, rfl, _, _, rfl, rfl, dx.2.ok dy.1 (by omega), _, _, rfl, rfl, ⟨by omega, ((dx.2.mul dy.1).mono (by decide)).log⟩, ?_⟩
  with_reducible refine g_go ?_
  with_reducible refine hN2 _ _ ?_
  refine ⟨_, rfl, _, rfl, by show 2 ≤ sizeLine; decide, ?_⟩
  intro p2 n2
  obtain ⟨H2, q2, s2, e2⟩ := newO n2 (.tup [.int (Int.fdiv (x.num * ((y.den : Nat) : Int)) (((x.den : Nat) : Int) * y.num)), .int 1])
  rw [q2]
  clear q2
  have g2 := FQ.ofInt (SqT.of (K := K) e2)
  have d2 := FB.ofInt bo (by decide)
  refine ⟨_, rfl, p2, _, q, y, rfl, g2, d2.mono (by decide), Kw.Same.tup s2 hq, dy.mono (by decide), fun r3 H3 s3 g3 => ?_⟩
  have d3 := FB.mul d2 dy
  refine ⟨p, x, r3, _, rfl, Kw.Same.tup (s2.trans s3) hp, dx.mono (by decide), g3, d3.mono (by decide), fun r4 H4 s4 g4 => ?_⟩
  exact k r4 H4 (s2.trans (s3.trans s4)) g4 ((FB.sub dx d3).mono (by decide))
noncomputable def sp_pace_of (K : PySem.W.Frag) : Sp := fun vs H Q _ => ∃ (p a c : Addr) (v : Rat) (m : Int), vs = [.ref p] ∧ SqT K H p [.ref a, .ref c, .int m] ∧ FQ K H c v ∧ ∀ (r : Addr) (H1 : Hp), Same H H1 → FQ K H1 r (absQ v) → Q (.ref r) H1
theorem sc_pace_of : FnScope ["body"] ["body"] (defScope (top 32)) := ⟨rfl, rfl, rfl, by decide +kernel, rfl, by decide +kernel, by decide +kernel⟩
theorem ok_pace_of (D : Df K mg "pace_of" (top 32) ["body"]) (T : Tx K mg CK C) : Fn P w K mg base 1 "pace_of" ["body"] (sp_pace_of K) := by
  refine D.ok0 sc_pace_of (fun vs H Q E h => ?_) (fun f cdv A outer s H vs Q E hr h => ?_)
  · obtain ⟨p, a, c, v, m, rfl, _⟩ := h
    rfl
  obtain ⟨p, a, c, v, m, rfl, hp, gc, k⟩ := h
  refine ⟨_, (pss_one (ps_ret (pe_tup (pa_cons (pe_callB call_abs (by rfl) T.b_abs PyProof.Rows.Boot.«abs» (pa_cons (pe_ix ix_tup (pe_ix ix_tup (pv 0) pe_int (fun _ _ => rfl)) pe_int (fun _ _ => rfl)) pa_nil)) (pa_cons (pe_ix ix_tup (pe_ix ix_tup (pv 0) pe_int (fun _ _ => rfl)) pe_int (fun _ _ => rfl)) pa_nil))))), ?_⟩
  try dsimp only [cxK, cxK0]
  refine ⟨_, rfl, p, _, _, _, rfl, rfl, hp, rfl, c, _, _, _, rfl, rfl, gc, rfl, _, rfl, _, rfl, p, _, _, _, rfl, rfl, hp, rfl, c, _, _, _, rfl, rfl, gc, rfl, by show 2 ≤ sizeLine; decide, ?_⟩
  intro p2 n2
  obtain ⟨H2, q2, s2, e2⟩ := newO n2 (.tup [.int (if v.num < 0 then -v.num else v.num), .int ((v.den : Nat) : Int)])
  rw [q2]
  clear q2
  exact k p2 H2 s2 (FQ.abs (SqT.of e2))
noncomputable def sp_place_at (K : PySem.W.Frag) : Sp := fun vs H Q _ => ∃ (p_i a_i b_i : Addr) (x_i v_i : Rat) (m_i : Int) (p_t : Addr) (t : Rat), vs = [.ref p_i, .ref p_t] ∧ SqT K H p_i [.ref a_i, .ref b_i, .int m_i] ∧ FQ K H a_i x_i ∧ FQ K H b_i v_i ∧ FB 64 x_i ∧ FB 64 v_i ∧ 1 ≤ m_i ∧ m_i ≤ 10000 ∧ FQ K H p_t t ∧ FB 600 t ∧ (∀ (p_r : Addr) (H1 : Hp), Same H H1 → FQ K H1 p_r (x_i + v_i * t) → Q (.ref p_r) H1)
theorem sc_place_at : FnScope ["body", "moment"] ["body", "moment"] (defScope (top 20)) := ⟨rfl, rfl, rfl, by decide +kernel, rfl, by decide +kernel, by decide +kernel⟩
theorem ok_place_at (D : Df K mg "place_at" (top 20) ["body", "moment"]) (T : Tx K mg CK C) (F_times : Fn P w K mg base 2 "times" ["one", "other"] (sp_times K)) (F_plus : Fn P w K mg base 2 "plus" ["one", "other"] (sp_plus K)) : Fn P w K mg base 3 "place_at" ["body", "moment"] (sp_place_at K) := by
  refine D.ok0 sc_place_at (fun vs H Q E h => ?_) (fun f cdv A outer s H vs Q E hr h => ?_)
  · obtain ⟨p_i, a_i, b_i, x_i, v_i, m_i, p_t, t, rfl, _⟩ := h
    rfl
  obtain ⟨p_i, a_i, b_i, x_i, v_i, m_i, p_t, t, rfl, h_i, gx_i, gv_i, dx_i, dv_i, lo_i, hi_i, g_t, d_t, k0⟩ := h
  refine ⟨_, (pss_one (ps_ret (pe_fn F_plus (by decide) hr (by rfl) passE0 (pa_cons (pe_ix ix_tup (pv 0) pe_int (fun _ _ => rfl)) (pa_cons (pe_fn F_times (by decide) hr (by rfl) passE0 (pa_cons (pe_ix ix_tup (pv 0) pe_int (fun _ _ => rfl)) (pa_cons (pv 1) pa_nil))) pa_nil))))), ?_⟩
  try dsimp only [cxK, cxK0]
  refine ⟨_, rfl, p_i, _, _, _, rfl, rfl, h_i, rfl, _, rfl, p_i, _, _, _, rfl, rfl, h_i, rfl, _, rfl, _, _, _, _, rfl, gv_i, (FB.mono dv_i (by decide)), g_t, (FB.mono d_t (by decide)), fun p_r4 H4 s4 g_r4 => ?_⟩
  have d_r4 : FB 664 (v_i * t) := (FB.mono (FB.mul dv_i d_t) (by decide))
  replace gx_i := (Kw.Same.tup s4 gx_i)
  refine ⟨_, _, _, _, rfl, gx_i, (FB.mono dx_i (by decide)), g_r4, (FB.mono d_r4 (by decide)), fun p_r5 H5 s5 g_r5 => ?_⟩
  have d_r5 : FB 729 (x_i + ((v_i * t))) := (FB.mono (FB.add dx_i d_r4) (by decide))
  exact k0 _ _ (s4.trans s5) g_r5
noncomputable def sp_turned_about (K : PySem.W.Frag) : Sp := fun vs H Q _ => ∃ (p_x : Addr) (x : Rat), vs = [.ref p_x] ∧ FQ K H p_x x ∧ FB 900 x ∧ (∀ (p_r : Addr) (H1 : Hp), Same H H1 → FQ K H1 p_r (-x) → Q (.ref p_r) H1)
theorem sc_turned_about : FnScope ["number"] ["number"] (defScope (top 22)) := ⟨rfl, rfl, rfl, by decide +kernel, rfl, by decide +kernel, by decide +kernel⟩
theorem ok_turned_about (D : Df K mg "turned_about" (top 22) ["number"]) (T : Tx K mg CK C) (F_minus : Fn P w K mg base 3 "minus" ["one", "other"] (sp_minus K)) : Fn P w K mg base 4 "turned_about" ["number"] (sp_turned_about K) := by
  refine D.ok0 sc_turned_about (fun vs H Q E h => ?_) (fun f cdv A outer s H vs Q E hr h => ?_)
  · obtain ⟨p_x, x, rfl, _⟩ := h
    rfl
  obtain ⟨p_x, x, rfl, g_x, d_x, k0⟩ := h
  refine ⟨_, (pss_one (ps_ret (pe_fn F_minus (by decide) hr (by rfl) passE0 (pa_cons (pe_globT (K := K) rfl (by rfl) T.k_NOUGHT) (pa_cons (pv 0) pa_nil))))), ?_⟩
  try dsimp only [cxK, cxK0]
  refine fun N6 hN6 => ?_
  have g6 : FQ K H N6 (((0 : Int)) : Rat) := hN6 _
  refine ⟨_, rfl, _, _, _, _, rfl, g6, (FB.mono (FB.ofInt (Bd.small (i := 0) (by decide) (by decide)) (by decide)) (by decide)), g_x, (FB.mono d_x (by decide)), fun p_r7 H7 s7 g_r7 => ?_⟩
  have d_r7 : FB 965 (((((0 : Int) : Rat))) - x) := (FB.mono (FB.sub (FB.ofInt (Bd.small (i := 0) (by decide) (by decide)) (by decide)) d_x) (by decide))
  have e8 : ((((((0 : Int) : Rat))) - x) : Rat) = -x := by grind
  exact k0 _ _ s7 (FQ.cast g_r7 e8)
noncomputable def FoldS (K : PySem.W.Frag) : Sp := fun vs H Q _ => ∃ (p a c : Addr) (x v : Rat) (m : Int) (q : Addr) (L : Rat) (u : Addr) (t : Rat), vs = [.ref p, .ref q, .ref u] ∧ SqT K H p [.ref a, .ref c, .int m] ∧ FQ K H a x ∧ FQ K H c v ∧ FB 64 x ∧ FB 64 v ∧ 1 ≤ m ∧ m ≤ 10000 ∧ FQ K H q L ∧ FB 200 L ∧ 0 < L ∧ FQ K H u t ∧ FB 600 t ∧ ∀ (r : Addr) (H1 : Hp), Same H H1 → BdQ K H1 2700 (.ref r) (foldQ L t (x, v, m)) → Q (.ref r) H1
theorem sc_folded : FnScope ["body", "length", "moment", "ring", "spot"] ["body", "length", "moment"] (defScope (top 33)) := ⟨rfl, rfl, rfl, by decide +kernel, rfl, by decide +kernel, by decide +kernel⟩
theorem ok_folded (D : Df K mg "folded" (top 33) ["body", "length", "moment"]) (T : Tx K mg CK C) (F_times : Fn P w K mg base 2 "times" ["one", "other"] (sp_times K)) (F_place_at : Fn P w K mg base 3 "place_at" ["body", "moment"] (sp_place_at K)) (F_led_back : Fn P w K mg base 4 "led_back" ["place", "ring"] (sp_led_back K)) (F_pace_of : Fn P w K mg base 1 "pace_of" ["body"] (sp_pace_of K)) (F_turned_about : Fn P w K mg base 4 "turned_about" ["number"] (sp_turned_about K)) (F_under : Fn P w K mg base 1 "under" ["one", "other"] (sp_under K)) (F_minus : Fn P w K mg base 3 "minus" ["one", "other"] (sp_minus K)) : Fn P w K mg base 5 "folded" ["body", "length", "moment"] (FoldS K) := by
  refine D.ok0 sc_folded (fun vs H Q E h => ?_) (fun f cdv A outer s H vs Q E hr h => ?_)
  · obtain ⟨p, a, c, x, v, m, q, L, u, t, rfl, _⟩ := h
    rfl
  obtain ⟨p, a, c, x, v, m, q, L, u, t, rfl, hp, ga, gc, da, dc, m1, m2, gL, dL, L0, gt, dt, k⟩ := h
  refine ⟨_, (pss_cons (ps_set (i := 3) sc_folded.nd rfl (Or.inl rfl) (pe_fn F_times (by decide) hr (by rfl) passE0 (pa_cons (pe_globT (K := K) rfl (by rfl) T.k_TWO) (pa_cons (pv 1) pa_nil))))
      (pss_cons (ps_set (i := 4) sc_folded.nd rfl (Or.inl rfl) (pe_fn F_led_back (by decide) hr (by rfl) passE0 (pa_cons (pe_fn F_place_at (by decide) hr (by rfl) passE0 (pa_cons (pv 0) (pa_cons (pv 2) pa_nil))) (pa_cons (pv 3) pa_nil))))
      (pss_cons (ps_if (pt_cmpR (op_eqQ (K := K) rfl (u100 hr)) (pv 4) (pe_globT (K := K) rfl (by rfl) T.k_NOUGHT) (nomark _)) (pss_one (ps_ret (pe_tup (pa_cons (pv 4) (pa_cons (pe_fn F_pace_of (by decide) hr (by rfl) passE0 (pa_cons (pv 0) pa_nil)) (pa_cons (pe_ix ix_tup (pv 0) pe_int (fun _ _ => rfl)) pa_nil)))))) pss_nil)
      (pss_cons (ps_if (pt_cmpR (op_eqQ (K := K) rfl (u100 hr)) (pv 4) (pv 1) (nomark _)) (pss_one (ps_ret (pe_tup (pa_cons (pv 4) (pa_cons (pe_fn F_turned_about (by decide) hr (by rfl) passE0 (pa_cons (pe_fn F_pace_of (by decide) hr (by rfl) passE0 (pa_cons (pv 0) pa_nil)) pa_nil)) (pa_cons (pe_ix ix_tup (pv 0) pe_int (fun _ _ => rfl)) pa_nil)))))) pss_nil)
      (pss_cons (ps_if (pt_val (pe_fn F_under (by decide) hr (by rfl) passE0 (pa_cons (pv 1) (pa_cons (pv 4) pa_nil))) (fun _ => rfl)) (pss_one (ps_ret (pe_tup (pa_cons (pe_fn F_minus (by decide) hr (by rfl) passE0 (pa_cons (pv 3) (pa_cons (pv 4) pa_nil))) (pa_cons (pe_fn F_turned_about (by decide) hr (by rfl) passE0 (pa_cons (pe_ix ix_tup (pv 0) pe_int (fun _ _ => rfl)) pa_nil)) (pa_cons (pe_ix ix_tup (pv 0) pe_int (fun _ _ => rfl)) pa_nil)))))) pss_nil)
      (pss_one (ps_ret (pe_tup (pa_cons (pv 4) (pa_cons (pe_ix ix_tup (pv 0) pe_int (fun _ _ => rfl)) (pa_cons (pe_ix ix_tup (pv 0) pe_int (fun _ _ => rfl)) pa_nil))))))))))), ?_⟩
  try dsimp only [cxK, cxK0]
  with_reducible refine seq_go fun N2 hN2 => ?_
  refine fun N hN => ?_
  have gN : FQ K H N (((2 : Int)) : Rat) := hN _
  have dN : FB 64 (((2 : Int)) : Rat) := FB.ofInt (Bd.small (i := 2) (by decide) (by decide)) (by decide)
  refine ⟨_, rfl, N, _, q, L, rfl, gN, dN.mono (by decide), gL, dL.mono (by decide), fun r1 H1 s1 g1 => ?_⟩
  have e2L : (((2 : Int)) : Rat) * L = L + L := by have z : (((2 : Int)) : Rat) = 2 := rfl; rw [z]; grind
  have d1 : FB 300 (L + L) := by rw [← e2L]; exact (FB.mul dN dL).mono (by decide)
  replace g1 : FQ K H1 r1 (L + L) := FQ.cast g1 e2L
  have LL0 : 0 < L + L := by grind
  with_reducible refine g_go ?_
  with_reducible refine hN2 _ _ ?_
  with_reducible refine seq_go fun N2 hN2 => ?_
  refine ⟨_, rfl, _, rfl, p, a, c, x, v, m, u, t, rfl, Kw.Same.tup s1 hp, Kw.Same.tup s1 ga, Kw.Same.tup s1 gc, da, dc, m1, m2, Kw.Same.tup s1 gt, dt, fun r2 H2 s2 g2 => ?_⟩
  have d2 : FB 800 (x + v * t) := (FB.add da (FB.mul dc dt)).mono (by decide)
  refine ⟨_, rfl, r2, _, r1, _, rfl, g2, d2, Kw.Same.tup s2 g1, d1, LL0, fun r3 H3 s3 g3 d3 => ?_⟩
  have s13 := s1.trans (s2.trans s3)
  have si := spot_in (x := x + v * t) LL0
  obtain ⟨sq, hsq⟩ : ∃ sq, spotQ (x + v * t) (L + L) = sq := ⟨_, rfl⟩
  rw [hsq] at g3 d3 si
  have fo : foldQ L t (x, v, m) = if sq = 0 then (sq, absQ v, m) else if sq = L then (sq, -absQ v, m) else if L < sq then (L + L - sq, -v, m) else (sq, v, m) := by unfold foldQ; dsimp only; rw [hsq]
  rw [fo] at k
  have hp3 := Kw.Same.tup s13 hp
  have gc3 := Kw.Same.tup s13 gc
  with_reducible refine g_go ?_
  with_reducible refine hN2 _ _ ?_
  with_reducible refine seq_go fun N2 hN2 => ?_
  with_reducible refine if_go fun K2 hK2 => ?_
  refine ⟨_, rfl, fun N hN => ?_⟩
  have gN3 : FQ K H3 N (((0 : Int)) : Rat) := hN _
  have eN : (((0 : Int)) : Rat) = 0 := rfl
  refine ⟨_, _, _, _, rfl, rfl, g3, gN3, _, rfl, ?_⟩
  with_reducible refine hK2 _ _ ?_
  refine if_dec (fun c0 => ?_) (fun c0 => ?_)
  · rw [eN] at c0
    rw [if_pos c0] at k
    refine ⟨_, rfl, _, rfl, p, a, c, v, m, rfl, hp3, gc3, fun r4 H4 s4 g4 => ?_⟩
    refine ⟨_, rfl, p, _, _, _, rfl, rfl, Kw.Same.tup s4 hp3, rfl, by show 3 ≤ sizeLine; decide, ?_⟩
    intro p5 n5
    obtain ⟨H5, q5, s5, e5⟩ := newO n5 (.tup [.ref r3, .ref r4, .int m])
    rw [q5]
    clear q5
    exact k p5 H5 (s13.trans (s4.trans s5)) ⟨p5, r3, r4, rfl, SqT.of e5, Kw.Same.tup (s4.trans s5) g3, Kw.Same.tup s5 g4, d3.mono (by decide), (FB.abs dc).mono (by decide), m1, m2⟩
  rw [eN] at c0
  rw [if_neg c0] at k
  with_reducible refine nil_go ?_
  with_reducible refine hN2 _ _ ?_
  with_reducible refine seq_go fun N2 hN2 => ?_
  with_reducible refine if_go fun K2 hK2 => ?_
  refine ⟨_, rfl, _, rfl, _, _, _, _, rfl, rfl, g3, Kw.Same.tup s13 gL, _, rfl, ?_⟩
  with_reducible refine hK2 _ _ ?_
  refine if_dec (fun c1 => ?_) (fun c1 => ?_)
  · rw [if_pos c1] at k
    refine ⟨_, rfl, _, rfl, p, a, c, v, m, rfl, hp3, gc3, fun r4 H4 s4 g4 => ?_⟩
    refine ⟨r4, _, rfl, g4, (FB.abs dc).mono (by decide), fun r5 H5 s5 g5 => ?_⟩
    have hp5 := Kw.Same.tup (s4.trans s5) hp3
    refine ⟨_, rfl, p, _, _, _, rfl, rfl, hp5, rfl, by show 3 ≤ sizeLine; decide, ?_⟩
    intro p6 n6
    obtain ⟨H6, q6, s6, e6⟩ := newO n6 (.tup [.ref r3, .ref r5, .int m])
    rw [q6]
    clear q6
    exact k p6 H6 (s13.trans (s4.trans (s5.trans s6))) ⟨p6, r3, r5, rfl, SqT.of e6, Kw.Same.tup (s4.trans (s5.trans s6)) g3, Kw.Same.tup s6 g5, d3.mono (by decide), (FB.neg (FB.abs dc)).mono (by decide), m1, m2⟩
  rw [if_neg c1] at k
  with_reducible refine nil_go ?_
  with_reducible refine hN2 _ _ ?_
  with_reducible refine seq_go fun N2 hN2 => ?_
  with_reducible refine if_go fun K2 hK2 => ?_
  refine ⟨_, rfl, _, rfl, q, L, r3, _, rfl, Kw.Same.tup s13 gL, dL.mono (by decide), g3, d3.mono (by decide), fun H4 s4 => ⟨_, rfl, ?_⟩⟩
  have hp4 := Kw.Same.tup s4 hp3
  have gc4 := Kw.Same.tup s4 gc3
  with_reducible refine hK2 _ _ ?_
  refine if_dec (fun c2 => ?_) (fun c2 => ?_)
  · rw [if_pos c2] at k
    refine ⟨_, rfl, _, rfl, r1, _, r3, _, rfl, Kw.Same.tup (s2.trans (s3.trans s4)) g1, d1.mono (by decide), Kw.Same.tup s4 g3, d3.mono (by decide), fun r5 H5 s5 g5 => ?_⟩
    refine ⟨_, rfl, p, _, _, _, rfl, rfl, Kw.Same.tup s5 hp4, rfl, c, v, rfl, Kw.Same.tup s5 gc4, dc.mono (by decide), fun r6 H6 s6 g6 => ?_⟩
    have hp6 := Kw.Same.tup (s5.trans s6) hp4
    refine ⟨_, rfl, p, _, _, _, rfl, rfl, hp6, rfl, by show 3 ≤ sizeLine; decide, ?_⟩
    intro p7 n7
    obtain ⟨H7, q7, s7, e7⟩ := newO n7 (.tup [.ref r5, .ref r6, .int m])
    rw [q7]
    clear q7
    exact k p7 H7 (s13.trans (s4.trans (s5.trans (s6.trans s7)))) ⟨p7, r5, r6, rfl, SqT.of e7, Kw.Same.tup (s6.trans s7) g5, Kw.Same.tup s7 g6, (FB.sub d1 d3).mono (by decide), (FB.neg dc).mono (by decide), m1, m2⟩
  · rw [if_neg c2] at k
    with_reducible refine nil_go ?_
    with_reducible refine hN2 _ _ ?_
    refine ⟨_, rfl, _, rfl, p, _, _, _, rfl, rfl, hp4, rfl, _, rfl, p, _, _, _, rfl, rfl, hp4, rfl, by show 3 ≤ sizeLine; decide, ?_⟩
    intro p5 n5
    obtain ⟨H5, q5, s5, e5⟩ := newO n5 (.tup [.ref r3, .ref c, .int m])
    rw [q5]
    clear q5
    exact k p5 H5 (s13.trans (s4.trans s5)) ⟨p5, r3, c, rfl, SqT.of e5, Kw.Same.tup (s4.trans s5) g3, Kw.Same.tup s5 gc4, d3.mono (by decide), dc.mono (by decide), m1, m2⟩
noncomputable def sp_is_ahead (K : PySem.W.Frag) : Sp := fun vs H Q _ => ∃ (p_i a_i b_i : Addr) (x_i v_i : Rat) (m_i : Int) (p_j a_j b_j : Addr) (x_j v_j : Rat) (m_j : Int), vs = [.ref p_i, .ref p_j] ∧ SqT K H p_i [.ref a_i, .ref b_i, .int m_i] ∧ FQ K H a_i x_i ∧ FQ K H b_i v_i ∧ FB 2700 x_i ∧ FB 2700 v_i ∧ 1 ≤ m_i ∧ m_i ≤ 10000 ∧ SqT K H p_j [.ref a_j, .ref b_j, .int m_j] ∧ FQ K H a_j x_j ∧ FQ K H b_j v_j ∧ FB 2700 x_j ∧ FB 2700 v_j ∧ 1 ≤ m_j ∧ m_j ≤ 10000 ∧ (∀  (H1 : Hp), Same H H1 → Q (.bl (decide (x_i < x_j ∨ (x_i = x_j ∧ v_i < v_j)))) H1)
theorem sc_is_ahead : FnScope ["one", "other"] ["one", "other"] (defScope (top 25)) := ⟨rfl, rfl, rfl, by decide +kernel, rfl, by decide +kernel, by decide +kernel⟩
theorem ok_is_ahead (D : Df K mg "is_ahead" (top 25) ["one", "other"]) (T : Tx K mg CK C) (F_under : Fn P w K mg base 1 "under" ["one", "other"] (sp_under K)) : Fn P w K mg base 2 "is_ahead" ["one", "other"] (sp_is_ahead K) := by
  refine D.ok0 sc_is_ahead (fun vs H Q E h => ?_) (fun f cdv A outer s H vs Q E hr h => ?_)
  · obtain ⟨p_i, a_i, b_i, x_i, v_i, m_i, p_j, a_j, b_j, x_j, v_j, m_j, rfl, _⟩ := h
    rfl
  obtain ⟨p_i, a_i, b_i, x_i, v_i, m_i, p_j, a_j, b_j, x_j, v_j, m_j, rfl, h_i, gx_i, gv_i, dx_i, dv_i, lo_i, hi_i, h_j, gx_j, gv_j, dx_j, dv_j, lo_j, hi_j, k0⟩ := h
  refine ⟨_, (pss_cons (ps_if (pt_cmpR (op_eqQ (K := K) rfl (u100 hr)) (pe_ix ix_tup (pv 0) pe_int (fun _ _ => rfl)) (pe_ix ix_tup (pv 1) pe_int (fun _ _ => rfl)) (nomark _)) (pss_one (ps_ret (pe_fn F_under (by decide) hr (by rfl) passE0 (pa_cons (pe_ix ix_tup (pv 0) pe_int (fun _ _ => rfl)) (pa_cons (pe_ix ix_tup (pv 1) pe_int (fun _ _ => rfl)) pa_nil))))) pss_nil)
      (pss_one (ps_ret (pe_fn F_under (by decide) hr (by rfl) passE0 (pa_cons (pe_ix ix_tup (pv 0) pe_int (fun _ _ => rfl)) (pa_cons (pe_ix ix_tup (pv 1) pe_int (fun _ _ => rfl)) pa_nil)))))), ?_⟩
  try dsimp only [cxK, cxK0]
  with_reducible refine seq_go fun N2 hN2 => ?_
  with_reducible refine if_go fun K2 hK2 => ?_
  refine ⟨_, rfl, p_i, _, _, _, rfl, rfl, h_i, rfl, _, rfl, p_j, _, _, _, rfl, rfl, h_j, rfl, _, _, _, _, rfl, rfl, gx_i, gx_j, _, rfl, ?_⟩
  with_reducible refine hK2 _ _ ?_
  refine if_dec (fun c9 => ?_) (fun c9 => ?_)
  · skip
    refine ⟨_, rfl, p_i, _, _, _, rfl, rfl, h_i, rfl, _, rfl, p_j, _, _, _, rfl, rfl, h_j, rfl, _, _, _, _, rfl, gv_i, (FB.mono dv_i (by decide)), gv_j, (FB.mono dv_j (by decide)), fun H10 s10 => ?_⟩
    try dsimp only
    rw [show decide (v_i < v_j) = decide (x_i < x_j ∨ (x_i = x_j ∧ v_i < v_j)) from decide_eq_decide.mpr (by grind)]
    exact k0 _ s10
  · skip
    with_reducible refine nil_go ?_
    with_reducible refine hN2 _ _ ?_
    refine ⟨_, rfl, p_i, _, _, _, rfl, rfl, h_i, rfl, _, rfl, p_j, _, _, _, rfl, rfl, h_j, rfl, _, _, _, _, rfl, gx_i, (FB.mono dx_i (by decide)), gx_j, (FB.mono dx_j (by decide)), fun H11 s11 => ?_⟩
    try dsimp only
    rw [show decide (x_i < x_j) = decide (x_i < x_j ∨ (x_i = x_j ∧ v_i < v_j)) from decide_eq_decide.mpr (by grind)]
    exact k0 _ s11
noncomputable def sp_order_of (K : PySem.W.Frag) : Sp := fun vs H Q _ => ∃ (p : Addr) (xs : List V) (bs : List Bod), vs = [.ref p] ∧ H p = some (.lst xs) ∧ Al2 (BdQ K H 2700) xs bs ∧ bs.length ≤ 12 ∧ ∀ (r : Addr) (H1 : Hp), Same H H1 → H r = none → H1 r = some (.lst (numV (ordN (ltI bs) bs.length))) → Q (.ref r) H1
theorem sc_order_of : FnScope ["bodies", "order", "number", "spot"] ["bodies"] (defScope (top 26)) := ⟨rfl, rfl, rfl, by decide +kernel, rfl, by decide +kernel, by decide +kernel⟩
theorem ok_order_of (D : Df K mg "order_of" (top 26) ["bodies"]) (T : Tx K mg CK C) (F_is_ahead : Fn P w K mg base 2 "is_ahead" ["one", "other"] (sp_is_ahead K)) : Fn P w K mg base 3 "order_of" ["bodies"] (sp_order_of K) := by
  refine D.ok0 sc_order_of (fun vs H Q E h => ?_) (fun f cdv A outer s H vs Q E hr h => ?_)
  · obtain ⟨p, xs, bs, rfl, _⟩ := h
    rfl
  obtain ⟨p, xs, bs, rfl, hp, al, l12, k⟩ := h
  refine ⟨_, (pss_cons (ps_set (i := 1) sc_order_of.nd rfl (Or.inl rfl) (pe_lst pa_nil))
      (pss_cons (ps_for PassesOwn.never rfl (pi_range1 (by rfl) T.b_range (pa_cons (pe_callB call_len (by rfl) T.b_len PyProof.Rows.Boot.«len» (pa_cons (pv 0) pa_nil)) pa_nil)) (pg_name (i := 2) sc_order_of.nd rfl (Or.inl rfl)) (pss_cons (ps_set (i := 3) sc_order_of.nd rfl (Or.inl rfl) pe_int)
      (pss_cons (ps_while PassesOwn.never (pw_and (pt_cmpR op_lt (pv 3) (pe_callB call_len (by rfl) T.b_len PyProof.Rows.Boot.«len» (pa_cons (pv 1) pa_nil)) (nomark _)) (pw_and1 (pt_val (pe_fn F_is_ahead (by decide) hr (by rfl) passE0 (pa_cons (pe_ix ix_list (pv 0) (pe_ix ix_list (pv 1) (pv 3) (fun _ _ => rfl)) (fun _ _ => rfl)) (pa_cons (pe_ix ix_list (pv 0) (pv 2) (fun _ _ => rfl)) pa_nil))) (fun _ => rfl)))).pt (pss_one (ps_aug (i := 3) sc_order_of.nd rfl (Or.inl rfl) pe_int ip_add)))
      (pss_one (ps_expr (pe_bm PySem.F.plainAttrs_list PySem.F.slot_list_insert PySem.F.type_list_insert mt_insert (pv 1) (pa_cons (pv 3) (pa_cons (pv 2) pa_nil))))))))
      (pss_one (ps_ret (pv 1))))), ?_⟩
  try dsimp only [cxK, cxK0]
  have hz := Al2.len al
  with_reducible refine seq_go fun N2 hN2 => ?_
  refine ⟨by show 0 ≤ sizeLine; decide, ?_⟩
  intro p2 n2
  obtain ⟨H2, q2, s2, e2⟩ := newO n2 (.lst [])
  rw [q2]
  clear q2
  have np : p ≠ p2 := ne_of_none hp n2
  have hp2 := s2 _ _ hp
  have al2 := bds_same al s2
  with_reducible refine g_go ?_
  with_reducible refine hN2 _ _ ?_
  with_reducible refine seq_go fun N2 hN2 => ?_
  with_reducible refine for_go fun B2 hB2 => ?_
  refine ⟨_, rfl, _, _, rfl, .inl ⟨_, SqL.of hp2, rfl⟩, _, rfl, by omega, by omega, for_range (n := xs.length) (fun i σ1 H1 => ∃ (u2 u3 : Option V), σ1 = [some (.ref p), some (.ref p2), u2, u3] ∧ But p2 H2 H1 ∧ H1 p2 = some (.lst (numV (ordN (ltI bs) i)))) ⟨_, _, rfl, But.refl _, e2⟩ ?_ ?_⟩
  · rintro i σ1 H3 hi ⟨u2, u3, rfl, s3, ho3⟩
    obtain ⟨x, hx⟩ : ∃ x, xs[i]? = some x := ⟨_, List.getElem?_eq_getElem hi⟩
    have lo := ordN_len (ltI bs) i
    with_reducible refine g_go ?_
    with_reducible refine hB2 _ _ _ fun E4 hE4 hR4 _ _ => ?_
    refine ⟨fun m σ1 H1 => ∃ t : Nat, σ1 = [some (.ref p), some (.ref p2), some (.int (0 + (i : Int))), some (.int (t : Int))] ∧ But p2 H2 H1 ∧ H1 p2 = some (.lst (numV (ordN (ltI bs) i))) ∧ t ≤ i ∧ m = i - t ∧ (∀ j y, j < t → (ordN (ltI bs) i)[j]? = some y → ltI bs y i = true), ⟨_, 0, rfl, s3, ho3, Nat.zero_le _, rfl, fun _ _ h => absurd h (by omega)⟩, ?_⟩
    rintro m σ1 H4 ⟨t, rfl, s4, ho4, ht, rfl, below⟩
    refine ⟨_, rfl, _, rfl, _, _, rfl, .inl ⟨_, SqL.of ho4, rfl⟩, _, _, rfl, rfl, _, rfl, ?_⟩
    refine if_dec (fun c => ?_) (fun c => ?_)
    · rw [numV_len, lo] at c
      have htl : t < i := by omega
      obtain ⟨y, hy⟩ : ∃ y, (ordN (ltI bs) i)[t]? = some y := ⟨_, List.getElem?_eq_getElem (by rw [lo]; exact htl)⟩
      have yi := ordN_lt (ltI bs) i y (List.mem_of_getElem? hy)
      obtain ⟨z, hz'⟩ : ∃ z, xs[y]? = some z := ⟨_, List.getElem?_eq_getElem (by omega)⟩
      have al4 := bds_but al2 s4 e2
      have hp4 := s4 _ _ np hp2
      obtain ⟨bi, hbi, pi, ai, ci, rfl, i1, i2, i3, i4, i5, i6, i7⟩ := Al2.get al4 hx
      obtain ⟨bz, hbz, pz, az, cz, rfl, z1, z2, z3, z4, z5, z6, z7⟩ := Al2.get al4 hz'
      refine ⟨_, rfl, _, rfl, _, rfl, p2, _, _, _, rfl, rfl, SqL.of ho4, atI_nat (numV_at hy), p, _, _, _, rfl, rfl, SqL.of hp4, atI_nat hz', _, rfl, _, rfl, p, _, _, _, rfl, rfl, SqL.of hp4, atI_z hx, _, _, _, _, _, _, _, _, _, _, _, _, rfl, z1, z2, z3, z4, z5, z6, z7, i1, i2, i3, i4, i5, i6, i7, fun H5 s5 => ⟨_, rfl, ?_⟩⟩
      have e := ltI_of hbz hbi
      refine if_dec (fun c2 => ?_) (fun c2 => ?_)
      · skip
        refine ⟨_, fun _ _ n => n, ?_⟩
        refine ⟨_, rfl, _, _, rfl, rfl, ?_⟩
        refine ⟨i - (t + 1), by omega, t + 1, rfl, s4.trans (But.of s5), s5 _ _ ho4, by omega, rfl, fun j y' hj hy' => ?_⟩
        by_cases ej : j = t
        · subst ej
          cases hy.symm.trans hy'
          rw [e]
          exact decide_eq_true c2
        · skip
          exact below j y' (by omega) hy'
      · have ho5 := s5 _ _ ho4
        have nlt : ∀ y', (ordN (ltI bs) i)[t]? = some y' → ltI bs y' i = false := fun y' h => by
          cases hy.symm.trans h
          rw [e]
          exact decide_eq_false c2
        have ei : (numV (ordN (ltI bs) i)).take t ++ V.int (0 + (i : Int)) :: (numV (ordN (ltI bs) i)).drop t = numV (ordN (ltI bs) (i + 1)) := by
          rw [Int.zero_add, numV_ins, insN_at _ t (by omega) below nlt]
          rfl
        refine ⟨_, rfl, .inl ⟨rfl, _, SqL.of ho5⟩, _, rfl, _, rfl, p2, _, _, t, rfl, rfl, ho5, by rw [numV_len, lo]; exact ht, by rw [numV_len, lo]; exact Nat.lt_of_le_of_lt (show i ≤ 12 by omega) (by decide), ?_⟩
        obtain ⟨H9, q9, s9, e9⟩ := newB (H := H5) (p := p2) (.lst ((numV (ordN (ltI bs) i)).take t ++ V.int (0 + (i : Int)) :: (numV (ordN (ltI bs) i)).drop t))
        try dsimp only
        rw [q9]
        clear q9
        rw [ei] at e9
        with_reducible refine hE4 _ _ ?_
        exact ⟨_, _, rfl, (s4.trans (But.of s5)).trans s9, e9⟩
    · skip
      refine iteF ?_
      rw [numV_len, lo] at c
      have nlt : ∀ y', (ordN (ltI bs) i)[t]? = some y' → ltI bs y' i = false := fun y' h => by
        have := (List.getElem?_eq_some_iff.mp h).1
        omega
      have ei : (numV (ordN (ltI bs) i)).take t ++ V.int (0 + (i : Int)) :: (numV (ordN (ltI bs) i)).drop t = numV (ordN (ltI bs) (i + 1)) := by
        rw [Int.zero_add, numV_ins, insN_at _ t (by omega) below nlt]
        rfl
      refine ⟨_, rfl, .inl ⟨rfl, _, SqL.of ho4⟩, _, rfl, _, rfl, p2, _, _, t, rfl, rfl, ho4, by rw [numV_len, lo]; exact ht, by rw [numV_len, lo]; exact Nat.lt_of_le_of_lt (show i ≤ 12 by omega) (by decide), ?_⟩
      obtain ⟨H9, q9, s9, e9⟩ := newB (H := H4) (p := p2) (.lst ((numV (ordN (ltI bs) i)).take t ++ V.int (0 + (i : Int)) :: (numV (ordN (ltI bs) i)).drop t))
      try dsimp only
      rw [q9]
      clear q9
      rw [ei] at e9
      with_reducible refine hE4 _ _ ?_
      exact ⟨_, _, rfl, s4.trans s9, e9⟩
  · rintro σ1 H3 ⟨u2, u3, rfl, s3, ho3⟩
    rw [hz] at ho3
    with_reducible refine hN2 _ _ ?_
    exact ⟨_, rfl, k p2 H3 (same_then_but n2 s2 s3) n2 ho3⟩
noncomputable def sp_in_order (K : PySem.W.Frag) : Sp := fun vs H Q _ => ∃ (p : Addr) (xs : List V) (bs : List Bod), vs = [.ref p] ∧ H p = some (.lst xs) ∧ Al2 (BdQ K H 2700) xs bs ∧ bs.length ≤ 12 ∧ ∀ (r : Addr) (ys : List V) (H1 : Hp), Same H H1 → H r = none → H1 r = some (.lst ys) → Al2 (BdQ K H1 2700) ys (sortQ bs) → Q (.ref r) H1
theorem sc_in_order : FnScope ["bodies"] ["bodies"] (defScope (top 27)) := ⟨rfl, rfl, rfl, by decide +kernel, rfl, by decide +kernel, by decide +kernel⟩
theorem ok_in_order (D : Df K mg "in_order" (top 27) ["bodies"]) (T : Tx K mg CK C) (F_order_of : Fn P w K mg base 3 "order_of" ["bodies"] (sp_order_of K)) : Fn P w K mg base 4 "in_order" ["bodies"] (sp_in_order K) := by
  refine D.ok0 sc_in_order (fun vs H Q E h => ?_) (fun f cdv A outer s H vs Q E hr h => ?_)
  · obtain ⟨p, xs, bs, rfl, _⟩ := h
    rfl
  obtain ⟨p, xs, bs, rfl, hp, al, l12, k⟩ := h
  refine ⟨_, (pss_one (ps_ret (@pe_lc _ _ _ _ _ _ _ _ _ _ ["bodies"] [0] rfl (pi_list (pe_fn F_order_of (by decide) hr (by rfl) passE0 (pa_cons (pv 0) pa_nil))) rfl (by decide) rfl (by decide) rfl (by decide) (cap_one (j := 0) rfl rfl rfl rfl (.inl rfl)) (fun y c h => h) (cap_fr rfl) (fun C z Hc fp => (pe_ix (ixL (K := K) rfl) (pv 1) (pv 0) (fun _ _ => rfl))) (fun _ => rfl)))), ?_⟩
  try dsimp only [cxK, cxK0]
  have hz := Al2.len al
  refine ⟨_, rfl, p, xs, bs, rfl, hp, al, l12, fun r H1 s1 nr e1 => ?_⟩
  have lo := ordN_len (ltI bs) bs.length
  have ol := ordN_lt (ltI bs) bs.length
  have hp1 := s1 _ _ hp
  have al1 := bds_same al s1
  refine ⟨r, rfl, ⟨_, SqL.of e1⟩, lc_list (K := K) (a := r) (xs := numV (ordN (ltI bs) bs.length)) (fun i ys H2 => i ≤ bs.length ∧ ys.length = i ∧ Same H1 H2 ∧ Al2 (BdQ K H2 2700) ys (permQ bs ((ordN (ltI bs) bs.length).take i))) ⟨Nat.zero_le _, rfl, Same.refl _, trivial⟩ (by rw [numV_len, lo]; exact Nat.le_trans l12 (by decide)) (fun i ys H2 ⟨_, e, _⟩ => e) (fun i ys H2 ⟨_, _, g, _⟩ => SqL.of (g _ _ e1)) ?_ ?_⟩
  · rintro i x ys H2 Q2 hx ⟨hl, le, sm, hy⟩ kq
    obtain ⟨y, ey, rfl⟩ := numV_get hx
    have yl := ol y (List.mem_of_getElem? ey)
    have hi : i < bs.length := by have := (List.getElem?_eq_some_iff.mp ey).1; omega
    obtain ⟨z, ez⟩ : ∃ z, xs[y]? = some z := ⟨_, List.getElem?_eq_getElem (by omega)⟩
    obtain ⟨b, hb, bq⟩ := Al2.get (bds_same al1 sm) ez
    refine ⟨_, rfl, _, rfl, p, _, _, _, rfl, rfl, SqL.of (sm _ _ hp1), atI_nat ez, kq _ _ ⟨by omega, by simp [le], sm, ?_⟩⟩
    rw [take_snoc ey, permQ_snoc hb]
    exact Al2.snoc hy bq
  · rintro ys H2 ⟨_, _, sm, hy⟩ pl hpl
    have s2 := same_new hpl (.lst ys)
    have en : (ordN (ltI bs) bs.length).take (numV (ordN (ltI bs) bs.length)).length = ordN (ltI bs) bs.length := by rw [numV_len, List.take_length]
    rw [en] at hy
    exact k pl ys _ (s1.trans (sm.trans s2)) (none_of_sm (s1.trans sm) hpl) upd_same (bds_same hy s2)
noncomputable def RefO (C : Nat → Addr) (L : Rat) (bs : List Bod) (H : Hp) (E : XK) : Prop := (∀ i, FirstU bs i → ∀ (d : Addr) (H1 : Hp), Same H H1 → H1 d = some (Xd d [("at", .int (i : Int))]) → E (.ref (C 1)) (some d) H1) ∧ (AllW bs → ∀ i, FirstO L bs i → ∀ (d : Addr) (H1 : Hp), Same H H1 → H1 d = some (Xd d [("at", .int (i : Int))]) → E (.ref (C 1)) (some d) H1)
noncomputable def spX_in_room (K : PySem.W.Frag) (C : Nat → Addr) : Sp := fun vs H Q E => ∃ (p : Addr) (xs : List V) (bs : List Bod) (q : Addr) (L : Rat) (u : Addr) (t : Rat), vs = [.ref p, .ref q, .ref u] ∧ H p = some (.lst xs) ∧ Al2 (BdQ K H 64) xs bs ∧ 1 ≤ bs.length ∧ bs.length ≤ 12 ∧ FQ K H q L ∧ FB 200 L ∧ FQ K H u t ∧ FB 600 t ∧ (AllW bs → (∀ b ∈ bs, Inrm L b) → 0 ≤ t → ∀ (r : Addr) (ys : List V) (H1 : Hp), Same H H1 → H r = none → H1 r = some (.lst ys) → Al2 (BdQ K H1 2700) ys (sortQ (bs.map (foldQ L t))) → Q (.ref r) H1) ∧ RefO C L bs H E ∧ (AllW bs → (∀ b ∈ bs, Inrm L b) → ¬ 0 ≤ t → ∀ H1, Same H H1 → E (.ref (C 0)) none H1)
theorem sc_in_room : FnScope ["world", "length", "moment"] ["world", "length", "moment"] (defScope (top 34)) := ⟨rfl, rfl, rfl, by decide +kernel, rfl, by decide +kernel, by decide +kernel⟩
theorem ok_in_room (D : Df K mg "in_room" (top 34) ["world", "length", "moment"]) (T : Tx K mg CK C) (F_refuse_unlike : Fn P w K mg base 3 "refuse_unlike" ["world"] (spX_refuse_unlike K C)) (F_refuse_outside : Fn P w K mg base 3 "refuse_outside" ["world", "length"] (spX_refuse_outside K C)) (F_refuse_below_nought : Fn P w K mg base 2 "refuse_below_nought" ["moment"] (spX_below K C)) (F_folded : Fn P w K mg base 5 "folded" ["body", "length", "moment"] (FoldS K)) (F_in_order : Fn P w K mg base 4 "in_order" ["bodies"] (sp_in_order K)) : Fn P w K mg base 6 "in_room" ["world", "length", "moment"] (spX_in_room K C) := by
  refine D.okX sc_in_room (fun vs H Q E h => ?_) (fun f cdv A outer s H vs Q E hr h => ?_)
  · obtain ⟨p, xs, bs, q, L, u, t, rfl, _⟩ := h
    rfl
  obtain ⟨p, xs, bs, q, L, u, t, rfl, hp, al, l1, l12, gL, dL, gt, dt, k, ⟨ku, ko⟩, km⟩ := h
  refine ⟨_, (pss_cons (ps_expr (pe_fn F_refuse_unlike (by decide) hr (by rfl) (passL plain_cxOf leaves_cxOf) (pa_cons (pv 0) pa_nil)))
      (pss_cons (ps_expr (pe_fn F_refuse_outside (by decide) hr (by rfl) (passL plain_cxOf leaves_cxOf) (pa_cons (pv 0) (pa_cons (pv 1) pa_nil))))
      (pss_cons (ps_expr (pe_fn F_refuse_below_nought (by decide) hr (by rfl) (passL plain_cxOf leaves_cxOf) (pa_cons (pv 2) pa_nil)))
      (pss_one (ps_ret (pe_fn F_in_order (by decide) hr (by rfl) (passL plain_cxOf leaves_cxOf) (pa_cons (@pe_lc _ _ _ _ _ _ _ _ _ _ ["length", "moment"] [1, 2] rfl (pi_list (pv 0)) rfl (by decide) rfl (by decide) rfl (by decide) (cap_two (j := 1) (j' := 2) rfl rfl rfl rfl (.inl rfl) rfl rfl rfl rfl (.inl rfl)) (cl_two rfl rfl) (cap_fr rfl) (fun C z Hc fp => (pe_fn F_folded (by decide) hr (by rfl) passE0 (pa_cons (pv 0) (pa_cons (pv 1) (pa_cons (pv 2) pa_nil))))) (fun _ => rfl)) pa_nil))))))), ?_⟩
  try dsimp only [cxK, cxK0]
  have hz := Al2.len al
  with_reducible refine seq_go fun N2 hN2 => ?_
  refine ⟨_, rfl, p, xs, bs, rfl, hp, bds_mono al (by decide), l1, l12, fun sw H1 s1 => ?_, ku⟩
  have hp1 := s1 _ _ hp
  with_reducible refine hN2 _ _ ?_
  with_reducible refine seq_go fun N2 hN2 => ?_
  refine ⟨_, rfl, _, rfl, p, xs, bs, q, L, rfl, hp1, bds_same al s1, l12, Kw.Same.tup s1 gL, dL, fun wi H2 s2 => ?_, fun i fi d H2 s2 hd => ko sw i fi d H2 (s1.trans s2) hd⟩
  have s12 := s1.trans s2
  with_reducible refine hN2 _ _ ?_
  with_reducible refine seq_go fun N2 hN2 => ?_
  refine ⟨_, rfl, u, t, rfl, Kw.Same.tup s12 gt, dt.mono (by decide), fun t0 H3 s3 => ?_, fun tn H3 s3 => km sw wi tn H3 (s12.trans s3)⟩
  have s13 := s12.trans s3
  have hp3 := s13 _ _ hp
  have al3 := bds_same al s13
  have L0 : 0 < L := by
    obtain ⟨b, hb⟩ : ∃ b, b ∈ bs := ⟨_, List.getElem_mem (show 0 < bs.length by omega)⟩
    have := wi b hb
    unfold Inrm at this
    grind
  with_reducible refine hN2 _ _ ?_
  refine ⟨_, rfl, p, rfl, ⟨_, SqL.of hp3⟩, lc_list (K := K) (a := p) (xs := xs) (fun i ys H' => i ≤ xs.length ∧ Same H3 H' ∧ Al2 (BdQ K H' 2700) ys ((bs.take i).map (foldQ L t))) ⟨Nat.zero_le _, Same.refl _, trivial⟩ (by rw [hz]; exact Nat.le_trans l12 (by decide)) (fun i ys H' ⟨l, _, e⟩ => by have := Al2.len e; simp at this; omega) (fun i ys H' ⟨_, g, _⟩ => SqL.of (g _ _ hp3)) ?_ ?_⟩
  · rintro i x ys H4 Q4 hx ⟨hl, s4, hy⟩ kq
    obtain ⟨b, hb, p2, a2, c2, rfl, e1, e2, e3, d1, d2, w1, w2⟩ := Al2.get al3 hx
    have hi : i < xs.length := (List.getElem?_eq_some_iff.mp hx).1
    have s14 := s13.trans s4
    refine ⟨_, rfl, _, rfl, _, rfl, p2, a2, c2, b.1, b.2.1, b.2.2, q, L, u, t, rfl, Kw.Same.tup s4 e1, Kw.Same.tup s4 e2, Kw.Same.tup s4 e3, d1, d2, w1, w2, Kw.Same.tup s14 gL, dL, L0, Kw.Same.tup s14 gt, dt, fun r H5 s5 one => ?_⟩
    refine kq _ _ ⟨by omega, s4.trans s5, ?_⟩
    rw [take_snoc hb, List.map_append]
    exact Al2.snoc (bds_same hy s5) one
  · rintro ys H4 ⟨_, s4, hy⟩ pl hpl
    rw [hz, List.take_length] at hy
    obtain ⟨H5, q5, s5, e5⟩ := newO hpl (.lst ys)
    rw [q5]
    clear q5
    refine ⟨pl, ys, _, rfl, e5, bds_same hy s5, by rw [List.length_map]; exact l12, fun r6 ys6 H6 s6 n6 e6 al6 => ?_⟩
    have s35 := s4.trans s5
    exact k sw wi t0 r6 ys6 H6 (s13.trans (s35.trans s6)) (none_of_sm (s13.trans s35) n6) e6 al6
noncomputable def spX_round_of (K : PySem.W.Frag) (C : Nat → Addr) : Sp := fun vs H Q E => ∃ (p : Addr) (xs : List V) (bs : List Bod) (q : Addr) (L : Rat), vs = [.ref p, .ref q] ∧ H p = some (.lst xs) ∧ Al2 (BdQ K H 64) xs bs ∧ 1 ≤ bs.length ∧ bs.length ≤ 12 ∧ FQ K H q L ∧ FB 200 L ∧ (AllW bs → ¬ ∀ b ∈ bs, Inrm L b) ∧ RefO C L bs H E
theorem sc_round_of : FnScope ["world", "length", "ring", "spots", "whole", "pace", "moment"] ["world", "length"] (defScope (top 40)) := ⟨rfl, rfl, rfl, by decide +kernel, rfl, by decide +kernel, by decide +kernel⟩
theorem ok_round_of (D : Df K mg "round_of" (top 40) ["world", "length"]) (T : Tx K mg CK C) (F_refuse_unlike : Fn P w K mg base 3 "refuse_unlike" ["world"] (spX_refuse_unlike K C)) (F_refuse_outside : Fn P w K mg base 3 "refuse_outside" ["world", "length"] (spX_refuse_outside K C)) : Fn P w K mg base 4 "round_of" ["world", "length"] (spX_round_of K C) := by
  refine D.okX sc_round_of (fun vs H Q E h => ?_) (fun f cdv A outer s H vs Q E hr h => ?_)
  · obtain ⟨p, xs, bs, q, L, rfl, _⟩ := h
    rfl
  obtain ⟨p, xs, bs, q, L, rfl, hp, al, l1, l12, gL, dL, no, ⟨ku, ko⟩⟩ := h
  refine ⟨_, (pss_cons (ps_expr (pe_fn F_refuse_unlike (by decide) hr (by rfl) (passL plain_cxOf leaves_cxOf) (pa_cons (pv 0) pa_nil)))
      (pss_cons (ps_expr (pe_fn F_refuse_outside (by decide) hr (by rfl) (passL plain_cxOf leaves_cxOf) (pa_cons (pv 0) (pa_cons (pv 1) pa_nil))))
      (pss_cons ps_never
      (pss_cons ps_never
      (pss_cons ps_never
      (pss_cons ps_never
      (pss_one ps_never))))))), ?_⟩
  try dsimp only [cxK, cxK0]
  with_reducible refine seq_go fun N2 hN2 => ?_
  refine ⟨_, rfl, p, xs, bs, rfl, hp, bds_mono al (by decide), l1, l12, fun sw H1 s1 => ?_, ku⟩
  have hp1 := s1 _ _ hp
  with_reducible refine hN2 _ _ ?_
  with_reducible refine seq_go fun N2 hN2 => ?_
  exact ⟨_, rfl, _, rfl, p, xs, bs, q, L, rfl, hp1, bds_same al s1, l12, Kw.Same.tup s1 gL, dL, fun wi H2 s2 => absurd wi (no sw), fun i fi d H2 s2 hd => ko sw i fi d H2 (s1.trans s2) hd⟩
theorem sc_law_cell : FnScope ["_law_script", "_law_k"] ["_law_script", "_law_k"] (defScope (top 42)) := ⟨rfl, rfl, rfl, by decide +kernel, rfl, by decide +kernel, by decide +kernel⟩
theorem ok_law_cell (D : Df K mg "_law_cell" (top 42) ["_law_script", "_law_k"]) (T : Tx K mg CK C) : Fn P w K mg base 1 "_law_cell" ["_law_script", "_law_k"] (spCell K) := by
  refine D.ok0 sc_law_cell (fun vs H Q E h => ?_) (fun f cdv A outer s H vs Q E hr h => ?_)
  · obtain ⟨a, k, rfl, _⟩ := h
    rfl
  obtain ⟨a, k, rfl, ⟨ns, hS, h63, hbd⟩, k0, k1, q⟩ := h
  refine ⟨_, (pss_cons (ps_if (pt_cmpR op_lt (pv 1) (pe_callB call_len (by rfl) T.b_len PyProof.Rows.Boot.«len» (pa_cons (pv 0) pa_nil)) (nomark _)) (pss_one (ps_ret (pe_ix ix_list (pv 0) (pv 1) (fun _ _ => rfl)))) pss_nil)
      (pss_one (ps_ret (pe_op op_add (pe_op op_mulB pe_int (pv 1)) pe_int)))), ?_⟩
  try dsimp only [cxK, cxK0]
  with_reducible refine seq_go fun N2 hN2 => ?_
  with_reducible refine if_go fun K2 hK2 => ?_
  refine ⟨_, rfl, _, rfl, _, _, rfl, .inl ⟨_, hS, rfl⟩, _, _, rfl, rfl, _, rfl, ?_⟩
  with_reducible refine hK2 _ _ ?_
  refine if_dec (fun c => ?_) (fun c => ?_)
  · rw [List.length_map] at c
    have hk : k.toNat < ns.length := by omega
    have ek : k = ((k.toNat : Nat) : Int) := by omega
    have z : atI (ns.map V.int) ((k.toNat : Nat) : Int) = some (.int ns[k.toNat]) := atI_nat (by rw [List.getElem?_map, List.getElem?_eq_getElem hk] <;> rfl)
    rw [← ek] at z
    exact ⟨_, rfl, _, rfl, a, _, _, _, rfl, rfl, hS, z, q _ (hbd _ (List.getElem_mem hk))⟩
  · skip
    with_reducible refine nil_go ?_
    with_reducible refine hN2 _ _ ?_
    refine ⟨_, rfl, _, _, rfl, rfl, mulOk_smallL (by decide) (by decide), _, _, rfl, rfl, q _ ?_⟩
    exact (Bd.small (by omega) (by omega)).mono (by decide)
theorem sc_law_mix : FnScope ["_law_cell_here", "_law_k", "_law_number"] ["_law_cell_here", "_law_k"] (defScope (top 43)) := ⟨rfl, rfl, rfl, by decide +kernel, rfl, by decide +kernel, by decide +kernel⟩
theorem ok_law_mix (D : Df K mg "_law_mix" (top 43) ["_law_cell_here", "_law_k"]) (T : Tx K mg CK C) : Fn P w K mg base 1 "_law_mix" ["_law_cell_here", "_law_k"] spMix := by
  refine D.ok0 sc_law_mix (fun vs H Q E h => ?_) (fun f cdv A outer s H vs Q E hr h => ?_)
  · obtain ⟨c, k, rfl, _⟩ := h
    rfl
  obtain ⟨c, k, rfl, hc, k0, k1, q⟩ := h
  refine ⟨_, (pss_cons (ps_set (i := 2) sc_law_mix.nd rfl (Or.inl rfl) (pe_op op_add (pe_op op_mulB (pe_op op_add (pv 0) pe_int) pe_int) (pe_op op_mulB pe_int (pv 1))))
      (pss_cons (ps_set (i := 2) sc_law_mix.nd rfl (Or.inl rfl) (pe_op op_add (pe_op op_mod (pe_op op_mulB (pv 2) (pv 2)) pe_int) (pv 1)))
      (pss_one (ps_ret (pe_op op_mod (pe_op op_mulB (pv 2) (pe_op op_add (pv 2) pe_int)) pe_int))))), ?_⟩
  try dsimp only [cxK, cxK0]
  have s1 : ∀ i : Int, -(2 ^ 64) < i → i < 2 ^ 64 → Bd 1048576 i := fun i h1 h2 => (Bd.small h1 h2).mono (by decide)
  have b1 : Bd 1048641 ((c + 1) * 40692) := ((hc.add (s1 1 (by decide) (by decide))).mul (Bd.small (i := 40692) (by decide) (by decide))).mono (by decide)
  have b2 : Bd 1048642 ((c + 1) * 40692 + 104729 * k) := (b1.add ((Bd.small (by omega) (by omega)).mono (by decide))).mono (by decide)
  with_reducible refine seq_go fun N2 hN2 => ?_
  refine ⟨_, rfl, _, _, rfl, rfl, _, _, rfl, rfl, mulOk_small (by decide) (by decide), _, rfl, _, _, rfl, rfl, mulOk_smallL (by decide) (by decide), _, _, rfl, rfl, ?_⟩
  with_reducible refine g_go ?_
  with_reducible refine hN2 _ _ ?_
  with_reducible refine seq_go fun N2 hN2 => ?_
  refine ⟨_, rfl, _, rfl, _, _, rfl, rfl, b2.ok b2 (by decide), _, _, rfl, rfl, (by show (0 : Int) < 2147483399; decide), _, rfl, _, _, rfl, rfl, ?_⟩
  have e0 := Int.emod_nonneg (((c + 1) * 40692 + 104729 * k) * ((c + 1) * 40692 + 104729 * k)) (show (2147483399 : Int) ≠ 0 by decide)
  have e1 := Int.emod_lt_of_pos (((c + 1) * 40692 + 104729 * k) * ((c + 1) * 40692 + 104729 * k)) (show (0 : Int) < 2147483399 by decide)
  with_reducible refine g_go ?_
  with_reducible refine hN2 _ _ ?_
  exact ⟨_, rfl, _, rfl, _, _, rfl, rfl, _, _, rfl, rfl, mulOk_smallL (by omega) (by omega), _, _, rfl, rfl, (by show (0 : Int) < 2147483563; decide), q _⟩
theorem sc_law_box : FnScope ["_law_script", "_law_k", "_law_here", "_law_number", "_law_j"] ["_law_script", "_law_k"] (defScope (top 44)) := ⟨rfl, rfl, rfl, by decide +kernel, rfl, by decide +kernel, by decide +kernel⟩
theorem ok_law_box (D : Df K mg "_law_box" (top 44) ["_law_script", "_law_k"]) (T : Tx K mg CK C) (F_law_cell : Fn P w K mg base 1 "_law_cell" ["_law_script", "_law_k"] (spCell K)) (F_law_mix : Fn P w K mg base 1 "_law_mix" ["_law_cell_here", "_law_k"] spMix) :
    Fn P w K mg base 2 "_law_box" ["_law_script", "_law_k"] (spBox K) := by
  refine D.ok0 sc_law_box (fun vs H Q E h => ?_) (fun f cdv A outer s H vs Q E hr h => ?_)
  · obtain ⟨a, k, rfl, _⟩ := h
    rfl
  obtain ⟨a, k, rfl, hS, k0, k1, q⟩ := h
  refine ⟨_, (pss_cons (ps_set (i := 2) sc_law_box.nd rfl (Or.inl rfl) (pe_fn F_law_cell (by decide) hr (by rfl) passE0 (pa_cons (pv 0) (pa_cons (pv 1) pa_nil))))
      (pss_cons (ps_if (pt_cmpR op_eq (pe_op op_mod (pv 2) pe_int) pe_int (nomark _)) (pss_one (ps_ret (pe_lst (pa_cons (pe_op op_fdivB (pv 2) pe_int) pa_nil)))) pss_nil)
      (pss_cons (ps_set (i := 3) sc_law_box.nd rfl (Or.inl rfl) pe_int)
      (pss_cons (ps_for PassesOwn.never rfl (pi_range1 (by rfl) T.b_range (pa_cons pe_int pa_nil)) (pg_name (i := 4) sc_law_box.nd rfl (Or.inl rfl)) (pss_one (ps_set (i := 3) sc_law_box.nd rfl (Or.inl rfl) (pe_op op_add (pe_op op_mulB (pv 3) pe_int) (pe_fn F_law_mix (by decide) hr (by rfl) passE0 (pa_cons (pv 2) (pa_cons (pv 4) pa_nil)))))))
      (pss_one (ps_ret (pe_lst (pa_cons (pv 3) pa_nil)))))))), ?_⟩
  try dsimp only [cxK, cxK0]
  with_reducible refine seq_go fun N2 hN2 => ?_
  refine ⟨_, rfl, _, rfl, a, k, rfl, hS, k0, k1, fun c hc => ?_⟩
  with_reducible refine g_go ?_
  with_reducible refine hN2 _ _ ?_
  with_reducible refine seq_go fun N2 hN2 => ?_
  with_reducible refine if_go fun K2 hK2 => ?_
  refine ⟨_, rfl, _, _, rfl, rfl, (by show (0 : Int) < 2; decide), rfl, _, rfl, ?_⟩
  with_reducible refine hK2 _ _ ?_
  refine if_decI (fun z => ?_) (fun z => ?_)
  · skip
    refine ⟨_, rfl, _, _, rfl, rfl, ⟨by decide, by decide +kernel⟩, (by show 1 ≤ sizeLine; decide), fun p hp => ?_⟩
    exact q p _ _ hp (same_new hp _) upd_same
  with_reducible refine nil_go ?_
  with_reducible refine hN2 _ _ ?_
  refine ⟨_, rfl, by decide, by decide, for_range (n := 16) (fun i σ' H' => ∃ (n : Int) (r : Option V), σ' = [some (.ref a), some (.int k), some (.int c), some (.int n), r] ∧ H' = H) ⟨_, _, rfl, rfl⟩ ?_ ?_⟩
  · rintro i σ' H' hi ⟨n, r, rfl, rfl⟩
    with_reducible refine g_go ?_
    refine ⟨_, rfl, _, _, rfl, rfl, mulOk_small (by decide) (by decide), _, rfl, _, rfl, c, _, rfl, hc, by omega, by omega, fun m => ?_⟩
    exact ⟨_, _, rfl, rfl, _, _, rfl, rfl⟩
  · rintro σ' H' ⟨n, r, rfl, rfl⟩
    refine ⟨_, rfl, (by show 1 ≤ sizeLine; decide), fun p hp => ?_⟩
    exact q p _ _ hp (same_new hp _) upd_same
theorem sc_law_take : FnScope ["_law_box_here", "_law_many", "_law_left", "_law_digit"] ["_law_box_here", "_law_many"] (defScope (top 45)) := ⟨rfl, rfl, rfl, by decide +kernel, rfl, by decide +kernel, by decide +kernel⟩
theorem ok_law_take (D : Df K mg "_law_take" (top 45) ["_law_box_here", "_law_many"]) (T : Tx K mg CK C) : Fn P w K mg base 1 "_law_take" ["_law_box_here", "_law_many"] spTake := by
  refine D.ok0 sc_law_take (fun vs H Q E h => ?_) (fun f cdv A outer s H vs Q E hr h => ?_)
  · obtain ⟨b, m, n, rfl, _⟩ := h
    rfl
  obtain ⟨b, m, n, rfl, hb, m0, hm, q⟩ := h
  refine ⟨_, (pss_cons (ps_asg (pe_callB call_divmodB (by rfl) T.b_divmod PyProof.Rows.Boot.«divmod» (pa_cons (pe_ix ix_list (pv 0) pe_int (fun _ _ => rfl)) (pa_cons (pv 1) pa_nil))) (pg_tup rfl (pgs_cons (pg_name (i := 2) sc_law_take.nd rfl (Or.inl rfl)) (pgs_cons (pg_name (i := 3) sc_law_take.nd rfl (Or.inl rfl)) pgs_nil))))
      (pss_cons (ps_asg (pv 2) (pg_sub (pv 0) pe_int set_list))
      (pss_one (ps_ret (pv 3))))), ?_⟩
  try dsimp only [cxK, cxK0]
  with_reducible refine seq_go fun N2 hN2 => ?_
  refine ⟨_, rfl, b, _, _, _, rfl, rfl, SqL.of hb, rfl, _, rfl, n, m, rfl, ⟨m0, hm.log⟩, ?_⟩
  intro p hp0
  have sm := same_new hp0 (.tup [.int (n / m), .int (n % m)])
  have hp : upd H p (.tup [.int (n / m), .int (n % m)]) p = some (.tup [.int (n / m), .int (n % m)]) := upd_same
  refine ⟨p, _, rfl, SqT.of hp, rfl, _, _, rfl, _, _, rfl, rfl, ?_⟩
  with_reducible refine hN2 _ _ ?_
  refine ⟨_, rfl, _, rfl, b, _, _, 0, rfl, rfl, sm _ _ hb, rfl, _, rfl, ?_⟩
  have d0 := Int.emod_nonneg n (show m ≠ 0 by omega)
  have d1 := Int.emod_lt_of_pos n m0
  exact q (n % m) (n / m) _ d0 d1 ((But.of sm).trans (but_upd _)) upd_same
theorem sc_law_fit : FnScope ["_law_top", "_law_bottom", "_law_one", "_law_other"] ["_law_top", "_law_bottom"] (defScope (top 46)) := ⟨rfl, rfl, rfl, by decide +kernel, rfl, by decide +kernel, by decide +kernel⟩
theorem ok_law_fit0 (D : Df K mg "_law_fit" (top 46) ["_law_top", "_law_bottom"]) (T : Tx K mg CK C) : Fn P w K mg base 1 "_law_fit" ["_law_top", "_law_bottom"] spFit := by
  refine D.ok0 sc_law_fit (fun vs H Q E h => ?_) (fun f cdv A outer s H vs Q E hr h => ?_)
  · obtain ⟨a, b, rfl, _⟩ := h
    rfl
  obtain ⟨a, b, rfl, c, hb, hq⟩ := h
  refine ⟨_, (pss_cons (ps_par (i := 2) (j := 3) rfl sc_law_fit.nd rfl rfl (by decide) rfl rfl (pa_cons (pe_callB call_abs (by rfl) T.b_abs PyProof.Rows.Boot.«abs» (pa_cons (pv 0) pa_nil)) (pa_cons (pe_callB call_abs (by rfl) T.b_abs PyProof.Rows.Boot.«abs» (pa_cons (pv 1) pa_nil)) pa_nil)) rfl)
      (pss_cons (ps_while PassesOwn.never (pt_cmpR op_gt (pv 3) pe_int (nomark _)) (pss_one (ps_par (i := 2) (j := 3) rfl sc_law_fit.nd rfl rfl (by decide) rfl rfl (pa_cons (pv 3) (pa_cons (pe_op op_mod (pv 2) (pv 3)) pa_nil)) rfl)))
      (pss_cons (ps_if (pt_cmpR op_lt (pv 1) pe_int (nomark _)) (pss_one (ps_set (i := 2) sc_law_fit.nd rfl (Or.inl rfl) (pe_op op_sub pe_int (pv 2)))) pss_nil)
      (pss_one (ps_ret (pe_tup (pa_cons (pe_op op_fdivB (pv 0) (pv 2)) (pa_cons (pe_op op_fdivB (pv 1) (pv 2)) pa_nil)))))))), ?_⟩
  try dsimp only [cxK, cxK0]
  with_reducible refine seq_go fun N2 hN2 => ?_
  refine ⟨_, rfl, _, rfl, _, rfl, _, rfl, _, _, rfl, ?_⟩
  with_reducible refine hN2 _ _ ?_
  with_reducible refine seq_go fun N2 hN2 => ?_
  with_reducible refine while_go fun B2 hB2 => ?_
  refine ⟨fun m σ' H' => ∃ g s : Int, σ' = [some (.int a), some (.int b), some (.int g), some (.int s)] ∧ H' = H ∧ 0 ≤ g ∧ 0 ≤ s ∧ m = s.toNat ∧ Int.gcd g s = Int.gcd a b, ⟨_, _, _, rfl, rfl, abs_nn a, abs_nn b, rfl, gcd_abs a b⟩, ?_⟩
  rintro m σ' H' ⟨g, s, rfl, rfl, hg, hs, rfl, e⟩
  refine ⟨_, rfl, _, _, rfl, rfl, _, rfl, ?_⟩
  refine if_dec (fun c => ?_) (fun z => ?_)
  · skip
    refine ⟨_, fun _ _ n => n, ?_⟩
    with_reducible refine hB2 _ _ _ fun E4 hE4 hR4 _ _ => ?_
    refine ⟨_, rfl, _, rfl, _, rfl, _, _, rfl, rfl, c, _, _, rfl, ?_⟩
    have l := Int.emod_lt_of_pos g c
    have l0 := Int.emod_nonneg g (show s ≠ 0 by omega)
    with_reducible refine hE4 _ _ ?_
    exact ⟨_, by omega, s, g % s, rfl, rfl, by omega, l0, rfl, (gcd_step g s hg c).trans e⟩
  · have s0 : s = 0 := by omega
    subst s0
    have z := gcd_end g hg
    rw [e] at z
    subst z
    have hd : (if b < 0 then -((Int.gcd a b : Nat) : Int) else ((Int.gcd a b : Nat) : Int)) = dv a b := rfl
    have lg := (bd_dv (t := a) c hb).log
    with_reducible refine hN2 _ _ ?_
    with_reducible refine seq_go fun N4 hN4 => ?_
    with_reducible refine if_go fun K4 hK4 => ?_
    refine ⟨_, rfl, _, _, rfl, rfl, _, rfl, ?_⟩
    with_reducible refine hK4 _ _ ?_
    refine if_dec (fun n => ?_) (fun n => ?_)
    · rw [if_pos n] at hd
      refine ⟨_, rfl, _, _, rfl, rfl, ?_⟩
      try dsimp only
      rw [show (0 : Int) - ((Int.gcd a b : Nat) : Int) = dv a b by rw [← hd]; omega]
      with_reducible refine g_go ?_
      with_reducible refine hN4 _ _ ?_
      refine ⟨_, rfl, _, rfl, _, _, rfl, rfl, ⟨dv_ne c, lg⟩, _, rfl, _, rfl, _, _, rfl, rfl, ⟨dv_ne c, lg⟩, by show 2 ≤ sizeLine; decide, ?_⟩
      exact rd_new fun p H' sm hp => hq p H' sm hp
    · rw [if_neg n] at hd
      rw [hd]
      with_reducible refine nil_go ?_
      with_reducible refine hN4 _ _ ?_
      refine ⟨_, rfl, _, rfl, _, _, rfl, rfl, ⟨dv_ne c, lg⟩, _, rfl, _, rfl, _, _, rfl, rfl, ⟨dv_ne c, lg⟩, by show 2 ≤ sizeLine; decide, ?_⟩
      exact rd_new fun p H' sm hp => hq p H' sm hp
noncomputable def sp_law_fit (K : PySem.W.Frag) : Sp := fun vs H Q _ => ∃ (a : Int) (b : Int), vs = [.int a, .int b] ∧ Bd 9000 b ∧ b ≠ 0 ∧ (∀ (p_r : Addr) (H1 : Hp), Same H H1 → FQ K H1 p_r (Rat.divInt a b) → Q (.ref p_r) H1)
theorem ok_law_fit (D : Df K mg "_law_fit" (top 46) ["_law_top", "_law_bottom"]) (T : Tx K mg CK C) : Fn P w K mg base 1 "_law_fit" ["_law_top", "_law_bottom"] (sp_law_fit K) :=
  (ok_law_fit0 D T).imp fun vs H Q E h => by
    obtain ⟨a, b, rfl, hb, b0, k⟩ := h
    exact ⟨a, b, rfl, b0, hb, fun p H' s e => k p H' s (FQ.fit b0 (SqT.of e))⟩
noncomputable def sp_law_plus (K : PySem.W.Frag) : Sp := fun vs H Q _ => ∃ (p_x : Addr) (x : Rat) (n_x : Nat) (p_y : Addr) (y : Rat) (n_y : Nat), vs = [.ref p_x, .ref p_y] ∧ FQ K H p_x x ∧ FB n_x x ∧ FQ K H p_y y ∧ FB n_y y ∧ n_x + n_y ≤ 8950 ∧ (∀ (p_r : Addr) (H1 : Hp), Same H H1 → FQ K H1 p_r (x + y) → Q (.ref p_r) H1)
theorem sc_law_plus : FnScope ["_law_one", "_law_other"] ["_law_one", "_law_other"] (defScope (top 47)) := ⟨rfl, rfl, rfl, by decide +kernel, rfl, by decide +kernel, by decide +kernel⟩
theorem ok_law_plus (D : Df K mg "_law_plus" (top 47) ["_law_one", "_law_other"]) (T : Tx K mg CK C) (F_law_fit : Fn P w K mg base 1 "_law_fit" ["_law_top", "_law_bottom"] (sp_law_fit K)) : Fn P w K mg base 2 "_law_plus" ["_law_one", "_law_other"] (sp_law_plus K) := by
  refine D.ok0 sc_law_plus (fun vs H Q E h => ?_) (fun f cdv A outer s H vs Q E hr h => ?_)
  · obtain ⟨p, x, n, q, y, m, rfl, _⟩ := h
    rfl
  obtain ⟨p, x, n, q, y, m, rfl, hp, dx, hq, dy, hn, k⟩ := h
  refine ⟨_, (pss_one (ps_ret (pe_fn F_law_fit (by decide) hr (by rfl) passE0 (pa_cons (pe_op op_add (pe_op op_mulB (pe_ix ix_tup (pv 0) pe_int (fun _ _ => rfl)) (pe_ix ix_tup (pv 1) pe_int (fun _ _ => rfl))) (pe_op op_mulB (pe_ix ix_tup (pv 1) pe_int (fun _ _ => rfl)) (pe_ix ix_tup (pv 0) pe_int (fun _ _ => rfl)))) (pa_cons (pe_op op_mulB (pe_ix ix_tup (pv 0) pe_int (fun _ _ => rfl)) (pe_ix ix_tup (pv 1) pe_int (fun _ _ => rfl))) pa_nil))))), ?_⟩
  try dsimp only [cxK, cxK0]
  refine ⟨_, rfl, p, _, _, _, rfl, rfl, hp, rfl, _, rfl, q, _, _, _, rfl, rfl, hq, rfl, _, _, rfl, rfl, dx.1.ok dy.2 (by omega), _, rfl, q, _, _, _, rfl, rfl, hq, rfl, _, rfl, p, _, _, _, rfl, rfl, hp, rfl, _, _, rfl, rfl, dy.1.ok dx.2 (by omega), _, _, rfl, rfl, _, rfl, p, _, _, _, rfl, rfl, hp, rfl, _, rfl, q, _, _, _, rfl, rfl, hq, rfl, _, _, rfl, rfl, dx.2.ok dy.2 (by omega), _, _, rfl, (dx.2.mul dy.2).mono (by omega), Int.mul_ne_zero (q_ne _) (q_ne _), fun r H1 s1 g1 => k r H1 s1 (FQ.cast g1 (q_add x y))⟩
noncomputable def sp_law_minus (K : PySem.W.Frag) : Sp := fun vs H Q _ => ∃ (p_x : Addr) (x : Rat) (n_x : Nat) (p_y : Addr) (y : Rat) (n_y : Nat), vs = [.ref p_x, .ref p_y] ∧ FQ K H p_x x ∧ FB n_x x ∧ FQ K H p_y y ∧ FB n_y y ∧ n_x + n_y ≤ 8950 ∧ (∀ (p_r : Addr) (H1 : Hp), Same H H1 → FQ K H1 p_r (x - y) → Q (.ref p_r) H1)
theorem sc_law_minus : FnScope ["_law_one", "_law_other"] ["_law_one", "_law_other"] (defScope (top 48)) := ⟨rfl, rfl, rfl, by decide +kernel, rfl, by decide +kernel, by decide +kernel⟩
theorem ok_law_minus (D : Df K mg "_law_minus" (top 48) ["_law_one", "_law_other"]) (T : Tx K mg CK C) (F_law_fit : Fn P w K mg base 1 "_law_fit" ["_law_top", "_law_bottom"] (sp_law_fit K)) : Fn P w K mg base 2 "_law_minus" ["_law_one", "_law_other"] (sp_law_minus K) := by
  refine D.ok0 sc_law_minus (fun vs H Q E h => ?_) (fun f cdv A outer s H vs Q E hr h => ?_)
  · obtain ⟨p, x, n, q, y, m, rfl, _⟩ := h
    rfl
  obtain ⟨p, x, n, q, y, m, rfl, hp, dx, hq, dy, hn, k⟩ := h
  refine ⟨_, (pss_one (ps_ret (pe_fn F_law_fit (by decide) hr (by rfl) passE0 (pa_cons (pe_op op_sub (pe_op op_mulB (pe_ix ix_tup (pv 0) pe_int (fun _ _ => rfl)) (pe_ix ix_tup (pv 1) pe_int (fun _ _ => rfl))) (pe_op op_mulB (pe_ix ix_tup (pv 1) pe_int (fun _ _ => rfl)) (pe_ix ix_tup (pv 0) pe_int (fun _ _ => rfl)))) (pa_cons (pe_op op_mulB (pe_ix ix_tup (pv 0) pe_int (fun _ _ => rfl)) (pe_ix ix_tup (pv 1) pe_int (fun _ _ => rfl))) pa_nil))))), ?_⟩
  try dsimp only [cxK, cxK0]
  refine ⟨_, rfl, p, _, _, _, rfl, rfl, hp, rfl, _, rfl, q, _, _, _, rfl, rfl, hq, rfl, _, _, rfl, rfl, dx.1.ok dy.2 (by omega), _, rfl, q, _, _, _, rfl, rfl, hq, rfl, _, rfl, p, _, _, _, rfl, rfl, hp, rfl, _, _, rfl, rfl, dy.1.ok dx.2 (by omega), _, _, rfl, rfl, _, rfl, p, _, _, _, rfl, rfl, hp, rfl, _, rfl, q, _, _, _, rfl, rfl, hq, rfl, _, _, rfl, rfl, dx.2.ok dy.2 (by omega), _, _, rfl, (dx.2.mul dy.2).mono (by omega), Int.mul_ne_zero (q_ne _) (q_ne _), fun r H1 s1 g1 => k r H1 s1 (FQ.cast g1 (q_sub x y))⟩
noncomputable def sp_law_times (K : PySem.W.Frag) : Sp := fun vs H Q _ => ∃ (p_x : Addr) (x : Rat) (n_x : Nat) (p_y : Addr) (y : Rat) (n_y : Nat), vs = [.ref p_x, .ref p_y] ∧ FQ K H p_x x ∧ FB n_x x ∧ FQ K H p_y y ∧ FB n_y y ∧ n_x + n_y ≤ 8950 ∧ (∀ (p_r : Addr) (H1 : Hp), Same H H1 → FQ K H1 p_r (x * y) → Q (.ref p_r) H1)
theorem sc_law_times : FnScope ["_law_one", "_law_other"] ["_law_one", "_law_other"] (defScope (top 49)) := ⟨rfl, rfl, rfl, by decide +kernel, rfl, by decide +kernel, by decide +kernel⟩
theorem ok_law_times (D : Df K mg "_law_times" (top 49) ["_law_one", "_law_other"]) (T : Tx K mg CK C) (F_law_fit : Fn P w K mg base 1 "_law_fit" ["_law_top", "_law_bottom"] (sp_law_fit K)) : Fn P w K mg base 2 "_law_times" ["_law_one", "_law_other"] (sp_law_times K) := by
  refine D.ok0 sc_law_times (fun vs H Q E h => ?_) (fun f cdv A outer s H vs Q E hr h => ?_)
  · obtain ⟨p, x, n, q, y, m, rfl, _⟩ := h
    rfl
  obtain ⟨p, x, n, q, y, m, rfl, hp, dx, hq, dy, hn, k⟩ := h
  refine ⟨_, (pss_one (ps_ret (pe_fn F_law_fit (by decide) hr (by rfl) passE0 (pa_cons (pe_op op_mulB (pe_ix ix_tup (pv 0) pe_int (fun _ _ => rfl)) (pe_ix ix_tup (pv 1) pe_int (fun _ _ => rfl))) (pa_cons (pe_op op_mulB (pe_ix ix_tup (pv 0) pe_int (fun _ _ => rfl)) (pe_ix ix_tup (pv 1) pe_int (fun _ _ => rfl))) pa_nil))))), ?_⟩
  try dsimp only [cxK, cxK0]
  refine ⟨_, rfl, p, _, _, _, rfl, rfl, hp, rfl, _, rfl, q, _, _, _, rfl, rfl, hq, rfl, _, _, rfl, rfl, dx.1.ok dy.1 (by omega), _, rfl, p, _, _, _, rfl, rfl, hp, rfl, _, rfl, q, _, _, _, rfl, rfl, hq, rfl, _, _, rfl, rfl, dx.2.ok dy.2 (by omega), _, _, rfl, (dx.2.mul dy.2).mono (by omega), Int.mul_ne_zero (q_ne _) (q_ne _), fun r H1 s1 g1 => k r H1 s1 (FQ.cast g1 (q_mul x y))⟩
noncomputable def sp_law_over (K : PySem.W.Frag) : Sp := fun vs H Q _ => ∃ (p_x : Addr) (x : Rat) (n_x : Nat) (p_y : Addr) (y : Rat) (n_y : Nat), vs = [.ref p_x, .ref p_y] ∧ FQ K H p_x x ∧ FB n_x x ∧ FQ K H p_y y ∧ FB n_y y ∧ n_x + n_y ≤ 8950 ∧ y ≠ 0 ∧ (∀ (p_r : Addr) (H1 : Hp), Same H H1 → FQ K H1 p_r (x / y) → Q (.ref p_r) H1)
theorem sc_law_over : FnScope ["_law_one", "_law_other"] ["_law_one", "_law_other"] (defScope (top 50)) := ⟨rfl, rfl, rfl, by decide +kernel, rfl, by decide +kernel, by decide +kernel⟩
theorem ok_law_over (D : Df K mg "_law_over" (top 50) ["_law_one", "_law_other"]) (T : Tx K mg CK C) (F_law_fit : Fn P w K mg base 1 "_law_fit" ["_law_top", "_law_bottom"] (sp_law_fit K)) : Fn P w K mg base 2 "_law_over" ["_law_one", "_law_other"] (sp_law_over K) := by
  refine D.ok0 sc_law_over (fun vs H Q E h => ?_) (fun f cdv A outer s H vs Q E hr h => ?_)
  · obtain ⟨p, x, n, q, y, m, rfl, _⟩ := h
    rfl
  obtain ⟨p, x, n, q, y, m, rfl, hp, dx, hq, dy, hn, y0, k⟩ := h
  refine ⟨_, (pss_one (ps_ret (pe_fn F_law_fit (by decide) hr (by rfl) passE0 (pa_cons (pe_op op_mulB (pe_ix ix_tup (pv 0) pe_int (fun _ _ => rfl)) (pe_ix ix_tup (pv 1) pe_int (fun _ _ => rfl))) (pa_cons (pe_op op_mulB (pe_ix ix_tup (pv 0) pe_int (fun _ _ => rfl)) (pe_ix ix_tup (pv 1) pe_int (fun _ _ => rfl))) pa_nil))))), ?_⟩
  try dsimp only [cxK, cxK0]
  refine ⟨_, rfl, p, _, _, _, rfl, rfl, hp, rfl, _, rfl, q, _, _, _, rfl, rfl, hq, rfl, _, _, rfl, rfl, dx.1.ok dy.2 (by omega), _, rfl, p, _, _, _, rfl, rfl, hp, rfl, _, rfl, q, _, _, _, rfl, rfl, hq, rfl, _, _, rfl, rfl, dx.2.ok dy.1 (by omega), _, _, rfl, (dx.2.mul dy.1).mono (by omega), Int.mul_ne_zero (q_ne _) (q_num_ne y0), fun r H1 s1 g1 => k r H1 s1 (FQ.cast g1 (q_div x y))⟩
noncomputable def sp_law_less (K : PySem.W.Frag) : Sp := fun vs H Q _ => ∃ (p_x : Addr) (x : Rat) (p_y : Addr) (y : Rat), vs = [.ref p_x, .ref p_y] ∧ FQ K H p_x x ∧ FB 60000 x ∧ FQ K H p_y y ∧ FB 60000 y ∧ (∀  (H1 : Hp), Same H H1 → Q (.bl (decide (x < y))) H1)
theorem sc_law_less : FnScope ["_law_one", "_law_other"] ["_law_one", "_law_other"] (defScope (top 51)) := ⟨rfl, rfl, rfl, by decide +kernel, rfl, by decide +kernel, by decide +kernel⟩
theorem ok_law_less (D : Df K mg "_law_less" (top 51) ["_law_one", "_law_other"]) (T : Tx K mg CK C) : Fn P w K mg base 1 "_law_less" ["_law_one", "_law_other"] (sp_law_less K) := by
  refine D.ok0 sc_law_less (fun vs H Q E h => ?_) (fun f cdv A outer s H vs Q E hr h => ?_)
  · obtain ⟨p_x, x, p_y, y, rfl, _⟩ := h
    rfl
  obtain ⟨p_x, x, p_y, y, rfl, g_x, d_x, g_y, d_y, k0⟩ := h
  refine ⟨_, (pss_one (ps_ret (pe_cmpR op_lt (pe_op op_mulB (pe_ix ix_tup (pv 0) pe_int (fun _ _ => rfl)) (pe_ix ix_tup (pv 1) pe_int (fun _ _ => rfl))) (pe_op op_mulB (pe_ix ix_tup (pv 1) pe_int (fun _ _ => rfl)) (pe_ix ix_tup (pv 0) pe_int (fun _ _ => rfl))) (nomark _)))), ?_⟩
  try dsimp only [cxK, cxK0]
  refine ⟨_, rfl, p_x, _, _, _, rfl, rfl, g_x, rfl, _, rfl, p_y, _, _, _, rfl, rfl, g_y, rfl, _, _, rfl, rfl, (d_x.1.ok d_y.2 (by decide)), _, rfl, p_y, _, _, _, rfl, rfl, g_y, rfl, _, rfl, p_x, _, _, _, rfl, rfl, g_x, rfl, _, _, rfl, rfl, (d_y.1.ok d_x.2 (by decide)), _, _, rfl, rfl, ?_⟩
  try dsimp only
  rw [show decide (((x).num * (((y).den : Nat) : Int)) < ((y).num * (((x).den : Nat) : Int))) = decide (x < y) from decide_eq_decide.mpr (by exact (q_lt x y).symm)]
  exact k0 _ (Same.refl _)
noncomputable def sp_law_small (K : PySem.W.Frag) : Sp := fun vs H Q _ => ∃ (bx : Addr) (n_bx : Int), vs = [.ref bx] ∧ H bx = some (.lst [.int n_bx]) ∧ (∀ (p_r : Addr) (r : Rat) (H1 : Hp) (n1 : Int), But bx H H1 → H1 bx = some (.lst [.int n1]) → FQ K H1 p_r (r) → FB 70 r → Six 72 r → Q (.ref p_r) H1)
theorem sc_law_small : FnScope ["_law_box_here"] ["_law_box_here"] (defScope (top 52)) := ⟨rfl, rfl, rfl, by decide +kernel, rfl, by decide +kernel, by decide +kernel⟩
theorem ok_law_small (D : Df K mg "_law_small" (top 52) ["_law_box_here"]) (T : Tx K mg CK C) (F_law_take : Fn P w K mg base 1 "_law_take" ["_law_box_here", "_law_many"] spTake) (F_law_fit : Fn P w K mg base 1 "_law_fit" ["_law_top", "_law_bottom"] (sp_law_fit K)) : Fn P w K mg base 2 "_law_small" ["_law_box_here"] (sp_law_small K) := by
  refine D.ok0 sc_law_small (fun vs H Q E h => ?_) (fun f cdv A outer s H vs Q E hr h => ?_)
  · obtain ⟨bx, n_bx, rfl, _⟩ := h
    rfl
  obtain ⟨bx, n_bx, rfl, hb_bx, k0⟩ := h
  refine ⟨_, (pss_one (ps_ret (pe_fn F_law_fit (by decide) hr (by rfl) passE0 (pa_cons (pe_op op_sub (pe_fn F_law_take (by decide) hr (by rfl) passE0 (pa_cons (pv 0) (pa_cons pe_int pa_nil))) pe_int) (pa_cons (pe_ix ix_list (pe_lst (pa_cons pe_int (pa_cons pe_int (pa_cons pe_int (pa_cons pe_int pa_nil))))) (pe_fn F_law_take (by decide) hr (by rfl) passE0 (pa_cons (pv 0) (pa_cons pe_int pa_nil))) (fun _ _ => rfl)) pa_nil))))), ?_⟩
  try dsimp only [cxK, cxK0]
  refine ⟨_, rfl, _, _, _, rfl, hb_bx, (by decide +kernel), ((Bd.small (i := (25 : Int)) (by decide) (by decide)).mono (by decide)), fun d12 n12 H12 lo12 hi12 s12 hb12 => ?_⟩
  refine ⟨_, _, rfl, rfl, by show 4 ≤ sizeLine; decide, ?_⟩
  intro p13 n13
  obtain ⟨H13, q13, s13, e13⟩ := newO n13 (.lst [.int ((1 : Int)), .int ((1 : Int)), .int ((2 : Int)), .int ((3 : Int))])
  rw [q13]
  clear q13
  have hB14 := s13 _ _ hb12
  have h13 := SqL.of (K := K) e13
  have ap13 : p13 ≠ bx := fun z => by rw [z, hb12] at n13; cases n13
  refine ⟨_, rfl, _, _, _, rfl, hB14, (by decide +kernel), ((Bd.small (i := (4 : Int)) (by decide) (by decide)).mono (by decide)), fun d15 n15 H15 lo15 hi15 s15 hb15 => ?_⟩
  obtain ⟨v16, ev16, m17⟩ := atI_mem ([(1 : Int), (1 : Int), (2 : Int), (3 : Int)] : List Int) d15 (by omega) (by show _ < (4 : Int); omega)
  have bv16 : 1 ≤ v16 ∧ v16 ≤ 3 := (show ∀ z ∈ ([(1 : Int), (1 : Int), (2 : Int), (3 : Int)] : List Int), 1 ≤ z ∧ z ≤ 3 by decide +kernel) v16 m17
  replace h13 := (But.seq s15 ap13 h13)
  refine ⟨p13, _, _, _, rfl, rfl, h13, ev16, _, _, rfl, ((Bd.small (i := v16) (by omega) (by omega)).mono (by decide)), (by omega), fun p_r18 H18 s18 g_r18 => ?_⟩
  have hB19 := s18 _ _ hb15
  have d_r18 : FB 65 (Rat.divInt ((d12 - (12 : Int))) v16) := (FB.mono (FB.fit (by omega) ((Bd.sub ((Bd.small (i := d12) (by omega) (by omega)).mono (n := 64) (by decide)) ((Bd.small (i := (12 : Int)) (by decide) (by decide)).mono (n := 64) (by decide))).mono (n := 65) (by decide)) ((Bd.small (i := v16) (by omega) (by omega)).mono (n := 65) (by decide))) (by decide))
  exact k0 _ _ _ _ (s12.trans ((But.of s13).trans (s15.trans (But.of s18)))) hB19 g_r18 (FB.mono d_r18 (by decide)) (by exact (six_fit (N := 12) (by omega) (by omega) (by omega) (by omega)).mono (by decide))
theorem sc_law_folded : FnScope ["_law_body", "_law_length", "_law_moment", "_law_place", "_law_speed", "_law_often", "_law_back"] ["_law_body", "_law_length", "_law_moment"] (defScope (top 54)) := ⟨rfl, rfl, rfl, by decide +kernel, rfl, by decide +kernel, by decide +kernel⟩
theorem ok_law_folded (D : Df K mg "_law_folded" (top 54) ["_law_body", "_law_length", "_law_moment"]) (T : Tx K mg CK C) (F_law_plus : Fn P w K mg base 2 "_law_plus" ["_law_one", "_law_other"] (sp_law_plus K)) (F_law_times : Fn P w K mg base 2 "_law_times" ["_law_one", "_law_other"] (sp_law_times K)) (F_law_over : Fn P w K mg base 2 "_law_over" ["_law_one", "_law_other"] (sp_law_over K)) (F_law_minus : Fn P w K mg base 2 "_law_minus" ["_law_one", "_law_other"] (sp_law_minus K)) (F_law_less : Fn P w K mg base 1 "_law_less" ["_law_one", "_law_other"] (sp_law_less K)) : Fn P w K mg base 3 "_law_folded" ["_law_body", "_law_length", "_law_moment"] (FoldS K) := by
  refine D.ok0 sc_law_folded (fun vs H Q E h => ?_) (fun f cdv A outer s H vs Q E hr h => ?_)
  · obtain ⟨p, a, c, x, v, m, q, L, u, t, rfl, _⟩ := h
    rfl
  obtain ⟨p, a, c, x, v, m, q, L, u, t, rfl, hp, ga, gc, da, dc, m1, m2, gL, dL, L0, gt, dt, k⟩ := h
  refine ⟨_, (pss_cons (ps_set (i := 3) sc_law_folded.nd rfl (Or.inl rfl) (pe_fn F_law_plus (by decide) hr (by rfl) passE0 (pa_cons (pe_ix ix_tup (pv 0) pe_int (fun _ _ => rfl)) (pa_cons (pe_fn F_law_times (by decide) hr (by rfl) passE0 (pa_cons (pe_ix ix_tup (pv 0) pe_int (fun _ _ => rfl)) (pa_cons (pv 2) pa_nil))) pa_nil))))
      (pss_cons (ps_set (i := 4) sc_law_folded.nd rfl (Or.inl rfl) (pe_ix ix_tup (pv 0) pe_int (fun _ _ => rfl)))
      (pss_cons (ps_set (i := 5) sc_law_folded.nd rfl (Or.inl rfl) (pe_fn F_law_over (by decide) hr (by rfl) passE0 (pa_cons (pv 3) (pa_cons (pe_fn F_law_plus (by decide) hr (by rfl) passE0 (pa_cons (pv 1) (pa_cons (pv 1) pa_nil))) pa_nil))))
      (pss_cons (ps_set (i := 6) sc_law_folded.nd rfl (Or.inl rfl) (pe_op op_mulB pe_int (pe_op op_fdivB (pe_ix ix_tup (pv 5) pe_int (fun _ _ => rfl)) (pe_ix ix_tup (pv 5) pe_int (fun _ _ => rfl)))))
      (pss_cons (ps_set (i := 3) sc_law_folded.nd rfl (Or.inl rfl) (pe_fn F_law_minus (by decide) hr (by rfl) passE0 (pa_cons (pv 3) (pa_cons (pe_fn F_law_times (by decide) hr (by rfl) passE0 (pa_cons (pe_tup (pa_cons (pv 6) (pa_cons pe_int pa_nil))) (pa_cons (pv 1) pa_nil))) pa_nil))))
      (pss_cons (ps_while PassesOwn.never (pw_or (pt_val (pe_fn F_law_less (by decide) hr (by rfl) passE0 (pa_cons (pv 3) (pa_cons (pe_tup (pa_cons pe_int (pa_cons pe_int pa_nil))) pa_nil))) (fun _ => rfl)) (pw_or1 (pt_val (pe_fn F_law_less (by decide) hr (by rfl) passE0 (pa_cons (pv 1) (pa_cons (pv 3) pa_nil))) (fun _ => rfl)))).pt (pss_cons (ps_if (pt_val (pe_fn F_law_less (by decide) hr (by rfl) passE0 (pa_cons (pv 3) (pa_cons (pe_tup (pa_cons pe_int (pa_cons pe_int pa_nil))) pa_nil))) (fun _ => rfl)) (pss_one (ps_set (i := 3) sc_law_folded.nd rfl (Or.inl rfl) (pe_tup (pa_cons (pe_op op_sub pe_int (pe_ix ix_tup (pv 3) pe_int (fun _ _ => rfl))) (pa_cons (pe_ix ix_tup (pv 3) pe_int (fun _ _ => rfl)) pa_nil))))) (pss_one (ps_set (i := 3) sc_law_folded.nd rfl (Or.inl rfl) (pe_fn F_law_minus (by decide) hr (by rfl) passE0 (pa_cons (pe_fn F_law_plus (by decide) hr (by rfl) passE0 (pa_cons (pv 1) (pa_cons (pv 1) pa_nil))) (pa_cons (pv 3) pa_nil))))))
      (pss_one (ps_set (i := 4) sc_law_folded.nd rfl (Or.inl rfl) (pe_tup (pa_cons (pe_op op_sub pe_int (pe_ix ix_tup (pv 4) pe_int (fun _ _ => rfl))) (pa_cons (pe_ix ix_tup (pv 4) pe_int (fun _ _ => rfl)) pa_nil)))))))
      (pss_cons (ps_if (pt_cmpR (op_eqQ (K := K) rfl (u100 hr)) (pv 3) (pe_tup (pa_cons pe_int (pa_cons pe_int pa_nil))) (nomark _)) (pss_one (ps_set (i := 4) sc_law_folded.nd rfl (Or.inl rfl) (pe_tup (pa_cons (pe_callB call_abs (by rfl) T.b_abs PyProof.Rows.Boot.«abs» (pa_cons (pe_ix ix_tup (pv 4) pe_int (fun _ _ => rfl)) pa_nil)) (pa_cons (pe_ix ix_tup (pv 4) pe_int (fun _ _ => rfl)) pa_nil))))) pss_nil)
      (pss_cons (ps_if (pt_cmpR (op_eqQ (K := K) rfl (u100 hr)) (pv 3) (pv 1) (nomark _)) (pss_one (ps_set (i := 4) sc_law_folded.nd rfl (Or.inl rfl) (pe_tup (pa_cons (pe_op op_sub pe_int (pe_callB call_abs (by rfl) T.b_abs PyProof.Rows.Boot.«abs» (pa_cons (pe_ix ix_tup (pv 4) pe_int (fun _ _ => rfl)) pa_nil))) (pa_cons (pe_ix ix_tup (pv 4) pe_int (fun _ _ => rfl)) pa_nil))))) pss_nil)
      (pss_one (ps_ret (pe_tup (pa_cons (pv 3) (pa_cons (pv 4) (pa_cons (pe_ix ix_tup (pv 0) pe_int (fun _ _ => rfl)) pa_nil)))))))))))))), ?_⟩
  try dsimp only [cxK, cxK0]
  have LL0 : 0 < L + L := by grind
  with_reducible refine seq_go fun N2 hN2 => ?_
  refine ⟨_, rfl, p, _, _, _, rfl, rfl, hp, rfl, _, rfl, p, _, _, _, rfl, rfl, hp, rfl, _, rfl, c, v, 64, u, t, 600, rfl, gc, dc, gt, dt, by decide, fun r1 H1 s1 g1 => ?_⟩
  have d1 := FB.mul dc dt
  refine ⟨a, x, 64, r1, _, _, rfl, Kw.Same.tup s1 ga, da, g1, d1, by decide, fun r2 H2 s2 g2 => ?_⟩
  have d2 := FB.add da d1
  have s12 := s1.trans s2
  have hp2 := Kw.Same.tup s12 hp
  with_reducible refine g_go ?_
  with_reducible refine hN2 _ _ ?_
  with_reducible refine seq_go fun N2 hN2 => ?_
  refine ⟨_, rfl, p, _, _, _, rfl, rfl, hp2, rfl, ?_⟩
  have gL2 := Kw.Same.tup s12 gL
  with_reducible refine g_go ?_
  with_reducible refine hN2 _ _ ?_
  with_reducible refine seq_go fun N2 hN2 => ?_
  refine ⟨_, rfl, _, rfl, _, rfl, q, L, 200, q, L, 200, rfl, gL2, dL, gL2, dL, by decide, fun r3 H3 s3 g3 => ?_⟩
  have d3 := FB.add dL dL
  refine ⟨r2, _, _, r3, _, _, rfl, Kw.Same.tup s3 g2, d2, g3, d3, by decide, by grind, fun r4 H4 s4 g4 => ?_⟩
  have d4 := FB.div d2 d3 (by grind)
  have z4 := fl_own (x := x + v * t) LL0
  have b4 : 0 < ((((x + v * t) / (L + L)).den : Nat) : Int) := by have := ((x + v * t) / (L + L)).den_pos; omega
  have bk := fdiv_bd b4 d4.1
  with_reducible refine g_go ?_
  with_reducible refine hN2 _ _ ?_
  with_reducible refine seq_go fun N2 hN2 => ?_
  refine ⟨_, rfl, r4, _, _, _, rfl, rfl, g4, rfl, _, rfl, r4, _, _, _, rfl, rfl, g4, rfl, _, _, rfl, rfl, ⟨by omega, (d4.2.mono (by decide)).log⟩, ?_⟩
  have b2 := Bd.small (i := 2) (by decide) (by decide)
  refine ⟨_, _, rfl, rfl, b2.ok bk (by decide), ?_⟩
  have bk2 := b2.mul bk
  have s24 := s3.trans s4
  with_reducible refine g_go ?_
  with_reducible refine hN2 _ _ ?_
  with_reducible refine seq_go fun N2 hN2 => ?_
  refine ⟨_, rfl, _, rfl, by show 2 ≤ sizeLine; decide, ?_⟩
  intro p5 n5
  obtain ⟨H5, q5, s5, e5⟩ := newO n5 (.tup [.int (2 * (((x + v * t) / (L + L)).num.fdiv ((((x + v * t) / (L + L)).den : Nat) : Int))), .int 1])
  rw [q5]
  clear q5
  have g5 : FQ K H5 p5 ((2 * (((x + v * t) / (L + L)).num.fdiv ((((x + v * t) / (L + L)).den : Nat) : Int)) : Int) : Rat) := FQ.ofInt (SqT.of e5)
  have d5 : FB _ ((2 * (((x + v * t) / (L + L)).num.fdiv ((((x + v * t) / (L + L)).den : Nat) : Int)) : Int) : Rat) := FB.ofInt bk2 (by decide)
  have s15 := s12.trans (s24.trans s5)
  refine ⟨_, rfl, p5, _, _, q, L, 200, rfl, g5, d5, Kw.Same.tup s15 gL, dL, by decide, fun r6 H6 s6 g6 => ?_⟩
  have d6 := FB.mul d5 dL
  refine ⟨r2, _, _, r6, _, _, rfl, Kw.Same.tup (s24.trans (s5.trans s6)) g2, d2, g6, d6, by decide, fun r7 H7 s7 g7 => ?_⟩
  have d7 := (FB.sub d2 d6).mono (n := 2200) (by decide)
  have e7 : x + v * t - ((2 * (((x + v * t) / (L + L)).num.fdiv ((((x + v * t) / (L + L)).den : Nat) : Int)) : Int) : Rat) * L = spotQ (x + v * t) (L + L) := by
    rw [← spot_is LL0 z4, Rat.intCast_mul]
    have z : (((2 : Int)) : Rat) = 2 := rfl
    rw [z]
    grind
  have si := spot_in (x := x + v * t) LL0
  rw [e7] at g7 d7
  obtain ⟨sq, hsq⟩ : ∃ sq, spotQ (x + v * t) (L + L) = sq := ⟨_, rfl⟩
  rw [hsq] at g7 d7 si
  have fo : foldQ L t (x, v, m) = if sq = 0 then (sq, absQ v, m) else if sq = L then (sq, -absQ v, m) else if L < sq then (L + L - sq, -v, m) else (sq, v, m) := by unfold foldQ; dsimp only; rw [hsq]
  rw [fo] at k
  have s17 := s15.trans (s6.trans s7)
  have hp7 := Kw.Same.tup s17 hp
  have gc7 := Kw.Same.tup s17 gc
  have gL7 := Kw.Same.tup s17 gL
  have dLL : FB 401 (L + L) := FB.add dL dL
  with_reducible refine g_go ?_
  with_reducible refine hN2 _ _ ?_
  with_reducible refine seq_go fun N2 hN2 => ?_
  with_reducible refine while_go fun B2 hB2 => ?_
  refine ⟨fun n σ1 H8 => ∃ (pp ps : Addr) (y w' : Rat), σ1 = [some (.ref p), some (.ref q), some (.ref u), some (.ref pp), some (.ref ps), some (.ref r4), some (.int (2 * (((x + v * t) / (L + L)).num.fdiv ((((x + v * t) / (L + L)).den : Nat) : Int))))] ∧ Same H7 H8 ∧ FQ K H8 pp y ∧ FQ K H8 ps w' ∧ ((n = 1 ∧ y = sq ∧ w' = v) ∨ (n = 0 ∧ L < sq ∧ y = L + L - sq ∧ w' = -v)), ⟨1, r7, c, sq, v, rfl, Same.refl _, g7, gc7, .inl ⟨rfl, rfl, rfl⟩⟩, ?_⟩
  rintro n σ1 H8 ⟨pp, ps, y, w', rfl, s8, gp, gs, alt⟩
  have dy : FB 2700 y := by
    rcases alt with ⟨_, rfl, _⟩ | ⟨_, _, rfl, _⟩
    · skip
      exact d7.mono (by decide)
    · skip
      exact (FB.sub dLL d7).mono (by decide)
  have dw : FB 64 w' := by
    rcases alt with ⟨_, _, rfl⟩ | ⟨_, _, _, rfl⟩
    · skip
      exact dc
    · skip
      exact FB.neg dc
  have y0 : 0 ≤ y := by
    rcases alt with ⟨_, rfl, _⟩ | ⟨_, _, rfl, _⟩
    · skip
      exact si.1
    · grind
  have d0 : FB 60000 (((0 : Int)) : Rat) := (FB.ofInt (Bd.small (i := 0) (by decide) (by decide)) (by decide)).mono (by decide)
  have eN : (((0 : Int)) : Rat) = 0 := rfl
  refine ⟨_, rfl, by show 2 ≤ sizeLine; decide, ?_⟩
  intro p9 n9
  obtain ⟨H9, q9, s9, e9⟩ := newO n9 (.tup [.int 0, .int 1])
  rw [q9]
  clear q9
  have g9 : FQ K H9 p9 ((0 : Int) : Rat) := FQ.ofInt (SqT.of e9)
  refine ⟨pp, y, p9, _, rfl, Kw.Same.tup s9 gp, dy.mono (by decide), g9, d0, fun H10 s10 => ⟨_, rfl, ?_⟩⟩
  refine if_dec (fun z => absurd z (by rw [eN]; grind)) (fun _ => ?_)
  have s810 := s9.trans s10
  have s710 := s8.trans s810
  refine ⟨_, rfl, _, rfl, q, L, pp, y, rfl, Kw.Same.tup s710 gL7, dL.mono (by decide), Kw.Same.tup s810 gp, dy.mono (by decide), fun H11 s11 => ⟨_, rfl, ?_⟩⟩
  have s811 := s810.trans s11
  have s711 := s8.trans s811
  refine if_dec (fun cl => ?_) (fun cl => ?_)
  · have alt1 : n = 1 ∧ y = sq ∧ w' = v := by
      rcases alt with h | ⟨_, h1, h2, _⟩
      · skip
        exact h
      · exfalso
        grind
    obtain ⟨rfl, rfl, rfl⟩ := alt1
    refine ⟨_, fun _ _ n => n, ?_⟩
    with_reducible refine hB2 _ _ _ fun E4 hE4 hR4 _ _ => ?_
    with_reducible refine seq_go fun N4 hN4 => ?_
    with_reducible refine if_go fun K4 hK4 => ?_
    refine ⟨_, rfl, by show 2 ≤ sizeLine; decide, ?_⟩
    intro p12 n12
    obtain ⟨H12, q12, s12, e12⟩ := newO n12 (.tup [.int 0, .int 1])
    rw [q12]
    clear q12
    have g12 : FQ K H12 p12 ((0 : Int) : Rat) := FQ.ofInt (SqT.of e12)
    refine ⟨pp, y, p12, _, rfl, Kw.Same.tup (s811.trans s12) gp, dy.mono (by decide), g12, d0, fun H13 s13 => ⟨_, rfl, ?_⟩⟩
    with_reducible refine hK4 _ _ ?_
    refine if_dec (fun z => absurd z (by rw [eN]; grind)) (fun _ => ?_)
    have s813 := s811.trans (s12.trans s13)
    have gL13 := Kw.Same.tup (s8.trans s813) gL7
    refine ⟨_, rfl, _, rfl, q, L, 200, q, L, 200, rfl, gL13, dL, gL13, dL, by decide, fun r14 H14 s14 g14 => ?_⟩
    refine ⟨_, rfl, r14, _, _, pp, y, _, rfl, g14, dLL, Kw.Same.tup (s813.trans s14) gp, dy, by decide, fun r15 H15 s15 g15 => ?_⟩
    have s815 := s813.trans (s14.trans s15)
    have gs15 := Kw.Same.tup s815 gs
    with_reducible refine g_go ?_
    with_reducible refine hN4 _ _ ?_
    refine ⟨_, rfl, ps, _, _, _, rfl, rfl, gs15, rfl, _, _, rfl, rfl, _, rfl, ps, _, _, _, rfl, rfl, gs15, rfl, by show 2 ≤ sizeLine; decide, ?_⟩
    intro p16 n16
    obtain ⟨H16, q16, s16, e16⟩ := newO n16 (.tup [.int (0 - w'.num), .int ((w'.den : Nat) : Int)])
    rw [q16]
    clear q16
    with_reducible refine g_go ?_
    with_reducible refine hE4 _ _ ?_
    exact ⟨0, by decide, r15, p16, _, _, rfl, s8.trans (s815.trans s16), Kw.Same.tup s16 g15, FQ.ofNeg (SqT.of e16) (Int.zero_sub _), .inr ⟨rfl, cl, rfl, rfl⟩⟩
  · skip
    with_reducible refine hN2 _ _ ?_
    with_reducible refine seq_go fun N4 hN4 => ?_
    with_reducible refine if_go fun K4 hK4 => ?_
    refine ⟨_, rfl, by show 2 ≤ sizeLine; decide, ?_⟩
    intro p12 n12
    obtain ⟨H12, q12, s12, e12⟩ := newO n12 (.tup [.int 0, .int 1])
    rw [q12]
    clear q12
    have g12 : FQ K H12 p12 ((0 : Int) : Rat) := FQ.ofInt (SqT.of e12)
    have s812 := s811.trans s12
    have gp12 := Kw.Same.tup s812 gp
    have gs12 := Kw.Same.tup s812 gs
    have s712 := s8.trans s812
    refine ⟨_, _, _, _, rfl, rfl, gp12, g12, _, rfl, ?_⟩
    with_reducible refine hK4 _ _ ?_
    refine if_dec (fun c0 => ?_) (fun c0 => ?_)
    · rw [eN] at c0
      have alt1 : y = sq ∧ w' = v := by
        rcases alt with ⟨_, h⟩ | ⟨_, h1, h2, _⟩
        · skip
          exact h
        · exfalso
          grind
      obtain ⟨rfl, rfl⟩ := alt1
      rw [if_pos c0] at k
      refine ⟨_, rfl, ps, _, _, _, rfl, rfl, gs12, rfl, _, rfl, _, rfl, ps, _, _, _, rfl, rfl, gs12, rfl, by show 2 ≤ sizeLine; decide, ?_⟩
      intro p13 n13
      obtain ⟨H13, q13, s13, e13⟩ := newO n13 (.tup [.int (if w'.num < 0 then -w'.num else w'.num), .int ((w'.den : Nat) : Int)])
      rw [q13]
      clear q13
      have s713 := s712.trans s13
      with_reducible refine g_go ?_
      with_reducible refine hN4 _ _ ?_
      with_reducible refine seq_go fun N6 hN6 => ?_
      with_reducible refine if_go fun K6 hK6 => ?_
      refine ⟨_, rfl, _, rfl, _, _, _, _, rfl, rfl, Kw.Same.tup s13 gp12, Kw.Same.tup s713 gL7, _, rfl, ?_⟩
      with_reducible refine hK6 _ _ ?_
      refine if_dec (fun c1 => absurd c1 (by grind)) (fun _ => ?_)
      have hp13 := Kw.Same.tup s713 hp7
      with_reducible refine nil_go ?_
      with_reducible refine hN6 _ _ ?_
      refine ⟨_, rfl, _, rfl, _, rfl, p, _, _, _, rfl, rfl, hp13, rfl, by show 3 ≤ sizeLine; decide, ?_⟩
      intro p14 n14
      obtain ⟨H14, q14, s14, e14⟩ := newO n14 (.tup [.ref pp, .ref p13, .int m])
      rw [q14]
      clear q14
      exact k p14 H14 (s17.trans (s713.trans s14)) ⟨p14, pp, p13, rfl, SqT.of e14, Kw.Same.tup (s13.trans s14) gp12, Kw.Same.tup s14 (FQ.abs (SqT.of e13)), dy, (FB.abs dw).mono (by decide), m1, m2⟩
    · rw [eN] at c0
      with_reducible refine nil_go ?_
      with_reducible refine hN4 _ _ ?_
      with_reducible refine seq_go fun N6 hN6 => ?_
      with_reducible refine if_go fun K6 hK6 => ?_
      refine ⟨_, rfl, _, rfl, _, _, _, _, rfl, rfl, gp12, Kw.Same.tup s712 gL7, _, rfl, ?_⟩
      with_reducible refine hK6 _ _ ?_
      refine if_dec (fun c1 => ?_) (fun c1 => ?_)
      · have alt1 : y = sq ∧ w' = v := by
          rcases alt with ⟨_, h⟩ | ⟨_, h1, h2, _⟩
          · skip
            exact h
          · exfalso
            grind
        obtain ⟨rfl, rfl⟩ := alt1
        rw [if_neg c0, if_pos c1] at k
        refine ⟨_, rfl, ps, _, _, _, rfl, rfl, gs12, rfl, _, rfl, _, _, rfl, rfl, _, rfl, ps, _, _, _, rfl, rfl, gs12, rfl, by show 2 ≤ sizeLine; decide, ?_⟩
        intro p13 n13
        obtain ⟨H13, q13, s13, e13⟩ := newO n13 (.tup [.int (0 - (if w'.num < 0 then -w'.num else w'.num)), .int ((w'.den : Nat) : Int)])
        rw [q13]
        clear q13
        have s713 := s712.trans s13
        have hp13 := Kw.Same.tup s713 hp7
        have ga : FQ K H13 p13 (-absQ w') := FQ.negabs (SqT.of e13)
        with_reducible refine g_go ?_
        with_reducible refine hN6 _ _ ?_
        refine ⟨_, rfl, _, rfl, _, rfl, p, _, _, _, rfl, rfl, hp13, rfl, by show 3 ≤ sizeLine; decide, ?_⟩
        intro p14 n14
        obtain ⟨H14, q14, s14, e14⟩ := newO n14 (.tup [.ref pp, .ref p13, .int m])
        rw [q14]
        clear q14
        exact k p14 H14 (s17.trans (s713.trans s14)) ⟨p14, pp, p13, rfl, SqT.of e14, Kw.Same.tup (s13.trans s14) gp12, Kw.Same.tup s14 ga, dy, (FB.neg (FB.abs dw)).mono (by decide), m1, m2⟩
      · have hp12 := Kw.Same.tup s712 hp7
        with_reducible refine nil_go ?_
        with_reducible refine hN6 _ _ ?_
        refine ⟨_, rfl, _, rfl, _, rfl, p, _, _, _, rfl, rfl, hp12, rfl, by show 3 ≤ sizeLine; decide, ?_⟩
        intro p14 n14
        obtain ⟨H14, q14, s14, e14⟩ := newO n14 (.tup [.ref pp, .ref ps, .int m])
        rw [q14]
        clear q14
        have e : (if sq = 0 then (sq, absQ v, m) else if sq = L then (sq, -absQ v, m) else if L < sq then (L + L - sq, -v, m) else (sq, v, m)) = (y, w', m) := by
          rcases alt with ⟨_, rfl, rfl⟩ | ⟨_, h1, rfl, rfl⟩
          · rw [if_neg c0, if_neg c1, if_neg cl]
          · rw [if_neg (by grind), if_neg (by grind), if_pos h1]
        rw [e] at k
        exact k p14 H14 (s17.trans (s712.trans s14)) ⟨p14, pp, ps, rfl, SqT.of e14, Kw.Same.tup s14 gp12, Kw.Same.tup s14 gs12, dy, dw.mono (by decide), m1, m2⟩
noncomputable def sp_law_in_order (K : PySem.W.Frag) : Sp := fun vs H Q _ => ∃ (p_i a_i b_i : Addr) (x_i v_i : Rat) (m_i : Int) (p_j a_j b_j : Addr) (x_j v_j : Rat) (m_j : Int), vs = [.ref p_i, .ref p_j] ∧ SqT K H p_i [.ref a_i, .ref b_i, .int m_i] ∧ FQ K H a_i x_i ∧ FQ K H b_i v_i ∧ FB 2700 x_i ∧ FB 2700 v_i ∧ 1 ≤ m_i ∧ m_i ≤ 10000 ∧ SqT K H p_j [.ref a_j, .ref b_j, .int m_j] ∧ FQ K H a_j x_j ∧ FQ K H b_j v_j ∧ FB 2700 x_j ∧ FB 2700 v_j ∧ 1 ≤ m_j ∧ m_j ≤ 10000 ∧ (∀  (H1 : Hp), Same H H1 → Q (.bl (decide (x_i < x_j ∨ (x_i = x_j ∧ v_i < v_j)))) H1)
theorem sc_law_in_order : FnScope ["_law_one", "_law_other"] ["_law_one", "_law_other"] (defScope (top 55)) := ⟨rfl, rfl, rfl, by decide +kernel, rfl, by decide +kernel, by decide +kernel⟩
theorem ok_law_in_order (D : Df K mg "_law_in_order" (top 55) ["_law_one", "_law_other"]) (T : Tx K mg CK C) (F_law_less : Fn P w K mg base 1 "_law_less" ["_law_one", "_law_other"] (sp_law_less K)) : Fn P w K mg base 2 "_law_in_order" ["_law_one", "_law_other"] (sp_law_in_order K) := by
  refine D.ok0 sc_law_in_order (fun vs H Q E h => ?_) (fun f cdv A outer s H vs Q E hr h => ?_)
  · obtain ⟨p_i, a_i, b_i, x_i, v_i, m_i, p_j, a_j, b_j, x_j, v_j, m_j, rfl, _⟩ := h
    rfl
  obtain ⟨p_i, a_i, b_i, x_i, v_i, m_i, p_j, a_j, b_j, x_j, v_j, m_j, rfl, h_i, gx_i, gv_i, dx_i, dv_i, lo_i, hi_i, h_j, gx_j, gv_j, dx_j, dv_j, lo_j, hi_j, k0⟩ := h
  refine ⟨_, (pss_cons (ps_if (pt_cmpR (op_eqQ (K := K) rfl (u100 hr)) (pe_ix ix_tup (pv 0) pe_int (fun _ _ => rfl)) (pe_ix ix_tup (pv 1) pe_int (fun _ _ => rfl)) (nomark _)) (pss_one (ps_ret (pe_fn F_law_less (by decide) hr (by rfl) passE0 (pa_cons (pe_ix ix_tup (pv 0) pe_int (fun _ _ => rfl)) (pa_cons (pe_ix ix_tup (pv 1) pe_int (fun _ _ => rfl)) pa_nil))))) pss_nil)
      (pss_one (ps_ret (pe_fn F_law_less (by decide) hr (by rfl) passE0 (pa_cons (pe_ix ix_tup (pv 0) pe_int (fun _ _ => rfl)) (pa_cons (pe_ix ix_tup (pv 1) pe_int (fun _ _ => rfl)) pa_nil)))))), ?_⟩
  try dsimp only [cxK, cxK0]
  with_reducible refine seq_go fun N2 hN2 => ?_
  with_reducible refine if_go fun K2 hK2 => ?_
  refine ⟨_, rfl, p_i, _, _, _, rfl, rfl, h_i, rfl, _, rfl, p_j, _, _, _, rfl, rfl, h_j, rfl, _, _, _, _, rfl, rfl, gx_i, gx_j, _, rfl, ?_⟩
  with_reducible refine hK2 _ _ ?_
  refine if_dec (fun c20 => ?_) (fun c20 => ?_)
  · skip
    refine ⟨_, rfl, p_i, _, _, _, rfl, rfl, h_i, rfl, _, rfl, p_j, _, _, _, rfl, rfl, h_j, rfl, _, _, _, _, rfl, gv_i, (FB.mono dv_i (by decide)), gv_j, (FB.mono dv_j (by decide)), fun H21 s21 => ?_⟩
    try dsimp only
    rw [show decide (v_i < v_j) = decide (x_i < x_j ∨ (x_i = x_j ∧ v_i < v_j)) from decide_eq_decide.mpr (by grind)]
    exact k0 _ s21
  · skip
    with_reducible refine nil_go ?_
    with_reducible refine hN2 _ _ ?_
    refine ⟨_, rfl, p_i, _, _, _, rfl, rfl, h_i, rfl, _, rfl, p_j, _, _, _, rfl, rfl, h_j, rfl, _, _, _, _, rfl, gx_i, (FB.mono dx_i (by decide)), gx_j, (FB.mono dx_j (by decide)), fun H22 s22 => ?_⟩
    try dsimp only
    rw [show decide (x_i < x_j) = decide (x_i < x_j ∨ (x_i = x_j ∧ v_i < v_j)) from decide_eq_decide.mpr (by grind)]
    exact k0 _ s22
noncomputable def sp_law_room (K : PySem.W.Frag) : Sp := fun vs H Q _ => ∃ (p : Addr) (xs : List V) (bs : List Bod) (w0 : Int) (q : Addr) (L : Rat) (u : Addr) (t : Rat), vs = [.ref p, .ref q, .ref u] ∧ H p = some (.lst xs) ∧ Al2 (BdQ K H 64) xs bs ∧ bs.length ≤ 12 ∧ (∀ b ∈ bs, b.2.2 = w0) ∧ FQ K H q L ∧ FB 200 L ∧ 0 < L ∧ FQ K H u t ∧ FB 600 t ∧ ∀ (r : Addr) (ys : List V) (H1 : Hp), Same H H1 → H r = none → H1 r = some (.lst ys) → Al2 (BdQ K H1 2700) ys (sortQ (bs.map (foldQ L t))) → Q (.ref r) H1
theorem foldQ_w {L t : Rat} {b : Bod} : (foldQ L t b).2.2 = b.2.2 := by
  unfold foldQ
  try dsimp only
  split
  · rfl
  · split
    · rfl
    · split <;> rfl
theorem sc_law_room : FnScope ["_law_world_here", "_law_length", "_law_moment", "_law_found", "_law_body", "_law_there", "_law_at"] ["_law_world_here", "_law_length", "_law_moment"] (defScope (top 56)) := ⟨rfl, rfl, rfl, by decide +kernel, rfl, by decide +kernel, by decide +kernel⟩
theorem ok_law_room (D : Df K mg "_law_room" (top 56) ["_law_world_here", "_law_length", "_law_moment"]) (T : Tx K mg CK C) (F_law_folded : Fn P w K mg base 3 "_law_folded" ["_law_body", "_law_length", "_law_moment"] (FoldS K)) (F_law_in_order : Fn P w K mg base 2 "_law_in_order" ["_law_one", "_law_other"] (sp_law_in_order K)) : Fn P w K mg base 4 "_law_room" ["_law_world_here", "_law_length", "_law_moment"] (sp_law_room K) := by
  refine D.ok0 sc_law_room (fun vs H Q E h => ?_) (fun f cdv A outer s H vs Q E hr h => ?_)
  · obtain ⟨p, xs, bs, w0, q, L, u, t, rfl, _⟩ := h
    rfl
  obtain ⟨p, xs, bs, w0, q, L, u, t, rfl, hp, al, l12, hw, gL, dL, L0, gt, dt, k⟩ := h
  refine ⟨_, (pss_cons (ps_set (i := 3) sc_law_room.nd rfl (Or.inl rfl) (pe_lst pa_nil))
      (pss_cons (ps_for PassesOwn.never rfl (pi_list (pv 0)) (pg_name (i := 4) sc_law_room.nd rfl (Or.inl rfl)) (pss_cons (ps_set (i := 5) sc_law_room.nd rfl (Or.inl rfl) (pe_fn F_law_folded (by decide) hr (by rfl) passE0 (pa_cons (pv 4) (pa_cons (pv 1) (pa_cons (pv 2) pa_nil)))))
      (pss_cons (ps_set (i := 6) sc_law_room.nd rfl (Or.inl rfl) pe_int)
      (pss_cons (ps_while PassesOwn.never (pw_and (pt_cmpR op_lt (pv 6) (pe_callB call_len (by rfl) T.b_len PyProof.Rows.Boot.«len» (pa_cons (pv 3) pa_nil)) (nomark _)) (pw_and1 (pt_val (pe_fn F_law_in_order (by decide) hr (by rfl) passE0 (pa_cons (pe_ix ix_list (pv 3) (pv 6) (fun _ _ => rfl)) (pa_cons (pv 5) pa_nil))) (fun _ => rfl)))).pt (pss_one (ps_set (i := 6) sc_law_room.nd rfl (Or.inl rfl) (pe_op op_add (pv 6) pe_int))))
      (pss_one (ps_expr (pe_bm PySem.F.plainAttrs_list PySem.F.slot_list_insert PySem.F.type_list_insert mt_insert (pv 3) (pa_cons (pv 6) (pa_cons (pv 5) pa_nil)))))))))
      (pss_one (ps_ret (pv 3))))), ?_⟩
  try dsimp only [cxK, cxK0]
  have hz := Al2.len al
  with_reducible refine seq_go fun N2 hN2 => ?_
  refine ⟨by show 0 ≤ sizeLine; decide, ?_⟩
  intro p2 n2
  obtain ⟨H2, q2, s2, e2⟩ := newO n2 (.lst [])
  rw [q2]
  clear q2
  have hp2 := s2 _ _ hp
  have np : p ≠ p2 := ne_of_none hp n2
  have al2 := bds_same al s2
  have gL2 := Kw.Same.tup s2 gL
  have gt2 := Kw.Same.tup s2 gt
  with_reducible refine g_go ?_
  with_reducible refine hN2 _ _ ?_
  with_reducible refine seq_go fun N2 hN2 => ?_
  with_reducible refine for_go fun B2 hB2 => ?_
  refine ⟨_, rfl, p, rfl, ⟨_, SqL.of hp2⟩, for_list (K := K) (a := p) (xs := xs) (fun i σ1 H1 => ∃ (u4 u5 u6 : Option V) (ys : List V) (cs : List Bod), σ1 = [some (.ref p), some (.ref q), some (.ref u), some (.ref p2), u4, u5, u6] ∧ But p2 H2 H1 ∧ H1 p2 = some (.lst ys) ∧ Al2 (BdQ K H1 2700) ys cs ∧ cs.length = i ∧ SrtB cs ∧ cs.Perm ((bs.take i).map (foldQ L t))) ⟨_, _, _, [], [], rfl, But.refl _, e2, trivial, rfl, List.Pairwise.nil, List.Perm.refl _⟩ (by rintro _ _ _ _ ⟨_, _, _, _, _, _, g, _⟩; exact SqL.of (g _ _ np hp2)) ?_ ?_⟩
  · rintro i x σ1 H3 hx ⟨u4, u5, u6, ys, cs, rfl, s3, hy3, ay3, lc, so, pm⟩
    have hi : i < xs.length := (List.getElem?_eq_some_iff.mp hx).1
    obtain ⟨b, hb, pb, pa, pc, rfl, x1, x2, x3, x4, x5, x6, x7⟩ := Al2.get (bds_but al2 s3 e2) hx
    with_reducible refine g_go ?_
    with_reducible refine hB2 _ _ _ fun E4 hE4 hR4 _ _ => ?_
    with_reducible refine seq_go fun N4 hN4 => ?_
    refine ⟨_, rfl, _, rfl, _, rfl, pb, pa, pc, b.1, b.2.1, b.2.2, q, L, u, t, rfl, x1, x2, x3, x4, x5, x6, x7, s3.tup e2 gL2, dL, L0, s3.tup e2 gt2, dt, fun r H4 s4 one => ?_⟩
    have hy4 := s4 _ _ hy3
    have ay4 := bds_same ay3 s4
    have ly := Al2.len ay4
    obtain ⟨c, hc⟩ : ∃ c, foldQ L t b = c := ⟨_, rfl⟩
    have hc' : foldQ L t (b.1, b.2.1, b.2.2) = c := hc
    rw [hc'] at one
    have big : ∀ (n : Nat) (ds : List Bod), ds = cs.take n ++ c :: cs.drop n → ds.length = i + 1 ∧ ds.Perm ((bs.take (i + 1)).map (foldQ L t)) := fun n ds e => by
      subst e
      have pe := perm_ins cs c n
      refine ⟨by rw [pe.length_eq]; simp [lc], pe.trans ?_⟩
      rw [take_snoc hb, List.map_append]
      have z : [b].map (foldQ L t) = [c] := by rw [← hc]; rfl
      rw [z]
      exact List.Perm.append_right _ pm
    with_reducible refine g_go ?_
    with_reducible refine hN4 _ _ ?_
    refine ⟨fun m σ1 H1 => ∃ n : Nat, σ1 = [some (.ref p), some (.ref q), some (.ref u), some (.ref p2), some (.ref pb), some (.ref r), some (.int (n : Int))] ∧ Same H4 H1 ∧ n ≤ cs.length ∧ m = cs.length - n ∧ (∀ j a, j < n → cs[j]? = some a → Ahd a c), ⟨_, 0, rfl, Same.refl _, Nat.zero_le _, rfl, fun _ _ h => absurd h (by omega)⟩, ?_⟩
    rintro m σ1 H5 ⟨n, rfl, s5, hn, rfl, below⟩
    have hy5 := s5 _ _ hy4
    have ay5 := bds_same ay4 s5
    obtain ⟨pr, ra, rc, er, y1, y2, y3, y4, y5, y6, y7⟩ := bd_same one s5
    cases er
    refine ⟨_, rfl, _, rfl, _, _, rfl, .inl ⟨_, SqL.of hy5, rfl⟩, _, _, rfl, rfl, _, rfl, ?_⟩
    refine if_dec (fun lt => ?_) (fun lt => ?_)
    · have hnl : n < ys.length := by omega
      obtain ⟨z, hz'⟩ : ∃ z, ys[n]? = some z := ⟨_, List.getElem?_eq_getElem hnl⟩
      obtain ⟨d, hd, pz, za, zc, rfl, z1, z2, z3, z4, z5, z6, z7⟩ := Al2.get ay5 hz'
      refine ⟨_, rfl, _, rfl, p2, _, _, _, rfl, rfl, SqL.of hy5, atI_nat hz', _, rfl, _, _, _, _, _, _, _, _, _, _, _, _, rfl, z1, z2, z3, z4, z5, z6, z7, y1, y2, y3, y4, y5, y6, y7, fun H6 s6 => ⟨_, rfl, ?_⟩⟩
      refine if_dec (fun ah => ?_) (fun ah => ?_)
      · skip
        refine ⟨_, fun _ _ n => n, ?_⟩
        refine ⟨_, rfl, _, _, rfl, rfl, ?_⟩
        with_reducible refine g_go ?_
        refine ⟨cs.length - (n + 1), by omega, n + 1, rfl, s5.trans s6, by omega, rfl, fun j a hj ha => ?_⟩
        by_cases ej : j = n
        · subst ej
          cases hd.symm.trans ha
          exact ah
        · skip
          exact below j a (by omega) ha
      · have nah : ∀ a, cs[n]? = some a → ¬ Ahd a c := fun a h => by
          cases hd.symm.trans h
          exact ah
        have s45 := s5.trans s6
        have hy6 := s45 _ _ hy4
        have ly6 : ys.length < sizeLine := Nat.lt_of_le_of_lt (show ys.length ≤ 12 by omega) (by decide)
        refine ⟨_, rfl, .inl ⟨rfl, _, SqL.of hy6⟩, _, rfl, _, rfl, p2, _, _, n, rfl, rfl, hy6, by omega, ly6, ?_⟩
        obtain ⟨H9, q9, s9, e9⟩ := newB (H := H6) (p := p2) (.lst (ys.take n ++ V.ref r :: ys.drop n))
        try dsimp only
        rw [q9]
        clear q9
        have bg := big n _ rfl
        have ay9 : Al2 (BdQ K H9 2700) (ys.take n ++ V.ref r :: ys.drop n) (cs.take n ++ c :: cs.drop n) := bds_but (al_ins n (bds_same ay4 s45) (bd_same one s45)) s9 hy6
        with_reducible refine hE4 _ _ ?_
        exact ⟨_, _, _, _, _, rfl, s3.trans ((But.of (s4.trans s45)).trans s9), e9, ay9, bg.1, srt_ins so below nah, bg.2⟩
    · skip
      refine iteF ?_
      have nah : ∀ a, cs[n]? = some a → ¬ Ahd a c := fun a h => by
        have := (List.getElem?_eq_some_iff.mp h).1
        omega
      have s45 := s5
      have hy6 := s45 _ _ hy4
      have ly6 : ys.length < sizeLine := Nat.lt_of_le_of_lt (show ys.length ≤ 12 by omega) (by decide)
      refine ⟨_, rfl, .inl ⟨rfl, _, SqL.of hy6⟩, _, rfl, _, rfl, p2, _, _, n, rfl, rfl, hy6, by omega, ly6, ?_⟩
      obtain ⟨H9, q9, s9, e9⟩ := newB (H := H5) (p := p2) (.lst (ys.take n ++ V.ref r :: ys.drop n))
      try dsimp only
      rw [q9]
      clear q9
      have bg := big n _ rfl
      have ay9 : Al2 (BdQ K H9 2700) (ys.take n ++ V.ref r :: ys.drop n) (cs.take n ++ c :: cs.drop n) := bds_but (al_ins n (bds_same ay4 s45) (bd_same one s45)) s9 hy6
      with_reducible refine hE4 _ _ ?_
      exact ⟨_, _, _, _, _, rfl, s3.trans ((But.of (s4.trans s45)).trans s9), e9, ay9, bg.1, srt_ins so below nah, bg.2⟩
  · rintro σ1 H3 ⟨u4, u5, u6, ys, cs, rfl, s3, hy3, ay3, lc, so, pm⟩
    rw [hz, List.take_length] at pm
    have hwf : ∀ b ∈ bs.map (foldQ L t), b.2.2 = w0 := fun b hb => by
      obtain ⟨b', hb', rfl⟩ := List.mem_map.mp hb
      rw [foldQ_w]
      exact hw b' hb'
    rw [← sortQ_is hwf so pm] at ay3
    with_reducible refine hN2 _ _ ?_
    exact ⟨_, rfl, k p2 ys H3 (same_then_but n2 s2 s3) n2 hy3 ay3⟩
noncomputable def sp_law_within (K : PySem.W.Frag) : Sp := fun vs H Q _ => ∃ (b : Addr) (n : Int), vs = [.ref b] ∧ H b = some (.lst [.int n]) ∧ ∀ (r f q : Addr) (xs : List V) (bs : List Bod) (W : Int) (L : Rat) (n1 : Int) (H1 : Hp), But b H H1 → H f = none → f ≠ b → H1 b = some (.lst [.int n1]) → SqT K H1 r [.ref f, .ref q] → H1 f = some (.lst xs) → Al2 (BdQ K H1 64) xs bs → 1 ≤ bs.length → bs.length ≤ 12 → Asc bs → 1 ≤ W → W ≤ 1000 → (∀ a ∈ bs, a.2.2 = W) → FQ K H1 q L → FB 200 L → (∀ a ∈ bs, Inrm L a) → Q (.ref r) H1
theorem sc_law_within : FnScope ["_law_box_here", "_law_weight", "_law_many", "_law_even", "_law_step", "_law_few", "_law_place", "_law_found", "_law_k", "_law_speed"] ["_law_box_here"] (defScope (top 53)) := ⟨rfl, rfl, rfl, by decide +kernel, rfl, by decide +kernel, by decide +kernel⟩
theorem ok_law_within (D : Df K mg "_law_within" (top 53) ["_law_box_here"]) (T : Tx K mg CK C) (F_law_take : Fn P w K mg base 1 "_law_take" ["_law_box_here", "_law_many"] spTake) (F_law_fit : Fn P w K mg base 1 "_law_fit" ["_law_top", "_law_bottom"] (sp_law_fit K)) (F_law_small : Fn P w K mg base 2 "_law_small" ["_law_box_here"] (sp_law_small K)) (F_law_plus : Fn P w K mg base 2 "_law_plus" ["_law_one", "_law_other"] (sp_law_plus K)) (F_law_times : Fn P w K mg base 2 "_law_times" ["_law_one", "_law_other"] (sp_law_times K)) (F_law_minus : Fn P w K mg base 2 "_law_minus" ["_law_one", "_law_other"] (sp_law_minus K)) : Fn P w K mg base 3 "_law_within" ["_law_box_here"] (sp_law_within K) := by
  refine D.ok0 sc_law_within (fun vs H Q E h => ?_) (fun f cdv A outer s H vs Q E hr h => ?_)
  · obtain ⟨bx, n, rfl, _⟩ := h
    rfl
  obtain ⟨bx, n, rfl, hb_bx, k⟩ := h
  refine ⟨_, (pss_cons (ps_set (i := 1) sc_law_within.nd rfl (Or.inl rfl) (pe_op op_add pe_int (pe_fn F_law_take (by decide) hr (by rfl) passE0 (pa_cons (pv 0) (pa_cons (pe_ix ix_list (pe_lst (pa_cons pe_int (pa_cons pe_int pa_nil))) (pe_fn F_law_take (by decide) hr (by rfl) passE0 (pa_cons (pv 0) (pa_cons pe_int pa_nil))) (fun _ _ => rfl)) pa_nil)))))
      (pss_cons (ps_set (i := 2) sc_law_within.nd rfl (Or.inl rfl) (pe_op op_add pe_int (pe_fn F_law_take (by decide) hr (by rfl) passE0 (pa_cons (pv 0) (pa_cons (pe_ix ix_list (pe_lst (pa_cons pe_int (pa_cons pe_int (pa_cons pe_int pa_nil)))) (pe_fn F_law_take (by decide) hr (by rfl) passE0 (pa_cons (pv 0) (pa_cons pe_int pa_nil))) (fun _ _ => rfl)) pa_nil)))))
      (pss_cons (ps_set (i := 3) sc_law_within.nd rfl (Or.inl rfl) (pe_cmpR op_eq (pe_fn F_law_take (by decide) hr (by rfl) passE0 (pa_cons (pv 0) (pa_cons pe_int pa_nil))) pe_int (nomark _)))
      (pss_cons (ps_set (i := 4) sc_law_within.nd rfl (Or.inl rfl) (pe_fn F_law_fit (by decide) hr (by rfl) passE0 (pa_cons (pe_op op_add pe_int (pe_fn F_law_take (by decide) hr (by rfl) passE0 (pa_cons (pv 0) (pa_cons pe_int pa_nil)))) (pa_cons (pe_op op_add pe_int (pe_fn F_law_take (by decide) hr (by rfl) passE0 (pa_cons (pv 0) (pa_cons pe_int pa_nil)))) pa_nil))))
      (pss_cons (ps_set (i := 5) sc_law_within.nd rfl (Or.inl rfl) (pe_lst (pa_cons (pe_fn F_law_small (by decide) hr (by rfl) passE0 (pa_cons (pv 0) pa_nil)) (pa_cons (pe_fn F_law_small (by decide) hr (by rfl) passE0 (pa_cons (pv 0) pa_nil)) pa_nil))))
      (pss_cons (ps_set (i := 6) sc_law_within.nd rfl (Or.inl rfl) (pv 4))
      (pss_cons (ps_set (i := 7) sc_law_within.nd rfl (Or.inl rfl) (pe_lst pa_nil))
      (pss_cons (ps_for PassesOwn.never rfl (pi_range1 (by rfl) T.b_range (pa_cons (pv 2) pa_nil)) (pg_name (i := 8) sc_law_within.nd rfl (Or.inl rfl)) (pss_cons (ps_set (i := 9) sc_law_within.nd rfl (Or.inl rfl) (pe_ix ix_list (pv 5) (pe_fn F_law_take (by decide) hr (by rfl) passE0 (pa_cons (pv 0) (pa_cons pe_int pa_nil))) (fun _ _ => rfl)))
      (pss_cons (ps_if (pt_not (pt_val (pv 3) (fun _ => rfl))) (pss_cons (ps_set (i := 9) sc_law_within.nd rfl (Or.inl rfl) (pe_fn F_law_small (by decide) hr (by rfl) passE0 (pa_cons (pv 0) pa_nil)))
      (pss_one (ps_set (i := 4) sc_law_within.nd rfl (Or.inl rfl) (pe_fn F_law_fit (by decide) hr (by rfl) passE0 (pa_cons (pe_op op_add pe_int (pe_fn F_law_take (by decide) hr (by rfl) passE0 (pa_cons (pv 0) (pa_cons pe_int pa_nil)))) (pa_cons (pe_op op_add pe_int (pe_fn F_law_take (by decide) hr (by rfl) passE0 (pa_cons (pv 0) (pa_cons pe_int pa_nil)))) pa_nil)))))) pss_nil)
      (pss_cons (ps_expr (pe_bm PySem.F.plainAttrs_list PySem.F.slot_list_append PySem.F.type_list_append mt_append (pv 7) (pa_cons (pe_tup (pa_cons (pv 6) (pa_cons (pv 9) (pa_cons (pv 1) pa_nil)))) pa_nil)))
      (pss_one (ps_set (i := 6) sc_law_within.nd rfl (Or.inl rfl) (pe_fn F_law_plus (by decide) hr (by rfl) passE0 (pa_cons (pv 6) (pa_cons (pv 4) pa_nil)))))))))
      (pss_cons (ps_if (pw_and (pt_val (pv 3) (fun _ => rfl)) (pw_and1 (pt_cmpR op_eq (pe_fn F_law_take (by decide) hr (by rfl) passE0 (pa_cons (pv 0) (pa_cons pe_int pa_nil))) pe_int (nomark _)))).pt (pss_one (ps_set (i := 6) sc_law_within.nd rfl (Or.inl rfl) (pe_fn F_law_minus (by decide) hr (by rfl) passE0 (pa_cons (pv 6) (pa_cons (pe_fn F_law_times (by decide) hr (by rfl) passE0 (pa_cons (pv 4) (pa_cons (pe_tup (pa_cons pe_int (pa_cons pe_int pa_nil))) pa_nil))) pa_nil))))) pss_nil)
      (pss_one (ps_ret (pe_tup (pa_cons (pv 7) (pa_cons (pv 6) pa_nil)))))))))))))), ?_⟩
  try dsimp only [cxK, cxK0]
  have sm9 : ∀ i : Int, -(2 ^ 64) < i → i < 2 ^ 64 → Bd 9000 i := fun i h1 h2 => (Bd.small h1 h2).mono (by decide)
  with_reducible refine seq_go fun N2 hN2 => ?_
  refine ⟨_, rfl, by show 2 ≤ sizeLine; decide, ?_⟩
  intro p2 n2
  obtain ⟨H2, q2, s2, e2⟩ := newO n2 (.lst [.int (3 : Int), .int (1000 : Int)])
  rw [q2]
  clear q2
  have hb2 := s2 _ _ hb_bx
  have ap2 : p2 ≠ bx := Ne.symm (ne_of_none hb_bx n2)
  refine ⟨_, rfl, bx, 2, _, rfl, hb2, by decide, sm9 _ (by decide) (by decide), fun d3 n3 H3 lo3 hi3 s3 hb3 => ?_⟩
  obtain ⟨v3, ev3, mv3⟩ := atI_mem ([(3 : Int), (1000 : Int)] : List Int) d3 (by omega) (by show _ < (2 : Int); omega)
  have bv3 : 3 ≤ v3 ∧ v3 ≤ 1000 := (show ∀ z ∈ ([(3 : Int), (1000 : Int)] : List Int), 3 ≤ z ∧ z ≤ 1000 by decide +kernel) v3 mv3
  refine ⟨p2, _, _, _, rfl, rfl, SqL.of (s3 _ _ ap2 e2), ev3, bx, v3, _, rfl, hb3, by omega, sm9 _ (by omega) (by omega), fun d4 n4 H4 lo4 hi4 s4 hb4 => ?_⟩
  refine ⟨_, _, rfl, rfl, ?_⟩
  with_reducible refine g_go ?_
  with_reducible refine hN2 _ _ ?_
  with_reducible refine seq_go fun N2 hN2 => ?_
  refine ⟨_, rfl, by show 3 ≤ sizeLine; decide, ?_⟩
  intro p5 n5
  obtain ⟨H5, q5, s5, e5⟩ := newO n5 (.lst [.int (3 : Int), .int (6 : Int), .int (12 : Int)])
  rw [q5]
  clear q5
  have hb5 := s5 _ _ hb4
  have ap5 : p5 ≠ bx := Ne.symm (ne_of_none hb4 n5)
  refine ⟨_, rfl, bx, 3, _, rfl, hb5, by decide, sm9 _ (by decide) (by decide), fun d6 n6 H6 lo6 hi6 s6 hb6 => ?_⟩
  obtain ⟨v6, ev6, mv6⟩ := atI_mem ([(3 : Int), (6 : Int), (12 : Int)] : List Int) d6 (by omega) (by show _ < (3 : Int); omega)
  have bv6 : 3 ≤ v6 ∧ v6 ≤ 12 := (show ∀ z ∈ ([(3 : Int), (6 : Int), (12 : Int)] : List Int), 3 ≤ z ∧ z ≤ 12 by decide +kernel) v6 mv6
  refine ⟨p5, _, _, _, rfl, rfl, SqL.of (s6 _ _ ap5 e5), ev6, bx, v6, _, rfl, hb6, by omega, sm9 _ (by omega) (by omega), fun d7 n7 H7 lo7 hi7 s7 hb7 => ?_⟩
  refine ⟨_, _, rfl, rfl, ?_⟩
  with_reducible refine g_go ?_
  with_reducible refine hN2 _ _ ?_
  with_reducible refine seq_go fun N2 hN2 => ?_
  refine ⟨_, rfl, bx, 3, _, rfl, hb7, by decide, sm9 _ (by decide) (by decide), fun d8 n8 H8 lo8 hi8 s8 hb8 => ?_⟩
  obtain ⟨ev, hev⟩ : ∃ ev : Bool, decide (V.int d8 = V.int 2) = ev := ⟨_, rfl⟩
  refine ⟨rfl, ?_⟩
  rw [hev]
  with_reducible refine g_go ?_
  with_reducible refine hN2 _ _ ?_
  with_reducible refine seq_go fun N2 hN2 => ?_
  refine ⟨_, rfl, bx, 6, _, rfl, hb8, by decide, sm9 _ (by decide) (by decide), fun d9 n9 H9 lo9 hi9 s9 hb9 => ?_⟩
  refine ⟨_, _, rfl, rfl, _, rfl, bx, 3, _, rfl, hb9, by decide, sm9 _ (by decide) (by decide), fun d10 n10 H10 lo10 hi10 s10 hb10 => ?_⟩
  refine ⟨_, _, rfl, rfl, _, _, rfl, sm9 _ (by omega) (by omega), by omega, fun p11 H11 s11 g11 => ?_⟩
  have sf : Six 36 (Rat.divInt (1 + d9) (1 + d10)) := (six_fit (N := 6) (by omega) (by omega) (by omega) (by omega)).mono (by decide)
  have pf : (0 : Rat) < Rat.divInt (1 + d9) (1 + d10) := q_divpos (by omega) (by omega)
  have hb11 := s11 _ _ hb10
  with_reducible refine g_go ?_
  with_reducible refine hN2 _ _ ?_
  with_reducible refine seq_go fun N2 hN2 => ?_
  refine ⟨_, rfl, bx, _, rfl, hb11, fun q1 v1 H12 n12 s12 hb12 g12 dv1 sv1 => ?_⟩
  refine ⟨_, rfl, bx, _, rfl, hb12, fun q2 v2 H13 n13 s13 hb13 g13 dv2 sv2 => ?_⟩
  refine ⟨by show 2 ≤ sizeLine; decide, ?_⟩
  intro p14 n14
  obtain ⟨H14, q14, s14, e14⟩ := newO n14 (.lst [.ref q1, .ref q2])
  rw [q14]
  clear q14
  have hb14 := s14 _ _ hb13
  have ap14 : p14 ≠ bx := Ne.symm (ne_of_none hb13 n14)
  with_reducible refine g_go ?_
  with_reducible refine hN2 _ _ ?_
  refine ⟨_, rfl, by show 0 ≤ sizeLine; decide, ?_⟩
  intro p15 n15
  obtain ⟨H15, q15, s15, e15⟩ := newO n15 (.lst [])
  rw [q15]
  clear q15
  have hb15 := s15 _ _ hb14
  have ap15 : p15 ≠ bx := Ne.symm (ne_of_none hb14 n15)
  have apF : p14 ≠ p15 := ne_of_none e14 n15
  have B10 : But bx H H10 := (But.of s2).trans (s3.trans (s4.trans ((But.of s5).trans (s6.trans (s7.trans (s8.trans (s9.trans s10)))))))
  have B14 : But bx H H14 := B10.trans ((But.of s11).trans (s12.trans (s13.trans (But.of s14))))
  have nf0 : H p15 = none := none_of_but B14 n15 ap15
  have g11' := Kw.Same.tup s15 (Kw.Same.tup s14 (s13.tup hb12 (s12.tup hb11 g11)))
  have g12' := Kw.Same.tup s15 (Kw.Same.tup s14 (s13.tup hb12 g12))
  have g13' := Kw.Same.tup s15 (Kw.Same.tup s14 g13)
  with_reducible refine g_go ?_
  with_reducible refine seq_go fun N2 hN2 => ?_
  with_reducible refine for_go fun B2 hB2 => ?_
  refine ⟨_, rfl, _, rfl, by omega, by omega, for_range (n := (1 + d7).toNat) (fun i σ1 H' => ∃ (ps : Addr) (st : Rat) (pp : Addr) (x : Rat) (rk rs : Option V) (xs : List V) (bs : List Bod) (nb : Int), σ1 = [some (.ref bx), some (.int (1 + d4)), some (.int (1 + d7)), some (.bl ev), some (.ref ps), some (.ref p14), some (.ref pp), some (.ref p15), rk, rs] ∧ But bx H H' ∧ H' bx = some (.lst [.int nb]) ∧ H' p15 = some (.lst xs) ∧ H' p14 = some (.lst [.ref q1, .ref q2]) ∧ FQ K H' q1 v1 ∧ FQ K H' q2 v2 ∧ Al2 (BdQ K H' 64) xs bs ∧ FQ K H' ps st ∧ Six 36 st ∧ 0 < st ∧ FQ K H' pp x ∧ Six (36 + 36 * (i : Int)) x ∧ bs.length = i ∧ Asc bs ∧ (∀ a ∈ bs, 0 < a.1 ∧ a.1 + st ≤ x) ∧ 0 < x ∧ ∀ a ∈ bs, a.2.2 = 1 + d4)
    ⟨p11, _, p11, _, _, _, [], [], n13, rfl, B14.trans (But.of s15), hb15, e15, s15 _ _ e14, g12', g13', trivial, g11', sf, pf, g11', sf.mono (by omega), rfl, List.Pairwise.nil, (fun _ z => nomatch z), pf, fun _ z => nomatch z⟩ ?_ ?_⟩
  · rintro i σ1 K4 hi4 ⟨ps, st, pp, x, rk, rs, xs, bs, nb, rfl, B4, hc4, hF, hW, g1, g2, al, gst, s36, st0, gx, x6, len, asc, pos, x0, hw⟩
    have hi12 : i < 12 := by omega
    with_reducible refine g_go ?_
    with_reducible refine hB2 _ _ _ fun E4 hE4 hR4 _ _ => ?_
    with_reducible refine seq_go fun N4 hN4 => ?_
    refine ⟨_, rfl, _, rfl, bx, 2, nb, rfl, hc4, by decide, sm9 _ (by decide) (by decide), fun d5 m5 K5 lo5 hi5 t5 hc5 => ?_⟩
    obtain ⟨qd, vd, hat, gd, sd⟩ : ∃ (qd : Addr) (vd : Rat), atI ([.ref q1, .ref q2] : List V) d5 = some (.ref qd) ∧ FQ K K5 qd vd ∧ Six 72 vd := by
      rcases (show d5 = 0 ∨ d5 = 1 by omega) with rfl | rfl
      · skip
        exact ⟨q1, v1, rfl, t5.tup hc4 g1, sv1⟩
      · skip
        exact ⟨q2, v2, rfl, t5.tup hc4 g2, sv2⟩
    refine ⟨p14, _, _, _, rfl, rfl, SqL.of (t5 _ _ ap14 hW), hat, ?_⟩
    refine g_go ?_
    try dsimp only
    with_reducible refine hN4 _ _ ?_
    refine cut1 (fun σ' H' => ∃ (qs : Addr) (vs : Rat) (ps' : Addr) (st' : Rat) (nb' : Int), σ' = [some (.ref bx), some (.int (1 + d4)), some (.int (1 + d7)), some (.bl ev), some (.ref ps'), some (.ref p14), some (.ref pp), some (.ref p15), some (.int (0 + (i : Int))), some (.ref qs)] ∧ But bx K5 H' ∧ H' bx = some (.lst [.int nb']) ∧ FQ K H' qs vs ∧ Six 72 vs ∧ FQ K H' ps' st' ∧ Six 36 st' ∧ 0 < st') (fun N hN => ?_) ?_
    · skip
      with_reducible refine if_go fun K6 hK6 => ?_
      refine ⟨_, rfl, _, rfl, ?_⟩
      cases ev with
      | true =>
        with_reducible refine hK6 _ _ ?_
        refine iteF ?_
        with_reducible refine nil_go ?_
        exact hN _ _ ⟨qd, vd, ps, st, m5, rfl, But.refl _, hc5, gd, sd, t5.tup hc4 gst, s36, st0⟩
      | false =>
        with_reducible refine hK6 _ _ ?_
        refine iteT ?_
        with_reducible refine seq_go fun N8 hN8 => ?_
        refine ⟨_, rfl, bx, _, rfl, hc5, fun qs vs K6 n6 t6 hc6 gq dq sq => ?_⟩
        with_reducible refine g_go ?_
        with_reducible refine hN8 _ _ ?_
        refine ⟨_, rfl, bx, 6, _, rfl, hc6, by decide, sm9 _ (by decide) (by decide), fun e9 m9 K9 lo9 hi9 t9 hc9 => ?_⟩
        refine ⟨_, _, rfl, rfl, _, rfl, bx, 3, _, rfl, hc9, by decide, sm9 _ (by decide) (by decide), fun e10 m10 K10 lo10 hi10 t10 hc10 => ?_⟩
        refine ⟨_, _, rfl, rfl, _, _, rfl, sm9 _ (by omega) (by omega), by omega, fun p7 K7 t7 g7 => ?_⟩
        have sf' : Six 36 (Rat.divInt (1 + e9) (1 + e10)) := (six_fit (N := 6) (by omega) (by omega) (by omega) (by omega)).mono (by decide)
        have pf' : (0 : Rat) < Rat.divInt (1 + e9) (1 + e10) := q_divpos (by omega) (by omega)
        with_reducible refine g_go ?_
        exact hN _ _ ⟨qs, vs, p7, _, m10, rfl, t6.trans (t9.trans (t10.trans (But.of t7))), t7 _ _ hc10, Kw.Same.tup t7 (t10.tup hc9 (t9.tup hc6 gq)), sq, g7, sf', pf'⟩
    · rintro σ' K6 ⟨qs, vs, ps', st', nb', rfl, t6, hc6, gq, sq, gst', s36', st0'⟩
      have t56 := t5.trans t6
      have hF6 := t56 _ _ ap15 hF
      have dx : FB 64 x := x6.fb (by omega)
      with_reducible refine seq_go fun N6 hN6 => ?_
      refine ⟨_, rfl, .inl ⟨rfl, _, SqL.of hF6⟩, _, rfl, _, rfl, _, rfl, by show 3 ≤ sizeLine; decide, ?_⟩
      intro p27 n27
      obtain ⟨H27, q27, s27, e27⟩ := newO n27 (.tup [.ref pp, .ref qs, .int (1 + d4)])
      rw [q27]
      clear q27
      have hF27 := s27 _ _ hF6
      have lx := Al2.len al
      refine ⟨p15, _, _, rfl, rfl, hF27, by rw [lx, len]; exact Nat.lt_of_lt_of_le hi12 (by decide), ?_⟩
      have t427 := t56.trans (But.of s27)
      have al27 := bds_but al t427 hc4
      have gx27 := t427.tup hc4 gx
      have gst27 := Kw.Same.tup s27 gst'
      have one : BdQ K H27 64 (.ref p27) (x, vs, 1 + d4) := ⟨p27, pp, qs, rfl, SqT.of e27, gx27, Kw.Same.tup s27 gq, dx, sq.fb (by decide), (by show (1 : Int) ≤ 1 + d4; omega), (by show 1 + d4 ≤ (10000 : Int); omega)⟩
      obtain ⟨H28, q28, s28, e28⟩ := newB (H := H27) (p := p15) (.lst (xs ++ [.ref p27]))
      try dsimp only
      rw [q28]
      clear q28
      have hc28 := s28 _ _ (Ne.symm ap15) (s27 _ _ hc6)
      have al28 := bds_but (Al2.snoc al27 one) s28 hF27
      with_reducible refine hN6 _ _ ?_
      refine ⟨_, rfl, _, rfl, pp, x, 64, ps', st', 64, rfl, s28.tup hF27 gx27, dx, s28.tup hF27 gst27, s36'.fb (by decide), by decide, fun p29 H29 s29 g29 => ?_⟩
      have BF : But bx H H29 := fun a o na ho => s29 a o (s28 a o (ne_of_none ho nf0) ((B4.trans t427) a o na ho))
      have mv : ∀ {pq : Addr} {y : Rat}, FQ K K4 pq y → FQ K H29 pq y := fun h => Kw.Same.tup s29 (s28.tup hF27 (t427.tup hc4 h))
      with_reducible refine g_go ?_
      with_reducible refine hE4 _ _ ?_
      refine ⟨ps', st', p29, _, _, _, _, _, nb', rfl, BF, s29 _ _ hc28, s29 _ _ e28, s29 _ _ (s28 _ _ apF (t427 _ _ ap14 hW)), mv g1, mv g2, bds_same al28 s29, Kw.Same.tup s29 (s28.tup hF27 gst27), s36', st0', g29, (x6.add s36').mono (by omega), by simp [len], asc.snoc (fun a ha => by have := pos a ha; grind), (fun a ha => ?_), by grind, fun a ha => ?_⟩
      · rcases List.mem_append.mp ha with z | z
        · have := pos a z
          grind
        · rw [List.mem_singleton.mp z]
          exact ⟨x0, Rat.le_refl⟩
      · rcases List.mem_append.mp ha with z | z
        · skip
          exact hw a z
        · rw [List.mem_singleton.mp z]
  · rintro σ1 K4 ⟨ps, st, pp, x, rk, rs, xs, bs, nb, rfl, B4, hc4, hF, hW, g1, g2, al, gst, s36, st0, gx, x6, len, asc, pos, x0, hw⟩
    have dx : FB 64 x := x6.fb (by omega)
    try dsimp only
    with_reducible refine hN2 _ _ ?_
    refine cut1 (fun σ' H' => ∃ (qL : Addr) (L : Rat) (nb' : Int), σ' = [some (.ref bx), some (.int (1 + d4)), some (.int (1 + d7)), some (.bl ev), some (.ref ps), some (.ref p14), some (.ref qL), some (.ref p15), rk, rs] ∧ But bx K4 H' ∧ H' bx = some (.lst [.int nb']) ∧ FQ K H' qL L ∧ FB 200 L ∧ ∀ a ∈ bs, a.1 < L) (fun N hN => ?_) ?_
    · have out : ∀ (nb' : Int) (K5 : Hp), But bx K4 K5 → K5 bx = some (.lst [.int nb']) → N [some (.ref bx), some (.int (1 + d4)), some (.int (1 + d7)), some (.bl ev), some (.ref ps), some (.ref p14), some (.ref pp), some (.ref p15), rk, rs] K5 := fun nb' K5 t5 hc5 => hN _ _ ⟨pp, x, nb', rfl, t5, hc5, t5.tup hc4 gx, dx.mono (by decide), fun a ha => by have := pos a ha; grind⟩
      with_reducible refine if_go fun K6 hK6 => ?_
      refine ⟨_, rfl, _, rfl, ?_⟩
      cases ev with
      | false =>
        refine iteF ?_
        with_reducible refine hK6 _ _ ?_
        exact out nb K4 (But.refl _) hc4
      | true =>
        refine iteT ?_
        refine ⟨_, rfl, bx, 2, _, rfl, hc4, by decide, sm9 _ (by decide) (by decide), fun d5 m5 K5 lo5 hi5 t5 hc5 => ?_⟩
        refine ⟨rfl, _, rfl, ?_⟩
        with_reducible refine hK6 _ _ ?_
        refine if_decI (fun z => ?_) (fun z => ?_)
        · skip
          refine ⟨_, rfl, _, rfl, by show 2 ≤ sizeLine; decide, ?_⟩
          intro p26 n26
          obtain ⟨H26, q26, s26, e26⟩ := newO n26 (.tup [.int 1, .int 2])
          rw [q26]
          clear q26
          have g26 : FQ K H26 p26 (Rat.divInt 1 2) := FQ.lit (SqT.of e26) (by decide) (by decide)
          have d26 : FB 64 (Rat.divInt 1 2) := FB.fit (by decide) (Bd.small (by decide) (by decide)) (Bd.small (by decide) (by decide))
          have v26 : (Rat.divInt 1 2 : Rat) = 1 / 2 := q_dv 1 2
          refine ⟨ps, st, 64, p26, _, 64, rfl, Kw.Same.tup s26 (t5.tup hc4 gst), s36.fb (by decide), g26, d26, by decide, fun p27 K7 s27 g27 => ?_⟩
          have d27 := FB.mul (s36.fb (by decide)) d26
          have s57 := s26.trans s27
          refine ⟨pp, x, 64, p27, _, _, rfl, Kw.Same.tup s57 (t5.tup hc4 gx), dx, g27, d27, by decide, fun p28 K8 s28 g28 => ?_⟩
          have s58 := s57.trans s28
          with_reducible refine g_go ?_
          refine hN _ _ ⟨p28, _, m5, rfl, t5.trans (But.of s58), s58 _ _ hc5, g28, (FB.sub dx d27).mono (by decide), fun a ha => ?_⟩
          have := pos a ha
          rw [v26]
          grind
        · skip
          with_reducible refine nil_go ?_
          exact out m5 K5 t5 hc5
    · rintro σ' K6 ⟨qL, L, nb', rfl, t6, hc6, gL, dL, below⟩
      refine ⟨_, rfl, _, rfl, by show 2 ≤ sizeLine; decide, ?_⟩
      intro p27 n27
      obtain ⟨H27, q27, s27, e27⟩ := newO n27 (.tup [.ref p15, .ref qL])
      rw [q27]
      clear q27
      have t47 := t6.trans (But.of s27)
      exact k p27 p15 qL xs bs (1 + d4) L nb' H27 (B4.trans t47) nf0 ap15 (s27 _ _ hc6) (SqT.of e27) (t47 _ _ ap15 hF) (bds_but al t47 hc4) (by omega) (by omega) asc (by omega) (by omega) hw (Kw.Same.tup s27 gL) dL (fun a ha => ⟨(pos a ha).1, below a ha⟩)
noncomputable def sp_law_moment_of (K : PySem.W.Frag) : Sp := fun vs H Q _ => ∃ (b : Addr) (n : Int) (f : Addr) (xs : List V) (bs : List Bod) (q : Addr) (L : Rat), vs = [.ref b, .ref f, .ref q] ∧ H b = some (.lst [.int n]) ∧ f ≠ b ∧ H f = some (.lst xs) ∧ Al2 (BdQ K H 64) xs bs ∧ 1 ≤ bs.length ∧ bs.length ≤ 12 ∧ FQ K H q L ∧ FB 200 L ∧ (∀ a ∈ bs, Inrm L a) ∧
  ∀ (p : Addr) (t : Rat) (n1 : Int) (H1 : Hp), But b H H1 → H1 b = some (.lst [.int n1]) → FQ K H1 p t → FB 600 t → 0 ≤ t → Q (.ref p) H1
theorem sc_law_moment_of : FnScope ["_law_box_here", "_law_world_here", "_law_length", "_law_body", "_law_way"] ["_law_box_here", "_law_world_here", "_law_length"] (defScope (top 57)) := ⟨rfl, rfl, rfl, by decide +kernel, rfl, by decide +kernel, by decide +kernel⟩
theorem ok_law_moment_of (D : Df K mg "_law_moment_of" (top 57) ["_law_box_here", "_law_world_here", "_law_length"]) (T : Tx K mg CK C) (F_law_take : Fn P w K mg base 1 "_law_take" ["_law_box_here", "_law_many"] spTake) (F_law_fit : Fn P w K mg base 1 "_law_fit" ["_law_top", "_law_bottom"] (sp_law_fit K)) (F_law_plus : Fn P w K mg base 2 "_law_plus" ["_law_one", "_law_other"] (sp_law_plus K)) (F_law_times : Fn P w K mg base 2 "_law_times" ["_law_one", "_law_other"] (sp_law_times K)) (F_law_minus : Fn P w K mg base 2 "_law_minus" ["_law_one", "_law_other"] (sp_law_minus K)) (F_law_over : Fn P w K mg base 2 "_law_over" ["_law_one", "_law_other"] (sp_law_over K)) : Fn P w K mg base 3 "_law_moment_of" ["_law_box_here", "_law_world_here", "_law_length"] (sp_law_moment_of K) := by
  refine D.ok0 sc_law_moment_of (fun vs H Q E h => ?_) (fun f cdv A outer s H vs Q E hr h => ?_)
  · obtain ⟨b, n, f, xs, bs, q, L, rfl, _⟩ := h
    rfl
  obtain ⟨b, n, f, xs, bs, q, L, rfl, hb, nfb, hf, al, l1, l12, gL, dL, wi, k⟩ := h
  refine ⟨_, (pss_cons (ps_set (i := 3) sc_law_moment_of.nd rfl (Or.inl rfl) (pe_ix ix_list (pv 1) (pe_fn F_law_take (by decide) hr (by rfl) passE0 (pa_cons (pv 0) (pa_cons (pe_callB call_len (by rfl) T.b_len PyProof.Rows.Boot.«len» (pa_cons (pv 1) pa_nil)) pa_nil))) (fun _ _ => rfl)))
      (pss_cons (ps_if (pw_and (pt_cmpR op_eq (pe_fn F_law_take (by decide) hr (by rfl) passE0 (pa_cons (pv 0) (pa_cons pe_int pa_nil))) pe_int (nomark _)) (pw_and1 (pt_cmpR op_ne (pe_ix ix_tup (pe_ix ix_tup (pv 3) pe_int (fun _ _ => rfl)) pe_int (fun _ _ => rfl)) pe_int (nomark _)))).pt (pss_cons (ps_set (i := 4) sc_law_moment_of.nd rfl (Or.inl rfl) (pe_ix ix_tup (pv 3) pe_int (fun _ _ => rfl)))
      (pss_cons (ps_if (pt_cmpR op_gt (pe_ix ix_tup (pe_ix ix_tup (pv 3) pe_int (fun _ _ => rfl)) pe_int (fun _ _ => rfl)) pe_int (nomark _)) (pss_one (ps_set (i := 4) sc_law_moment_of.nd rfl (Or.inl rfl) (pe_fn F_law_minus (by decide) hr (by rfl) passE0 (pa_cons (pv 2) (pa_cons (pv 4) pa_nil))))) pss_nil)
      (pss_cons (ps_set (i := 4) sc_law_moment_of.nd rfl (Or.inl rfl) (pe_fn F_law_plus (by decide) hr (by rfl) passE0 (pa_cons (pv 4) (pa_cons (pe_fn F_law_times (by decide) hr (by rfl) passE0 (pa_cons (pe_tup (pa_cons (pe_fn F_law_take (by decide) hr (by rfl) passE0 (pa_cons (pv 0) (pa_cons pe_int pa_nil))) (pa_cons pe_int pa_nil))) (pa_cons (pv 2) pa_nil))) pa_nil))))
      (pss_one (ps_ret (pe_fn F_law_over (by decide) hr (by rfl) passE0 (pa_cons (pv 4) (pa_cons (pe_tup (pa_cons (pe_callB call_abs (by rfl) T.b_abs PyProof.Rows.Boot.«abs» (pa_cons (pe_ix ix_tup (pe_ix ix_tup (pv 3) pe_int (fun _ _ => rfl)) pe_int (fun _ _ => rfl)) pa_nil)) (pa_cons (pe_ix ix_tup (pe_ix ix_tup (pv 3) pe_int (fun _ _ => rfl)) pe_int (fun _ _ => rfl)) pa_nil))) pa_nil)))))))) pss_nil)
      (pss_one (ps_ret (pe_fn F_law_fit (by decide) hr (by rfl) passE0 (pa_cons (pe_fn F_law_take (by decide) hr (by rfl) passE0 (pa_cons (pv 0) (pa_cons pe_int pa_nil))) (pa_cons (pe_op op_add pe_int (pe_fn F_law_take (by decide) hr (by rfl) passE0 (pa_cons (pv 0) (pa_cons pe_int pa_nil)))) pa_nil))))))), ?_⟩
  try dsimp only [cxK, cxK0]
  have sm9 : ∀ i : Int, -(2 ^ 64) < i → i < 2 ^ 64 → Bd 9000 i := fun i h1 h2 => (Bd.small h1 h2).mono (by decide)
  have hz := Al2.len al
  with_reducible refine seq_go fun N2 hN2 => ?_
  refine ⟨_, rfl, _, rfl, _, rfl, _, _, rfl, .inl ⟨_, SqL.of hf, rfl⟩, b, _, _, rfl, hb, by omega, sm9 _ (by omega) (by omega), fun d1 n1 H1 lo1 hi1 s1 hb1 => ?_⟩
  have hf1 := s1 _ _ nfb hf
  obtain ⟨j, rfl⟩ : ∃ j : Nat, d1 = (j : Int) := ⟨d1.toNat, by omega⟩
  obtain ⟨x, hx⟩ : ∃ x, xs[j]? = some x := ⟨_, List.getElem?_eq_getElem (by omega)⟩
  obtain ⟨bd, hbd, pb, pa, pc, rfl, x1, x2, x3, x4, x5, x6, x7⟩ := Al2.get (bds_but al s1 hb) hx
  refine ⟨f, _, _, _, rfl, rfl, SqL.of hf1, atI_nat hx, ?_⟩
  have ir := wi bd (List.mem_of_getElem? hbd)
  with_reducible refine g_go ?_
  with_reducible refine hN2 _ _ ?_
  with_reducible refine seq_go fun N2 hN2 => ?_
  with_reducible refine if_go fun K2 hK2 => ?_
  refine ⟨_, rfl, b, 2, _, rfl, hb1, by decide, sm9 _ (by decide) (by decide), fun d2 n2 H2 lo2 hi2 s2 hb2 => ?_⟩
  have s12 := s1.trans s2
  have y1 := s2.tup hb1 x1
  have y2 := s2.tup hb1 x2
  have y3 := s2.tup hb1 x3
  have gL2 := s12.tup hb gL
  refine ⟨rfl, _, rfl, ?_⟩
  refine if_decI (fun z => ?_) (fun z => ?_)
  · skip
    refine ⟨_, rfl, pb, _, _, _, rfl, rfl, y1, rfl, pc, _, _, _, rfl, rfl, y3, rfl, rfl, _, rfl, ?_⟩
    with_reducible refine hK2 _ _ ?_
    refine if_neI (fun c => ?_) (fun c => ?_)
    · have vn : bd.2.1 ≠ 0 := fun e => c (by rw [e]; rfl)
      have ap := absQ_pos vn
      with_reducible refine seq_go fun N6 hN6 => ?_
      refine ⟨_, rfl, pb, _, _, _, rfl, rfl, y1, rfl, ?_⟩
      refine g_go ?_
      try dsimp only
      with_reducible refine hN6 _ _ ?_
      refine cut1 (fun σ' H' => ∃ (pw : Addr) (y : Rat), σ' = [some (.ref b), some (.ref f), some (.ref q), some (.ref pb), some (.ref pw)] ∧ Same H2 H' ∧ FQ K H' pw y ∧ FB 265 y ∧ 0 ≤ y) (fun N hN => ?_) ?_
      · skip
        with_reducible refine if_go fun K8 hK8 => ?_
        refine ⟨_, rfl, pb, _, _, _, rfl, rfl, y1, rfl, pc, _, _, _, rfl, rfl, y3, rfl, _, _, rfl, rfl, _, rfl, ?_⟩
        with_reducible refine hK8 _ _ ?_
        refine if_dec (fun g => ?_) (fun g => ?_)
        · skip
          refine ⟨_, rfl, _, rfl, q, L, 200, pa, bd.1, 64, rfl, gL2, dL, y2, x4, by decide, fun r3 H3 s3 g3 => ?_⟩
          with_reducible refine g_go ?_
          exact hN _ _ ⟨r3, _, rfl, s3, g3, (FB.sub dL x4).mono (by decide), by have := ir.2; grind⟩
        · skip
          with_reducible refine nil_go ?_
          exact hN _ _ ⟨pa, _, rfl, Same.refl _, y2, x4.mono (by decide), by have := ir.1; grind⟩
      · rintro σ' H3 ⟨pw, y, rfl, s3, gy, dy, y0⟩
        with_reducible refine seq_go fun N8 hN8 => ?_
        refine ⟨_, rfl, _, rfl, b, 3, _, rfl, s3 _ _ hb2, by decide, sm9 _ (by decide) (by decide), fun d4 n4 H4 lo4 hi4 s4 hb4 => ?_⟩
        have hb3 := s3 _ _ hb2
        refine ⟨by show 2 ≤ sizeLine; decide, ?_⟩
        intro p5 n5
        obtain ⟨H5, q5, s5, e5⟩ := newO n5 (.tup [.int d4, .int 1])
        rw [q5]
        clear q5
        have g5 : FQ K H5 p5 (d4 : Rat) := FQ.ofInt (SqT.of e5)
        have d5 : FB 64 (d4 : Rat) := FB.ofInt (Bd.small (by omega) (by omega)) (by decide)
        have m3 : ∀ {pq : Addr} {zs : List V}, SqT K H2 pq zs → SqT K H5 pq zs := fun h => Kw.Same.tup s5 (s4.tup hb3 (Kw.Same.tup s3 h))
        refine ⟨_, rfl, p5, _, 64, q, L, 200, rfl, g5, d5, m3 gL2, dL, by decide, fun r6 H6 s6 g6 => ?_⟩
        have d6 := FB.mul d5 dL
        refine ⟨pw, y, 265, r6, _, _, rfl, Kw.Same.tup (s5.trans s6) (s4.tup hb3 gy), dy, g6, d6, by decide, fun r7 H7 s7 g7 => ?_⟩
        have d7 := FB.add dy d6
        have s57 := s6.trans s7
        have w1 := Kw.Same.tup s57 (m3 y1)
        have w3 := Kw.Same.tup s57 (m3 y3)
        with_reducible refine g_go ?_
        with_reducible refine hN8 _ _ ?_
        refine ⟨_, rfl, _, rfl, pb, _, _, _, rfl, rfl, w1, rfl, pc, _, _, _, rfl, rfl, w3, rfl, _, rfl, _, rfl, pb, _, _, _, rfl, rfl, w1, rfl, pc, _, _, _, rfl, rfl, w3, rfl, by show 2 ≤ sizeLine; decide, ?_⟩
        intro p8 n8
        obtain ⟨H8, q8, s8, e8⟩ := newO n8 (.tup [.int (if bd.2.1.num < 0 then -bd.2.1.num else bd.2.1.num), .int ((bd.2.1.den : Nat) : Int)])
        rw [q8]
        clear q8
        refine ⟨r7, _, _, p8, absQ bd.2.1, 64, rfl, Kw.Same.tup s8 g7, d7, FQ.abs (SqT.of e8), FB.abs x5, by decide, by grind, fun r9 H9 s9 g9 => ?_⟩
        have L0 : 0 ≤ L := by have := ir.1; have := ir.2; grind
        have dd : (0 : Rat) ≤ (d4 : Rat) := Rat.intCast_le_intCast.mpr lo4
        have dn : 0 ≤ (d4 : Rat) * L := Rat.mul_nonneg dd L0
        refine k r9 _ n4 H9 (s12.trans ((But.of s3).trans (s4.trans (But.of (s5.trans (s57.trans (s8.trans s9))))))) ((s5.trans (s57.trans (s8.trans s9))) _ _ hb4) g9 ((FB.div d7 (FB.abs x5) (by grind)).mono (by decide)) ?_
        exact q_div_le (by grind) ap
    · skip
      with_reducible refine nil_go ?_
      with_reducible refine hN2 _ _ ?_
      refine ⟨_, rfl, b, 20, _, rfl, hb2, by decide, sm9 _ (by decide) (by decide), fun d8 n8 H8 lo8 hi8 s8 hb8 => ?_⟩
      refine ⟨_, rfl, b, 5, _, rfl, hb8, by decide, sm9 _ (by decide) (by decide), fun d9 n9 H9 lo9 hi9 s9 hb9 => ?_⟩
      refine ⟨_, _, rfl, rfl, _, _, rfl, sm9 _ (by omega) (by omega), by omega, fun p10 H10 s10 g10 => ?_⟩
      refine k p10 _ n9 H10 (s12.trans (s8.trans (s9.trans (But.of s10)))) (s10 _ _ hb9) g10 ((FB.fit (n := 64) (by omega) (Bd.small (by omega) (by omega)) (Bd.small (by omega) (by omega))).mono (by decide)) ?_
      rw [q_dv]
      exact q_div_nn (by omega) (by omega)
  · skip
    with_reducible refine hK2 _ _ ?_
    refine iteF ?_
    with_reducible refine nil_go ?_
    with_reducible refine hN2 _ _ ?_
    refine ⟨_, rfl, b, 20, _, rfl, hb2, by decide, sm9 _ (by decide) (by decide), fun d8 n8 H8 lo8 hi8 s8 hb8 => ?_⟩
    refine ⟨_, rfl, b, 5, _, rfl, hb8, by decide, sm9 _ (by decide) (by decide), fun d9 n9 H9 lo9 hi9 s9 hb9 => ?_⟩
    refine ⟨_, _, rfl, rfl, _, _, rfl, sm9 _ (by omega) (by omega), by omega, fun p10 H10 s10 g10 => ?_⟩
    refine k p10 _ n9 H10 (s12.trans (s8.trans (s9.trans (But.of s10)))) (s10 _ _ hb9) g10 ((FB.fit (n := 64) (by omega) (Bd.small (by omega) (by omega)) (Bd.small (by omega) (by omega))).mono (by decide)) ?_
    rw [q_dv]
    exact q_div_nn (by omega) (by omega)
theorem FirstU.uniq {bs : List Bod} {i j : Nat} (h : FirstU bs i) (g : FirstU bs j) : i = j := by
  obtain ⟨h1, b0, b, e0, e1, ne, lo⟩ := h
  obtain ⟨g1, c0, c, f0, f1, nf, lo'⟩ := g
  cases e0.symm.trans f0
  rcases Nat.lt_trichotomy i j with z | z | z
  · skip
    exact absurd (lo' i b h1 z e1) ne
  · skip
    exact z
  · skip
    exact absurd (lo j c g1 z f1) nf
noncomputable def FirstX (L : Rat) (bs : List Bod) (i : Nat) : Prop := FirstU bs i ∨ (AllW bs ∧ FirstO L bs i)
noncomputable def sp_law_refused (K : PySem.W.Frag) : Sp := fun vs H Q _ => ∃ (wy : Int) (p : Addr) (xs : List V) (bs : List Bod) (q : Addr) (L : Rat) (um : V), vs = [.int wy, .ref p, .ref q, um] ∧ H p = some (.lst xs) ∧ Al2 (BdQ K H 64) xs bs ∧ 1 ≤ bs.length ∧ bs.length ≤ 12 ∧ FQ K H q L ∧ FB 200 L ∧ (wy ≠ 0 ∨ ∃ (u : Addr) (t : Rat), um = .ref u ∧ FQ K H u t ∧ FB 600 t ∧ ¬ 0 ≤ t) ∧
  ((wy = 0 ∧ AllW bs ∧ (∀ b ∈ bs, Inrm L b) ∧ ∀ (r : Addr) (H1 : Hp), Same H H1 → H1 r = some (.tup [.str "moment"]) → Q (.ref r) H1) ∨ ∃ i0 : Nat, FirstX L bs i0 ∧ ∀ (r : Addr) (H1 : Hp), Same H H1 → H1 r = some (.tup [.str "world", .int (i0 : Int)]) → Q (.ref r) H1)
theorem sc_law_refused : FnScope ["_law_way", "_law_world_here", "_law_length", "_law_moment", "e"] ["_law_way", "_law_world_here", "_law_length", "_law_moment"] (defScope (top 58)) := ⟨rfl, rfl, rfl, by decide +kernel, rfl, by decide +kernel, by decide +kernel⟩
theorem ok_law_refused (D : Df K mg "_law_refused" (top 58) ["_law_way", "_law_world_here", "_law_length", "_law_moment"]) (T : Tx K mg CK C) (F_in_room : Fn P w K mg base 6 "in_room" ["world", "length", "moment"] (spX_in_room K C)) (F_round_of : Fn P w K mg base 4 "round_of" ["world", "length"] (spX_round_of K C)) : Fn P w K mg base 7 "_law_refused" ["_law_way", "_law_world_here", "_law_length", "_law_moment"] (sp_law_refused K) := by
  refine D.ok0 sc_law_refused (fun vs H Q E h => ?_) (fun f cdv A outer s0 H vs Q E hr h => ?_)
  · obtain ⟨wy, p, xs, bs, q, L, um, rfl, _⟩ := h
    rfl
  obtain ⟨wy, p, xs, bs, q, L, um, rfl, hp, al, l1, l12, gL, dL, mo, alt⟩ := h
  refine ⟨_, (pss_cons (ps_tryG plain_nox rfl (fun E pn0 E0 hp => (pss_one (ps_if (pt_cmpR op_eq (pv 0) pe_int (nomark _)) (pss_one (ps_expr (pe_fn F_in_room (by decide) hr (by rfl) hp (pa_cons (pv 1) (pa_cons (pv 2) (pa_cons (pv 3) pa_nil)))))) (pss_one (ps_expr (pe_fn F_round_of (by decide) hr (by rfl) hp (pa_cons (pv 1) (pa_cons (pv 2) pa_nil)))))))) (ph_as plain_nox rfl sc_law_refused.nd (j := 4) rfl rfl (by rfl) T.c_NoWorld T.g_NoWorld (fun x => (pss_one (ps_ret (pe_tup (pa_cons pe_str (pa_cons (pe_xcfK (K := K) rfl (pv 4)) pa_nil)))))) (ph_no plain_nox rfl (by rfl) T.c_NoMoment T.g_NoMoment (fun x => (pss_one (ps_ret (pe_tup (pa_cons pe_str pa_nil))))) ph_nil)))
      (pss_one (ps_ret pe_non))), ?_⟩
  try dsimp only [cxK, cxK0]
  rcases alt with ⟨w0, sw, wi, k⟩ | ⟨i0, fx, k⟩
  · obtain ⟨u, t, rfl, gt, dt, tn⟩ : ∃ (u : Addr) (t : Rat), um = .ref u ∧ FQ K H u t ∧ FB 600 t ∧ ¬ 0 ≤ t := mo.resolve_left (fun z => z w0)
    with_reducible refine seq_go fun N4 hN4 => ?_
    refine ⟨_, rfl, rfl, _, rfl, ?_⟩
    refine if_decI (fun c0 => ?_) (fun c0 => absurd w0 c0)
    refine ⟨_, rfl, _, rfl, _, rfl, p, xs, bs, q, L, u, t, rfl, hp, al, l1, l12, gL, dL, gt, dt, fun _ _ t0 => absurd t0 tn, ⟨fun i fi => absurd sw fi.not, fun _ i fi => absurd wi fi.not⟩, fun _ _ _ H1 s1 => ?_⟩
    refine ⟨C 0, rfl, .inr ⟨T.z_NoMoment_NoWorld, .inl ⟨T.s_NoMoment_NoMoment, ?_⟩⟩⟩
    refine ⟨by show 1 ≤ sizeLine; decide, ?_⟩
    intro p9 n9
    obtain ⟨H9, q9, s9, e9⟩ := newO n9 (.tup [.str "moment"])
    rw [q9]
    clear q9
    exact k p9 H9 (s1.trans s9) e9
  · have iq : ∀ i, FirstU bs i → i = i0 := fun i fi => by
      rcases fx with h | ⟨h, _⟩
      · skip
        exact fi.uniq h
      · skip
        exact absurd h fi.not
    have io : AllW bs → ∀ i, FirstO L bs i → i = i0 := fun sw i fi => by
      rcases fx with h | ⟨_, h⟩
      · skip
        exact absurd sw h.not
      · skip
        exact fi.uniq h
    have nw : AllW bs → ¬ ∀ b ∈ bs, Inrm L b := fun sw => by
      rcases fx with h | ⟨_, h⟩
      · skip
        exact absurd sw h.not
      · skip
        exact h.not
    with_reducible refine seq_go fun N4 hN4 => ?_
    refine ⟨_, rfl, rfl, _, rfl, ?_⟩
    refine if_decI (fun c0 => ?_) (fun c0 => ?_)
    · obtain ⟨u, t, rfl, gt, dt, tn⟩ : ∃ (u : Addr) (t : Rat), um = .ref u ∧ FQ K H u t ∧ FB 600 t ∧ ¬ 0 ≤ t := mo.resolve_left (fun z => z c0)
      refine ⟨_, rfl, _, rfl, _, rfl, p, xs, bs, q, L, u, t, rfl, hp, al, l1, l12, gL, dL, gt, dt, fun sw wi => absurd wi (nw sw), ⟨fun i fi d H1 s1 hd => ⟨C 1, rfl, .inl ⟨T.s_NoWorld_NoWorld, fun e ne => ?_⟩⟩, fun sw i fi d H1 s1 hd => ⟨C 1, rfl, .inl ⟨T.s_NoWorld_NoWorld, fun e ne => ?_⟩⟩⟩, fun sw wi => absurd wi (nw sw)⟩
      · cases iq i fi
        obtain ⟨H2, q2, s2, e2⟩ := newO ne (Xc e (C 1) (some d))
        rw [q2]
        clear q2
        refine ⟨_, rfl, e, C 1, d, _, _, rfl, e2, s2 _ _ hd, T.R.q 1 (by decide), T.R.c 1 (by decide) (by decide), T.n_NoWorld_at, rfl, by show 2 ≤ sizeLine; decide, ?_⟩
        intro p9 n9
        obtain ⟨H9, q9, s9, e9⟩ := newO n9 (.tup [.str "world", .int (i0 : Int)])
        rw [q9]
        clear q9
        exact k p9 H9 (s1.trans (s2.trans s9)) e9
      · cases io sw i fi
        obtain ⟨H2, q2, s2, e2⟩ := newO ne (Xc e (C 1) (some d))
        rw [q2]
        clear q2
        refine ⟨_, rfl, e, C 1, d, _, _, rfl, e2, s2 _ _ hd, T.R.q 1 (by decide), T.R.c 1 (by decide) (by decide), T.n_NoWorld_at, rfl, by show 2 ≤ sizeLine; decide, ?_⟩
        intro p9 n9
        obtain ⟨H9, q9, s9, e9⟩ := newO n9 (.tup [.str "world", .int (i0 : Int)])
        rw [q9]
        clear q9
        exact k p9 H9 (s1.trans (s2.trans s9)) e9
    · skip
      refine ⟨_, rfl, _, rfl, p, xs, bs, q, L, rfl, hp, al, l1, l12, gL, dL, nw, ⟨fun i fi d H1 s1 hd => ⟨C 1, rfl, .inl ⟨T.s_NoWorld_NoWorld, fun e ne => ?_⟩⟩, fun sw i fi d H1 s1 hd => ⟨C 1, rfl, .inl ⟨T.s_NoWorld_NoWorld, fun e ne => ?_⟩⟩⟩⟩
      · cases iq i fi
        obtain ⟨H2, q2, s2, e2⟩ := newO ne (Xc e (C 1) (some d))
        rw [q2]
        clear q2
        refine ⟨_, rfl, e, C 1, d, _, _, rfl, e2, s2 _ _ hd, T.R.q 1 (by decide), T.R.c 1 (by decide) (by decide), T.n_NoWorld_at, rfl, by show 2 ≤ sizeLine; decide, ?_⟩
        intro p9 n9
        obtain ⟨H9, q9, s9, e9⟩ := newO n9 (.tup [.str "world", .int (i0 : Int)])
        rw [q9]
        clear q9
        exact k p9 H9 (s1.trans (s2.trans s9)) e9
      · cases io sw i fi
        obtain ⟨H2, q2, s2, e2⟩ := newO ne (Xc e (C 1) (some d))
        rw [q2]
        clear q2
        refine ⟨_, rfl, e, C 1, d, _, _, rfl, e2, s2 _ _ hd, T.R.q 1 (by decide), T.R.c 1 (by decide) (by decide), T.n_NoWorld_at, rfl, by show 2 ≤ sizeLine; decide, ?_⟩
        intro p9 n9
        obtain ⟨H9, q9, s9, e9⟩ := newO n9 (.tup [.str "world", .int (i0 : Int)])
        rw [q9]
        clear q9
        exact k p9 H9 (s1.trans (s2.trans s9)) e9
theorem firstU_last {fs : List Bod} {W : Int} {c : Bod} (hw : ∀ b ∈ fs, b.2.2 = W) (l : 2 ≤ fs.length) (ne : c.2.2 ≠ W) : FirstU (fs.take (fs.length - 1) ++ [c]) (fs.length - 1) := by
  have ln : (fs.take (fs.length - 1)).length = fs.length - 1 := by rw [List.length_take]; omega
  obtain ⟨b0, h0⟩ : ∃ b, fs[0]? = some b := ⟨_, List.getElem?_eq_getElem (by omega)⟩
  have g : ∀ j, j < fs.length - 1 → (fs.take (fs.length - 1) ++ [c])[j]? = fs[j]? := fun j hj => by
    rw [List.getElem?_append_left (by omega), List.getElem?_take, if_pos hj]
  refine ⟨by omega, b0, c, by rw [g 0 (by omega)]; exact h0, ?_, ?_, fun j d h1 h2 h3 => ?_⟩
  · rw [List.getElem?_append_right (by omega), ln, Nat.sub_self]
    rfl
  · rw [hw b0 (List.mem_of_getElem? h0)]
    exact ne
  · rw [g j h2] at h3
    rw [hw d (List.mem_of_getElem? h3), hw b0 (List.mem_of_getElem? h0)]
noncomputable def sp_law_outside (K : PySem.W.Frag) : Sp := fun vs H Q _ => ∃ (b : Addr) (n : Int) (f : Addr) (xs : List V) (bs : List Bod) (W : Int) (q : Addr) (L : Rat), vs = [.ref b, .ref f, .ref q] ∧ H b = some (.lst [.int n]) ∧ f ≠ b ∧ H f = some (.lst xs) ∧ Al2 (BdQ K H 64) xs bs ∧ 1 ≤ bs.length ∧ bs.length ≤ 12 ∧ Asc bs ∧ 1 ≤ W ∧ W ≤ 1000 ∧ (∀ a ∈ bs, a.2.2 = W) ∧ FQ K H q L ∧ FB 200 L ∧ (∀ a ∈ bs, Inrm L a) ∧ ∀ (n1 : Int) (H1 : Hp), But b H H1 → H1 b = some (.lst [.int n1]) → Q (.bl true) H1
theorem sc_law_outside : FnScope ["_law_box_here", "_law_world_here", "_law_length", "_law_at", "_law_first", "_law_weight", "_law_other"] ["_law_box_here", "_law_world_here", "_law_length"] (defScope (top 59)) := ⟨rfl, rfl, rfl, by decide +kernel, rfl, by decide +kernel, by decide +kernel⟩
theorem ok_law_outside (D : Df K mg "_law_outside" (top 59) ["_law_box_here", "_law_world_here", "_law_length"]) (T : Tx K mg CK C) (F_law_take : Fn P w K mg base 1 "_law_take" ["_law_box_here", "_law_many"] spTake) (F_law_refused : Fn P w K mg base 7 "_law_refused" ["_law_way", "_law_world_here", "_law_length", "_law_moment"] (sp_law_refused K)) : Fn P w K mg base 8 "_law_outside" ["_law_box_here", "_law_world_here", "_law_length"] (sp_law_outside K) := by
  refine D.ok0 sc_law_outside (fun vs H Q E h => ?_) (fun f cdv A outer s0 H vs Q E hr h => ?_)
  · obtain ⟨b, n, f, xs, bs, W, q, L, rfl, _⟩ := h
    rfl
  obtain ⟨b, n, f, xs, bs, W, q, L, rfl, hb, nfb, hf, al, l1, l12, asc, W1, W2, hw, gL, dL, wi, k⟩ := h
  refine ⟨_, (pss_cons (ps_set (i := 3) sc_law_outside.nd rfl (Or.inl rfl) (pe_fn F_law_take (by decide) hr (by rfl) passE0 (pa_cons (pv 0) (pa_cons (pe_callB call_len (by rfl) T.b_len PyProof.Rows.Boot.«len» (pa_cons (pv 1) pa_nil)) pa_nil))))
      (pss_cons (ps_if (pt_cmpR (op_neA (K := K) rfl (u100 hr)) (pe_fn F_law_refused (by decide) hr (by rfl) passE0 (pa_cons pe_int (pa_cons (pv 1) (pa_cons (pe_ix ix_tup (pe_ix ix_list (pv 1) (pv 3) (fun _ _ => rfl)) pe_int (fun _ _ => rfl)) (pa_cons (pe_tup (pa_cons (pe_un un_neg pe_int) (pa_cons pe_int pa_nil))) pa_nil))))) (pe_tup (pa_cons pe_str (pa_cons (pv 3) pa_nil))) (nomark _)) (pss_one (ps_ret pe_bl)) pss_nil)
      (pss_cons (ps_set (i := 4) sc_law_outside.nd rfl (Or.inl rfl) (pe_op op_cat (pe_lst (pa_cons (pe_tup (pa_cons (pe_tup (pa_cons pe_int (pa_cons pe_int pa_nil))) (pa_cons (pe_ix ix_tup (pe_ix ix_list (pv 1) pe_int (fun _ _ => rfl)) pe_int (fun _ _ => rfl)) (pa_cons (pe_ix ix_tup (pe_ix ix_list (pv 1) pe_int (fun _ _ => rfl)) pe_int (fun _ _ => rfl)) pa_nil)))) pa_nil)) (pe_slice sl_list (pv 1) (po_some pe_int) po_none)))
      (pss_cons (ps_if (pt_cmpR (op_neA (K := K) rfl (u100 hr)) (pe_fn F_law_refused (by decide) hr (by rfl) passE0 (pa_cons pe_int (pa_cons (pv 4) (pa_cons (pv 2) (pa_cons pe_non pa_nil))))) (pe_tup (pa_cons pe_str (pa_cons pe_int pa_nil))) (nomark _)) (pss_one (ps_ret pe_bl)) pss_nil)
      (pss_cons (ps_set (i := 5) sc_law_outside.nd rfl (Or.inl rfl) (pe_op op_add (pe_op op_add pe_int (pe_op op_fdivB (pe_ix ix_tup (pe_ix ix_list (pv 4) pe_int (fun _ _ => rfl)) pe_int (fun _ _ => rfl)) pe_int)) (pe_op op_mulB pe_int (pe_callTy call_int1 (by rfl) T.b_int PyProof.Rows.Boot.«int» (pa_cons (pe_cmpR op_lt (pe_ix ix_tup (pe_ix ix_list (pv 4) pe_int (fun _ _ => rfl)) pe_int (fun _ _ => rfl)) pe_int (nomark _)) pa_nil)))))
      (pss_cons (ps_set (i := 6) sc_law_outside.nd rfl (Or.inl rfl) (pe_op op_cat (pe_slice sl_list (pv 4) po_none (po_some (pe_un un_neg pe_int))) (pe_lst (pa_cons (pe_tup (pa_cons (pe_ix ix_tup (pe_ix ix_list (pv 4) (pe_un un_neg pe_int) (fun _ _ => rfl)) pe_int (fun _ _ => rfl)) (pa_cons (pe_tup (pa_cons pe_int (pa_cons pe_int pa_nil))) (pa_cons (pv 5) pa_nil)))) pa_nil))))
      (pss_cons (ps_if (pw_and (pt_cmpR op_gt (pe_callB call_len (by rfl) T.b_len PyProof.Rows.Boot.«len» (pa_cons (pv 6) pa_nil)) pe_int (nomark _)) (pw_and1 (pt_cmpR (op_neA (K := K) rfl (u100 hr)) (pe_fn F_law_refused (by decide) hr (by rfl) passE0 (pa_cons pe_int (pa_cons (pv 6) (pa_cons (pv 2) (pa_cons (pe_tup (pa_cons (pe_un un_neg pe_int) (pa_cons pe_int pa_nil))) pa_nil))))) (pe_tup (pa_cons pe_str (pa_cons (pe_op op_sub (pe_callB call_len (by rfl) T.b_len PyProof.Rows.Boot.«len» (pa_cons (pv 6) pa_nil)) pe_int) pa_nil))) (nomark _)))).pt (pss_one (ps_ret pe_bl)) pss_nil)
      (pss_one (ps_ret (pe_cmpR (op_eqA (K := K) rfl (u100 hr)) (pe_fn F_law_refused (by decide) hr (by rfl) passE0 (pa_cons pe_int (pa_cons (pv 1) (pa_cons (pv 2) (pa_cons (pe_tup (pa_cons (pe_un un_neg pe_int) (pa_cons pe_int pa_nil))) pa_nil))))) (pe_tup (pa_cons pe_str pa_nil)) (nomark _))))))))))), ?_⟩
  try dsimp only [cxK, cxK0]
  have sm9 : ∀ i : Int, -(2 ^ 64) < i → i < 2 ^ 64 → Bd 9000 i := fun i h1 h2 => (Bd.small h1 h2).mono (by decide)
  have hz := Al2.len al
  have aw : AllW bs := ⟨W, hw⟩
  with_reducible refine seq_go fun N2 hN2 => ?_
  refine ⟨_, rfl, _, rfl, _, _, rfl, .inl ⟨_, SqL.of hf, rfl⟩, b, _, _, rfl, hb, by omega, sm9 _ (by omega) (by omega), fun d1 n1 H1 lo1 hi1 s1 hb1 => ?_⟩
  have hf1 := s1 _ _ nfb hf
  have al1 := bds_but al s1 hb
  have gL1 := s1.tup hb gL
  obtain ⟨j, rfl⟩ : ∃ j : Nat, d1 = (j : Int) := ⟨d1.toNat, by omega⟩
  obtain ⟨x, hx⟩ : ∃ x, xs[j]? = some x := ⟨_, List.getElem?_eq_getElem (by omega)⟩
  obtain ⟨bd, hbd, pb, pa, pc, rfl, x1, x2, x3, x4, x5, x6, x7⟩ := Al2.get al1 hx
  have dm : FB 600 (Rat.divInt (-1) 7) := (FB.fit (n := 64) (by decide) (Bd.small (by decide) (by decide)) (Bd.small (by decide) (by decide))).mono (by decide)
  have tn : ¬ (0 : Rat) ≤ Rat.divInt (-1) 7 := Rat.not_le.mpr (fit_neg (by decide) (by decide))
  have fo : FirstO bd.1 bs j := ⟨⟨bd, hbd, fun z => Rat.lt_irrefl z.2⟩, fun i a hi ha => ⟨(wi a (List.mem_of_getElem? ha)).1, asc.lt ha hbd hi⟩⟩
  with_reducible refine g_go ?_
  with_reducible refine hN2 _ _ ?_
  with_reducible refine seq_go fun N2 hN2 => ?_
  with_reducible refine if_go fun K2 hK2 => ?_
  refine ⟨_, rfl, _, rfl, _, rfl, f, _, _, _, rfl, rfl, SqL.of hf1, atI_nat hx, pb, _, _, _, rfl, rfl, x1, rfl, _, rfl, by show 2 ≤ sizeLine; decide, ?_⟩
  intro p2 n2
  obtain ⟨H2, q2, s2, e2⟩ := newO n2 (.tup [.int (-1), .int 7])
  rw [q2]
  clear q2
  have g2 : FQ K H2 p2 (Rat.divInt (-1) 7) := FQ.lit (SqT.of e2) (by decide) (by decide)
  refine ⟨0, f, xs, bs, pa, bd.1, .ref p2, rfl, s2 _ _ hf1, bds_same al1 s2, l1, l12, Kw.Same.tup s2 x2, x4.mono (by decide), .inr ⟨p2, _, rfl, g2, dm, tn⟩, .inr ⟨j, .inr ⟨aw, fo⟩, fun r3 H3 s3 e3 => ?_⟩⟩
  refine ⟨_, rfl, by show 2 ≤ sizeLine; decide, ?_⟩
  intro p4 n4
  obtain ⟨H4, q4, s4, e4⟩ := newO n4 (.tup [.str "world", .int (j : Int)])
  rw [q4]
  clear q4
  refine ⟨_, .tup (SqT.of (s4 _ _ e3)) (.cons (.str _) (.cons (.int _) .nil)), .tup (SqT.of e4) (.cons (.str _) (.cons (.int _) .nil)), lay_world _, rfl, _, rfl, ?_⟩
  with_reducible refine hK2 _ _ ?_
  refine iteF ?_
  have s14 := s2.trans (s3.trans s4)
  have hf4 := s14 _ _ hf1
  have al4 := bds_same al1 s14
  obtain ⟨x0, hx0⟩ : ∃ x, xs[0]? = some x := ⟨_, List.getElem?_eq_getElem (by omega)⟩
  have at0 : atI xs 0 = some x0 := atI_nat (j := 0) hx0
  with_reducible refine nil_go ?_
  with_reducible refine hN2 _ _ ?_
  with_reducible refine seq_go fun N2 hN2 => ?_
  refine ⟨by show 2 ≤ sizeLine; decide, ?_⟩
  intro p5 n5
  obtain ⟨H5, q5, s5, e5⟩ := newO n5 (.tup [.int 0, .int 1])
  rw [q5]
  clear q5
  have hf5 := s5 _ _ hf4
  obtain ⟨b0, hb0, p0, a0, c0, rfl, f1, f2, f3, k1, k2, w01, w02⟩ := Al2.get (bds_same al4 s5) hx0
  refine ⟨_, rfl, f, _, _, _, rfl, rfl, SqL.of hf5, at0, p0, _, _, _, rfl, rfl, f1, rfl, _, rfl, f, _, _, _, rfl, rfl, SqL.of hf5, at0, p0, _, _, _, rfl, rfl, f1, rfl, by show 3 ≤ sizeLine; decide, ?_⟩
  intro p6 n6
  obtain ⟨H6, q6, s6, e6⟩ := newO n6 (.tup [.ref p5, .ref c0, .int b0.2.2])
  rw [q6]
  clear q6
  refine ⟨by show 1 ≤ sizeLine; decide, ?_⟩
  intro p7 n7
  obtain ⟨H7, q7, s7, e7⟩ := newO n7 (.lst [.ref p6])
  rw [q7]
  clear q7
  have hf7 := (s6.trans s7) _ _ hf5
  refine ⟨_, rfl, _, rfl, f, _, rfl, SqL.of hf7, ?_⟩
  rw [show cutV xs (some 1) none = xs.drop 1 from cut_dropR (k := 1) (by omega)]
  intro p8 n8
  obtain ⟨H8, q8, s8, e8⟩ := newO n8 (.lst (xs.drop 1))
  rw [q8]
  clear q8
  refine ⟨p7, p8, _, _, rfl, rfl, s8 _ _ e7, e8, by rw [sizeLine_eq, List.length_drop]; simp only [List.length_cons, List.length_nil]; omega, ?_⟩
  intro p9 n9
  obtain ⟨H9, q9, s9, e9⟩ := newO n9 (.lst ([.ref p6] ++ xs.drop 1))
  rw [q9]
  clear q9
  have s69 := s7.trans (s8.trans s9)
  have s59 := s6.trans s69
  have s49 := s5.trans s59
  obtain ⟨fs, hfs⟩ : ∃ fs : List Bod, fs = (((0 : Int) : Rat), b0.2.1, b0.2.2) :: bs.drop 1 := ⟨_, rfl⟩
  have d0 : FB 64 (((0 : Int)) : Rat) := FB.ofInt (Bd.small (i := 0) (by decide) (by decide)) (by decide)
  have one : BdQ K H9 64 (.ref p6) (((0 : Int) : Rat), b0.2.1, b0.2.2) := ⟨p6, p5, c0, rfl, SqT.of (s69 _ _ e6), FQ.ofInt (SqT.of (s59 _ _ e5)), Kw.Same.tup s59 f3, d0, k2, w01, w02⟩
  have alf : Al2 (BdQ K H9 64) ([.ref p6] ++ xs.drop 1) fs := by
    rw [hfs]
    exact ⟨one, Al2.dropR 1 (bds_same al4 s49)⟩
  have lf : fs.length = bs.length := by rw [hfs, List.length_cons, List.length_drop]; omega
  have hwf : ∀ a ∈ fs, a.2.2 = W := fun a ha => by
    rw [hfs] at ha
    rcases List.mem_cons.mp ha with rfl | ha
    · skip
      exact hw b0 (List.mem_of_getElem? hb0)
    · skip
      exact hw a (List.mem_of_mem_drop ha)
  have ff : FirstO L fs 0 := ⟨⟨_, by rw [hfs]; rfl, fun z => absurd z.1 (by show ¬ (0 : Rat) < ((0 : Int) : Rat); exact Rat.lt_irrefl)⟩, fun i a hi => absurd hi (by omega)⟩
  have s19 := s14.trans s49
  with_reducible refine g_go ?_
  with_reducible refine hN2 _ _ ?_
  with_reducible refine seq_go fun N2 hN2 => ?_
  with_reducible refine if_go fun K2 hK2 => ?_
  refine ⟨_, rfl, _, rfl, 1, p9, _, fs, q, L, .non, rfl, e9, alf, by omega, by omega, Kw.Same.tup s19 gL1, dL, .inl (by decide), .inr ⟨0, .inr ⟨⟨W, hwf⟩, ff⟩, fun r10 H10 s10 e10 => ?_⟩⟩
  refine ⟨by show 2 ≤ sizeLine; decide, ?_⟩
  intro p11 n11
  obtain ⟨H11, q11, s11, e11⟩ := newO n11 (.tup [.str "world", .int 0])
  rw [q11]
  clear q11
  refine ⟨_, .tup (SqT.of (s11 _ _ e10)) (.cons (.str _) (.cons (.int _) .nil)), .tup (SqT.of e11) (.cons (.str _) (.cons (.int _) .nil)), lay_world _, rfl, _, rfl, ?_⟩
  with_reducible refine hK2 _ _ ?_
  refine iteF ?_
  have s911 := s10.trans s11
  have e9' := s911 _ _ e9
  have alf' := bds_same alf s911
  have e6' := SqT.of (K := K) ((s69.trans s911) _ _ e6)
  have atf : atI ([V.ref p6] ++ xs.drop 1) 0 = some (.ref p6) := atI_nat (j := 0) rfl
  have lx9 : ([V.ref p6] ++ xs.drop 1).length = xs.length := by rw [List.length_append, List.length_drop]; simp only [List.length_cons, List.length_nil]; omega
  have b0w := hw b0 (List.mem_of_getElem? hb0)
  have wo := weigh_other b0.2.2 (by omega) (by omega)
  generalize hys : [V.ref p6] ++ xs.drop 1 = ys at e9' alf' lx9 atf
  with_reducible refine nil_go ?_
  with_reducible refine hN2 _ _ ?_
  with_reducible refine seq_go fun N2 hN2 => ?_
  refine ⟨_, rfl, p9, _, _, _, rfl, rfl, SqL.of e9', atf, p6, _, _, _, rfl, rfl, e6', rfl, _, _, rfl, rfl, ⟨by decide, by decide +kernel⟩, _, _, rfl, rfl, _, rfl, p9, _, _, _, rfl, rfl, SqL.of e9', atf, p6, _, _, _, rfl, rfl, e6', rfl, _, _, rfl, rfl, .inr ⟨_, rfl, _, _, rfl, rfl, mulOk_smallL (by decide) (by decide), _, _, rfl, rfl, ?_⟩⟩
  with_reducible refine g_go ?_
  with_reducible refine hN2 _ _ ?_
  with_reducible refine seq_go fun N2 hN2 => ?_
  refine ⟨_, rfl, _, rfl, _, rfl, p9, _, rfl, SqL.of e9', ?_⟩
  rw [cut_initR (by omega)]
  intro p12 n12
  obtain ⟨H12, q12, s12, e12⟩ := newO n12 (.lst (ys.take (ys.length - 1)))
  rw [q12]
  clear q12
  obtain ⟨xl, exl⟩ : ∃ x, ys[ys.length - 1]? = some x := ⟨ys[ys.length - 1]'(by omega), List.getElem?_eq_getElem (by omega)⟩
  have atl : atI ys (-1) = some xl := atI_neg (k := 1) (by decide) (by omega) exl
  have e9b := s12 _ _ e9'
  obtain ⟨bl, hbl, pl, la, lc, rfl, y1, y2, y3, y4, y5, y6, y7⟩ := Al2.get (bds_same alf' s12) exl
  refine ⟨_, rfl, _, rfl, p9, _, _, _, rfl, rfl, SqL.of e9b, atl, pl, _, _, _, rfl, rfl, y1, rfl, by show 2 ≤ sizeLine; decide, ?_⟩
  intro p13 n13
  obtain ⟨H13, q13, s13, e13⟩ := newO n13 (.tup [.int 1, .int 1])
  rw [q13]
  clear q13
  refine ⟨_, rfl, by show 3 ≤ sizeLine; decide, ?_⟩
  intro p14 n14
  obtain ⟨H14, q14, s14, e14⟩ := newO n14 (.tup [.ref la, .ref p13, .int (1 + b0.2.2.fdiv 2 + 500 * (if decide (b0.2.2 < 3) = true then 1 else 0))])
  rw [q14]
  clear q14
  refine ⟨by show 1 ≤ sizeLine; decide, ?_⟩
  intro p15 n15
  obtain ⟨H15, q15, s15, e15⟩ := newO n15 (.lst [.ref p14])
  rw [q15]
  clear q15
  refine ⟨p12, p15, _, _, rfl, rfl, (s13.trans (s14.trans s15)) _ _ e12, e15, by rw [sizeLine_eq, List.length_take]; simp only [List.length_cons, List.length_nil]; omega, ?_⟩
  intro p16 n16
  obtain ⟨H16, q16, s16, e16⟩ := newO n16 (.lst (ys.take (ys.length - 1) ++ [.ref p14]))
  rw [q16]
  clear q16
  have s1416 := s15.trans s16
  have s1316 := s14.trans s1416
  have s1216 := s13.trans s1316
  have yf : ys.length - 1 = fs.length - 1 := by omega
  have two : BdQ K H16 64 (.ref p14) (bl.1, ((1 : Int) : Rat), 1 + b0.2.2.fdiv 2 + 500 * (if decide (b0.2.2 < 3) = true then 1 else 0)) := ⟨p14, la, p13, rfl, SqT.of (s1416 _ _ e14), Kw.Same.tup s1216 y2, FQ.ofInt (SqT.of (s1316 _ _ e13)), y4, FB.ofInt (Bd.small (i := 1) (by decide) (by decide)) (by decide), wo.2.1, wo.2.2⟩
  have alo : Al2 (BdQ K H16 64) (ys.take (ys.length - 1) ++ [.ref p14]) (fs.take (fs.length - 1) ++ [(bl.1, ((1 : Int) : Rat), 1 + b0.2.2.fdiv 2 + 500 * (if decide (b0.2.2 < 3) = true then 1 else 0))]) := by
    rw [yf]
    exact Al2.snoc (Al2.takeR _ (bds_same alf' (s12.trans s1216))) two
  have lo' : (fs.take (fs.length - 1) ++ [(bl.1, ((1 : Int) : Rat), 1 + b0.2.2.fdiv 2 + 500 * (if decide (b0.2.2 < 3) = true then 1 else 0))]).length = fs.length := by rw [List.length_append, List.length_take]; simp only [List.length_cons, List.length_nil]; omega
  have lyo := Al2.len alo
  have s1116 := s12.trans s1216
  have s116 := s19.trans (s911.trans s1116)
  refine g_go ?_
  try dsimp only
  with_reducible refine hN2 _ _ ?_
  refine cut1 (fun σ' H' => σ' = [some (.ref b), some (.ref f), some (.ref q), some (.int (j : Int)), some (.ref p9), some (.int (1 + b0.2.2.fdiv 2 + 500 * (if decide (b0.2.2 < 3) = true then 1 else 0))), some (.ref p16)] ∧ Same H16 H') (fun N hN => ?_) ?_
  · skip
    with_reducible refine if_go fun K4 hK4 => ?_
    refine ⟨_, rfl, _, _, rfl, .inl ⟨_, SqL.of e16, rfl⟩, _, _, rfl, rfl, _, rfl, ?_⟩
    refine if_dec (fun c => ?_) (fun c => ?_)
    · skip
      refine ⟨_, rfl, _, rfl, _, rfl, by show 2 ≤ sizeLine; decide, ?_⟩
      intro p17 n17
      obtain ⟨H17, q17, s17, e17⟩ := newO n17 (.tup [.int (-1), .int 7])
      rw [q17]
      clear q17
      have g17 : FQ K H17 p17 (Rat.divInt (-1) 7) := FQ.lit (SqT.of e17) (by decide) (by decide)
      refine ⟨0, p16, _, _, q, L, .ref p17, rfl, s17 _ _ e16, bds_same alo s17, by omega, by omega, Kw.Same.tup (s116.trans s17) gL1, dL, .inr ⟨p17, _, rfl, g17, dm, tn⟩, .inr ⟨fs.length - 1, .inl (firstU_last hwf (by omega) (by rw [← b0w]; exact wo.1)), fun r18 H18 s18 e18 => ?_⟩⟩
      refine ⟨_, rfl, _, _, rfl, .inl ⟨_, SqL.of ((s17.trans s18) _ _ e16), rfl⟩, _, _, rfl, rfl, by show 2 ≤ sizeLine; decide, ?_⟩
      intro p29 n29
      obtain ⟨H29, q29, s29, e29⟩ := newO n29 (.tup [.str "world", .int (((ys.take (ys.length - 1) ++ [V.ref p14]).length : Int) - 1)])
      rw [q29]
      clear q29
      rw [show ((((ys.take (ys.length - 1) ++ [V.ref p14]).length : Nat) : Int) - 1) = ((fs.length - 1 : Nat) : Int) by omega] at e29
      refine ⟨_, .tup (SqT.of (s29 _ _ e18)) (.cons (.str _) (.cons (.int _) .nil)), .tup (SqT.of e29) (.cons (.str _) (.cons (.int _) .nil)), lay_world _, rfl, _, rfl, ?_⟩
      with_reducible refine hK4 _ _ ?_
      refine iteF ?_
      with_reducible refine nil_go ?_
      exact hN _ _ ⟨rfl, s17.trans (s18.trans s29)⟩
    · skip
      with_reducible refine hK4 _ _ ?_
      refine iteF ?_
      with_reducible refine nil_go ?_
      exact hN _ _ ⟨rfl, Same.refl _⟩
  · rintro σ' H20 ⟨rfl, s20⟩
    have s120 := s116.trans s20
    refine ⟨_, rfl, _, rfl, _, rfl, by show 2 ≤ sizeLine; decide, ?_⟩
    intro p21 n21
    obtain ⟨H21, q21, s21, e21⟩ := newO n21 (.tup [.int (-1), .int 7])
    rw [q21]
    clear q21
    have g21 : FQ K H21 p21 (Rat.divInt (-1) 7) := FQ.lit (SqT.of e21) (by decide) (by decide)
    have s121 := s120.trans s21
    refine ⟨0, f, xs, bs, q, L, .ref p21, rfl, s121 _ _ hf1, bds_same al1 s121, l1, l12, Kw.Same.tup s121 gL1, dL, .inr ⟨p21, _, rfl, g21, dm, tn⟩, .inl ⟨rfl, aw, wi, fun r22 H22 s22 e22 => ?_⟩⟩
    refine ⟨by show 1 ≤ sizeLine; decide, ?_⟩
    intro p23 n23
    obtain ⟨H23, q23, s23, e23⟩ := newO n23 (.tup [.str "moment"])
    rw [q23]
    clear q23
    have s123 := s121.trans (s22.trans s23)
    refine ⟨_, .tup (SqT.of (s23 _ _ e22)) (.cons (.str _) .nil), .tup (SqT.of e23) (.cons (.str _) .nil), by decide +kernel, rfl, ?_⟩
    exact k n1 H23 (s1.trans (But.of s123)) (s123 _ _ hb1)
theorem sc_law : FnScope ["_law_script", "_law_k", "_law_box_here", "_law_world_here", "_law_length", "_law_moment", "_law_due", "_law_told"] ["_law_script"] (defScope (top 60)) := ⟨rfl, rfl, rfl, by decide +kernel, rfl, by decide +kernel, by decide +kernel⟩
theorem ok_law (D : Df K mg "law" (top 60) ["_law_script"]) (T : Tx K mg CK C) (F_law_box : Fn P w K mg base 2 "_law_box" ["_law_script", "_law_k"] (spBox K)) (F_law_within : Fn P w K mg base 3 "_law_within" ["_law_box_here"] (sp_law_within K)) (F_law_moment_of : Fn P w K mg base 3 "_law_moment_of" ["_law_box_here", "_law_world_here", "_law_length"] (sp_law_moment_of K)) (F_law_room : Fn P w K mg base 4 "_law_room" ["_law_world_here", "_law_length", "_law_moment"] (sp_law_room K)) (F_in_room : Fn P w K mg base 6 "in_room" ["world", "length", "moment"] (spX_in_room K C)) (F_law_outside : Fn P w K mg base 8 "_law_outside" ["_law_box_here", "_law_world_here", "_law_length"] (sp_law_outside K)) : Fn P w K mg base 9 "law" ["_law_script"] (spLaw K) := by
  refine D.ok0 sc_law (fun vs H Q E h => ?_) (fun f cdv A outer s H vs Q E hr h => ?_)
  · obtain ⟨a, rfl, _⟩ := h
    rfl
  obtain ⟨a, rfl, hS, fin⟩ := h
  refine ⟨_, (pss_cons (ps_for PassesOwn.never rfl (pi_range1 (by rfl) T.b_range (pa_cons (pe_callB (call_max2 rfl) (by rfl) T.b_max PyProof.Rows.Boot.«max» (pa_cons pe_int (pa_cons (pe_callB (call_min2 rfl) (by rfl) T.b_min PyProof.Rows.Boot.«min» (pa_cons (pe_callB call_len (by rfl) T.b_len PyProof.Rows.Boot.«len» (pa_cons (pv 0) pa_nil)) (pa_cons pe_int pa_nil))) pa_nil))) pa_nil)) (pg_name (i := 1) sc_law.nd rfl (Or.inl rfl)) (pss_cons (ps_set (i := 2) sc_law.nd rfl (Or.inl rfl) (pe_fn F_law_box (by decide) hr (by rfl) passE0 (pa_cons (pv 0) (pa_cons (pv 1) pa_nil))))
      (pss_cons (ps_asg (pe_fn F_law_within (by decide) hr (by rfl) passE0 (pa_cons (pv 2) pa_nil)) (pg_tup rfl (pgs_cons (pg_name (i := 3) sc_law.nd rfl (Or.inl rfl)) (pgs_cons (pg_name (i := 4) sc_law.nd rfl (Or.inl rfl)) pgs_nil))))
      (pss_cons (ps_for PassesOwn.never rfl (pi_list (pe_lst (pa_cons (pe_tup (pa_cons pe_int (pa_cons pe_int pa_nil))) (pa_cons (pe_fn F_law_moment_of (by decide) hr (by rfl) passE0 (pa_cons (pv 2) (pa_cons (pv 3) (pa_cons (pv 4) pa_nil)))) (pa_cons (pe_fn F_law_moment_of (by decide) hr (by rfl) passE0 (pa_cons (pv 2) (pa_cons (pv 3) (pa_cons (pv 4) pa_nil)))) pa_nil))))) (pg_name (i := 5) sc_law.nd rfl (Or.inl rfl)) (pss_cons (ps_set (i := 6) sc_law.nd rfl (Or.inl rfl) (pe_fn F_law_room (by decide) hr (by rfl) passE0 (pa_cons (pv 3) (pa_cons (pv 4) (pa_cons (pv 5) pa_nil)))))
      (pss_cons (ps_set (i := 7) sc_law.nd rfl (Or.inl rfl) (pe_fn F_in_room (by decide) hr (by rfl) passE0 (pa_cons (pv 3) (pa_cons (pv 4) (pa_cons (pv 5) pa_nil)))))
      (pss_cons (ps_if (pw_or (pt_not (pt_val (pe_callB call_isinst (by rfl) T.b_isinstance PyProof.Rows.Boot.«isinstance» (pa_cons (pv 7) (pa_cons (pe_bty (by rfl) T.b_list PyProof.Rows.Boot.«list») pa_nil))) (fun _ => rfl))) (pw_or1 (pt_cmpR (op_neA (K := K) rfl (u100 hr)) (pv 7) (pv 6) (nomark _)))).pt (pss_one (ps_ret pe_bl)) pss_nil)
      (pss_cons (ps_expr (pe_bm0 PySem.F.plainAttrs_list PySem.F.slot_list_clear PySem.F.type_list_clear mt_clear (pv 7)))
      (pss_one (ps_if (pt_cmpR (op_neA (K := K) rfl (u100 hr)) (pe_fn F_in_room (by decide) hr (by rfl) passE0 (pa_cons (pv 3) (pa_cons (pv 4) (pa_cons (pv 5) pa_nil)))) (pv 6) (nomark _)) (pss_one (ps_ret pe_bl)) pss_nil)))))))
      (pss_one (ps_if (pt_not (pt_val (pe_fn F_law_outside (by decide) hr (by rfl) passE0 (pa_cons (pv 2) (pa_cons (pv 3) (pa_cons (pv 4) pa_nil)))) (fun _ => rfl))) (pss_one (ps_ret pe_bl)) pss_nil))))))
      (pss_one (ps_ret pe_bl))), ?_⟩
  try dsimp only [cxK, cxK0]
  obtain ⟨ns, hL, h63, _⟩ := id hS
  with_reducible refine seq_go fun N2 hN2 => ?_
  with_reducible refine for_go fun B2 hB2 => ?_
  refine ⟨_, rfl, _, _, rfl, .inl ⟨_, hL, rfl⟩, _, _, rfl, _, _, rfl, _, rfl, ?_⟩
  obtain ⟨m, hme, m1, m8⟩ := most_of ns 3 (by decide)
  rw [hme]
  refine ⟨by omega, by omega, for_range (n := m.toNat) (fun i σ' H' => ∃ r1 r2 r3 r4 r5 r6 r7 : Option V, σ' = [some (.ref a), r1, r2, r3, r4, r5, r6, r7] ∧ Same H H') ⟨_, _, _, _, _, _, _, rfl, Same.refl H⟩ ?_ ?_⟩
  · rintro i σ0 H0 hi ⟨r1, r2, r3, r4, r5, r6, r7, rfl, sm⟩
    with_reducible refine g_go ?_
    with_reducible refine hB2 _ _ _ fun E4 hE4 hR4 _ _ => ?_
    with_reducible refine seq_go fun N4 hN4 => ?_
    refine ⟨_, rfl, _, rfl, a, _, rfl, Scr.same hS sm, by omega, by omega, fun b nb Hb hb0 sb hb => ?_⟩
    with_reducible refine g_go ?_
    with_reducible refine hN4 _ _ ?_
    with_reducible refine seq_go fun N4 hN4 => ?_
    refine ⟨_, rfl, b, nb, rfl, hb, fun rr f q xs bs W L n1 H1 s1 nf nfb hb1 hrr hf1 al1 l1 l12 asc w1 w2 hw gL1 dL wi => ?_⟩
    have aw : AllW bs := ⟨W, hw⟩
    have hz := Al2.len al1
    have L0 : 0 < L := by
      obtain ⟨b, hb⟩ : ∃ b, b ∈ bs := ⟨_, List.getElem_mem (show 0 < bs.length by omega)⟩
      have := wi b hb
      unfold Inrm at this
      grind
    refine ⟨rr, _, rfl, hrr, rfl, _, _, rfl, _, _, rfl, rfl, ?_⟩
    with_reducible refine hN4 _ _ ?_
    with_reducible refine seq_go fun N4 hN4 => ?_
    with_reducible refine for_go fun B4 hB4 => ?_
    refine ⟨by show 2 ≤ sizeLine; decide, ?_⟩
    intro p5 n5
    obtain ⟨H5, q5, s5, e5⟩ := newO n5 (.tup [.int 0, .int 1])
    rw [q5]
    clear q5
    have hb5 := s5 _ _ hb1
    have hf5 := s5 _ _ hf1
    have al5 := bds_same al1 s5
    have gL5 := Kw.Same.tup s5 gL1
    refine ⟨_, rfl, _, rfl, _, rfl, b, n1, f, xs, bs, q, L, rfl, hb5, nfb, hf5, al5, l1, l12, gL5, dL, wi, fun p6 t6 n6 H6 s6 hb6 g6 d6 z6 => ?_⟩
    have hf6 := s6 _ _ nfb hf5
    have al6 := bds_but al5 s6 hb5
    have gL6 := s6.tup hb5 gL5
    refine ⟨_, rfl, _, rfl, _, rfl, b, n6, f, xs, bs, q, L, rfl, hb6, nfb, hf6, al6, l1, l12, gL6, dL, wi, fun p7 t7 n7 H7 s7 hb7 g7 d7 z7 => ?_⟩
    have s57 := s6.trans s7
    have g57 : FQ K H7 p5 ((0 : Int) : Rat) := s57.tup hb5 (SqT.of e5)
    have g67 := s7.tup hb6 g6
    refine ⟨by show 3 ≤ sizeLine; decide, ?_⟩
    intro p8 n8
    obtain ⟨H8, q8, s8, e8⟩ := newO n8 (.lst [.ref p5, .ref p6, .ref p7])
    rw [q8]
    clear q8
    have d0 : FB 600 ((0 : Int) : Rat) := (FB.ofInt (n := 64) (Bd.small (i := 0) (by decide) (by decide)) (by decide)).mono (by decide)
    have z0 : (0 : Rat) ≤ ((0 : Int) : Rat) := Rat.le_refl
    have am8 : Al2 (fun x t => FrQ K H8 600 x t ∧ (0 : Rat) ≤ t) [.ref p5, .ref p6, .ref p7] [((0 : Int) : Rat), t6, t7] := ⟨⟨⟨p5, rfl, Kw.Same.tup s8 g57, d0⟩, z0⟩, ⟨⟨p6, rfl, Kw.Same.tup s8 g67, d6⟩, z6⟩, ⟨⟨p7, rfl, Kw.Same.tup s8 g7, d7⟩, z7⟩, trivial⟩
    have s58 : But b H5 H8 := s57.trans (But.of s8)
    have hf8 := s58 _ _ nfb hf5
    have al8 := bds_but al5 s58 hb5
    have gL8 := s58.tup hb5 gL5
    have hb8 := s8 _ _ hb7
    refine ⟨p8, rfl, ⟨_, SqL.of e8⟩, for_list (K := K) (a := p8) (xs := [.ref p5, .ref p6, .ref p7]) (fun j σ1 H' => ∃ u5 u6 u7 : Option V, σ1 = [some (.ref a), some (.int (0 + (i : Int))), some (.ref b), some (.ref f), some (.ref q), u5, u6, u7] ∧ Same H8 H') ⟨_, _, _, rfl, Same.refl _⟩ (by rintro _ _ _ _ ⟨_, _, _, _, g⟩; exact SqL.of (g _ _ e8)) ?_ ?_⟩
    · rintro j x σ1 H9 hx ⟨u5, u6, u7, rfl, s9⟩
      obtain ⟨t, ht, ⟨pt, rfl, gt8, dt⟩, t0⟩ := Al2.get am8 hx
      have gt := Kw.Same.tup s9 gt8
      have hf9 := s9 _ _ hf8
      have al9 := bds_same al8 s9
      have gL9 := Kw.Same.tup s9 gL8
      with_reducible refine g_go ?_
      with_reducible refine hB4 _ _ _ fun E6 hE6 hR6 _ _ => ?_
      with_reducible refine seq_go fun N6 hN6 => ?_
      refine ⟨_, rfl, _, rfl, _, rfl, f, xs, bs, W, q, L, pt, t, rfl, hf9, al9, l12, hw, gL9, dL, L0, gt, dt, fun r ys H10 s10 n10 e10 al10 => ?_⟩
      with_reducible refine g_go ?_
      with_reducible refine hN6 _ _ ?_
      with_reducible refine seq_go fun N6 hN6 => ?_
      refine ⟨_, rfl, _, rfl, _, rfl, f, xs, bs, q, L, pt, t, rfl, s10 _ _ hf9, bds_same al9 s10, l1, l12, Kw.Same.tup s10 gL9, dL, Kw.Same.tup s10 gt, dt, fun _ _ _ r4 ys4 H14 s14 n14 e14 al14 => ?_, ⟨fun i fi => absurd aw fi.not, fun _ i fi => absurd wi fi.not⟩, fun _ _ tn => absurd t0 tn⟩
      with_reducible refine g_go ?_
      with_reducible refine hN6 _ _ ?_
      with_reducible refine seq_go fun N6 hN6 => ?_
      with_reducible refine if_go fun K6 hK6 => ?_
      refine ⟨_, rfl, _, _, true, rfl, .inl ⟨_, rfl⟩, ⟨_, .lst e14, kit_lst_lst⟩, _, rfl, ?_⟩
      refine iteF ?_
      refine ⟨_, rfl, _, rfl, _, .lst (SqL.of e14) (bds_dp al14), .lst (SqL.of (s14 _ _ e10)) (bds_dp (bds_same al10 s14)), (bds_ok _).1, (bds_ok _).2, _, rfl, ?_⟩
      with_reducible refine hK6 _ _ ?_
      refine iteF ?_
      with_reducible refine nil_go ?_
      with_reducible refine hN6 _ _ ?_
      with_reducible refine seq_go fun N6 hN6 => ?_
      refine ⟨_, rfl, .inl ⟨rfl, _, SqL.of e14⟩, r4, _, rfl, rfl, e14, ?_⟩
      obtain ⟨H15, q15, s15, e15⟩ := newB (H := H14) (p := r4) (.lst [])
      try dsimp only
      rw [q15]
      clear q15
      have t15 : Same H10 H15 := same_then_but n14 s14 s15
      have t915 := s10.trans t15
      with_reducible refine hN6 _ _ ?_
      with_reducible refine if_go fun K6 hK6 => ?_
      refine ⟨_, rfl, _, rfl, _, rfl, f, xs, bs, q, L, pt, t, rfl, t915 _ _ hf9, bds_same al9 t915, l1, l12, Kw.Same.tup t915 gL9, dL, Kw.Same.tup t915 gt, dt, fun _ _ _ r5 ys5 H16 s16 n16 e16 al16 => ?_, ⟨fun i fi => absurd aw fi.not, fun _ i fi => absurd wi fi.not⟩, fun _ _ tn => absurd t0 tn⟩
      have t16 := t15.trans s16
      refine ⟨_, rfl, _, .lst (SqL.of e16) (bds_dp al16), .lst (SqL.of (t16 _ _ e10)) (bds_dp (bds_same al10 t16)), (bds_ok _).1, (bds_ok _).2, _, rfl, ?_⟩
      with_reducible refine hK6 _ _ ?_
      refine iteF ?_
      with_reducible refine nil_go ?_
      with_reducible refine hE6 _ _ ?_
      exact ⟨_, _, _, rfl, s9.trans (s10.trans t16)⟩
    · rintro σ1 H9 ⟨u5, u6, u7, rfl, s9⟩
      have hb9 := s9 _ _ hb8
      with_reducible refine hN4 _ _ ?_
      with_reducible refine if_go fun K6 hK6 => ?_
      refine ⟨_, rfl, _, rfl, _, rfl, b, n7, f, xs, bs, W, q, L, rfl, hb9, nfb, s9 _ _ hf8, bds_same al8 s9, l1, l12, asc, w1, w2, hw, Kw.Same.tup s9 gL8, dL, wi, fun n10 H10 s10 hb10 => ?_⟩
      refine ⟨_, rfl, ?_⟩
      with_reducible refine hK6 _ _ ?_
      refine iteF ?_
      with_reducible refine nil_go ?_
      with_reducible refine hE4 _ _ ?_
      exact ⟨_, _, _, _, _, _, _, rfl, sm.trans (But.fresh hb0 ((But.of sb).trans (s1.trans ((But.of s5).trans (s58.trans ((But.of s9).trans s10))))))⟩
  · rintro σ0 H0 ⟨r1, r2, r3, r4, r5, r6, r7, rfl, sm⟩
    with_reducible refine hN2 _ _ ?_
    exact fin _
end
theorem len1 {p : List Value → Prop} (h : ∀ x0, p [x0]) : ∀ us : List Value, us.length = 1 → p us := by
  intro us e
  cases us with
  | nil => exact absurd e (by show ¬ 0 = 1; decide)
  | cons x0 us =>
    cases us with
    | nil => exact h x0
    | cons y us => exact absurd e (by show ¬ us.length + 2 = 1; omega)
theorem len2 {p : List Value → Prop} (h : ∀ x0 x1, p [x0, x1]) : ∀ us : List Value, us.length = 2 → p us := by
  intro us e
  cases us with
  | nil => exact absurd e (by show ¬ 0 = 2; decide)
  | cons x0 us =>
    cases us with
    | nil => exact absurd e (by show ¬ 1 = 2; decide)
    | cons x1 us =>
      cases us with
      | nil => exact h x0 x1
      | cons y us => exact absurd e (by show ¬ us.length + 3 = 2; omega)
theorem len3 {p : List Value → Prop} (h : ∀ x0 x1 x2, p [x0, x1, x2]) : ∀ us : List Value, us.length = 3 → p us := by
  intro us e
  cases us with
  | nil => exact absurd e (by show ¬ 0 = 3; decide)
  | cons x0 us =>
    cases us with
    | nil => exact absurd e (by show ¬ 1 = 3; decide)
    | cons x1 us =>
      cases us with
      | nil => exact absurd e (by show ¬ 2 = 3; decide)
      | cons x2 us =>
        cases us with
        | nil => exact h x0 x1 x2
        | cons y us => exact absurd e (by show ¬ us.length + 4 = 3; omega)
theorem len4 {p : List Value → Prop} (h : ∀ x0 x1 x2 x3, p [x0, x1, x2, x3]) : ∀ us : List Value, us.length = 4 → p us := by
  intro us e
  cases us with
  | nil => exact absurd e (by show ¬ 0 = 4; decide)
  | cons x0 us =>
    cases us with
    | nil => exact absurd e (by show ¬ 1 = 4; decide)
    | cons x1 us =>
      cases us with
      | nil => exact absurd e (by show ¬ 2 = 4; decide)
      | cons x2 us =>
        cases us with
        | nil => exact absurd e (by show ¬ 3 = 4; decide)
        | cons x3 us =>
          cases us with
          | nil => exact h x0 x1 x2 x3
          | cons y us => exact absurd e (by show ¬ us.length + 5 = 4; omega)
set_option maxHeartbeats 0 in
theorem all_mk {P : Program} {w : World} {K : PySem.W.Frag} {h : Heap} {mg : Str → Option Value} (X : K.In h) (G : h.Ns mainGlobals mg)
    {C_KnockError C_NoMoment C_NoWorld f0 f1 f2 f3 f4 f5 f6 f7 f8 f9 f10 f11 f12 f13 f14 f15 f16 f17 f18 f19 f20 f21 f22 f23 f24 f25 f26 f27 f28 f29 f30 f31 f32 f33 f34 f35 f36 f37 : Addr}
    {oc0 kV0 dc0 pm0 cd0 ct0 oc1 kV1 dc1 pm1 cd1 ct1 oc2 kV2 dc2 pm2 cd2 ct2 oc3 kV3 dc3 pm3 cd3 ct3 oc4 kV4 dc4 pm4 cd4 ct4 oc5 kV5 dc5 pm5 cd5 ct5 oc6 kV6 dc6 pm6 cd6 ct6 oc7 kV7 dc7 pm7 cd7 ct7 oc8 kV8 dc8 pm8 cd8 ct8 oc9 kV9 dc9 pm9 cd9 ct9 oc10 kV10 dc10 pm10 cd10 ct10 oc11 kV11 dc11 pm11 cd11 ct11 oc12 kV12 dc12 pm12 cd12 ct12 oc13 kV13 dc13 pm13 cd13 ct13 oc14 kV14 dc14 pm14 cd14 ct14 oc15 kV15 dc15 pm15 cd15 ct15 oc16 kV16 dc16 pm16 cd16 ct16 oc17 kV17 dc17 pm17 cd17 ct17 oc18 kV18 dc18 pm18 cd18 ct18 oc19 kV19 dc19 pm19 cd19 ct19 oc20 kV20 dc20 pm20 cd20 ct20 oc21 kV21 dc21 pm21 cd21 ct21 oc22 kV22 dc22 pm22 cd22 ct22 oc23 kV23 dc23 pm23 cd23 ct23 oc24 kV24 dc24 pm24 cd24 ct24 oc25 kV25 dc25 pm25 cd25 ct25 oc26 kV26 dc26 pm26 cd26 ct26 oc27 kV27 dc27 pm27 cd27 ct27 oc28 kV28 dc28 pm28 cd28 ct28 oc29 kV29 dc29 pm29 cd29 ct29 oc30 kV30 dc30 pm30 cd30 ct30 oc31 kV31 dc31 pm31 cd31 ct31 oc32 kV32 dc32 pm32 cd32 ct32 oc33 kV33 dc33 pm33 cd33 ct33 oc34 kV34 dc34 pm34 cd34 ct34 oc35 kV35 dc35 pm35 cd35 ct35 oc36 kV36 dc36 pm36 cd36 ct36 oc37 kV37 dc37 pm37 cd37 ct37 : Value}
    {od0 an0 od1 an1 od2 an2 od3 an3 od4 an4 od5 an5 od6 an6 od7 an7 od8 an8 od9 an9 od10 an10 od11 an11 od12 an12 od13 an13 od14 an14 od15 an15 od16 an16 od17 an17 od18 an18 od19 an19 od20 an20 od21 an21 od22 an22 od23 an23 od24 an24 od25 an25 od26 an26 od27 an27 od28 an28 od29 an29 od30 an30 od31 an31 od32 an32 od33 an33 od34 an34 od35 an35 od36 an36 od37 an37 : Option Addr}
    {sl0 sl1 sl2 sl3 sl4 sl5 sl6 sl7 sl8 sl9 sl10 sl11 sl12 sl13 sl14 sl15 sl16 sl17 sl18 sl19 sl20 sl21 sl22 sl23 sl24 sl25 sl26 sl27 sl28 sl29 sl30 sl31 sl32 sl33 sl34 sl35 sl36 sl37 : Array (Option Value)}
    {tk_LONG_BITS : Tok}
    {A_NOUGHT : Addr} {oG_NOUGHT : Option Addr} {k1_NOUGHT k2_NOUGHT : Tok} {nG_NOUGHT : Nat} {slG_NOUGHT : Array (Option Value)}
    {A_TWO : Addr} {oG_TWO : Option Addr} {k1_TWO k2_TWO : Tok} {nG_TWO : Nat} {slG_TWO : Array (Option Value)}
    (c_KnockError : PySem.W.nsIn K mainGlobals "KnockError" = some (some (.ref C_KnockError)))
    (c_NoMoment : PySem.W.nsIn K mainGlobals "NoMoment" = some (some (.ref C_NoMoment)))
    (c_NoWorld : PySem.W.nsIn K mainGlobals "NoWorld" = some (some (.ref C_NoWorld)))
    (b_isinstance : PySem.W.nsIn K mainGlobals "isinstance" = some none)
    (b_int : PySem.W.nsIn K mainGlobals "int" = some none)
    (b_bool : PySem.W.nsIn K mainGlobals "bool" = some none)
    (b_list : PySem.W.nsIn K mainGlobals "list" = some none)
    (b_abs : PySem.W.nsIn K mainGlobals "abs" = some none)
    (b_len : PySem.W.nsIn K mainGlobals "len" = some none)
    (b_divmod : PySem.W.nsIn K mainGlobals "divmod" = some none)
    (b_range : PySem.W.nsIn K mainGlobals "range" = some none)
    (b_max : PySem.W.nsIn K mainGlobals "max" = some none)
    (b_min : PySem.W.nsIn K mainGlobals "min" = some none)
    (chk : chkN K C_KnockError (clsAt [C_NoMoment, C_NoWorld]) 2 1 = true)
    (rd : PySem.W.readsIn K C_KnockError (.type "type") = true)
    (fc : PySem.W.findCls K (.ref C_KnockError) (.type "type") "__init__" = some (.val (.builtin "ValueError.__init__")))
    (gs : PySem.W.specialIn K (.ref C_KnockError) "__getattribute__" = some (some (.builtin "type.__getattribute__")))
    (n_NoWorld_at : PySem.W.findIn K (.ref C_NoWorld) "at" = some none)
    (s_NoWorld_NoWorld : PySem.W.subIn K (.ref C_NoWorld) (.ref C_NoWorld) = some true)
    (s_NoMoment_NoMoment : PySem.W.subIn K (.ref C_NoMoment) (.ref C_NoMoment) = some true)
    (z_NoMoment_NoWorld : PySem.W.subIn K (.ref C_NoMoment) (.ref C_NoWorld) = some false)
    (i_LONG_BITS : PySem.W.nsIn K mainGlobals "LONG_BITS" = some (some (.int 4000 tk_LONG_BITS)))
    (c_NOUGHT : PySem.W.nsIn K mainGlobals "NOUGHT" = some (some (.ref A_NOUGHT)))
    (z_NOUGHT : K.lookup A_NOUGHT = some ⟨.type "tuple", oG_NOUGHT, .seq #[.int 0 k1_NOUGHT, .int 1 k2_NOUGHT] nG_NOUGHT, slG_NOUGHT⟩)
    (c_TWO : PySem.W.nsIn K mainGlobals "TWO" = some (some (.ref A_TWO)))
    (z_TWO : K.lookup A_TWO = some ⟨.type "tuple", oG_TWO, .seq #[.int 2 k1_TWO, .int 1 k2_TWO] nG_TWO, slG_TWO⟩)
    (a0 : PySem.W.findIn K (.ref C_NoWorld) "__init__" = some (some (.ref f0)))
    (t0 : PySem.W.typeIn K (.ref f0) = some (.type "function"))
    (l0 : K.lookup f0 = some ⟨oc0, od0, .func (PySem.W.fnOf "__init__" "NoWorld.__init__" (defArgs (mthOf (top 4))) (defBody (mthOf (top 4))) (defScope (mthOf (top 4))) .none kV0 dc0 pm0 an0 cd0 ct0), sl0⟩)
    (q0 : PySem.W.codeIn K cd0 "NoWorld.__init__" = true)
    (a1 : PySem.W.nsIn K mainGlobals "common_divisor" = some (some (.ref f1)))
    (l1 : K.lookup f1 = some ⟨oc1, od1, .func (PySem.W.fnOf "common_divisor" "common_divisor" (defArgs (top 10)) (defBody (top 10)) (defScope (top 10)) .none kV1 dc1 pm1 an1 cd1 ct1), sl1⟩)
    (q1 : PySem.W.codeIn K cd1 "common_divisor" = true)
    (k1 : PySem.W.keepIn K (.ref f1) = true)
    (a2 : PySem.W.nsIn K mainGlobals "plus" = some (some (.ref f2)))
    (l2 : K.lookup f2 = some ⟨oc2, od2, .func (PySem.W.fnOf "plus" "plus" (defArgs (top 12)) (defBody (top 12)) (defScope (top 12)) .none kV2 dc2 pm2 an2 cd2 ct2), sl2⟩)
    (q2 : PySem.W.codeIn K cd2 "plus" = true)
    (k2 : PySem.W.keepIn K (.ref f2) = true)
    (a3 : PySem.W.nsIn K mainGlobals "minus" = some (some (.ref f3)))
    (l3 : K.lookup f3 = some ⟨oc3, od3, .func (PySem.W.fnOf "minus" "minus" (defArgs (top 13)) (defBody (top 13)) (defScope (top 13)) .none kV3 dc3 pm3 an3 cd3 ct3), sl3⟩)
    (q3 : PySem.W.codeIn K cd3 "minus" = true)
    (k3 : PySem.W.keepIn K (.ref f3) = true)
    (a4 : PySem.W.nsIn K mainGlobals "times" = some (some (.ref f4)))
    (l4 : K.lookup f4 = some ⟨oc4, od4, .func (PySem.W.fnOf "times" "times" (defArgs (top 14)) (defBody (top 14)) (defScope (top 14)) .none kV4 dc4 pm4 an4 cd4 ct4), sl4⟩)
    (q4 : PySem.W.codeIn K cd4 "times" = true)
    (k4 : PySem.W.keepIn K (.ref f4) = true)
    (a5 : PySem.W.nsIn K mainGlobals "under" = some (some (.ref f5)))
    (l5 : K.lookup f5 = some ⟨oc5, od5, .func (PySem.W.fnOf "under" "under" (defArgs (top 16)) (defBody (top 16)) (defScope (top 16)) .none kV5 dc5 pm5 an5 cd5 ct5), sl5⟩)
    (q5 : PySem.W.codeIn K cd5 "under" = true)
    (k5 : PySem.W.keepIn K (.ref f5) = true)
    (a6 : PySem.W.nsIn K mainGlobals "refuse_unlike" = some (some (.ref f6)))
    (l6 : K.lookup f6 = some ⟨oc6, od6, .func (PySem.W.fnOf "refuse_unlike" "refuse_unlike" (defArgs (top 24)) (defBody (top 24)) (defScope (top 24)) .none kV6 dc6 pm6 an6 cd6 ct6), sl6⟩)
    (q6 : PySem.W.codeIn K cd6 "refuse_unlike" = true)
    (k6 : PySem.W.keepIn K (.ref f6) = true)
    (a7 : PySem.W.nsIn K mainGlobals "refuse_below_nought" = some (some (.ref f7)))
    (l7 : K.lookup f7 = some ⟨oc7, od7, .func (PySem.W.fnOf "refuse_below_nought" "refuse_below_nought" (defArgs (top 19)) (defBody (top 19)) (defScope (top 19)) .none kV7 dc7 pm7 an7 cd7 ct7), sl7⟩)
    (q7 : PySem.W.codeIn K cd7 "refuse_below_nought" = true)
    (k7 : PySem.W.keepIn K (.ref f7) = true)
    (a8 : PySem.W.nsIn K mainGlobals "refuse_outside" = some (some (.ref f8)))
    (l8 : K.lookup f8 = some ⟨oc8, od8, .func (PySem.W.fnOf "refuse_outside" "refuse_outside" (defArgs (top 30)) (defBody (top 30)) (defScope (top 30)) .none kV8 dc8 pm8 an8 cd8 ct8), sl8⟩)
    (q8 : PySem.W.codeIn K cd8 "refuse_outside" = true)
    (k8 : PySem.W.keepIn K (.ref f8) = true)
    (a9 : PySem.W.nsIn K mainGlobals "led_back" = some (some (.ref f9)))
    (l9 : K.lookup f9 = some ⟨oc9, od9, .func (PySem.W.fnOf "led_back" "led_back" (defArgs (top 31)) (defBody (top 31)) (defScope (top 31)) .none kV9 dc9 pm9 an9 cd9 ct9), sl9⟩)
    (q9 : PySem.W.codeIn K cd9 "led_back" = true)
    (k9 : PySem.W.keepIn K (.ref f9) = true)
    (a10 : PySem.W.nsIn K mainGlobals "pace_of" = some (some (.ref f10)))
    (l10 : K.lookup f10 = some ⟨oc10, od10, .func (PySem.W.fnOf "pace_of" "pace_of" (defArgs (top 32)) (defBody (top 32)) (defScope (top 32)) .none kV10 dc10 pm10 an10 cd10 ct10), sl10⟩)
    (q10 : PySem.W.codeIn K cd10 "pace_of" = true)
    (k10 : PySem.W.keepIn K (.ref f10) = true)
    (a11 : PySem.W.nsIn K mainGlobals "place_at" = some (some (.ref f11)))
    (l11 : K.lookup f11 = some ⟨oc11, od11, .func (PySem.W.fnOf "place_at" "place_at" (defArgs (top 20)) (defBody (top 20)) (defScope (top 20)) .none kV11 dc11 pm11 an11 cd11 ct11), sl11⟩)
    (q11 : PySem.W.codeIn K cd11 "place_at" = true)
    (k11 : PySem.W.keepIn K (.ref f11) = true)
    (a12 : PySem.W.nsIn K mainGlobals "turned_about" = some (some (.ref f12)))
    (l12 : K.lookup f12 = some ⟨oc12, od12, .func (PySem.W.fnOf "turned_about" "turned_about" (defArgs (top 22)) (defBody (top 22)) (defScope (top 22)) .none kV12 dc12 pm12 an12 cd12 ct12), sl12⟩)
    (q12 : PySem.W.codeIn K cd12 "turned_about" = true)
    (k12 : PySem.W.keepIn K (.ref f12) = true)
    (a13 : PySem.W.nsIn K mainGlobals "folded" = some (some (.ref f13)))
    (l13 : K.lookup f13 = some ⟨oc13, od13, .func (PySem.W.fnOf "folded" "folded" (defArgs (top 33)) (defBody (top 33)) (defScope (top 33)) .none kV13 dc13 pm13 an13 cd13 ct13), sl13⟩)
    (q13 : PySem.W.codeIn K cd13 "folded" = true)
    (k13 : PySem.W.keepIn K (.ref f13) = true)
    (a14 : PySem.W.nsIn K mainGlobals "is_ahead" = some (some (.ref f14)))
    (l14 : K.lookup f14 = some ⟨oc14, od14, .func (PySem.W.fnOf "is_ahead" "is_ahead" (defArgs (top 25)) (defBody (top 25)) (defScope (top 25)) .none kV14 dc14 pm14 an14 cd14 ct14), sl14⟩)
    (q14 : PySem.W.codeIn K cd14 "is_ahead" = true)
    (k14 : PySem.W.keepIn K (.ref f14) = true)
    (a15 : PySem.W.nsIn K mainGlobals "order_of" = some (some (.ref f15)))
    (l15 : K.lookup f15 = some ⟨oc15, od15, .func (PySem.W.fnOf "order_of" "order_of" (defArgs (top 26)) (defBody (top 26)) (defScope (top 26)) .none kV15 dc15 pm15 an15 cd15 ct15), sl15⟩)
    (q15 : PySem.W.codeIn K cd15 "order_of" = true)
    (k15 : PySem.W.keepIn K (.ref f15) = true)
    (a16 : PySem.W.nsIn K mainGlobals "in_order" = some (some (.ref f16)))
    (l16 : K.lookup f16 = some ⟨oc16, od16, .func (PySem.W.fnOf "in_order" "in_order" (defArgs (top 27)) (defBody (top 27)) (defScope (top 27)) .none kV16 dc16 pm16 an16 cd16 ct16), sl16⟩)
    (q16 : PySem.W.codeIn K cd16 "in_order" = true)
    (k16 : PySem.W.keepIn K (.ref f16) = true)
    (a17 : PySem.W.nsIn K mainGlobals "in_room" = some (some (.ref f17)))
    (l17 : K.lookup f17 = some ⟨oc17, od17, .func (PySem.W.fnOf "in_room" "in_room" (defArgs (top 34)) (defBody (top 34)) (defScope (top 34)) .none kV17 dc17 pm17 an17 cd17 ct17), sl17⟩)
    (q17 : PySem.W.codeIn K cd17 "in_room" = true)
    (k17 : PySem.W.keepIn K (.ref f17) = true)
    (a18 : PySem.W.nsIn K mainGlobals "round_of" = some (some (.ref f18)))
    (l18 : K.lookup f18 = some ⟨oc18, od18, .func (PySem.W.fnOf "round_of" "round_of" (defArgs (top 40)) (defBody (top 40)) (defScope (top 40)) .none kV18 dc18 pm18 an18 cd18 ct18), sl18⟩)
    (q18 : PySem.W.codeIn K cd18 "round_of" = true)
    (k18 : PySem.W.keepIn K (.ref f18) = true)
    (a19 : PySem.W.nsIn K mainGlobals "_law_cell" = some (some (.ref f19)))
    (l19 : K.lookup f19 = some ⟨oc19, od19, .func (PySem.W.fnOf "_law_cell" "_law_cell" (defArgs (top 42)) (defBody (top 42)) (defScope (top 42)) .none kV19 dc19 pm19 an19 cd19 ct19), sl19⟩)
    (q19 : PySem.W.codeIn K cd19 "_law_cell" = true)
    (k19 : PySem.W.keepIn K (.ref f19) = true)
    (a20 : PySem.W.nsIn K mainGlobals "_law_mix" = some (some (.ref f20)))
    (l20 : K.lookup f20 = some ⟨oc20, od20, .func (PySem.W.fnOf "_law_mix" "_law_mix" (defArgs (top 43)) (defBody (top 43)) (defScope (top 43)) .none kV20 dc20 pm20 an20 cd20 ct20), sl20⟩)
    (q20 : PySem.W.codeIn K cd20 "_law_mix" = true)
    (k20 : PySem.W.keepIn K (.ref f20) = true)
    (a21 : PySem.W.nsIn K mainGlobals "_law_box" = some (some (.ref f21)))
    (l21 : K.lookup f21 = some ⟨oc21, od21, .func (PySem.W.fnOf "_law_box" "_law_box" (defArgs (top 44)) (defBody (top 44)) (defScope (top 44)) .none kV21 dc21 pm21 an21 cd21 ct21), sl21⟩)
    (q21 : PySem.W.codeIn K cd21 "_law_box" = true)
    (k21 : PySem.W.keepIn K (.ref f21) = true)
    (a22 : PySem.W.nsIn K mainGlobals "_law_take" = some (some (.ref f22)))
    (l22 : K.lookup f22 = some ⟨oc22, od22, .func (PySem.W.fnOf "_law_take" "_law_take" (defArgs (top 45)) (defBody (top 45)) (defScope (top 45)) .none kV22 dc22 pm22 an22 cd22 ct22), sl22⟩)
    (q22 : PySem.W.codeIn K cd22 "_law_take" = true)
    (k22 : PySem.W.keepIn K (.ref f22) = true)
    (a23 : PySem.W.nsIn K mainGlobals "_law_fit" = some (some (.ref f23)))
    (l23 : K.lookup f23 = some ⟨oc23, od23, .func (PySem.W.fnOf "_law_fit" "_law_fit" (defArgs (top 46)) (defBody (top 46)) (defScope (top 46)) .none kV23 dc23 pm23 an23 cd23 ct23), sl23⟩)
    (q23 : PySem.W.codeIn K cd23 "_law_fit" = true)
    (k23 : PySem.W.keepIn K (.ref f23) = true)
    (a24 : PySem.W.nsIn K mainGlobals "_law_plus" = some (some (.ref f24)))
    (l24 : K.lookup f24 = some ⟨oc24, od24, .func (PySem.W.fnOf "_law_plus" "_law_plus" (defArgs (top 47)) (defBody (top 47)) (defScope (top 47)) .none kV24 dc24 pm24 an24 cd24 ct24), sl24⟩)
    (q24 : PySem.W.codeIn K cd24 "_law_plus" = true)
    (k24 : PySem.W.keepIn K (.ref f24) = true)
    (a25 : PySem.W.nsIn K mainGlobals "_law_minus" = some (some (.ref f25)))
    (l25 : K.lookup f25 = some ⟨oc25, od25, .func (PySem.W.fnOf "_law_minus" "_law_minus" (defArgs (top 48)) (defBody (top 48)) (defScope (top 48)) .none kV25 dc25 pm25 an25 cd25 ct25), sl25⟩)
    (q25 : PySem.W.codeIn K cd25 "_law_minus" = true)
    (k25 : PySem.W.keepIn K (.ref f25) = true)
    (a26 : PySem.W.nsIn K mainGlobals "_law_times" = some (some (.ref f26)))
    (l26 : K.lookup f26 = some ⟨oc26, od26, .func (PySem.W.fnOf "_law_times" "_law_times" (defArgs (top 49)) (defBody (top 49)) (defScope (top 49)) .none kV26 dc26 pm26 an26 cd26 ct26), sl26⟩)
    (q26 : PySem.W.codeIn K cd26 "_law_times" = true)
    (k26 : PySem.W.keepIn K (.ref f26) = true)
    (a27 : PySem.W.nsIn K mainGlobals "_law_over" = some (some (.ref f27)))
    (l27 : K.lookup f27 = some ⟨oc27, od27, .func (PySem.W.fnOf "_law_over" "_law_over" (defArgs (top 50)) (defBody (top 50)) (defScope (top 50)) .none kV27 dc27 pm27 an27 cd27 ct27), sl27⟩)
    (q27 : PySem.W.codeIn K cd27 "_law_over" = true)
    (k27 : PySem.W.keepIn K (.ref f27) = true)
    (a28 : PySem.W.nsIn K mainGlobals "_law_less" = some (some (.ref f28)))
    (l28 : K.lookup f28 = some ⟨oc28, od28, .func (PySem.W.fnOf "_law_less" "_law_less" (defArgs (top 51)) (defBody (top 51)) (defScope (top 51)) .none kV28 dc28 pm28 an28 cd28 ct28), sl28⟩)
    (q28 : PySem.W.codeIn K cd28 "_law_less" = true)
    (k28 : PySem.W.keepIn K (.ref f28) = true)
    (a29 : PySem.W.nsIn K mainGlobals "_law_small" = some (some (.ref f29)))
    (l29 : K.lookup f29 = some ⟨oc29, od29, .func (PySem.W.fnOf "_law_small" "_law_small" (defArgs (top 52)) (defBody (top 52)) (defScope (top 52)) .none kV29 dc29 pm29 an29 cd29 ct29), sl29⟩)
    (q29 : PySem.W.codeIn K cd29 "_law_small" = true)
    (k29 : PySem.W.keepIn K (.ref f29) = true)
    (a30 : PySem.W.nsIn K mainGlobals "_law_folded" = some (some (.ref f30)))
    (l30 : K.lookup f30 = some ⟨oc30, od30, .func (PySem.W.fnOf "_law_folded" "_law_folded" (defArgs (top 54)) (defBody (top 54)) (defScope (top 54)) .none kV30 dc30 pm30 an30 cd30 ct30), sl30⟩)
    (q30 : PySem.W.codeIn K cd30 "_law_folded" = true)
    (k30 : PySem.W.keepIn K (.ref f30) = true)
    (a31 : PySem.W.nsIn K mainGlobals "_law_in_order" = some (some (.ref f31)))
    (l31 : K.lookup f31 = some ⟨oc31, od31, .func (PySem.W.fnOf "_law_in_order" "_law_in_order" (defArgs (top 55)) (defBody (top 55)) (defScope (top 55)) .none kV31 dc31 pm31 an31 cd31 ct31), sl31⟩)
    (q31 : PySem.W.codeIn K cd31 "_law_in_order" = true)
    (k31 : PySem.W.keepIn K (.ref f31) = true)
    (a32 : PySem.W.nsIn K mainGlobals "_law_room" = some (some (.ref f32)))
    (l32 : K.lookup f32 = some ⟨oc32, od32, .func (PySem.W.fnOf "_law_room" "_law_room" (defArgs (top 56)) (defBody (top 56)) (defScope (top 56)) .none kV32 dc32 pm32 an32 cd32 ct32), sl32⟩)
    (q32 : PySem.W.codeIn K cd32 "_law_room" = true)
    (k32 : PySem.W.keepIn K (.ref f32) = true)
    (a33 : PySem.W.nsIn K mainGlobals "_law_within" = some (some (.ref f33)))
    (l33 : K.lookup f33 = some ⟨oc33, od33, .func (PySem.W.fnOf "_law_within" "_law_within" (defArgs (top 53)) (defBody (top 53)) (defScope (top 53)) .none kV33 dc33 pm33 an33 cd33 ct33), sl33⟩)
    (q33 : PySem.W.codeIn K cd33 "_law_within" = true)
    (k33 : PySem.W.keepIn K (.ref f33) = true)
    (a34 : PySem.W.nsIn K mainGlobals "_law_moment_of" = some (some (.ref f34)))
    (l34 : K.lookup f34 = some ⟨oc34, od34, .func (PySem.W.fnOf "_law_moment_of" "_law_moment_of" (defArgs (top 57)) (defBody (top 57)) (defScope (top 57)) .none kV34 dc34 pm34 an34 cd34 ct34), sl34⟩)
    (q34 : PySem.W.codeIn K cd34 "_law_moment_of" = true)
    (k34 : PySem.W.keepIn K (.ref f34) = true)
    (a35 : PySem.W.nsIn K mainGlobals "_law_refused" = some (some (.ref f35)))
    (l35 : K.lookup f35 = some ⟨oc35, od35, .func (PySem.W.fnOf "_law_refused" "_law_refused" (defArgs (top 58)) (defBody (top 58)) (defScope (top 58)) .none kV35 dc35 pm35 an35 cd35 ct35), sl35⟩)
    (q35 : PySem.W.codeIn K cd35 "_law_refused" = true)
    (k35 : PySem.W.keepIn K (.ref f35) = true)
    (a36 : PySem.W.nsIn K mainGlobals "_law_outside" = some (some (.ref f36)))
    (l36 : K.lookup f36 = some ⟨oc36, od36, .func (PySem.W.fnOf "_law_outside" "_law_outside" (defArgs (top 59)) (defBody (top 59)) (defScope (top 59)) .none kV36 dc36 pm36 an36 cd36 ct36), sl36⟩)
    (q36 : PySem.W.codeIn K cd36 "_law_outside" = true)
    (k36 : PySem.W.keepIn K (.ref f36) = true)
    (a37 : PySem.W.nsIn K mainGlobals "law" = some (some (.ref f37)))
    (l37 : K.lookup f37 = some ⟨oc37, od37, .func (PySem.W.fnOf "law" "law" (defArgs (top 60)) (defBody (top 60)) (defScope (top 60)) .none kV37 dc37 pm37 an37 cd37 ct37), sl37⟩)
    (q37 : PySem.W.codeIn K cd37 "law" = true)
    (k37 : PySem.W.keepIn K (.ref f37) = true) :
    ∃ fa, mg "law" = some (.ref fa) ∧ ∃ fd : FuncData, (∀ (s : Shared) (u : Value), BindsTo s fd ⟨[u], []⟩ [("_law_script", u)]) ∧ ∀ base : Heap, K.In base → base.Ns mainGlobals mg → FnOk P w K mg base (CXE P w) 9 fa fd ["_law_script"] (spLaw K) := by
  have T : Tx K mg C_KnockError (clsAt [C_NoMoment, C_NoWorld]) := ⟨PySem.W.mg_none_of X G b_isinstance, PySem.W.mg_none_of X G b_int, PySem.W.mg_none_of X G b_bool, PySem.W.mg_none_of X G b_list, PySem.W.mg_none_of X G b_abs, PySem.W.mg_none_of X G b_len, PySem.W.mg_none_of X G b_divmod, PySem.W.mg_none_of X G b_range, PySem.W.mg_none_of X G b_max, PySem.W.mg_none_of X G b_min, PySem.W.mg_of X G c_KnockError, PySem.W.mg_of X G c_NoMoment, PySem.W.mg_of X G c_NoWorld, refs_ok chk, rd, fc, gs, n_NoWorld_at, s_NoWorld_NoWorld, s_NoMoment_NoMoment, z_NoMoment_NoWorld, ⟨_, PySem.W.mg_of X G i_LONG_BITS⟩, ⟨_, PySem.W.mg_of X G c_NOUGHT, sqt_const z_NOUGHT⟩, ⟨_, PySem.W.mg_of X G c_TWO, sqt_const z_TWO⟩⟩
  have D0 := dfi_mk (ps := ["self", "at"]) a0 t0 l0 q0 T.o_NoWorld T.p_NoWorld (len2 fun _ _ => rfl)
  have D1 := df_mk (ps := ["one", "other"]) X G a1 l1 q1 k1 (len2 fun _ _ => rfl)
  have D2 := df_mk (ps := ["one", "other"]) X G a2 l2 q2 k2 (len2 fun _ _ => rfl)
  have D3 := df_mk (ps := ["one", "other"]) X G a3 l3 q3 k3 (len2 fun _ _ => rfl)
  have D4 := df_mk (ps := ["one", "other"]) X G a4 l4 q4 k4 (len2 fun _ _ => rfl)
  have D5 := df_mk (ps := ["one", "other"]) X G a5 l5 q5 k5 (len2 fun _ _ => rfl)
  have D6 := df_mk (ps := ["world"]) X G a6 l6 q6 k6 (len1 fun _ => rfl)
  have D7 := df_mk (ps := ["moment"]) X G a7 l7 q7 k7 (len1 fun _ => rfl)
  have D8 := df_mk (ps := ["world", "length"]) X G a8 l8 q8 k8 (len2 fun _ _ => rfl)
  have D9 := df_mk (ps := ["place", "ring"]) X G a9 l9 q9 k9 (len2 fun _ _ => rfl)
  have D10 := df_mk (ps := ["body"]) X G a10 l10 q10 k10 (len1 fun _ => rfl)
  have D11 := df_mk (ps := ["body", "moment"]) X G a11 l11 q11 k11 (len2 fun _ _ => rfl)
  have D12 := df_mk (ps := ["number"]) X G a12 l12 q12 k12 (len1 fun _ => rfl)
  have D13 := df_mk (ps := ["body", "length", "moment"]) X G a13 l13 q13 k13 (len3 fun _ _ _ => rfl)
  have D14 := df_mk (ps := ["one", "other"]) X G a14 l14 q14 k14 (len2 fun _ _ => rfl)
  have D15 := df_mk (ps := ["bodies"]) X G a15 l15 q15 k15 (len1 fun _ => rfl)
  have D16 := df_mk (ps := ["bodies"]) X G a16 l16 q16 k16 (len1 fun _ => rfl)
  have D17 := df_mk (ps := ["world", "length", "moment"]) X G a17 l17 q17 k17 (len3 fun _ _ _ => rfl)
  have D18 := df_mk (ps := ["world", "length"]) X G a18 l18 q18 k18 (len2 fun _ _ => rfl)
  have D19 := df_mk (ps := ["_law_script", "_law_k"]) X G a19 l19 q19 k19 (len2 fun _ _ => rfl)
  have D20 := df_mk (ps := ["_law_cell_here", "_law_k"]) X G a20 l20 q20 k20 (len2 fun _ _ => rfl)
  have D21 := df_mk (ps := ["_law_script", "_law_k"]) X G a21 l21 q21 k21 (len2 fun _ _ => rfl)
  have D22 := df_mk (ps := ["_law_box_here", "_law_many"]) X G a22 l22 q22 k22 (len2 fun _ _ => rfl)
  have D23 := df_mk (ps := ["_law_top", "_law_bottom"]) X G a23 l23 q23 k23 (len2 fun _ _ => rfl)
  have D24 := df_mk (ps := ["_law_one", "_law_other"]) X G a24 l24 q24 k24 (len2 fun _ _ => rfl)
  have D25 := df_mk (ps := ["_law_one", "_law_other"]) X G a25 l25 q25 k25 (len2 fun _ _ => rfl)
  have D26 := df_mk (ps := ["_law_one", "_law_other"]) X G a26 l26 q26 k26 (len2 fun _ _ => rfl)
  have D27 := df_mk (ps := ["_law_one", "_law_other"]) X G a27 l27 q27 k27 (len2 fun _ _ => rfl)
  have D28 := df_mk (ps := ["_law_one", "_law_other"]) X G a28 l28 q28 k28 (len2 fun _ _ => rfl)
  have D29 := df_mk (ps := ["_law_box_here"]) X G a29 l29 q29 k29 (len1 fun _ => rfl)
  have D30 := df_mk (ps := ["_law_body", "_law_length", "_law_moment"]) X G a30 l30 q30 k30 (len3 fun _ _ _ => rfl)
  have D31 := df_mk (ps := ["_law_one", "_law_other"]) X G a31 l31 q31 k31 (len2 fun _ _ => rfl)
  have D32 := df_mk (ps := ["_law_world_here", "_law_length", "_law_moment"]) X G a32 l32 q32 k32 (len3 fun _ _ _ => rfl)
  have D33 := df_mk (ps := ["_law_box_here"]) X G a33 l33 q33 k33 (len1 fun _ => rfl)
  have D34 := df_mk (ps := ["_law_box_here", "_law_world_here", "_law_length"]) X G a34 l34 q34 k34 (len3 fun _ _ _ => rfl)
  have D35 := df_mk (ps := ["_law_way", "_law_world_here", "_law_length", "_law_moment"]) X G a35 l35 q35 k35 (len4 fun _ _ _ _ => rfl)
  have D36 := df_mk (ps := ["_law_box_here", "_law_world_here", "_law_length"]) X G a36 l36 q36 k36 (len3 fun _ _ _ => rfl)
  have D37 := df_mk (ps := ["_law_script"]) X G a37 l37 q37 k37 (len1 fun _ => rfl)
  refine law_end X G a37 l37 (fun _ => rfl) fun base kb nb => ?_
  have F0 := ok_NoWorld___init__ (P := P) (w := w) (base := base) D0 T
  have F1 := ok_common_divisor (P := P) (w := w) (base := base) D1 T
  have F2 := ok_plus (P := P) (w := w) (base := base) D2 T F1
  have F3 := ok_minus (P := P) (w := w) (base := base) D3 T F2
  have F4 := ok_times (P := P) (w := w) (base := base) D4 T F1
  have F5 := ok_under (P := P) (w := w) (base := base) D5 T
  have F6 := ok_refuse_unlike (P := P) (w := w) (base := base) D6 T F0
  have F7 := ok_refuse_below_nought (P := P) (w := w) (base := base) D7 T F5
  have F8 := ok_refuse_outside (P := P) (w := w) (base := base) D8 T F5 F0
  have F9 := ok_led_back (P := P) (w := w) (base := base) D9 T F4 F3
  have F10 := ok_pace_of (P := P) (w := w) (base := base) D10 T
  have F11 := ok_place_at (P := P) (w := w) (base := base) D11 T F4 F2
  have F12 := ok_turned_about (P := P) (w := w) (base := base) D12 T F3
  have F13 := ok_folded (P := P) (w := w) (base := base) D13 T F4 F11 F9 F10 F12 F5 F3
  have F14 := ok_is_ahead (P := P) (w := w) (base := base) D14 T F5
  have F15 := ok_order_of (P := P) (w := w) (base := base) D15 T F14
  have F16 := ok_in_order (P := P) (w := w) (base := base) D16 T F15
  have F17 := ok_in_room (P := P) (w := w) (base := base) D17 T F6 F8 F7 F13 F16
  have F18 := ok_round_of (P := P) (w := w) (base := base) D18 T F6 F8
  have F19 := ok_law_cell (P := P) (w := w) (base := base) D19 T
  have F20 := ok_law_mix (P := P) (w := w) (base := base) D20 T
  have F21 := ok_law_box (P := P) (w := w) (base := base) D21 T F19 F20
  have F22 := ok_law_take (P := P) (w := w) (base := base) D22 T
  have F23 := ok_law_fit (P := P) (w := w) (base := base) D23 T
  have F24 := ok_law_plus (P := P) (w := w) (base := base) D24 T F23
  have F25 := ok_law_minus (P := P) (w := w) (base := base) D25 T F23
  have F26 := ok_law_times (P := P) (w := w) (base := base) D26 T F23
  have F27 := ok_law_over (P := P) (w := w) (base := base) D27 T F23
  have F28 := ok_law_less (P := P) (w := w) (base := base) D28 T
  have F29 := ok_law_small (P := P) (w := w) (base := base) D29 T F22 F23
  have F30 := ok_law_folded (P := P) (w := w) (base := base) D30 T F24 F26 F27 F25 F28
  have F31 := ok_law_in_order (P := P) (w := w) (base := base) D31 T F28
  have F32 := ok_law_room (P := P) (w := w) (base := base) D32 T F30 F31
  have F33 := ok_law_within (P := P) (w := w) (base := base) D33 T F22 F23 F29 F24 F26 F25
  have F34 := ok_law_moment_of (P := P) (w := w) (base := base) D34 T F22 F23 F24 F26 F25 F27
  have F35 := ok_law_refused (P := P) (w := w) (base := base) D35 T F17 F18
  have F36 := ok_law_outside (P := P) (w := w) (base := base) D36 T F22 F35
  have F37 := ok_law (P := P) (w := w) (base := base) D37 T F21 F33 F34 F32 F17 F36
  exact F37
end Prf
namespace Kw
open PySem PySem.Spec PyProof.Rows L2
theorem walk_kwX {pn : Str} {l : PySem.W.OpenLaw} {k : Nat} {q : Program} {loose : List Str} {XP : (Str → Option Value) → Heap → Prop} {as0 : List Addr} {n0 t0 : Nat} {d : DefRec} {K : Params → PySem.W.Frag}
    (hn : l.most = some 63) (hdf : d.params.defaults = []) (hr : Room k callerA) (hK : ∀ P, as0 = (K P).map (·.1)) (hnm : d.name = "law")
    (F : ∀ (w : World) (mg : Str → Option Value) (h : Heap), (K w.params).In h → h.Ns mainGlobals mg → ∃ fa, mg "law" = some (.ref fa) ∧ ∃ fd : FuncData, (∀ (s : Shared) (u : Value), BindsTo s fd ⟨[u], []⟩ [(pn, u)]) ∧
      ∀ base : Heap, (K w.params).In base → base.Ns mainGlobals mg → FnOk l.prog w (K w.params) mg base (CXE l.prog w) k fa fd [pn] (spLaw (K w.params))) :
    PySem.W.WalkX q loose XP (PySem.W.X.obsZ as0) (PySem.W.X.valZ K n0 t0) l.row.toRowW d [] (fun f vs => PySem.call f vs) := by
  intro w s₀ s₁ mg mb G Y fa o pm cd doc dV kV ho hd hcd hD hmg hg args vals as L hpre hlay hrd hwl hlo
  exact walk_kw (YP := fun w h => (K w.params).In h) hn hdf hr (fun _ _ z => z) hnm F w s₀ s₁ mg mb G (PySem.W.InK.keeps w _ _ (PySem.W.X.z_facts hK Y).2.1 L.keeps) fa o pm cd doc dV kV ho hd hcd hD hmg hg args vals as hpre hlay hrd hwl hlo
end Kw
noncomputable def PySem.W.Fast.tw7492092993672131285 : PySem.Program := PySem.Challenge.pw_knockwright_k56_a_room
theorem PySem.W.Fast.te7492092993672131285 : PySem.Challenge.pw_knockwright_k56_a_room = PySem.W.Fast.tw7492092993672131285 := rfl
open PySem PySem.W PyProof.Rows
set_option maxRecDepth 100000 in
set_option maxHeartbeats 0 in
theorem PySem.Challenge.cw_knockwright_k56_a_room_holds : PySem.Challenge.rw_knockwright_k56_a_room.Holds := by
  w_on; o_law; z_head; (case hw => w_witness2)
  refine Kw.walk_kwX (pn := "_law_script") (l := PySem.Challenge.rw_knockwright_k56_a_room) (k := 9) rfl rfl ⟨rfl, by decide, by decide⟩ (fun _ => by kernel_rfl) rfl ?F
  case F =>
    intro w mg h KX G
    refine' Prf.all_mk KX G ?c_KnockError ?c_NoMoment ?c_NoWorld ?b_isinstance ?b_int ?b_bool ?b_list ?b_abs ?b_len ?b_divmod ?b_range ?b_max ?b_min ?chk ?rd ?fc ?gs ?n_NoWorld_at ?s_NoWorld_NoWorld ?s_NoMoment_NoMoment ?z_NoMoment_NoWorld ?i_LONG_BITS ?c_NOUGHT ?z_NOUGHT ?c_TWO ?z_TWO ?a0 ?t0 ?l0 ?q0 ?a1 ?l1 ?q1 ?k1 ?a2 ?l2 ?q2 ?k2 ?a3 ?l3 ?q3 ?k3 ?a4 ?l4 ?q4 ?k4 ?a5 ?l5 ?q5 ?k5 ?a6 ?l6 ?q6 ?k6 ?a7 ?l7 ?q7 ?k7 ?a8 ?l8 ?q8 ?k8 ?a9 ?l9 ?q9 ?k9 ?a10 ?l10 ?q10 ?k10 ?a11 ?l11 ?q11 ?k11 ?a12 ?l12 ?q12 ?k12 ?a13 ?l13 ?q13 ?k13 ?a14 ?l14 ?q14 ?k14 ?a15 ?l15 ?q15 ?k15 ?a16 ?l16 ?q16 ?k16 ?a17 ?l17 ?q17 ?k17 ?a18 ?l18 ?q18 ?k18 ?a19 ?l19 ?q19 ?k19 ?a20 ?l20 ?q20 ?k20 ?a21 ?l21 ?q21 ?k21 ?a22 ?l22 ?q22 ?k22 ?a23 ?l23 ?q23 ?k23 ?a24 ?l24 ?q24 ?k24 ?a25 ?l25 ?q25 ?k25 ?a26 ?l26 ?q26 ?k26 ?a27 ?l27 ?q27 ?k27 ?a28 ?l28 ?q28 ?k28 ?a29 ?l29 ?q29 ?k29 ?a30 ?l30 ?q30 ?k30 ?a31 ?l31 ?q31 ?k31 ?a32 ?l32 ?q32 ?k32 ?a33 ?l33 ?q33 ?k33 ?a34 ?l34 ?q34 ?k34 ?a35 ?l35 ?q35 ?k35 ?a36 ?l36 ?q36 ?k36 ?a37 ?l37 ?q37 ?k37
    (case c_KnockError => k_is)
    (case c_NoMoment => k_is)
    (case c_NoWorld => k_is)
    (case b_isinstance => k_is)
    (case b_int => k_is)
    (case b_bool => k_is)
    (case b_list => k_is)
    (case b_abs => k_is)
    (case b_len => k_is)
    (case b_divmod => k_is)
    (case b_range => k_is)
    (case b_max => k_is)
    (case b_min => k_is)
    (case chk => kernel_rfl)
    (case rd => k_is)
    (case fc => k_is)
    (case gs => k_is)
    (case n_NoWorld_at => k_is)
    (case s_NoWorld_NoWorld => k_is)
    (case s_NoMoment_NoMoment => k_is)
    (case z_NoMoment_NoWorld => k_is)
    (case i_LONG_BITS => k_is)
    (case c_NOUGHT => k_is)
    (case z_NOUGHT => k_is)
    (case c_TWO => k_is)
    (case z_TWO => k_is)
    (case a0 => k_is)
    (case t0 => k_is)
    (case l0 => k_is)
    (case q0 => k_is)
    (case a1 => k_is)
    (case l1 => k_is)
    (case q1 => k_is)
    (case k1 => k_is)
    (case a2 => k_is)
    (case l2 => k_is)
    (case q2 => k_is)
    (case k2 => k_is)
    (case a3 => k_is)
    (case l3 => k_is)
    (case q3 => k_is)
    (case k3 => k_is)
    (case a4 => k_is)
    (case l4 => k_is)
    (case q4 => k_is)
    (case k4 => k_is)
    (case a5 => k_is)
    (case l5 => k_is)
    (case q5 => k_is)
    (case k5 => k_is)
    (case a6 => k_is)
    (case l6 => k_is)
    (case q6 => k_is)
    (case k6 => k_is)
    (case a7 => k_is)
    (case l7 => k_is)
    (case q7 => k_is)
    (case k7 => k_is)
    (case a8 => k_is)
    (case l8 => k_is)
    (case q8 => k_is)
    (case k8 => k_is)
    (case a9 => k_is)
    (case l9 => k_is)
    (case q9 => k_is)
    (case k9 => k_is)
    (case a10 => k_is)
    (case l10 => k_is)
    (case q10 => k_is)
    (case k10 => k_is)
    (case a11 => k_is)
    (case l11 => k_is)
    (case q11 => k_is)
    (case k11 => k_is)
    (case a12 => k_is)
    (case l12 => k_is)
    (case q12 => k_is)
    (case k12 => k_is)
    (case a13 => k_is)
    (case l13 => k_is)
    (case q13 => k_is)
    (case k13 => k_is)
    (case a14 => k_is)
    (case l14 => k_is)
    (case q14 => k_is)
    (case k14 => k_is)
    (case a15 => k_is)
    (case l15 => k_is)
    (case q15 => k_is)
    (case k15 => k_is)
    (case a16 => k_is)
    (case l16 => k_is)
    (case q16 => k_is)
    (case k16 => k_is)
    (case a17 => k_is)
    (case l17 => k_is)
    (case q17 => k_is)
    (case k17 => k_is)
    (case a18 => k_is)
    (case l18 => k_is)
    (case q18 => k_is)
    (case k18 => k_is)
    (case a19 => k_is)
    (case l19 => k_is)
    (case q19 => k_is)
    (case k19 => k_is)
    (case a20 => k_is)
    (case l20 => k_is)
    (case q20 => k_is)
    (case k20 => k_is)
    (case a21 => k_is)
    (case l21 => k_is)
    (case q21 => k_is)
    (case k21 => k_is)
    (case a22 => k_is)
    (case l22 => k_is)
    (case q22 => k_is)
    (case k22 => k_is)
    (case a23 => k_is)
    (case l23 => k_is)
    (case q23 => k_is)
    (case k23 => k_is)
    (case a24 => k_is)
    (case l24 => k_is)
    (case q24 => k_is)
    (case k24 => k_is)
    (case a25 => k_is)
    (case l25 => k_is)
    (case q25 => k_is)
    (case k25 => k_is)
    (case a26 => k_is)
    (case l26 => k_is)
    (case q26 => k_is)
    (case k26 => k_is)
    (case a27 => k_is)
    (case l27 => k_is)
    (case q27 => k_is)
    (case k27 => k_is)
    (case a28 => k_is)
    (case l28 => k_is)
    (case q28 => k_is)
    (case k28 => k_is)
    (case a29 => k_is)
    (case l29 => k_is)
    (case q29 => k_is)
    (case k29 => k_is)
    (case a30 => k_is)
    (case l30 => k_is)
    (case q30 => k_is)
    (case k30 => k_is)
    (case a31 => k_is)
    (case l31 => k_is)
    (case q31 => k_is)
    (case k31 => k_is)
    (case a32 => k_is)
    (case l32 => k_is)
    (case q32 => k_is)
    (case k32 => k_is)
    (case a33 => k_is)
    (case l33 => k_is)
    (case q33 => k_is)
    (case k33 => k_is)
    (case a34 => k_is)
    (case l34 => k_is)
    (case q34 => k_is)
    (case k34 => k_is)
    (case a35 => k_is)
    (case l35 => k_is)
    (case q35 => k_is)
    (case k35 => k_is)
    (case a36 => k_is)
    (case l36 => k_is)
    (case q36 => k_is)
    (case k36 => k_is)
    (case a37 => k_is)
    (case l37 => k_is)
    (case q37 => k_is)
    (case k37 => k_is)
