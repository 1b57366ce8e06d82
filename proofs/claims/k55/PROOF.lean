import PyProof.Rows.All
import Wide.All
import OpenK.AllK
import Wide.FinOn
import Lean
import PyProof.EqAt
import PyProof.EqKinds
import PyProof.TupleCall
import PyProof.ExcBaseAll.ValueError
import PyProof.P3Eq
import PyProof.NeData
import PyProof.DictTable
import KE.KEqDict
import PyProof.EnumFor
import PyProof.EnumMake
import PyProof.EnumStmt
import PyProof.NsDelKeeps
import KE.KListMore
import PyProof.Rows.SortWalk
import PyProof.ListRange
import PySem.Challenge.RW_knockwright_k55_whole_gone_on_through_cr
set_option Elab.async false
set_option linter.all false
set_option maxRecDepth 100000
namespace L2
open PySem PySem.Spec PyProof.Rows
noncomputable abbrev Key := Sum Int Str
noncomputable def keyIs : Key → Value → Bool
  | .inl k, v => Value.isInt k v
  | .inr x, v => Value.isStrOf x v
noncomputable def keyH (w : World) : Key → Int
  | .inl k => hashInt k
  | .inr x => hashStr w x
theorem keyIs_shape : ∀ {k : Key} {v : Value}, keyIs k v = true → (∃ i t, k = Sum.inl i ∧ v = Value.int i t) ∨ (∃ x t, k = Sum.inr x ∧ v = Value.str x t)
  | .inl i, v, h => by
    obtain ⟨t, e⟩ := Value.isInt_shape (k := i) (v := v) h
    exact .inl ⟨i, t, rfl, e⟩
  | .inr x, v, h => by
    obtain ⟨t, e⟩ := Value.isStrOf_shape (x := x) (v := v) h
    exact .inr ⟨x, t, rfl, e⟩
theorem key_ll (a b : Int) : decide ((Sum.inl a : Key) = Sum.inl b) = (a == b) := by
  by_cases e : a = b
  · subst e; simp
  · have h : ¬ (Sum.inl a : Key) = Sum.inl b := fun q => e (Sum.inl.inj q)
    rw [decide_eq_false h]
    exact (beq_eq_false_iff_ne.mpr e).symm
theorem key_rr (a b : Str) : decide ((Sum.inr a : Key) = Sum.inr b) = decide (a = b) := by
  by_cases e : a = b
  · subst e; simp
  · have h : ¬ (Sum.inr a : Key) = Sum.inr b := fun q => e (Sum.inr.inj q)
    rw [decide_eq_false h, decide_eq_false e]
theorem key_lr (a : Int) (b : Str) : decide ((Sum.inl a : Key) = Sum.inr b) = false := decide_eq_false (fun q => nomatch q)
theorem key_rl (a : Str) (b : Int) : decide ((Sum.inr a : Key) = Sum.inl b) = false := decide_eq_false (fun q => nomatch q)
noncomputable def mixKind (prog : Program) (w : World) : PySem.KeyKind prog w Key where
  is := keyIs
  hash := keyH w
  inj := fun v a b ha hb => by
    rcases keyIs_shape ha with ⟨i, t, rfl, rfl⟩ | ⟨x, t, rfl, rfl⟩
    · rcases keyIs_shape hb with ⟨j, u, rfl, e⟩ | ⟨y, u, rfl, e⟩
      · injection e with e1 _; rw [e1]
      · exact nomatch e
    · rcases keyIs_shape hb with ⟨j, u, rfl, e⟩ | ⟨y, u, rfl, e⟩
      · exact nomatch e
      · injection e with e1 _; rw [e1]
  byValue := fun k v h => by
    rcases keyIs_shape h with ⟨i, t, rfl, rfl⟩ | ⟨x, t, rfl, rfl⟩ <;> rfl
  pyHash := fun hv h => by
    rcases keyIs_shape hv with ⟨i, t, rfl, rfl⟩ | ⟨x, t, rfl, rfl⟩
    · exact wpAny_pyHash_int h
    · exact wpAny_pyHash_str h
  eqBool := fun hu hv h => by
    rcases keyIs_shape hu with ⟨i, t, rfl, rfl⟩ | ⟨x, t, rfl, rfl⟩
    · rcases keyIs_shape hv with ⟨j, u, rfl, rfl⟩ | ⟨y, u, rfl, rfl⟩
      · rw [key_ll] at h; exact wpAny_eqBool_int h
      · rw [key_lr] at h; exact SeqAt.EqAt.int_str i t y u _ _ _ _ h
    · rcases keyIs_shape hv with ⟨j, u, rfl, rfl⟩ | ⟨y, u, rfl, rfl⟩
      · rw [key_rl] at h; exact SeqAt.EqAt.str_int x t j u _ _ _ _ h
      · rw [key_rr] at h; exact wpAny_eqBool_str h
  «strs» := fun k x t v h => by
    rcases keyIs_shape h with ⟨i, u, rfl, e⟩ | ⟨y, u, rfl, e⟩
    · exact nomatch e
    · injection e with e1 _
      subst e1
      cases v <;> rfl
end L2
namespace L2
open PySem PySem.Spec PyProof.Rows
inductive V where
  | non | bl (b : Bool) | int (i : Int) | str (x : Str) | byt (b : Array UInt8) | flt (b : UInt64) | ref (a : Addr) | ty (n : String)
  deriving DecidableEq
noncomputable def RelV : V → Value → Prop
  | .non, u => u = Value.none
  | .bl b, u => u = Value.bool b
  | .int i, u => ∃ t, u = Value.int i t
  | .str x, u => ∃ t, u = Value.str x t
  | .byt b, u => ∃ t, u = Value.bytes b t
  | .flt b, u => ∃ t, u = Value.float b t
  | .ref a, u => u = Value.ref a
  | .ty n, u => u = Value.type n
noncomputable abbrev Vals : List V → List Value → Prop := Paired RelV
theorem Vals.length {xs : List V} {us : List Value} (r : Vals xs us) : xs.length = us.length := Paired.length r
theorem Vals.get : ∀ {xs : List V} {us : List Value} {i : Nat} {x : V}, Vals xs us → xs[i]? = some x → ∃ u, us[i]? = some u ∧ RelV x u
  | _, _, _, _, .nil, e => by simp at e
  | _, _, 0, _, .cons r _, e => by simp at e; subst e; exact ⟨_, rfl, r⟩
  | _, _, i + 1, x, .cons _ t, e => by
    obtain ⟨u, h1, h2⟩ := Vals.get (i := i) (x := x) t (by simpa using e)
    exact ⟨u, by simpa using h1, h2⟩
theorem Vals.set {x : V} {u : Value} (r : RelV x u) : ∀ {xs : List V} {us : List Value} (i : Nat), Vals xs us → Vals (xs.set i x) (us.set i u)
  | _, _, _, .nil => .nil
  | _, _, 0, .cons _ t => .cons r t
  | _, _, i + 1, .cons q t => .cons q (Vals.set r i t)
theorem Vals.append : ∀ {xs ys : List V} {us ws : List Value}, Vals xs us → Vals ys ws → Vals (xs ++ ys) (us ++ ws)
  | _, _, _, _, .nil, s => s
  | _, _, _, _, .cons r t, s => .cons r (Vals.append t s)
theorem Vals.take : ∀ {xs : List V} {us : List Value} (n : Nat), Vals xs us → Vals (xs.take n) (us.take n)
  | _, _, 0, _ => .nil
  | _, _, _ + 1, .nil => .nil
  | _, _, n + 1, .cons r t => .cons r (Vals.take n t)
theorem Vals.drop : ∀ {xs : List V} {us : List Value} (n : Nat), Vals xs us → Vals (xs.drop n) (us.drop n)
  | _, _, 0, r => r
  | _, _, _ + 1, .nil => .nil
  | _, _, n + 1, .cons _ t => Vals.drop n t
noncomputable def RelO : Option V → Option Value → Prop
  | some v, some u => RelV v u
  | none, none => True
  | _, _ => False
noncomputable def KV {κ : Type} : List (κ × V) → List (κ × Value) → Prop := Paired fun (p : κ × V) (q : κ × Value) => p.1 = q.1 ∧ RelV p.2 q.2
noncomputable def kV : Key → V
  | .inl i => .int i
  | .inr x => .str x
inductive HO where
  | lst (xs : List V)
  | tup (xs : List V)
  | dK (kvs : List (Key × V)) | dT (kvs : List (List Key × V))
  | set (S : Int → Bool) (n : Nat)
  | ins (C dx : Addr) (fs : List (Str × V))
  | own (x : Addr)
  | xd (fs : List (Str × V))
  | met (f x : Addr)
  | rng (lo hi : Int)
  | frz (o : Obj) (u : HO)
  | tbl (ps : Array Value)
  | ext (φ : Heap → Prop)
noncomputable abbrev Hp := Addr → Option HO
noncomputable def upd (H : Hp) (a : Addr) (o : HO) : Hp := fun b => if b = a then some o else H b
theorem upd_same {H : Hp} {a : Addr} {o : HO} : upd H a o a = some o := by unfold upd; rw [if_pos rfl]
theorem upd_ne {H : Hp} {a b : Addr} {o : HO} (h : b ≠ a) : upd H a o b = H b := by unfold upd; rw [if_neg h]
theorem ne_of {H : Hp} {a b : Addr} {o u : HO} (h : H a = some o) (h' : H b = some u) (d : o ≠ u) : a ≠ b := by
  intro e; subst e; rw [h] at h'; exact d (Option.some.inj h')
theorem ne_of_none {H : Hp} {a b : Addr} {o : HO} (h : H a = some o) (h' : H b = none) : a ≠ b := by
  intro e; subst e; rw [h] at h'; cases h'
section
variable (P : Program) (w : World)
noncomputable def ObjOk (H : Hp) (h : Heap) (a : Addr) : HO → Prop
  | .lst xs => xs.length ≤ sizeLine ∧ ∃ (its : List Value) (n : Nat), Vals xs its ∧ h.get? a = some { cls := .type "list", data := .seq its.toArray n }
  | .tup xs => xs.length ≤ sizeLine ∧ ∃ its : List Value, Vals xs its ∧ IsTup h a its.toArray
  | .dK kvs => kvs.length ≤ sizeLine ∧ (a == sysModules) = false ∧ ∃ vs, KV kvs vs ∧ h.DictOf (mixKind P w) a vs
  | .dT kvs => kvs.length ≤ sizeLine ∧ (a == sysModules) = false ∧ ∃ xs : List (List Key × Addr × Value),
      Paired (fun (p : List Key × V) (q : List Key × Addr × Value) => p.1 = q.1 ∧ H q.2.1 = some (.tup (p.1.map kV)) ∧ RelV p.2 q.2.2) kvs xs ∧
      ∃ o es ep, h.get? a = some o ∧ o.ExactDict ∧ o.data = .dict es ep ∧ es.toList = xs.map (entryOfKey (tupleKind (mixKind P w))) ∧ (xs.map (·.1)).Nodup
  | .set S n => h.SetOf (intKind P w) a S n
  | .ins C dx fs => H dx = some (.own a) ∧ fs.length ≤ 1000 ∧ dx ≠ a ∧ h.get? a = some (PySem.W.instObj C dx) ∧
      ∃ mA, h.Ns1 dx mA ∧ (∀ f, RelO (fs.lookup f) (mA f)) ∧ PySem.Within mA (fs.map (·.1))
  | .own _ => ∃ o, h.get? a = some o
  | .xd fs => ∃ mA, h.Ns1 a mA ∧ ∀ f, RelO (fs.lookup f) (mA f)
  | .rng lo hi => ∃ t u v, h.get? a = some { cls := .type "range", data := .fields #[.int lo t, .int hi u, .int 1 v] }
  | .frz o u => h.get? a = some o ∧ ObjOk H h a u
  | .tbl ps => h.get? a = some { cls := .none, data := .fields ps }
  | .met f x => h.get? a = some (PySem.W.methodObj (.ref f) (.ref x))
  | .ext φ => φ h ∧ (∃ o, h.get? a = some o) ∧ ∀ h1 h2 : Heap, φ h1 → (∀ o, h1.get? a = some o → h2.get? a = some o) → φ h2
noncomputable def HOk (H : Hp) (h : Heap) : Prop := ∀ a o, H a = some o → ObjOk P w H h a o
end
section
variable {P : Program} {w : World} {H H' : Hp} {h h' : Heap} {a : Addr} {o : HO}
theorem ObjOk.lt (x : ObjOk P w H h a o) : a < h.objs.size := by
  cases o with
  | lst xs => obtain ⟨_, _, _, _, e⟩ := x; exact Heap.lt_size e
  | tup xs => obtain ⟨_, _, _, p⟩ := x; exact p.lt
  | dK kvs => obtain ⟨_, _, _, _, o, _, _, e, _⟩ := x; exact Heap.lt_size e
  | dT kvs => obtain ⟨_, _, _, _, o, _, _, e, _⟩ := x; exact Heap.lt_size e
  | set S n => obtain ⟨o, _, _, _, e, _⟩ := x; exact Heap.lt_size e
  | ins C dx fs => obtain ⟨_, _, _, e, _⟩ := x; exact Heap.lt_size e
  | own y => obtain ⟨_, e⟩ := x; exact Heap.lt_size e
  | xd fs => obtain ⟨_, ⟨_, _, _, e, _⟩, _⟩ := x; exact Heap.lt_size e
  | rng lo hi => obtain ⟨_, _, _, e⟩ := x; exact Heap.lt_size e
  | frz ob u => obtain ⟨e, _⟩ := x; exact Heap.lt_size e
  | tbl ps => exact Heap.lt_size (show h.get? a = some _ from x)
  | met f y => exact Heap.lt_size (show h.get? a = some _ from x)
  | ext φ => obtain ⟨_, ⟨_, e⟩, _⟩ := x; exact Heap.lt_size e
theorem Paired.mapP {α β : Type} {F G : α → β → Prop} : ∀ {l₁ : List α} {l₂ : List β}, Paired F l₁ l₂ → (∀ a b, F a b → G a b) → Paired G l₁ l₂
  | _, _, .nil, _ => .nil
  | _, _, .cons r t, f => .cons (f _ _ r) (Paired.mapP t f)
theorem ObjOk.stay (x : ObjOk P w H h a o) (k : ∀ b u, (b = a ∨ H b = some (.own a)) → h.get? b = some u → h'.get? b = some u)
    (ho : ∀ b, H b = some (.own a) → H' b = some (.own a)) (ht : ∀ b xs, H b = some (.tup xs) → H' b = some (.tup xs)) : ObjOk P w H' h' a o := by
  induction o with
  | lst xs => obtain ⟨z, its, n, r, e⟩ := x; exact ⟨z, its, n, r, k _ _ (.inl rfl) e⟩
  | tup xs => obtain ⟨z, its, r, ob, e, c⟩ := x; exact ⟨z, its, r, ob, k _ _ (.inl rfl) e, c⟩
  | dK kvs => obtain ⟨z, y, vs, r, ob, es, ep, e, c⟩ := x; exact ⟨z, y, vs, r, ob, es, ep, k _ _ (.inl rfl) e, c⟩
  | dT kvs =>
    obtain ⟨z, y, xs, r, ob, es, ep, e, c⟩ := x
    exact ⟨z, y, xs, Paired.mapP r fun p q z => ⟨z.1, ht _ _ z.2.1, z.2.2⟩, ob, es, ep, k _ _ (.inl rfl) e, c⟩
  | set S n => obtain ⟨ob, es, ep, t, e, c⟩ := x; exact ⟨ob, es, ep, t, k _ _ (.inl rfl) e, c⟩
  | ins C dx fs =>
    obtain ⟨d, z, ne, e, mA, ⟨od, es, ep, e2, c⟩, r⟩ := x
    exact ⟨ho _ d, z, ne, k _ _ (.inl rfl) e, mA, ⟨od, es, ep, k _ _ (.inr d) e2, c⟩, r⟩
  | own y => obtain ⟨ob, e⟩ := x; exact ⟨ob, k _ _ (.inl rfl) e⟩
  | xd fs => obtain ⟨mA, ⟨od, es, ep, e, c⟩, r⟩ := x; exact ⟨mA, ⟨od, es, ep, k _ _ (.inl rfl) e, c⟩, r⟩
  | rng lo hi => obtain ⟨t, u, v, e⟩ := x; exact ⟨t, u, v, k _ _ (.inl rfl) e⟩
  | frz ob u ih => obtain ⟨e, q⟩ := x; exact ⟨k _ _ (.inl rfl) e, ih q⟩
  | tbl ps =>
    have e : h.get? a = some { cls := .none, data := .fields ps } := x
    show h'.get? a = some { cls := .none, data := .fields ps }
    exact k a _ (.inl rfl) e
  | met f y =>
    have e : h.get? a = some (PySem.W.methodObj (.ref f) (.ref y)) := x
    show h'.get? a = some (PySem.W.methodObj (.ref f) (.ref y))
    exact k a _ (.inl rfl) e
  | ext φ => obtain ⟨p, ⟨o, e⟩, st⟩ := x; exact ⟨st _ _ p fun o q => k _ _ (.inl rfl) q, ⟨o, k _ _ (.inl rfl) e⟩, st⟩
theorem HOk.lt (x : HOk P w H h) (e : H a = some o) : a < h.objs.size := (x a o e).lt
theorem HOk.fresh (x : HOk P w H h) (e : h.objs.size ≤ a) : H a = none := by
  cases q : H a with
  | none => rfl
  | some u => exact absurd (Nat.lt_of_lt_of_le (x.lt q) e) (Nat.lt_irrefl _)
theorem HOk.kept (x : HOk P w H h) (k : ∀ b u, h.get? b = some u → h'.get? b = some u) : HOk P w H h' := fun a o e =>
  (x a o e).stay (fun b u _ q => k b u q) (fun _ q => q) fun _ _ q => q
theorem HOk.laid (x : HOk P w H h) (k : ∀ b u, h.get? b = some u → h'.get? b = some u) (hp : h.objs.size ≤ a) (new : ObjOk P w (upd H a o) h' a o) : HOk P w (upd H a o) h' := fun b u e => by
  have hn := x.fresh hp
  by_cases hb : b = a
  · subst hb; rw [upd_same] at e; cases e; exact new
  · rw [upd_ne hb] at e
    exact (x b u e).stay (fun c v _ q => k c v q) (fun c q => by rw [upd_ne (ne_of_none q hn)]; exact q) fun c xs q => by rw [upd_ne (ne_of_none q hn)]; exact q
end
noncomputable def Rd (H : Hp) (a : Addr) (u : HO) : Prop := H a = some u ∨ ∃ o, H a = some (.frz o u)
theorem Rd.ok {P : Program} {w : World} {H : Hp} {h : Heap} {a : Addr} {u : HO} (r : Rd H a u) (x : HOk P w H h) : ObjOk P w H h a u := by
  rcases r with r | ⟨o, r⟩
  · exact x a u r
  · obtain ⟨_, q⟩ := x a _ r
    exact q
noncomputable def Mut : Option HO → Prop
  | some (.lst _) => True
  | some (.dK _) => True
  | some (.dT _) => True
  | some (.set _ _) => True
  | some (.ins _ _ _) => True
  | some (.ext _) => True
  | _ => False
section
variable {P : Program} {w : World} {H : Hp} {h h' : Heap} {x e : Addr} {o' : HO}
theorem HOk.write (ok : HOk P w H h) (mu : Mut (H x)) (he : e = x ∨ H e = some (.own x)) (k : ∀ b u, b ≠ e → h.get? b = some u → h'.get? b = some u) (heo : ∃ u, h'.get? e = some u)
    (new : ObjOk P w (upd H x o') h' x o') : HOk P w (upd H x o') h' := fun b u q => by
  have nown : ∀ c y, H c = some (.own y) → c ≠ x := fun c y r z => by subst z; rw [r] at mu; exact mu
  have ntup : ∀ c xs, H c = some (.tup xs) → c ≠ x := fun c xs r z => by subst z; rw [r] at mu; exact mu
  by_cases hb : b = x
  · subst hb; rw [upd_same] at q; cases q; exact new
  · rw [upd_ne hb] at q
    by_cases hbe : b = e
    · have q' : H b = some (.own x) := by
        rcases he with z | z
        · exact absurd (hbe.trans z) hb
        · rw [hbe]; exact z
      rw [q] at q'; cases q'
      obtain ⟨v, hv⟩ := heo
      exact ⟨v, by rw [hbe]; exact hv⟩
    · refine (ok b u q).stay (fun c v hc r => k c v ?_ r) (fun c r => by rw [upd_ne (nown c b r)]; exact r) fun c xs r => by rw [upd_ne (ntup c xs r)]; exact r
      rcases hc with rfl | hc
      · exact hbe
      · rintro rfl
        rcases he with z | z
        · exact nown c b hc z
        · rw [hc] at z; cases z; exact hb rfl
end
structure Un (fs ex : List Addr) (H H' : Hp) (h h' : Heap) : Prop where
  keep : ∀ b o, h.get? b = some o → H b = none → b ∉ fs → b ∉ ex → h'.get? b = some o
  slot : ∀ b o, h.get? b = some o → H b = none → b ∈ fs → b ∉ ex → ∃ sl, h'.get? b = some { o with slots := sl }
  free : ∀ b o, h.get? b = some o → H b = none → b ∉ ex → H' b = none
  there : ∀ b o, h.get? b = some o → b ∉ ex → ∃ o', h'.get? b = some o'
  tups : ∀ b xs, H b = some (.tup xs) → H' b = some (.tup xs)
  frzs : ∀ b o u, H b = some (.frz o u) → H' b = some (.frz o u)
  tbls : ∀ b ps, H b = some (.tbl ps) → ∃ more, H' b = some (.tbl (ps ++ more))
section
variable {fs fs' ex ex' : List Addr} {H H1 H2 : Hp} {h h1 h2 h' : Heap} {a x e : Addr} {o : HO}
theorem Un.any (u : Un fs ex H H1 h h1) {b : Addr} {ob : Obj} (q : h.get? b = some ob) (n : H b = none) (hx : b ∉ ex) : ∃ sl, h1.get? b = some { ob with slots := sl } := by
  by_cases hb : b ∈ fs
  · exact u.slot b ob q n hb hx
  · exact ⟨ob.slots, u.keep b ob q n hb hx⟩
theorem Un.kept (k : ∀ b u, h.get? b = some u → h'.get? b = some u) : Un fs ex H H h h' :=
  ⟨fun b ob q _ _ _ => k b ob q, fun b ob q _ _ _ => ⟨ob.slots, k b ob q⟩, fun _ _ _ n _ => n, fun b ob q _ => ⟨ob, k b ob q⟩, fun _ _ q => q, fun _ _ _ q => q, fun _ ps q => ⟨#[], by rw [q]; simp⟩⟩
theorem Un.refl : Un fs ex H H h h := Un.kept fun _ _ q => q
theorem Un.laid (k : ∀ b u, h.get? b = some u → h'.get? b = some u) (hp : h.objs.size ≤ a) (hn : H a = none) : Un fs ex H (upd H a o) h h' where
  keep := fun b u q _ _ _ => k b u q
  slot := fun b u q _ _ _ => ⟨u.slots, k b u q⟩
  free := fun b u q n _ => by rw [upd_ne (Nat.ne_of_lt (Nat.lt_of_lt_of_le (Heap.lt_size q) hp))]; exact n
  there := fun b u q _ => ⟨u, k b u q⟩
  tups := fun b xs q => by rw [upd_ne (ne_of_none q hn)]; exact q
  frzs := fun b u xs q => by rw [upd_ne (ne_of_none q hn)]; exact q
  tbls := fun b ps q => ⟨#[], by rw [upd_ne (ne_of_none q hn), q]; simp⟩
theorem Un.write (mu : Mut (H x)) (he : e = x ∨ H e = some (.own x)) (k : ∀ b u, b ≠ e → h.get? b = some u → h'.get? b = some u) (heo : ∃ u, h'.get? e = some u) : Un fs ex H (upd H x o) h h' := by
  have hx : ∀ b, H b = none → b ≠ x := fun b n z => by subst z; rw [n] at mu; exact mu
  have hb : ∀ b, H b = none → b ≠ e := fun b n z => by
    subst z
    rcases he with r | r
    · exact hx b n r
    · rw [n] at r; cases r
  have hm : ∀ b u, H b = some u → ¬ Mut (some u) → b ≠ x := fun b u q nm z => by subst z; rw [q] at mu; exact nm mu
  refine ⟨fun b u q n _ _ => k b u (hb b n) q, fun b u q n _ _ => ⟨u.slots, k b u (hb b n) q⟩, fun b u q n _ => by rw [upd_ne (hx b n)]; exact n, fun b u q _ => ?_,
    fun b xs q => by rw [upd_ne (hm b _ q fun z => z)]; exact q, fun b u xs q => by rw [upd_ne (hm b _ q fun z => z)]; exact q, fun b ps q => ⟨#[], by rw [upd_ne (hm b _ q fun z => z), q]; simp⟩⟩
  by_cases hbe : b = e
  · subst hbe; exact heo
  · exact ⟨u, k b u hbe q⟩
end
noncomputable def trk (h : Heap) (H : Hp) : List Addr := (List.range h.objs.size).filter fun a => (H a).isSome
noncomputable def hidT (h : Heap) (H : Hp) : Heap := PySem.W.hideAll h (trk h H)
theorem hidT_size (h : Heap) (H : Hp) : (hidT h H).objs.size = h.objs.size := PySem.W.hideAll_size _ _
theorem hidT_get {h : Heap} {H : Hp} {b : Addr} {o : Obj} (e : h.get? b = some o) (n : H b = none) : (hidT h H).get? b = some o :=
  PySem.W.hideAll_get _ e fun hm => by
    have q : (H b).isSome = true := (List.mem_filter.mp hm).2
    rw [n] at q; simp at q
theorem of_hidT {h : Heap} {H : Hp} {b : Addr} {o : Obj} (e : (hidT h H).get? b = some o) : h.get? b = some o ∧ H b = none := by
  have e' : h.get? b = some o := PySem.W.of_hideAll (trk h H) e
  refine ⟨e', ?_⟩
  cases q : H b with
  | none => rfl
  | some x =>
    have hm : b ∈ trk h H := List.mem_filter.mpr ⟨List.mem_range.mpr (Heap.lt_size e'), by simp [q]⟩
    have z : (hidT h H).get? b = none := PySem.W.hideAll_none (trk h H) hm
    rw [z] at e; cases e
end L2
namespace L2
open PySem PySem.Spec PyProof.Rows
structure Mod (K : PySem.W.Frag) (mg : Str → Option Value) (base : Heap) : Prop where
  kin : K.In base
  glob : base.Ns mainGlobals mg
  blt : ∃ mb, base.Ns builtinsNs mb ∧ ∀ x : Str, x ≠ "__name__" → mb x = bootBuiltins x
  nolimit : base.NoLimit
structure Cx where
  prog : Program
  w : World
  K : PySem.W.Frag
  mg : Str → Option Value
  base : Heap
  A : Around
  N : List Str
  s₀ : Shared
  H₀ : Hp
  env : Env
  outer : List Env
  stack : List Env
  ex : List Addr
  fn : Str → Bool
  calm : Bool
  pn : List (Addr × Obj)
  xe : Value → Shared → Prop
noncomputable def frs (l : List Env) : List Addr := l.filterMap (·.frame)
noncomputable abbrev Cx.fs (X : Cx) : List Addr := frs X.outer
noncomputable def Vis (sc : Scope) (x : Str) : Prop := sc.names.lookup x = some .local ∨ sc.names.lookup x = some .cell ∨ sc.names.lookup x = some .free
noncomputable def Loc (sc : Scope) (x : Str) : Prop := sc.names.lookup x = some .local ∨ sc.names.lookup x = some .cell
noncomputable def Look (env : Env) (h : Heap) (m : Str → Option Value) (x : Str) (u : Value) : Prop :=
  (env.kindOf x = some .local ∧ m x = some u) ∨ ((env.kindOf x = some .cell ∨ env.kindOf x = some .free) ∧ ∃ c, env.cells.lookup x = some c ∧ h.IsCell c (some u))
structure Cx.Ok (X : Cx) : Prop where
  mod : Mod X.K X.mg X.base
  kind : X.env.scope.kind = .function
  glob : X.env.globals = mainGlobals
  blt : X.env.builtins = builtinsNs
  above : X.s₀.heap.objs.size ≤ X.env.locals
  inj : ∀ x y c, X.env.cells.lookup x = some c → X.env.cells.lookup y = some c → x = y
  has : ∀ x, (X.env.kindOf x = some .cell ∨ X.env.kindOf x = some .free) → ∃ c, X.env.cells.lookup x = some c
  cab : ∀ x c, X.fn x = true → X.env.cells.lookup x = some c → X.s₀.heap.objs.size ≤ c
  hd : X.calm = true → X.A.handled = none
  frames : X.A.frames = some X.stack
  stk : X.stack = X.outer ∨ (X.stack = X.env :: X.outer ∧ X.env.frame = some X.env.locals)
  exf : ∀ b ∈ X.ex, b ≠ X.env.locals ∧ ∀ x c, X.env.cells.lookup x = some c → c ≠ b
  bs : ∀ b o, X.base.get? b = some o → X.s₀.heap.get? b = some o ∧ X.H₀ b = none
  bsz : X.base.objs.size ≤ X.s₀.heap.objs.size
  noex : ∀ b o, X.base.get? b = some o → b ∉ X.ex
  exfs : ∀ b ∈ X.ex, b ∉ X.fs
  funs : X.s₀.heap.FunFrames X.base X.outer
  frf : ∀ b ∈ X.fs, X.H₀ b = none
structure Inv (X : Cx) (pins : List (Addr × Obj)) (σ : List (Option V)) (H : Hp) (s : Shared) : Prop where
  ok : X.Ok
  os : s.os = X.s₀.os
  bare : AllBare s.gens
  base : Un X.fs X.ex X.H₀ H X.s₀.heap s.heap
  loc : ∃ m, s.heap.Ns X.env.locals m ∧ ∀ (i : Nat) (x : Str) (v : V), X.N[i]? = some x → σ[i]? = some (some v) → Vis X.env.scope x → ∃ u, RelV v u ∧ Look X.env s.heap m x u
  cell : ∀ x c, X.env.cells.lookup x = some c → ∃ v, s.heap.IsCell c v
  free : H X.env.locals = none
  freeC : ∀ x c, X.env.cells.lookup x = some c → H c = none
  pin : ∀ p ∈ X.pn ++ pins, s.heap.get? p.1 = some p.2 ∧ H p.1 = none ∧ p.1 ≠ X.env.locals ∧ p.1 ∉ X.fs ∧ ∀ v, p.2.data ≠ .cell v
  hok : HOk X.prog X.w H s.heap
  len : σ.length = X.N.length
section
variable {X : Cx} {pins : List (Addr × Obj)} {σ : List (Option V)} {H H' : Hp} {s : Shared} {h' : Heap}
theorem Cx.Ok.nofr (ok : X.Ok) {b : Addr} {o : Obj} (e : X.base.get? b = some o) : b ∉ X.fs := fun hb => by
  have := (ok.funs.mem hb).1
  rw [e] at this; cases this
theorem Inv.bs (I : Inv X pins σ H s) : ∀ b o, X.base.get? b = some o → s.heap.get? b = some o ∧ H b = none := fun b o e =>
  ⟨I.base.keep b o (I.ok.bs b o e).1 (I.ok.bs b o e).2 (I.ok.nofr e) (I.ok.noex b o e), I.base.free b o (I.ok.bs b o e).1 (I.ok.bs b o e).2 (I.ok.noex b o e)⟩
theorem Inv.bk (I : Inv X pins σ H s) : ∀ b o, X.base.get? b = some o → s.heap.get? b = some o := fun b o e => (I.bs b o e).1
theorem Inv.mod (I : Inv X pins σ H s) : Mod X.K X.mg X.base := I.ok.mod
theorem Inv.kIn (I : Inv X pins σ H s) : X.K.In s.heap := I.ok.mod.kin.keeps I.bk
theorem Inv.lt (I : Inv X pins σ H s) : X.env.locals < s.heap.objs.size := let ⟨_, hn, _⟩ := I.loc; hn.lt
theorem Inv.sz (I : Inv X pins σ H s) : X.s₀.heap.objs.size ≤ s.heap.objs.size := Nat.le_trans I.ok.above (Nat.le_of_lt I.lt)
theorem Inv.nofs (I : Inv X pins σ H s) {a : Addr} (h : s.heap.objs.size ≤ a) : a ∉ X.fs := fun hb => by
  obtain ⟨_, o, ho, _⟩ := I.ok.funs.mem hb
  exact absurd (Nat.lt_of_lt_of_le (Heap.lt_size ho) (Nat.le_trans I.sz h)) (Nat.lt_irrefl _)
theorem Inv.cne (I : Inv X pins σ H s) : ∀ x c, X.env.cells.lookup x = some c → c ≠ X.env.locals := fun x c e z => by
  obtain ⟨v, o, ho, hd⟩ := I.cell x c e
  obtain ⟨m, ⟨o', es, ep, ho', hd', _⟩, _⟩ := I.loc
  rw [z, ho'] at ho; cases ho; rw [hd'] at hd; cases hd
theorem Inv.funs (I : Inv X pins σ H s) : s.heap.FunFrames X.base X.outer := by
  have all : ∀ (l : List Env), (∀ b ∈ frs l, b ∈ X.fs) → X.s₀.heap.FunFrames X.base l → s.heap.FunFrames X.base l := by
    intro l
    induction l with
    | nil => intro _ _; trivial
    | cons env r ih =>
      intro hs hl
      obtain ⟨hk, ⟨L, o, hf, hn, ho, hd⟩, hr⟩ := hl
      have hL : L ∈ X.fs := hs L (by unfold frs; rw [List.filterMap_cons, hf]; exact List.mem_cons_self)
      obtain ⟨sl, e⟩ := I.base.slot L o ho (I.ok.frf L hL) hL fun z => I.ok.exfs L z hL
      exact ⟨hk, ⟨L, _, hf, hn, e, hd⟩, ih (fun b hb => hs b (by unfold frs; rw [List.filterMap_cons, hf]; exact List.mem_cons_of_mem _ hb)) hr⟩
  exact all X.outer (fun _ hb => hb) I.ok.funs
theorem Inv.stack (I : Inv X pins σ H s) : s.heap.FunFrames X.base X.stack := by
  rcases I.ok.stk with e | ⟨e, hf⟩
  · rw [e]; exact I.funs
  · rw [e]
    obtain ⟨m, hn, _⟩ := I.loc
    refine .cons (by rw [I.ok.kind]; decide) hf hn ?_ I.funs
    exact Heap.get?_none_of_le (Nat.le_trans I.ok.bsz I.ok.above)
theorem Inv.stkSub (I : Inv X pins σ H s) : ∀ b ∈ frs X.stack, b ∈ X.env.locals :: X.fs := fun b hb => by
  rcases I.ok.stk with e | ⟨e, hf⟩
  · rw [e] at hb; exact List.mem_cons_of_mem _ hb
  · rw [e] at hb
    unfold frs at hb
    rw [List.filterMap_cons, hf] at hb
    exact hb
theorem Inv.stkFree (I : Inv X pins σ H s) : ∀ b ∈ frs X.stack, H b = none := fun b hb => by
  rcases List.mem_cons.mp (I.stkSub b hb) with e | hb
  · rw [e]; exact I.free
  · obtain ⟨_, o, ho, _⟩ := I.ok.funs.mem hb
    exact I.base.free b o ho (I.ok.frf b hb) fun z => I.ok.exfs b z hb
theorem Inv.step {g' : Array GenState} {t' : Nat} {d' : Drawn} {ch : List Addr} (I : Inv X pins σ H s)
    (hch : ∀ b ∈ ch, (b ∈ X.ex ∨ X.s₀.heap.objs.size ≤ b) ∧ b ≠ X.env.locals ∧ (∀ x c, X.env.cells.lookup x = some c → c ≠ b) ∧ ∀ p ∈ X.pn ++ pins, p.1 ≠ b)
    (keep : ∀ b o, b ≠ X.env.locals → b ∉ X.fs → b ∉ ch → s.heap.get? b = some o → H b = none → h'.get? b = some o)
    (slot : ∀ b o, b ≠ X.env.locals → b ∈ X.fs → b ∉ ch → s.heap.get? b = some o → H b = none → ∃ sl, h'.get? b = some { o with slots := sl }) (free : ∀ b o, b ∉ ch → s.heap.get? b = some o → H b = none → H' b = none)
    (there : ∀ b o, b ∉ ch → s.heap.get? b = some o → ∃ o', h'.get? b = some o')
    (tups : ∀ b xs, H b = some (.tup xs) → H' b = some (.tup xs)) (frzs : ∀ b o u, H b = some (.frz o u) → H' b = some (.frz o u)) (tbls : ∀ b ps, H b = some (.tbl ps) → ∃ more, H' b = some (.tbl (ps ++ more)))
    (ns : ∀ m, s.heap.Ns X.env.locals m → h'.Ns X.env.locals m) (hok : HOk X.prog X.w H' h') (hg : AllBare g') :
    Inv X pins σ H' { s with heap := h', gens := g', drawn := d', toks := t' } := by
  have neL : ∀ b o, X.s₀.heap.get? b = some o → b ≠ X.env.locals := fun b o e => Nat.ne_of_lt (Nat.lt_of_lt_of_le (Heap.lt_size e) I.ok.above)
  have neC : ∀ b o, X.s₀.heap.get? b = some o → b ∉ X.ex → b ∉ ch := fun b o e hx hb => by
    rcases (hch b hb).1 with z | z
    · exact hx z
    · exact absurd (Nat.lt_of_lt_of_le (Heap.lt_size e) z) (Nat.lt_irrefl _)
  have cellK : ∀ x c, X.env.cells.lookup x = some c → ∀ v, s.heap.IsCell c v → h'.IsCell c v := fun x c e v ⟨o, ho, hd⟩ => by
    have nch : c ∉ ch := fun z => (hch c z).2.2.1 x c e rfl
    by_cases hc : c ∈ X.fs
    · obtain ⟨sl, q⟩ := slot c o (I.cne x c e) hc nch ho (I.freeC x c e)
      exact ⟨_, q, hd⟩
    · exact ⟨o, keep c o (I.cne x c e) hc nch ho (I.freeC x c e), hd⟩
  refine ⟨I.ok, I.os, hg, ⟨fun b o e n hb hx => ?_, fun b o e n hb hx => ?_, fun b o e n hx => ?_, fun b o e hx => ?_, fun b xs e => tups b xs (I.base.tups b xs e), fun b o xs e => frzs b o xs (I.base.frzs b o xs e), fun b ps e => ?_⟩, ?_, fun x c e => ?_, ?_, fun x c e => ?_, fun p hp => ?_, hok, I.len⟩
  · exact keep b o (neL b o e) hb (neC b o e hx) (I.base.keep b o e n hb hx) (I.base.free b o e n hx)
  · obtain ⟨sl, e1⟩ := I.base.slot b o e n hb hx
    obtain ⟨sl', e2⟩ := slot b _ (neL b o e) hb (neC b o e hx) e1 (I.base.free b o e n hx)
    exact ⟨sl', e2⟩
  · obtain ⟨o', e1⟩ := I.base.there b o e hx
    exact free b o' (neC b o e hx) e1 (I.base.free b o e n hx)
  · obtain ⟨o', e1⟩ := I.base.there b o e hx
    exact there b o' (neC b o e hx) e1
  · obtain ⟨m1, e1⟩ := I.base.tbls b ps e
    obtain ⟨m2, e2⟩ := tbls b _ e1
    exact ⟨m1 ++ m2, by rw [e2, Array.append_assoc]⟩
  · obtain ⟨m, hn, hl⟩ := I.loc
    refine ⟨m, ns m hn, fun i x v e1 e2 e3 => ?_⟩
    obtain ⟨u, r, l⟩ := hl i x v e1 e2 e3
    refine ⟨u, r, ?_⟩
    rcases l with l | ⟨k, c, e, z⟩
    · exact .inl l
    · exact .inr ⟨k, c, e, cellK x c e _ z⟩
  · obtain ⟨v, z⟩ := I.cell x c e
    exact ⟨v, cellK x c e v z⟩
  · obtain ⟨m, ⟨o, _, _, ho, _⟩, _⟩ := I.loc
    exact free _ o (fun z => (hch _ z).2.1 rfl) ho I.free
  · obtain ⟨v, o, ho, hd⟩ := I.cell x c e
    exact free c o (fun z => (hch c z).2.2.1 x c e rfl) ho (I.freeC x c e)
  · obtain ⟨e, n, ne, nf, d⟩ := I.pin p hp
    have nch : p.1 ∉ ch := fun z => (hch p.1 z).2.2.2 p hp rfl
    exact ⟨keep p.1 p.2 ne nf nch e n, free p.1 p.2 nch e n, ne, nf, d⟩
theorem Inv.un {t' : Nat} (I : Inv X pins σ H s) (u : Un X.fs [] H H' s.heap h') (hok : HOk X.prog X.w H' h') : Inv X pins σ H' { s with heap := h', toks := t' } := by
  obtain ⟨m, ⟨o, es, ep, ho, r⟩, _⟩ := id I.loc
  obtain ⟨sl, hL⟩ := u.any ho I.free (by simp)
  exact I.step (g' := s.gens) (d' := s.drawn) (ch := []) (fun _ z => nomatch z) (fun b o _ hb _ e n => u.keep b o e n hb (by simp)) (fun b o _ hb _ e n => u.slot b o e n hb (by simp)) (fun b o _ e n => u.free b o e n (by simp)) (fun b o _ e => u.there b o e (by simp)) u.tups u.frzs u.tbls (fun m' hm => by
    obtain ⟨o', es', ep', ho', r'⟩ := hm
    rw [ho] at ho'; cases ho'
    exact ⟨_, es', ep', hL, r'⟩) hok I.bare
theorem Inv.call {g' : Array GenState} {t' : Nat} {d' : Drawn} {ch : List Addr} (I : Inv X pins σ H s) (u : Un (frs X.stack) ch H H' s.heap h') (hok : HOk X.prog X.w H' h') (hg : AllBare g')
    (hch : ∀ b ∈ ch, (b ∈ X.ex ∨ X.s₀.heap.objs.size ≤ b) ∧ b ≠ X.env.locals ∧ (∀ x c, X.env.cells.lookup x = some c → c ≠ b) ∧ ∀ p ∈ X.pn ++ pins, p.1 ≠ b) :
    Inv X pins σ H' { s with heap := h', gens := g', drawn := d', toks := t' } := by
  obtain ⟨m, ⟨o, es, ep, ho, r⟩, _⟩ := id I.loc
  obtain ⟨sl, hL⟩ := u.any ho I.free fun z => (hch _ z).2.1 rfl
  exact I.step (ch := ch) hch (fun b o hL hb hc e n => u.keep b o e n (fun z => (List.mem_cons.mp (I.stkSub b z)).elim hL hb) hc) (fun b o _ _ hc e n => u.any e n hc) (fun b o hc e n => u.free b o e n hc) (fun b o hc e => u.there b o e hc) u.tups u.frzs u.tbls (fun m' hm => by
    obtain ⟨o', es', ep', ho', r'⟩ := hm
    rw [ho] at ho'; cases ho'
    exact ⟨_, es', ep', hL, r'⟩) hok hg
theorem Inv.turned {t' : Nat} {it : Addr} (I : Inv X pins σ H s) (k : ∀ b o, b ≠ it → s.heap.get? b = some o → h'.get? b = some o) (hn : H it = none) (hL : it ≠ X.env.locals)
    (h1 : it ∈ X.ex ∨ X.s₀.heap.objs.size ≤ it) (h2 : ∀ x c, X.env.cells.lookup x = some c → c ≠ it) (h3 : ∀ p ∈ X.pn ++ pins, p.1 ≠ it) : Inv X pins σ H { s with heap := h', toks := t' } := by
  have nit : ∀ b u, H b = some u → b ≠ it := fun b u e z => by rw [z, hn] at e; cases e
  refine I.step (g' := s.gens) (d' := s.drawn) (ch := [it]) (fun b hb => ?_) (fun b o _ _ hc e _ => k b o (fun z => hc (by simp [z])) e) (fun b o _ _ hc e _ => ⟨o.slots, k b o (fun z => hc (by simp [z])) e⟩) (fun _ _ _ _ n => n)
    (fun b o hc e => ⟨o, k b o (fun z => hc (by simp [z])) e⟩) (fun _ _ e => e) (fun _ _ _ e => e) (fun b ps e => ⟨#[], by rw [e]; simp⟩) (fun m hm => ?_) (fun b u e => ?_) I.bare
  · have e : b = it := by simpa using hb
    subst e
    exact ⟨h1, hL, h2, h3⟩
  · obtain ⟨o, es, ep, ho, r⟩ := hm
    exact ⟨o, es, ep, k _ o (Ne.symm hL) ho, r⟩
  · refine (I.hok b u e).stay (fun c v hc q => k c v ?_ q) (fun _ q => q) fun _ _ q => q
    rcases hc with z | z
    · rw [z]; exact nit b u e
    · exact nit c _ z
theorem Inv.tok (I : Inv X pins σ H s) (t : Nat) : Inv X pins σ H { s with toks := t } := I.un (h' := s.heap) (t' := t) Un.refl I.hok
theorem Inv.kept {t' : Nat} (I : Inv X pins σ H s) (k : ∀ b u, s.heap.get? b = some u → h'.get? b = some u) : Inv X pins σ H { s with heap := h', toks := t' } := I.un (Un.kept k) (I.hok.kept k)
theorem Inv.laid {a : Addr} {o : HO} {t' : Nat} (I : Inv X pins σ H s) (k : ∀ b u, s.heap.get? b = some u → h'.get? b = some u) (hp : s.heap.objs.size ≤ a) (new : ObjOk X.prog X.w (upd H a o) h' a o) :
    Inv X pins σ (upd H a o) { s with heap := h', toks := t' } := I.un (Un.laid k hp (I.hok.fresh hp)) (I.hok.laid k hp new)
theorem Inv.write {x e : Addr} {o : HO} {t' : Nat} (I : Inv X pins σ H s) (mu : Mut (H x)) (he : e = x ∨ H e = some (.own x)) (k : ∀ b u, b ≠ e → s.heap.get? b = some u → h'.get? b = some u) (heo : ∃ u, h'.get? e = some u)
    (new : ObjOk X.prog X.w (upd H x o) h' x o) : Inv X pins σ (upd H x o) { s with heap := h', toks := t' } := I.un (Un.write mu he k heo) (I.hok.write mu he k heo new)
theorem Inv.pins_of {pins' : List (Addr × Obj)} (I : Inv X pins σ H s) (h : ∀ p ∈ pins', s.heap.get? p.1 = some p.2 ∧ H p.1 = none ∧ p.1 ≠ X.env.locals ∧ p.1 ∉ X.fs ∧ ∀ v, p.2.data ≠ .cell v) : Inv X pins' σ H s :=
  ⟨I.ok, I.os, I.bare, I.base, I.loc, I.cell, I.free, I.freeC, fun p hp => (List.mem_append.mp hp).elim (fun z => I.pin p (List.mem_append_left _ z)) (h p), I.hok, I.len⟩
theorem nodup_ix {N : List Str} (hN : N.Nodup) {i j : Nat} {x : Str} (a : N[i]? = some x) (b : N[j]? = some x) : i = j := by
  obtain ⟨h1, e1⟩ := List.getElem?_eq_some_iff.mp a
  obtain ⟨h2, e2⟩ := List.getElem?_eq_some_iff.mp b
  exact (List.getElem_inj hN).mp (e1.trans e2.symm)
theorem store_ok2 {M : Model} {A : Around} {E : Value → Shared → Prop} {i : Nat} {x : Str} {v : V} {u : Value} {Q : Unit → Shared → Prop} (I : Inv X pins σ H s) (hN : X.N.Nodup) (hi : X.N[i]? = some x) (hx : Loc X.env.scope x) (r : RelV v u)
    (h : ∀ s', Inv X pins (σ.set i (some v)) H s' → (∃ a, Heap.SameBut a s.heap s'.heap ∧ (a = X.env.locals ∨ X.env.cells.lookup x = some a)) → Q () s') (hf : X.fn x = true ∨ X.env.scope.names.lookup x = some .local := by first | exact .inl rfl | exact .inr rfl | assumption) : wpAny M A (storeName X.env x u) Q E s := by
  obtain ⟨m, hn, hl⟩ := id I.loc
  have hcls : (X.env.scope.kind == .class || (X.env.scope.kind == .module && X.env.locals != X.env.globals)) = false := by rw [I.ok.kind]; rfl
  have hiσ : i < σ.length := by rw [I.len]; exact (List.getElem?_eq_some_iff.mp hi).1
  have cne := I.cne
  have tracked : ∀ {a : Addr} {h' : Heap}, (∃ o, s.heap.get? a = some o ∧ H a = none) → Heap.SameBut a s.heap h' → HOk X.prog X.w H h' := fun {a h'} ha hs b ob e => by
    obtain ⟨_, _, hfree⟩ := ha
    refine (I.hok b ob e).stay (fun c w' hc q => (hs.2 c ?_).trans q) (fun _ q => q) fun _ _ q => q
    rintro rfl
    rcases hc with rfl | hc
    · rw [hfree] at e; cases e
    · rw [hfree] at hc; cases hc
  rcases hx with hk | hk
  · refine wpAny_storeName_local hk hn (fun h' hn' hs => ?_) hcls
    obtain ⟨oL, _, _, hoL, _⟩ := id hn
    refine h _ ⟨I.ok, I.os, I.bare, ⟨fun b o e n hb hx => ?_, fun b o e n hb hx => ?_, I.base.free, fun b o e hx => ?_, I.base.tups, I.base.frzs, I.base.tbls⟩, ⟨_, hn', fun j y v' e1 e2 e3 => ?_⟩, fun y c e => ?_, I.free, I.freeC, fun p hp => ?_, tracked ⟨oL, hoL, I.free⟩ hs, by simpa using I.len⟩ ⟨_, hs, .inl rfl⟩
    · exact (hs.2 b (Nat.ne_of_lt (Nat.lt_of_lt_of_le (Heap.lt_size e) I.ok.above))).trans (I.base.keep b o e n hb hx)
    · obtain ⟨sl, e1⟩ := I.base.slot b o e n hb hx
      exact ⟨sl, (hs.2 b (Nat.ne_of_lt (Nat.lt_of_lt_of_le (Heap.lt_size e) I.ok.above))).trans e1⟩
    · obtain ⟨o', e1⟩ := I.base.there b o e hx
      exact ⟨o', (hs.2 b (Nat.ne_of_lt (Nat.lt_of_lt_of_le (Heap.lt_size e) I.ok.above))).trans e1⟩
    · by_cases hj : j = i
      · subst hj
        rw [hi] at e1; cases e1
        rw [List.getElem?_set_self hiσ] at e2
        cases e2
        exact ⟨u, r, .inl ⟨hk, by simp⟩⟩
      · rw [List.getElem?_set_ne (Ne.symm hj)] at e2
        obtain ⟨u', r', q⟩ := hl j y v' e1 e2 e3
        refine ⟨u', r', ?_⟩
        rcases q with ⟨k, e⟩ | ⟨k, c, e, z⟩
        · refine .inl ⟨k, ?_⟩
          have : y ≠ x := fun e => hj (nodup_ix hN e1 (e ▸ hi))
          simp [this, e]
        · exact .inr ⟨k, c, e, z.sameBut hs (cne y c e)⟩
    · obtain ⟨w', z⟩ := I.cell y c e
      exact ⟨w', z.sameBut hs (cne y c e)⟩
    · obtain ⟨e, n, ne, nf, d⟩ := I.pin p hp
      exact ⟨(hs.2 p.1 ne).trans e, n, ne, nf, d⟩
  · have hfn : X.fn x = true := by
      rcases hf with z | z
      · exact z
      · rw [z] at hk; cases hk
    obtain ⟨c, hc⟩ := I.ok.has x (.inl hk)
    obtain ⟨w', z⟩ := I.cell x c hc
    refine wpAny_storeName_cell I.ok.kind hk hc z (fun h' hc' hs => ?_)
    obtain ⟨oc, hoc, hocd⟩ := id z
    refine h { s with heap := h' } ⟨I.ok, I.os, I.bare, ⟨fun b o e n hb hx => ?_, fun b o e n hb hx => ?_, I.base.free, fun b o e hx => ?_, I.base.tups, I.base.frzs, I.base.tbls⟩, ⟨m, hn.sameBut hs (Ne.symm (cne x c hc)), fun j y v' e1 e2 e3 => ?_⟩, fun y c' e => ?_, I.free, I.freeC, fun p hp => ?_, tracked ⟨oc, hoc, I.freeC x c hc⟩ hs, by simpa using I.len⟩ ⟨c, hs, .inr hc⟩
    · exact (hs.2 b (Nat.ne_of_lt (Nat.lt_of_lt_of_le (Heap.lt_size e) (I.ok.cab x c hfn hc)))).trans (I.base.keep b o e n hb hx)
    · obtain ⟨sl, e1⟩ := I.base.slot b o e n hb hx
      exact ⟨sl, (hs.2 b (Nat.ne_of_lt (Nat.lt_of_lt_of_le (Heap.lt_size e) (I.ok.cab x c hfn hc)))).trans e1⟩
    · obtain ⟨o', e1⟩ := I.base.there b o e hx
      exact ⟨o', (hs.2 b (Nat.ne_of_lt (Nat.lt_of_lt_of_le (Heap.lt_size e) (I.ok.cab x c hfn hc)))).trans e1⟩
    · by_cases hj : j = i
      · subst hj
        rw [hi] at e1; cases e1
        rw [List.getElem?_set_self hiσ] at e2
        cases e2
        exact ⟨u, r, .inr ⟨.inl hk, c, hc, hc'⟩⟩
      · rw [List.getElem?_set_ne (Ne.symm hj)] at e2
        obtain ⟨u', r', q⟩ := hl j y v' e1 e2 e3
        refine ⟨u', r', ?_⟩
        rcases q with q | ⟨k, c', e, z'⟩
        · exact .inl q
        · refine .inr ⟨k, c', e, z'.sameBut hs ?_⟩
          rintro rfl
          exact hj (nodup_ix hN e1 (I.ok.inj _ _ _ e hc ▸ hi))
    · by_cases hcc : c' = c
      · subst hcc; exact ⟨_, hc'⟩
      · obtain ⟨w2, z2⟩ := I.cell y c' e
        exact ⟨w2, z2.sameBut hs hcc⟩
    · obtain ⟨e, n, ne, nf, d⟩ := I.pin p hp
      refine ⟨(hs.2 p.1 ?_).trans e, n, ne, nf, d⟩
      intro q
      rw [q, hoc] at e
      have q' : oc = p.2 := Option.some.inj e
      exact d w' (by rw [← q']; exact hocd)
theorem store_ok {M : Model} {A : Around} {E : Value → Shared → Prop} {i : Nat} {x : Str} {v : V} {u : Value} {Q : Unit → Shared → Prop} (I : Inv X pins σ H s) (hN : X.N.Nodup) (hi : X.N[i]? = some x) (hx : Loc X.env.scope x) (r : RelV v u)
    (h : ∀ s', Inv X pins (σ.set i (some v)) H s' → Q () s') (hf : X.fn x = true ∨ X.env.scope.names.lookup x = some .local := by first | exact .inl rfl | exact .inr rfl | assumption) : wpAny M A (storeName X.env x u) Q E s :=
  store_ok2 I hN hi hx r (fun s' I' _ => h s' I') hf
end
noncomputable abbrev XK := Value → Option Addr → Hp → Prop
noncomputable abbrev St := List (Option V)
noncomputable abbrev VK := V → Hp → Prop
noncomputable abbrev TE := St → Hp → VK → Prop
noncomputable abbrev TT := St → Hp → (Bool → Hp → Prop) → Prop
noncomputable abbrev TA := St → Hp → (List V → Hp → Prop) → Prop
structure Ends where
  nx : St → Hp → Prop
  rt : VK
  bk : St → Hp → Prop := fun _ _ => False
  ct : St → Hp → Prop := fun _ _ => False
noncomputable abbrev TS := Ends → St → Hp → Prop
noncomputable def EP (X : Cx) (pins : List (Addr × Obj)) (σ : St) (Q : VK) (u : Value) (s' : Shared) : Prop := ∃ v H', Inv X pins σ H' s' ∧ RelV v u ∧ Q v H'
noncomputable def TP (X : Cx) (pins : List (Addr × Obj)) (σ : St) (Q : Bool → Hp → Prop) (b : Bool) (s' : Shared) : Prop := ∃ H', Inv X pins σ H' s' ∧ Q b H'
noncomputable def AP (X : Cx) (pins : List (Addr × Obj)) (σ : St) (Q : List V → Hp → Prop) (us : List Value) (s' : Shared) : Prop := ∃ vs H', Inv X pins σ H' s' ∧ Vals vs us ∧ Q vs H'
noncomputable def SP (X : Cx) (pins : List (Addr × Obj)) (D : Ends) (f : Flow) (s' : Shared) : Prop :=
  match f with
  | .next => ∃ σ' H', Inv X pins σ' H' s' ∧ D.nx σ' H'
  | .brk => ∃ σ' H', Inv X pins σ' H' s' ∧ D.bk σ' H'
  | .cont => ∃ σ' H', Inv X pins σ' H' s' ∧ D.ct σ' H'
  | .ret u => ∃ v σ' H', Inv X pins σ' H' s' ∧ RelV v u ∧ D.rt v H'
noncomputable def PE (X : Cx) (e : Expr) (t : TE) : Prop :=
  ∀ (pins : List (Addr × Obj)) (s : Shared) (σ : St) (H : Hp) (Q : VK), Inv X pins σ H s → t σ H Q → wpAny (model X.prog X.w) X.A (eval e X.env) (EP X pins σ Q) X.xe s
noncomputable def PT (X : Cx) (e : Expr) (t : TT) : Prop :=
  ∀ (pins : List (Addr × Obj)) (s : Shared) (σ : St) (H : Hp) (Q : Bool → Hp → Prop), Inv X pins σ H s → t σ H Q → wpAny (model X.prog X.w) X.A (isTrue e X.env (eval e X.env)) (TP X pins σ Q) X.xe s
noncomputable def PW (X : Cx) (e : Expr) (t : TT) : Prop :=
  ∀ (whole : Sem Value) (pins : List (Addr × Obj)) (s : Shared) (σ : St) (H : Hp) (Q : Bool → Hp → Prop), Inv X pins σ H s → t σ H Q → wpAny (model X.prog X.w) X.A (isTrue e X.env whole) (TP X pins σ Q) X.xe s
theorem PW.pt {X : Cx} {e : Expr} {t : TT} (h : PW X e t) : PT X e t := h _
noncomputable def PA (X : Cx) (es : List Expr) (t : TA) : Prop :=
  ∀ (pos : Pos) (pins : List (Addr × Obj)) (s : Shared) (σ : St) (H : Hp) (Q : List V → Hp → Prop), Inv X pins σ H s → t σ H Q → wpAny (model X.prog X.w) X.A (spliced (backTo pos (starEach es X.env))) (AP X pins σ Q) X.xe s
noncomputable def PS (X : Cx) (st : Stmt) (t : TS) : Prop :=
  ∀ (pins : List (Addr × Obj)) (s : Shared) (σ : St) (H : Hp) (D : Ends), Inv X pins σ H s → t D σ H → wpAny (model X.prog X.w) X.A (exec st X.env) (SP X pins D) X.xe s
noncomputable def PSs (X : Cx) (st : List Stmt) (t : TS) : Prop :=
  ∀ (pins : List (Addr × Obj)) (s : Shared) (σ : St) (H : Hp) (D : Ends), Inv X pins σ H s → t D σ H → wpAny (model X.prog X.w) X.A (execs st X.env) (SP X pins D) X.xe s
theorem thn {α : Type} {t : Sem α} {Q Q' : α → Shared → Prop} {M : Model} {A : Around} {E : Value → Shared → Prop} {s : Shared} (h : wpAny M A t Q E s) (hQ : ∀ a s, Q a s → Q' a s) : wpAny M A t Q' E s := wpAny_mono h hQ fun _ _ x => x
end L2
namespace L2
open PySem PySem.Spec PyProof.Rows
section
variable {X : Cx}
noncomputable def tVar (i : Nat) : TE := fun σ H Q => ∃ v, σ[i]? = some (some v) ∧ Q v H
noncomputable def tC (v : V) : TE := fun _ H Q => Q v H
theorem pe_var {i : Nat} {x : Str} {pos : Pos} (hN : X.N[i]? = some x) (hv : Vis X.env.scope x) (hd : (x == ("__debug__" : Str)) = false := by decide) (hcd : (x == ("__classdict__" : Str)) = false := by decide) : PE X (.Name x pos) (tVar i) := by
  intro pins s σ H Q I h
  obtain ⟨v, e, h⟩ := h
  obtain ⟨m, hn, hl⟩ := I.loc
  obtain ⟨u, r, l⟩ := hl i x v hN e hv
  have fin : EP X pins σ Q u s := ⟨v, H, I, r, h⟩
  rcases l with ⟨hk, hm⟩ | ⟨hk, c, hc, hcell⟩
  · exact wpAny_Name (wpAny_loadName_local I.ok.kind hk hn hm fin) hd
  · rcases hk with hk | hk
    · exact wpAny_Name (wpAny_loadName_cell I.ok.kind hk hc hcell fin) hd
    · exact wpAny_Name (wpAny_loadName_free I.ok.kind hk hc hcell fin hcd) hd
theorem pe_int {i j pos} : PE X (.Constant (.int i) j pos) (tC (.int i)) := fun _ _ _ H _ I h => wpAny_Constant_int ⟨.int i, H, I.tok _, ⟨_, rfl⟩, h⟩
theorem pe_bl {b j pos} : PE X (.Constant (.bool b) j pos) (tC (.bl b)) := fun _ _ _ H _ I h => Constant_bool ⟨.bl b, H, I, rfl, h⟩
theorem pe_non {j pos} : PE X (.Constant .none j pos) (tC .non) := fun _ _ _ H _ I h => Constant_none ⟨.non, H, I, rfl, h⟩
noncomputable def Gl (X : Cx) (x : Str) : Prop := X.env.kindOf x = some .globalImplicit
theorem ld_glob {E : Value → Shared → Prop} {pins : List (Addr × Obj)} {s : Shared} {σ : St} {H : Hp} {x : Str} {u : Value} {pos : Pos} {Q : Value → Shared → Prop} (I : Inv X pins σ H s) (hg : Gl X x) (hm : X.mg x = some u) (h : Q u s)
    (hd : (x == ("__debug__" : Str)) = false := by decide) : wpAny (model X.prog X.w) X.A (eval (.Name x pos) X.env) Q E s :=
  Calls.Name_function_global I.ok.kind hg (Calls.loadGlobal_global (by rw [I.ok.glob]; exact I.mod.glob.keeps I.bk) hm h) hd
theorem ld_blt {E : Value → Shared → Prop} {pins : List (Addr × Obj)} {s : Shared} {σ : St} {H : Hp} {x : Str} {u : Value} {pos : Pos} {Q : Value → Shared → Prop} (I : Inv X pins σ H s) (hg : Gl X x) (hm : X.mg x = none) (hv : bootBuiltins x = some u) (h : Q u s)
    (hn : x ≠ "__name__" := by decide) (hd : (x == ("__debug__" : Str)) = false := by decide) : wpAny (model X.prog X.w) X.A (eval (.Name x pos) X.env) Q E s := by
  obtain ⟨mb, h1, h2⟩ := I.mod.blt
  exact Calls.Name_function_global I.ok.kind hg (Calls.loadGlobal_builtin (by rw [I.ok.glob]; exact I.mod.glob.keeps I.bk) hm (by rw [I.ok.blt]; exact h1.keeps I.bk) ((h2 x hn).trans hv) h) hd
theorem pe_glob {x : Str} {v : V} {u : Value} {pos : Pos} (hg : Gl X x) (hm : X.mg x = some u) (r : RelV v u) (hd : (x == ("__debug__" : Str)) = false := by decide) : PE X (.Name x pos) (tC v) :=
  fun _ _ _ H _ I h => ld_glob I hg hm ⟨v, H, I, r, h⟩ hd
theorem pe_bltn {x : Str} {v : V} {u : Value} {pos : Pos} (hg : Gl X x) (hm : X.mg x = none) (hv : bootBuiltins x = some u) (r : RelV v u) (hn : x ≠ "__name__" := by decide) (hd : (x == ("__debug__" : Str)) = false := by decide) : PE X (.Name x pos) (tC v) :=
  fun _ _ _ H _ I h => ld_blt I hg hm hv ⟨v, H, I, r, h⟩ hn hd
variable {a b : Expr} {ta tb : TE} {pos : Pos}
noncomputable def tB (t : TE) : TT := fun σ H Q => t σ H fun x H1 => ∃ c, x = .bl c ∧ Q c H1
theorem pt_val {e : Expr} {t : TE} (h : PE X e t) (he : ∀ whole, isTrue e X.env whole = (do let v ← whole; standAt e.pos; holding [v] (truthy v)) := by intro _; rfl) : PT X e (tB t) := by
  intro pins s σ H Q I hw
  refine isTrue_plain (thn (h pins s σ H _ I hw) fun v s1 ⟨x, H1, I1, r1, q1⟩ => ?_) (he _)
  obtain ⟨d, rfl, q⟩ := q1
  cases r1
  exact wpAny_truthy_bool ⟨H1, I1, q⟩
variable {tA tB' : TT} {rest : List Expr}
noncomputable def tAnd (t u : TT) : TT := fun σ H Q => t σ H fun c H1 => if c = true then u σ H1 Q else Q false H1
noncomputable def tOr (t u : TT) : TT := fun σ H Q => t σ H fun c H1 => if c = true then Q true H1 else u σ H1 Q
noncomputable def tNot (t : TT) : TT := fun σ H Q => t σ H fun c H1 => Q (!c) H1
theorem pw_and1 (ha : PT X a tA) : PW X (.BoolOp .And [a] pos) tA := by
  intro wh pins s σ H Q I h
  refine isTrue_and (thn (ha pins s σ H Q I h) fun c s1 e => ?_)
  cases c with
  | true => exact isTrue_and_nil e
  | false => exact e
theorem pw_or1 (ha : PT X a tA) : PW X (.BoolOp .Or [a] pos) tA := by
  intro wh pins s σ H Q I h
  refine isTrue_or (thn (ha pins s σ H Q I h) fun c s1 e => ?_)
  cases c with
  | false => exact isTrue_or_nil e
  | true => exact e
theorem pw_and (ha : PT X a tA) (hb : PW X (.BoolOp .And (b :: rest) pos) tB') : PW X (.BoolOp .And (a :: b :: rest) pos) (tAnd tA tB') := by
  intro wh pins s σ H Q I h
  refine isTrue_and (thn (ha pins s σ H _ I h) fun c s1 ⟨H1, I1, q1⟩ => ?_)
  cases c with
  | true => exact hb wh pins s1 σ H1 Q I1 q1
  | false => exact ⟨H1, I1, q1⟩
theorem pw_or (ha : PT X a tA) (hb : PW X (.BoolOp .Or (b :: rest) pos) tB') : PW X (.BoolOp .Or (a :: b :: rest) pos) (tOr tA tB') := by
  intro wh pins s σ H Q I h
  refine isTrue_or (thn (ha pins s σ H _ I h) fun c s1 ⟨H1, I1, q1⟩ => ?_)
  cases c with
  | true => exact ⟨H1, I1, q1⟩
  | false => exact hb wh pins s1 σ H1 Q I1 q1
theorem pt_not (ha : PT X a tA) : PT X (.UnaryOp .Not a pos) (tNot tA) := by
  intro pins s σ H Q I h
  exact isTrue_not (ha pins s σ H (fun c H1 => Q (!c) H1) I h)
noncomputable def tAndV (ta tb : TE) : TE := fun σ H Q => ta σ H fun x H1 => ∃ c, x = .bl c ∧ if c = true then tb σ H1 Q else Q (.bl false) H1
noncomputable def tNotV (ta : TE) : TE := fun σ H Q => ta σ H fun x H1 => ∃ c, x = .bl c ∧ Q (.bl (!c)) H1
theorem pe_one {op} {t : TE} (h : PE X a t) : PE X (.BoolOp op [a] pos) t := fun pins s σ H Q I hw => BoolOp_one (h pins s σ H Q I hw)
theorem pe_and (ha : PE X a ta) (hb : PE X (.BoolOp .And (b :: rest) pos) tb) : PE X (.BoolOp .And (a :: b :: rest) pos) (tAndV ta tb) := by
  intro pins s σ H Q I h
  refine BoolOp_and (thn (ha pins s σ H _ I h) fun v s1 ⟨x, H1, I1, r1, q1⟩ => ?_)
  obtain ⟨c, rfl, q1⟩ := q1
  cases r1
  refine wpAny_truthy_bool ?_
  cases c with
  | true => exact hb pins s1 σ H1 Q I1 q1
  | false => exact ⟨.bl false, H1, I1, rfl, q1⟩
theorem pe_not (ha : PE X a ta) : PE X (.UnaryOp .Not a pos) (tNotV ta) := by
  intro pins s σ H Q I h
  refine UnaryOp_ (thn (ha pins s σ H _ I h) fun v s1 ⟨x, H1, I1, r1, q1⟩ => ?_)
  obtain ⟨c, rfl, q1⟩ := q1
  cases r1
  exact not_of (wpAny_truthy_bool ⟨.bl (!c), H1, I1, rfl, q1⟩)
noncomputable def tIf (t : TT) (ta tb : TE) : TE := fun σ H Q => t σ H fun c H1 => if c = true then ta σ H1 Q else tb σ H1 Q
theorem pe_ifExp {c : Expr} (hc : PT X c tA) (ha : PE X a ta) (hb : PE X b tb) : PE X (.IfExp c a b pos) (tIf tA ta tb) := by
  intro pins s σ H Q I h
  refine wpAny_IfExp (thn (hc pins s σ H _ I h) fun d s1 ⟨H1, I1, q1⟩ => ?_)
  cases d with
  | true => exact ha pins s1 σ H1 Q I1 q1
  | false => exact hb pins s1 σ H1 Q I1 q1
end
end L2
namespace L2
open PySem PySem.Spec PyProof.Rows
noncomputable def SqL (K : PySem.W.Frag) (H : Hp) (a : Addr) (xs : List V) : Prop :=
  Rd H a (.lst xs) ∨
    ∃ (o : Obj) (its : Array Value) (n : Nat), K.lookup a = some o ∧ o.cls = .type "list" ∧ o.dict = none ∧ o.data = .seq its n ∧ its.size ≤ sizeLine ∧ Vals xs its.toList
noncomputable def SqT (K : PySem.W.Frag) (H : Hp) (a : Addr) (xs : List V) : Prop :=
  Rd H a (.tup xs) ∨
    ∃ (o : Obj) (its : Array Value) (n : Nat), K.lookup a = some o ∧ o.cls = .type "tuple" ∧ o.data = .seq its n ∧ its.size ≤ sizeLine ∧ Vals xs its.toList
noncomputable def absV : Value → Option V
  | .none => some .non
  | .bool b => some (.bl b)
  | .int i _ => some (.int i)
  | .str x _ => some (.str x)
  | .bytes b _ => some (.byt b)
  | .float b _ => some (.flt b)
  | .ref a => some (.ref a)
  | .type n => some (.ty n)
  | _ => none
theorem RelV.abs {x : V} {u : Value} (r : RelV x u) : absV u = some x := by
  cases x with
  | non => cases r; rfl
  | bl _ => cases r; rfl
  | int _ => obtain ⟨t, rfl⟩ := r; rfl
  | str _ => obtain ⟨t, rfl⟩ := r; rfl
  | byt _ => obtain ⟨t, rfl⟩ := r; rfl
  | flt _ => obtain ⟨t, rfl⟩ := r; rfl
  | ref _ => cases r; rfl
  | ty _ => cases r; rfl
theorem RelV.inj {x y : V} {u : Value} (r : RelV x u) (q : RelV y u) : x = y := Option.some.inj (r.abs.symm.trans q.abs)
theorem Vals.inj : ∀ {xs ys : List V} {us : List Value}, Vals xs us → Vals ys us → xs = ys
  | _, _, _, .nil, .nil => rfl
  | _, _, _, .cons r t, .cons r' t' => by rw [r.inj r', Vals.inj t t']
section
variable {X : Cx} {pins : List (Addr × Obj)} {σ : St} {H : Hp} {s : Shared} {a : Addr} {xs ys : List V}
theorem SqL.of {K : PySem.W.Frag} (h : H a = some (.lst xs)) : SqL K H a xs := .inl (.inl h)
theorem SqT.of {K : PySem.W.Frag} (h : H a = some (.tup xs)) : SqT K H a xs := .inl (.inl h)
theorem Inv.list (I : Inv X pins σ H s) (h : SqL X.K H a xs) : ∃ its : List Value, Vals xs its ∧ PlainL s.heap a its.toArray ∧ xs.length ≤ sizeLine := by
  rcases h with h | ⟨o, its, n, hk, hc, hd, hs, hz, r⟩
  · obtain ⟨z, its, n, r, e⟩ := h.ok I.hok
    exact ⟨its, r, ⟨_, n, e, rfl, rfl, rfl⟩, z⟩
  · refine ⟨its.toList, r, ⟨o, n, I.kIn a o hk, hc, hd, by simpa using hs⟩, ?_⟩
    have e := r.length
    simp only [Array.length_toList] at e
    omega
theorem Inv.tuple (I : Inv X pins σ H s) (h : SqT X.K H a xs) : ∃ its : List Value, Vals xs its ∧ IsTup s.heap a its.toArray ∧ xs.length ≤ sizeLine := by
  rcases h with h | ⟨o, its, n, hk, hc, hs, hz, r⟩
  · obtain ⟨z, its, r, p⟩ := h.ok I.hok
    exact ⟨its, r, p, z⟩
  · refine ⟨its.toList, r, ⟨o, I.kIn a o hk, hc, n, by simpa using hs⟩, ?_⟩
    have e := r.length
    simp only [Array.length_toList] at e
    omega
theorem Inv.list_inj (I : Inv X pins σ H s) (h : SqL X.K H a xs) (h' : SqL X.K H a ys) : xs = ys := by
  obtain ⟨its, r, ⟨o, n, e, _, _, d⟩, _⟩ := I.list h
  obtain ⟨its', r', ⟨o', n', e', _, _, d'⟩, _⟩ := I.list h'
  rw [e] at e'; cases e'
  rw [d] at d'
  injection d' with d1 _
  have : its = its' := by simpa using congrArg Array.toList d1
  subst this
  exact r.inj r'
end
noncomputable abbrev Cx.wish (X : Cx) (E : Value → Shared → Prop) : Cx := { X with xe := E }
noncomputable abbrev Cx.nox (X : Cx) : Cx := X.wish fun _ _ => False
theorem Cx.Ok.wish {X : Cx} (ok : X.Ok) (E : Value → Shared → Prop) : (X.wish E).Ok :=
  ⟨ok.mod, ok.kind, ok.glob, ok.blt, ok.above, ok.inj, ok.has, ok.cab, ok.hd, ok.frames, ok.stk, ok.exf, ok.bs, ok.bsz, ok.noex, ok.exfs, ok.funs, ok.frf⟩
theorem Cx.Ok.unwish {X : Cx} {E : Value → Shared → Prop} (ok : (X.wish E).Ok) : X.Ok :=
  ⟨ok.mod, ok.kind, ok.glob, ok.blt, ok.above, ok.inj, ok.has, ok.cab, ok.hd, ok.frames, ok.stk, ok.exf, ok.bs, ok.bsz, ok.noex, ok.exfs, ok.funs, ok.frf⟩
section
variable {X : Cx} {pins : List (Addr × Obj)} {σ : St} {H : Hp} {s : Shared} {E : Value → Shared → Prop}
theorem Inv.wish (I : Inv X pins σ H s) (E : Value → Shared → Prop) : Inv (X.wish E) pins σ H s := ⟨I.ok.wish E, I.os, I.bare, I.base, I.loc, I.cell, I.free, I.freeC, I.pin, I.hok, I.len⟩
theorem Inv.unwish (I : Inv (X.wish E) pins σ H s) : Inv X pins σ H s := ⟨I.ok.unwish, I.os, I.bare, I.base, I.loc, I.cell, I.free, I.freeC, I.pin, I.hok, I.len⟩
theorem SP.unwish {D : Ends} {f : Flow} {s' : Shared} (h : SP (X.wish E) pins D f s') : SP X pins D f s' := by
  cases f with
  | next => obtain ⟨σ', H', I, q⟩ := h; exact ⟨σ', H', I.unwish, q⟩
  | brk => obtain ⟨σ', H', I, q⟩ := h; exact ⟨σ', H', I.unwish, q⟩
  | cont => obtain ⟨σ', H', I, q⟩ := h; exact ⟨σ', H', I.unwish, q⟩
  | ret u => obtain ⟨v, σ', H', I, r, q⟩ := h; exact ⟨v, σ', H', I.unwish, r, q⟩
theorem PSs.nox {st : List Stmt} {t : TS} (h : PSs X.nox st t) : PSs X st t := fun pins s σ H D I hw =>
  wpAny_mono (h pins s σ H D (I.wish _) hw) (fun _ _ q => q.unwish) fun _ _ z => False.elim z
end
section
variable {X : Cx} {st : Stmt} {rest : List Stmt} {t u : TS} {e : Expr} {te : TE} {pos : Pos}
noncomputable def tNext : TS := fun D σ H => D.nx σ H
noncomputable def tSeq (t u : TS) : TS := fun D σ H => t { D with nx := u D } σ H
theorem pss_nil : PSs X [] tNext := fun _ _ σ H _ I h => wpAny_execs_nil ⟨σ, H, I, h⟩
theorem pss_cons (h1 : PS X st t) (h2 : PSs X rest u) : PSs X (st :: rest) (tSeq t u) := by
  intro pins s σ H D I h
  refine wpAny_execs_cons (thn (h1 pins s σ H { D with nx := u D } I h) fun f s1 q => ?_)
  cases f with
  | next =>
    obtain ⟨σ', H', I', q⟩ := q
    exact h2 pins s1 σ' H' D I' q
  | ret v => exact q
  | brk => exact q
  | cont => exact q
theorem pss_one (h1 : PS X st t) : PSs X [st] t := by
  intro pins s σ H D I h
  refine wpAny_execs_cons (thn (h1 pins s σ H D I h) fun f s1 q => ?_)
  cases f with
  | next => exact wpAny_execs_nil q
  | ret v => exact q
  | brk => exact q
  | cont => exact q
theorem Inv.quiet {pins : List (Addr × Obj)} {σ : St} {H : Hp} {s : Shared} (I : Inv X pins σ H s) : interactive X.env = false := by simp [interactive, I.ok.kind]
noncomputable def tDrop (te : TE) : TS := fun D σ H => te σ H fun _ H1 => D.nx σ H1
theorem ps_expr (he : PE X e te) (hs : swapsWith e none pos.line X.env = pure false := by rfl) : PS X (.Expr e pos) (tDrop te) := by
  intro pins s σ H D I h
  exact wpAny_Expr_any (thn (he pins s σ H _ I h) fun v s1 ⟨x, H1, I1, r1, q1⟩ => ⟨σ, H1, I1, q1⟩) I.quiet hs
noncomputable def tRet (te : TE) : TS := fun D σ H => te σ H D.rt
theorem ps_ret (he : PE X e te) : PS X (.Return (some e) pos) (tRet te) := by
  intro pins s σ H D I h
  exact wpAny_Return_some (thn (he pins s σ H _ I h) fun v s1 ⟨x, H1, I1, r1, q1⟩ => ⟨x, σ, H1, I1, r1, q1⟩)
noncomputable def tIfS (c : TT) (t u : TS) : TS := fun D σ H => c σ H fun b H1 => if b = true then t D σ H1 else u D σ H1
theorem ps_if {c : Expr} {a b : List Stmt} {tc : TT} (hc : PT X c tc) (ha : PSs X a t) (hb : PSs X b u) : PS X (.If c a b pos) (tIfS tc t u) := by
  intro pins s σ H D I h
  refine wpAny_If (thn (hc pins s σ H _ I h) fun d s1 ⟨H1, I1, q1⟩ => ?_)
  cases d with
  | true => exact ha pins s1 σ H1 D I1 q1
  | false => exact hb pins s1 σ H1 D I1 q1
noncomputable def tNever : TS := fun _ _ _ => False
theorem ps_never : PS X st tNever := fun _ _ _ _ _ _ h => h.elim
theorem pss_never {sts : List Stmt} : PSs X sts tNever := fun _ _ _ _ _ _ h => h.elim
end
noncomputable abbrev TG := V → St → Hp → (St → Hp → Prop) → Prop
noncomputable abbrev TGs := List V → St → Hp → (St → Hp → Prop) → Prop
noncomputable def PG (X : Cx) (target : Expr) (t : TG) : Prop :=
  ∀ (pins : List (Addr × Obj)) (s : Shared) (σ : St) (H : Hp) (v : V) (u : Value) (Q : St → Hp → Prop), Inv X pins σ H s → RelV v u → t v σ H Q →
    wpAny (model X.prog X.w) X.A (assign target X.env u) (fun _ s' => ∃ σ' H', Inv X pins σ' H' s' ∧ Q σ' H') X.xe s
noncomputable def PGs (X : Cx) (ts : List Expr) (t : TGs) : Prop :=
  ∀ (pins : List (Addr × Obj)) (s : Shared) (σ : St) (H : Hp) (vs : List V) (us : List Value) (Q : St → Hp → Prop), Inv X pins σ H s → Vals vs us → t vs σ H Q →
    wpAny (model X.prog X.w) X.A (assignInOrder ((assignEach ts X.env).map (·.2)) us) (fun _ s' => ∃ σ' H', Inv X pins σ' H' s' ∧ Q σ' H') X.xe s
noncomputable abbrev TSet := V → V → V → Hp → (Hp → Prop) → Prop
noncomputable def PSet (X : Cx) (t : TSet) : Prop :=
  ∀ (pins : List (Addr × Obj)) (s : Shared) (σ : St) (H : Hp) (o i v : V) (ov iv u : Value) (Q : Hp → Prop), Inv X pins σ H s → RelV o ov → RelV i iv → RelV v u → t o i v H Q →
    wpAny (model X.prog X.w) X.A (setItem ov iv u) (fun _ s' => ∃ H', Inv X pins σ H' s' ∧ Q H') X.xe s
noncomputable abbrev TIp := V → V → Hp → VK → Prop
noncomputable def PIp (X : Cx) (op : Operator) (t : TIp) : Prop :=
  ∀ (pins : List (Addr × Obj)) (s : Shared) (σ : St) (H : Hp) (x y : V) (v u : Value) (Q : VK), Inv X pins σ H s → RelV x v → RelV y u → t x y H Q →
    wpAny (model X.prog X.w) X.A (inplaceOp op v u) (EP X pins σ Q) X.xe s
section
variable {X : Cx} {pos : Pos}
noncomputable def gName (i : Nat) : TG := fun v σ H Q => Q (σ.set i (some v)) H
theorem pg_name {i : Nat} {x : Str} (hN : X.N.Nodup) (hi : X.N[i]? = some x) (hx : Loc X.env.scope x) (hf : X.fn x = true ∨ X.env.scope.names.lookup x = some .local := by first | exact .inl rfl | exact .inr rfl | assumption) : PG X (.Name x pos) (gName i) := by
  intro pins s σ H v u Q I r h
  exact wpAny_assign_Name (store_ok I hN hi hx r (fun s' I' => ⟨_, H, I', h⟩) hf)
noncomputable def gNil : TGs := fun vs σ H Q => vs = [] ∧ Q σ H
noncomputable def gCons (t : TG) (u : TGs) : TGs := fun vs σ H Q => ∃ v r, vs = v :: r ∧ t v σ H fun σ' H' => u r σ' H' Q
theorem pgs_nil : PGs X [] gNil := by
  intro pins s σ H vs us Q I r h
  obtain ⟨e, h⟩ := h
  subst e
  cases r
  exact assignInOrder_nil ⟨σ, H, I, h⟩
theorem pgs_cons {e : Expr} {es : List Expr} {t : TG} {u : TGs} (h1 : PG X e t) (h2 : PGs X es u)
    (hs : (assignEach (e :: es) X.env).map (·.2) = assign e X.env :: (assignEach es X.env).map (·.2) := by rfl) : PGs X (e :: es) (gCons t u) := by
  intro pins s σ H vs us Q I r h
  obtain ⟨v, vr, e1, h⟩ := h
  subst e1
  cases r with
  | cons r rr =>
    rw [hs]
    refine assignInOrder_cons (thn (h1 pins s σ H _ _ _ I r h) fun _ s1 ⟨σ1, H1, I1, q1⟩ => ?_)
    exact h2 pins s1 σ1 H1 _ _ Q I1 rr q1
noncomputable def gTup (K : PySem.W.Frag) (n : Nat) (t : TGs) : TG := fun v σ H Q => ∃ a xs, v = .ref a ∧ SqT K H a xs ∧ xs.length = n ∧ t xs σ H Q
theorem pg_tup {es : List Expr} {k : Nat} {t : TGs} {n : Nat} (hc : X.calm = true) (h : PGs X es t)
    (hn : (assignEach es X.env).length = n := by rfl) (hst : (assignEach es X.env).findIdx? (·.1) = none := by rfl) : PG X (.Tuple es k pos) (gTup X.K n t) := by
  intro pins s σ H v u Q I r hw
  obtain ⟨a, xs, e1, hq, hl, hw⟩ := hw
  subst e1
  cases r
  obtain ⟨its, rv, ht, hz⟩ := I.tuple hq
  refine assign_Tuple_tuple (I.ok.hd hc) ht (by simp [hn, ← hl, rv.length]) hst fun h' hx => ?_
  have I1 : Inv X pins σ H { s with heap := h' } := I.kept (t' := s.toks) fun b o e => hx b o (Nat.ne_of_lt (Heap.lt_size e)) e
  exact h pins _ σ H xs _ Q I1 (by simpa using rv) hw
noncomputable def gSub (to ti : TE) (t : TSet) : TG := fun v σ H Q => to σ H fun o H1 => ti σ H1 fun i H2 => t o i v H2 fun H3 => Q σ H3
theorem pg_sub {o i : Expr} {to ti : TE} {t : TSet} (ho : PE X o to) (hi : PE X i ti) (hs : PSet X t)
    (ha : ∀ v, assign (.Subscript o i pos) X.env v = (do
      let ov ← holding [v] (eval o X.env)
      let iv ← holding [v, ov] (eval i X.env)
      standAt pos
      holding [v, ov, iv] (setItem ov iv v)
      release [v, ov, iv] []) := by intro _; rfl) : PG X (.Subscript o i pos) (gSub to ti t) := by
  intro pins s σ H v u Q I r h
  rw [ha]
  refine wpAny_bind (wpAny_holding (thn (ho pins s σ H _ I h) fun ov s1 ⟨x, H1, I1, r1, q1⟩ => ?_))
  refine wpAny_bind (wpAny_holding (thn (hi pins s1 σ H1 _ I1 q1) fun iv s2 ⟨y, H2, I2, r2, q2⟩ => ?_))
  refine wpAny_bind (wpAny_standAt (wpAny_bind (wpAny_holding (thn (hs pins s2 σ H2 x y v ov iv u _ I2 r1 r2 r q2) fun _ s3 ⟨H3, I3, q3⟩ => ?_))))
  exact wpAny_release ⟨σ, H3, I3, q3⟩
noncomputable def tAsg (te : TE) (g : TG) : TS := fun D σ H => te σ H fun x H1 => g x σ H1 D.nx
theorem ps_asg {tg e : Expr} {te : TE} {g : TG} (he : PE X e te) (hg : PG X tg g) (hs : swapsWithSole [tg] e pos.line X.env = pure false := by rfl) (hw : swappedStores [tg] e X.env = pure none := by rfl)
    (h1 : (assignEach [tg] X.env).map (·.2) = [assign tg X.env] := by rfl) : PS X (.Assign [tg] e pos) (tAsg te g) := by
  intro pins s σ H D I h
  refine wpAny_Assign_stores (thn (he pins s σ H _ I h) fun v s1 ⟨x, H1, I1, r1, q1⟩ => ?_) hs hw
  rw [h1]
  exact thn (hg pins s1 σ H1 x v _ I1 r1 q1) fun _ s2 q => q
theorem ps_set {i : Nat} {x : Str} {e : Expr} {te : TE} {pos' : Pos} (hN : X.N.Nodup) (hi : X.N[i]? = some x) (hx : Loc X.env.scope x) (he : PE X e te) (hs : swapsWith e (some (.Name x pos')) pos.line X.env = pure false := by rfl) (hf : X.fn x = true ∨ X.env.scope.names.lookup x = some .local := by first | exact .inl rfl | exact .inr rfl | assumption) :
    PS X (.Assign [.Name x pos'] e pos) (tAsg te (gName i)) := by
  intro pins s σ H D I h
  refine wpAny_Assign_Name (thn (he pins s σ H _ I h) fun v s1 ⟨y, H1, I1, r1, q1⟩ => ?_) hs
  exact store_ok I1 hN hi hx r1 (fun s2 I2 => ⟨_, H1, I2, q1⟩) hf
noncomputable def tPar (i j : Nat) (ta : TA) : TS := fun D σ H => ta σ H fun vs H1 => ∃ v w, vs = [v, w] ∧ D.nx ((σ.set i (some v)).set j (some w)) H1
theorem ps_par {i j : Nat} {x y : Str} {a b : Expr} {ta : TA} {px py pt : Pos} {kt k2 pt2} (hc : X.calm = true) (hN : X.N.Nodup) (hi : X.N[i]? = some x) (hj : X.N[j]? = some y) (hij : i ≠ j)
    (hx : X.env.scope.names.lookup x = some .local) (hy : X.env.scope.names.lookup y = some .local) (ha : PA X [a, b] ta)
    (hw : swappedStores [.Tuple [.Name x px, .Name y py] kt pt] (.Tuple [a, b] k2 pt2) X.env = pure (some [x, y]))
    (hs : swapsWithSole [.Tuple [.Name x px, .Name y py] kt pt] (.Tuple [a, b] k2 pt2) pos.line X.env = pure false := by rfl) :
    PS X (.Assign [.Tuple [.Name x px, .Name y py] kt pt] (.Tuple [a, b] k2 pt2) pos) (tPar i j ta) := by
  intro pins s σ H D I h
  rw [exec_Assign_arm]
  refine wpAny_bind (wpAny_standAt ?_)
  rw [hs]
  refine wpAny_bind (wpAny_pure ?_)
  rw [if_neg (by decide)]
  refine wpAny_bind (Tuple_ (thn (ha _ pins s σ H _ I h) fun us s1 ⟨vs, H1, I1, r1, q1⟩ => ?_))
  obtain ⟨v, w, e1, q1⟩ := q1
  subst e1
  obtain ⟨u1, u2, rfl, rv, rw'⟩ : ∃ u1 u2, us = [u1, u2] ∧ RelV v u1 ∧ RelV w u2 := by
    cases r1 with
    | cons p q =>
      cases q with
      | cons p' q' =>
        cases q'
        exact ⟨_, _, rfl, p, p'⟩
  refine wpAny_newObj_type ?_ (by show 2 ≤ sizeLine; decide)
  have I2 : Inv X pins σ H1 { s1 with heap := s1.heap.push { cls := .type "tuple", data := .seq [u1, u2].toArray } } := I1.kept (t' := s1.toks) fun b o e => Heap.get?_push_of_some _ e
  rw [hw]
  refine wpAny_bind (wpAny_pure ?_)
  show wpAny (model X.prog X.w) X.A (do rule "assign.swapped-stores"; let items ← unpackItems (.ref s1.heap.objs.size) 2 none; assignInOrder [fun v => bindName X.env y v, fun v => bindName X.env x v] items.reverse; pure Flow.next) _ _ _
  refine wpAny_bind (wpAny_rule (wpAny_bind (unpackItems_tuple (items := #[u1, u2]) (I.ok.hd hc) (IsTup.new s1.heap _) fun h' hx' => ?_)))
  have I3 := I2.kept (h' := h') (t' := s1.toks) fun b o e => hx' b o (Nat.ne_of_lt (Heap.lt_size e)) e
  show wpAny _ _ (assignInOrder [fun v => bindName X.env y v, fun v => bindName X.env x v] [u2, u1] >>= fun _ => pure Flow.next) _ _ _
  refine wpAny_bind (assignInOrder_cons (wpAny_bindName (store_ok I3 hN hj (.inl hy) rw' (fun s2 I4 => ?_) (.inr hy))))
  refine assignInOrder_cons (wpAny_bindName (store_ok I4 hN hi (.inl hx) rv (fun s3 I5 => assignInOrder_nil (wpAny_pure ?_)) (.inr hx)))
  rw [List.set_comm _ _ (Ne.symm hij)] at I5
  exact ⟨_, H1, I5, q1⟩
noncomputable def tAug (i : Nat) (te : TE) (ti : TIp) : TS := fun D σ H => ∃ x, σ[i]? = some (some x) ∧ te σ H fun y H1 => ti x y H1 fun z H2 => D.nx (σ.set i (some z)) H2
theorem ps_aug {i : Nat} {x : Str} {e : Expr} {te : TE} {op : Operator} {ti : TIp} {pos' : Pos} (hN : X.N.Nodup) (hi : X.N[i]? = some x) (hx : Loc X.env.scope x) (he : PE X e te) (ho : PIp X op ti) (hf : X.fn x = true ∨ X.env.scope.names.lookup x = some .local := by first | exact .inl rfl | exact .inr rfl | assumption) :
    PS X (.AugAssign (.Name x pos') op e pos) (tAug i te ti) := by
  intro pins s σ H D I h
  obtain ⟨v, e1, h⟩ := h
  obtain ⟨m, hn, hl⟩ := I.loc
  have vis : Vis X.env.scope x := by rcases hx with k | k; exact .inl k; exact .inr (.inl k)
  obtain ⟨u, r, l⟩ := hl i x v hi e1 vis
  refine wpAny_AugAssign_Name ?_
  have go : wpAny (model X.prog X.w) X.A (eval e X.env) (fun w s₂ => wpAny (model X.prog X.w) X.A (inplaceOp op u w) (fun r s₃ => wpAny (model X.prog X.w) X.A (storeName X.env x r) (fun _ => SP X pins D .next) X.xe s₃) X.xe s₂) X.xe s := by
    refine thn (he pins s σ H _ I h) fun w s1 ⟨y, H1, I1, r1, q1⟩ => ?_
    refine thn (ho pins s1 σ H1 v y u w _ I1 r r1 q1) fun z s2 ⟨zv, H2, I2, r2, q2⟩ => ?_
    exact store_ok I2 hN hi hx r2 (fun s3 I3 => ⟨_, H2, I3, q2⟩) hf
  rcases l with ⟨hk, hm⟩ | ⟨hk, c, hc, hcell⟩
  · exact wpAny_loadName_local I.ok.kind hk hn hm go
  · rcases hk with hk | hk
    · exact wpAny_loadName_cell I.ok.kind hk hc hcell go
    · rcases hx with k | k
      · have : X.env.scope.names.lookup x = some .free := hk
        rw [k] at this; cases this
      · have : X.env.scope.names.lookup x = some .free := hk
        rw [k] at this; cases this
noncomputable def ipI (f : Int → Int → Int) : TIp := fun x y H Q => ∃ i j, x = .int i ∧ y = .int j ∧ Q (.int (f i j)) H
theorem ip_add : PIp X .Add (ipI fun i j => i + j) := by
  intro pins s σ H x y v u Q I r1 r2 h
  obtain ⟨i, j, e1, e2, q⟩ := h
  subst e1; subst e2
  obtain ⟨t, rfl⟩ := r1
  obtain ⟨t', rfl⟩ := r2
  exact iadd_int ⟨.int _, H, I.tok _, ⟨_, rfl⟩, q⟩
end
section
variable {X : Cx} {pos : Pos}
noncomputable def tWhile (c : TT) (tb : TS) : TS := fun D σ H => ∃ W : Nat → St → Hp → Prop, (∃ m, W m σ H) ∧ ∀ m σ H, W m σ H →
  c σ H fun b H1 => if b = true then ∃ N : St → Hp → Prop, (∀ σ' H', N σ' H' → ∃ m', m' < m ∧ W m' σ' H') ∧ tb { D with nx := N, ct := N, bk := D.nx } σ H1 else D.nx σ H1
theorem ps_while {c : Expr} {body : List Stmt} {tc : TT} {tb : TS} (hp : PassesOwn (model X.prog X.w) X.A X.env X.xe) (hc : PT X c tc) (hb : PSs X body tb) : PS X (.While c body [] pos) (tWhile tc tb) := by
  intro pins s σ H D I h
  obtain ⟨W, ⟨m0, w0⟩, turn⟩ := h
  refine wpAny_While (codeAny_whileLoop (fun n s' => ∃ σ' H', Inv X pins σ' H' s' ∧ W n σ' H') ?_ m0 ⟨σ, H, I, w0⟩)
  rintro n s1 ⟨σ1, H1, I1, w1⟩
  refine wpAny_passesOwn hp (thn (hc pins s1 σ1 H1 _ I1 (turn n σ1 H1 w1)) fun b s2 ⟨H2, I2, q2⟩ => ?_)
  cases b with
  | true =>
    obtain ⟨N, hN, q2⟩ := q2
    rw [if_pos rfl]
    refine wpAny_passesOwn hp (thn (hb pins s2 σ1 H2 _ I2 q2) fun f s3 q3 => ?_)
    cases f with
    | next =>
      obtain ⟨σ3, H3, I3, n3⟩ := q3
      obtain ⟨m', hm, w3⟩ := hN σ3 H3 n3
      exact ⟨m', hm, σ3, H3, I3, w3⟩
    | cont =>
      obtain ⟨σ3, H3, I3, n3⟩ := q3
      obtain ⟨m', hm, w3⟩ := hN σ3 H3 n3
      exact ⟨m', hm, σ3, H3, I3, w3⟩
    | brk => exact q3
    | ret v => exact q3
  | false =>
    rw [if_neg Bool.false_ne_true]
    exact wpAny_execs_nil ⟨σ1, H2, I2, q2⟩
end
structure It where
  go : Nat → Hp → Prop
  yld : Nat → Hp → V → Hp → Prop
  stop : Nat → Hp → Prop
noncomputable def FpOk (X : Cx) (pins : List (Addr × Obj)) (H : Hp) (b : Addr) : Prop :=
  H b = none ∧ b ≠ X.env.locals ∧ b ∉ X.fs ∧ (b ∈ X.ex ∨ X.s₀.heap.objs.size ≤ b) ∧ (∀ x c, X.env.cells.lookup x = some c → c ≠ b) ∧ ∀ p ∈ X.pn ++ pins, p.1 ≠ b
theorem Inv.fpOk {X : Cx} {pins : List (Addr × Obj)} {σ : St} {H H' : Hp} {s : Shared} {b : Addr} (I : Inv X pins σ H s) (hb : s.heap.objs.size ≤ b) (hn : H' b = none) : FpOk X pins H' b := by
  refine ⟨hn, Nat.ne_of_gt (Nat.lt_of_lt_of_le I.lt hb), I.nofs hb, .inr (Nat.le_trans I.sz hb), fun x c e z => ?_, fun p hp z => ?_⟩
  · obtain ⟨v, q⟩ := I.cell x c e
    exact absurd (Nat.lt_of_lt_of_le q.lt (by rw [z]; exact hb)) (Nat.lt_irrefl _)
  · exact absurd (Nat.lt_of_lt_of_le (Heap.lt_size (I.pin p hp).1) (by rw [z]; exact hb)) (Nat.lt_irrefl _)
structure Turn (P : Program) (w : World) (K : PySem.W.Frag) (tg : Expr) (J : It) (fp : List Addr) (it : Addr) (tn : Nat → Heap → Prop) : Prop where
  mem : it ∈ fp
  obj : ∀ i h, tn i h → ∀ b ∈ fp, ∃ o, h.get? b = some o ∧ ∀ v, o.data ≠ .cell v
  keep : ∀ i h h', tn i h → (∀ b ∈ fp, ∀ o, h.get? b = some o → h'.get? b = some o) → tn i h'
  item : ∀ (X : Cx), X.prog = P → X.w = w → X.K = K → X.calm = true → ∀ (i : Nat) (pins : List (Addr × Obj)) (s : Shared) (σ : St) (H : Hp) (E : Value → Shared → Prop), Inv X pins σ H s → (∀ b ∈ fp, FpOk X pins H b) → tn i s.heap → J.go i H →
    wpAny (model P w) X.A (pyNext (.ref it)) (fun r s1 => ∃ u, r = some u ∧
      wpAny (model P w) X.A (letOwnedTupleGo tg (.ref it) u) (fun _ s2 => ∃ x H', Inv X pins σ H' s2 ∧ RelV x u ∧ J.yld i H x H' ∧ tn (i + 1) s2.heap ∧ ∀ b ∈ fp, H' b = none) E s1) E s
  done : ∀ (X : Cx), X.prog = P → X.w = w → X.K = K → X.calm = true → ∀ (i : Nat) (pins : List (Addr × Obj)) (s : Shared) (σ : St) (H : Hp) (E : Value → Shared → Prop), Inv X pins σ H s → (∀ b ∈ fp, FpOk X pins H b) → tn i s.heap → J.stop i H →
    wpAny (model P w) X.A (pyNext (.ref it)) (fun r s1 => r = none ∧ Inv X pins σ H s1) E s
  self : ∀ (A : Around) (i : Nat) (s : Shared) (Q : Value → Shared → Prop) (E : Value → Shared → Prop), tn i s.heap → Q (.ref it) s → wpAny (model P w) A (pyIter (.ref it)) Q E s
noncomputable abbrev TI := St → Hp → (It → Hp → Prop) → Prop
noncomputable def PIE (X : Cx) (pins : List (Addr × Obj)) (σ : St) (tg : Expr) (R : It → Hp → Prop) (itv : Value) (s2 : Shared) : Prop :=
  ∃ (it : Addr) (fp : List Addr) (tn : Nat → Heap → Prop) (J : It) (H' : Hp), itv = .ref it ∧ Inv X pins σ H' s2 ∧ Turn X.prog X.w X.K tg J fp it tn ∧ tn 0 s2.heap ∧ (∀ b ∈ fp, FpOk X pins H' b) ∧ R J H'
noncomputable def PI (X : Cx) (tg iter : Expr) (wi : TI) : Prop :=
  ∀ (pins : List (Addr × Obj)) (s : Shared) (σ : St) (H : Hp) (R : It → Hp → Prop), Inv X pins σ H s → wi σ H R →
    wpAny (model X.prog X.w) X.A (eval iter X.env) (fun v s1 => wpAny (model X.prog X.w) X.A (pyIter v) (PIE X pins σ tg R) X.xe s1) X.xe s
theorem go_of {M : Model} {A : Around} {E : Value → Shared → Prop} {s : Shared} {tg : Expr} {it : Addr} {u : Value} {o : Obj} {n : String} {vs : Array Value} {Q : Unit → Shared → Prop} (ho : s.heap.get? it = some o) (hc : o.cls = .type n) (hd : o.data = .fields vs)
    (hn : ["enumerate", "zip", "dict_itemiterator", "dict_reverseitemiterator", "odict_iterator", "itertools.zip_longest", "itertools.pairwise"].contains n = false) (hQ : Q () s) : wpAny M A (letOwnedTupleGo tg (.ref it) u) Q E s := by
  unfold letOwnedTupleGo
  cases tg <;> first
    | exact wpAny_pure hQ
    | (cases u <;> first
        | exact wpAny_pure hQ
        | (refine wpAny_bind (wpAny_load ho ?_)
           rw [hc, hd]
           show wpAny M A (if (["enumerate", "zip", "dict_itemiterator", "dict_reverseitemiterator", "odict_iterator", "itertools.zip_longest", "itertools.pairwise"].contains n && vs[0]? == some (rawInt _)) = true then _ else _) Q E s
           rw [if_neg (by intro h; rw [hn, Bool.false_and] at h; cases h)]
           exact wpAny_pure hQ))
noncomputable def Itl (K : PySem.W.Frag) (a : Addr) : It :=
  ⟨fun i H => ∃ xs x, SqL K H a xs ∧ xs[i]? = some x, fun i H x H' => H' = H ∧ ∀ xs, SqL K H a xs → xs[i]? = some x, fun i H => ∃ xs, SqL K H a xs ∧ xs.length ≤ i⟩
noncomputable def Itr (lo : Int) (n : Nat) : It := ⟨fun i _ => i < n, fun i H x H' => H' = H ∧ x = .int (lo + i), fun i _ => n ≤ i⟩
theorem turn_list {P : Program} {w : World} {K : PySem.W.Frag} {tg : Expr} (a it : Addr) : Turn P w K tg (Itl K a) [it] it (fun i h => h.IsListIter it a i) where
  mem := by simp
  obj := fun i h st b hb => by
    have e : b = it := by simpa using hb
    subst e
    obtain ⟨o, e, c, d⟩ := st
    exact ⟨o, e, fun v z => by rw [d] at z; cases z⟩
  keep := fun i h h' st k => st.at fun o e => k it (by simp) o e
  item := by
    intro X hP hw hK hc i pins s σ H E I hf st hg
    subst hP hw hK
    obtain ⟨xs, x, hq, hx⟩ := hg
    obtain ⟨its, rv, p, hz⟩ := I.list hq
    obtain ⟨u, hu, ru⟩ := rv.get hx
    obtain ⟨f0, f1, f2, f3, f4, f5⟩ := hf it (by simp)
    refine wpAny_pyNext_list_item st p.isList (x := u) (by simpa using hu) fun h' st' sb => ?_
    have I1 : Inv X pins σ H { s with heap := h' } := I.turned (t' := s.toks) (fun b o hb e => (sb.2 b hb).trans e) f0 f1 f3 f4 f5
    obtain ⟨o, e, c, d⟩ := id st'
    exact ⟨u, rfl, go_of (s := { s with heap := h' }) e c d (by decide) ⟨x, H, I1, ru, ⟨rfl, fun ys hy => by rw [I.list_inj hy hq]; exact hx⟩, st', fun b hb => (hf b hb).1⟩⟩
  done := by
    intro X hP hw hK hc i pins s σ H E I hf st hg
    subst hP hw hK
    obtain ⟨xs, hq, hx⟩ := hg
    obtain ⟨its, rv, p, hz⟩ := I.list hq
    obtain ⟨f0, f1, f2, f3, f4, f5⟩ := hf it (by simp)
    have hl := rv.length
    exact wpAny_pyNext_list_end (I.ok.hd hc) st p.isList (by simp; omega) fun h' eb => ⟨rfl, I.turned (t' := s.toks) (fun b o hb e => eb b o hb e) f0 f1 f3 f4 f5⟩
  self := fun _ _ _ _ _ st h => wpAny_pyIter_listiter st h
theorem turn_range {P : Program} {w : World} {K : PySem.W.Frag} {tg : Expr} (it : Addr) (lo : Int) (n : Nat) : Turn P w K tg (Itr lo n) [it] it (fun i h => IsRangeIter h it (lo + (i : Nat) * 1) ((n : Int) - (i : Nat)) 1) where
  mem := by simp
  obj := fun i h st b hb => by
    have e : b = it := by simpa using hb
    subst e
    exact ⟨_, st, fun v z => by
      have z' : Data.fields _ = Data.cell v := z
      cases z'⟩
  keep := fun i h h' st k => k it (by simp) _ st
  item := by
    intro X hP hw hK hc i pins s σ H E I hf st hg
    subst hP hw hK
    obtain ⟨f0, f1, f2, f3, f4, f5⟩ := hf it (by simp)
    have W := Walks.range (prog := X.prog) (w := X.w) (I.ok.hd hc) it lo 1 n
    refine W.item i s _ _ hg st fun v h' tk hv st' kk => ?_
    obtain ⟨t, rfl⟩ := hv
    have I1 : Inv X pins σ H { s with heap := h', toks := tk } := I.turned (fun b o hb e => kk b o (by simpa using hb) e) f0 f1 f3 f4 f5
    refine ⟨_, rfl, go_of (s := { s with heap := h', toks := tk }) (n := "range_iterator") st' rfl rfl (by decide) ⟨.int (lo + i), H, I1, ⟨t, ?_⟩, ⟨rfl, rfl⟩, st', fun b hb => (hf b hb).1⟩⟩
    rw [Int.mul_one]
  done := by
    intro X hP hw hK hc i pins s σ H E I hf st hg
    subst hP hw hK
    obtain ⟨f0, f1, f2, f3, f4, f5⟩ := hf it (by simp)
    exact wpAny_pyNext_range_end (I.ok.hd hc) st (by have : n ≤ i := hg; omega) fun h' eb => ⟨rfl, I.turned (t' := s.toks) (fun b o hb e => eb b o hb e) f0 f1 f3 f4 f5⟩
  self := fun _ _ _ _ _ st h => wpAny_pyIter_rangeiter st h
end L2
namespace L2
open PySem PySem.Spec PyProof.Rows
section
variable {X : Cx} {tg : Expr}
noncomputable def iList (K : PySem.W.Frag) (tl : TE) : TI := fun σ H R => tl σ H fun x H1 => ∃ a, x = .ref a ∧ (∃ xs, SqL K H1 a xs) ∧ R (Itl K a) H1
theorem pi_list {l : Expr} {tl : TE} (hl : PE X l tl) : PI X tg l (iList X.K tl) := by
  intro pins s σ H R I h
  refine thn (hl pins s σ H _ I h) fun v s1 ⟨x, H1, I1, r1, q1⟩ => ?_
  obtain ⟨a, e, ⟨xs, hq⟩, q⟩ := q1
  subst e
  cases r1
  obtain ⟨its, rv, p, hz⟩ := I1.list hq
  refine wpAny_pyIter_list p.isList ?_
  refine ⟨s1.heap.objs.size, [s1.heap.objs.size], _, _, H1, rfl, I1.kept (t' := s1.toks) fun b o e => Heap.get?_push_of_some _ e, turn_list a _, ⟨_, Heap.get?_push_size _ rfl, rfl, rfl⟩, fun b hb => ?_, q⟩
  have e : b = s1.heap.objs.size := by simpa using hb
  subst e
  exact I1.fpOk (Nat.le_refl _) (I1.hok.fresh (Nat.le_refl _))
theorem range_it {pins : List (Addr × Obj)} {σ : St} {H : Hp} {s : Shared} {R : It → Hp → Prop} {E : Value → Shared → Prop} {lo hi : Int} {t u v : Tok} {tk : Nat} (I : Inv X pins σ H s) (h1 : -(2 ^ 62) ≤ lo) (h2 : lo < 2 ^ 62) (h3 : -(2 ^ 62) ≤ hi) (h4 : hi < 2 ^ 62)
    (q : R (Itr lo (hi - lo).toNat) H) : wpAny (model X.prog X.w) X.A (pyIter (.ref s.heap.objs.size)) (PIE X pins σ tg R) E { s with heap := s.heap.push { cls := .type "range", data := .fields #[.int lo t, .int hi u, .int 1 v] }, toks := tk } := by
  refine wpAny_pyIter_range (IsRange.new ..) (small_one h1 h2 h3 h4) ?_
  have I1 : Inv X pins σ H { s with heap := s.heap.push { cls := .type "range", data := .fields #[.int lo t, .int hi u, .int 1 v] }, toks := tk } := I.kept fun b o e => Heap.get?_push_of_some _ e
  refine ⟨(s.heap.push { cls := .type "range", data := .fields #[.int lo t, .int hi u, .int 1 v] }).objs.size, [(s.heap.push { cls := .type "range", data := .fields #[.int lo t, .int hi u, .int 1 v] }).objs.size], _, _, H, rfl,
    I1.kept (t' := tk) fun b o e => Heap.get?_push_of_some _ e, turn_range _ lo (hi - lo).toNat, ?_, fun b hb => ?_, q⟩
  · have e1 : lo + ((0 : Nat) : Int) * 1 = lo := by simp
    have e2 : (((hi - lo).toNat : Nat) : Int) - ((0 : Nat) : Int) = Builtin.Range.rangeSize lo hi 1 := by rw [rangeSize_one]; split <;> omega
    show IsRangeIter _ _ (lo + ((0 : Nat) : Int) * 1) ((((hi - lo).toNat : Nat) : Int) - ((0 : Nat) : Int)) 1
    rw [e1, e2]
    exact Heap.get?_push_size _ rfl
  · have e : b = (s.heap.push { cls := .type "range", data := .fields #[.int lo t, .int hi u, .int 1 v] }).objs.size := by simpa using hb
    subst e
    exact I1.fpOk (Nat.le_refl _) (I1.hok.fresh (Nat.le_refl _))
noncomputable def iRng1 (ta : TA) : TI := fun σ H R => ta σ H fun vs H1 => ∃ j : Int, vs = [.int j] ∧ -(2 ^ 62) ≤ j ∧ j < 2 ^ 62 ∧ R (Itr 0 j.toNat) H1
noncomputable def iRng2 (ta : TA) : TI := fun σ H R => ta σ H fun vs H1 => ∃ i j : Int, vs = [.int i, .int j] ∧ (-(2 ^ 62) ≤ i ∧ i < 2 ^ 62 ∧ -(2 ^ 62) ≤ j ∧ j < 2 ^ 62) ∧ R (Itr i (j - i).toNat) H1
theorem pi_range1 {a : Expr} {ta : TA} {p pos : Pos} (hg : Gl X "range") (hm : X.mg "range" = none) (ha : PA X [a] ta) (hs : starEach [a] X.env = [(false, eval a X.env)] := by rfl) : PI X tg (.Call (.Name "range" p) [a] [] pos) (iRng1 ta) := by
  intro pins s σ H R I h
  refine Call_ (ld_blt I hg hm boot_range (PyProof.Rows.callWith_type1 (thn (ha pos pins s σ H _ I h) fun us s1 ⟨vs, H1, I1, r1, q1⟩ => ?_) hs rfl))
  obtain ⟨j, e, q1, q2, q⟩ := q1
  subst e
  cases r1 with
  | cons r rr =>
    cases rr
    obtain ⟨t, rfl⟩ := r
    exact call_range_1 (range_it I1 (by omega) (by omega) q1 q2 (by simpa using q))
theorem pi_range2 {a b : Expr} {ta : TA} {p pos : Pos} (hg : Gl X "range") (hm : X.mg "range" = none) (ha : PA X [a, b] ta) (hs : starEach [a, b] X.env = [(false, eval a X.env), (false, eval b X.env)] := by rfl) (hs2 : starEach [b] X.env = [(false, eval b X.env)] := by rfl) :
    PI X tg (.Call (.Name "range" p) [a, b] [] pos) (iRng2 ta) := by
  intro pins s σ H R I h
  refine Call_ (ld_blt I hg hm boot_range (PyProof.Rows.callWith_type1 (thn (ha pos pins s σ H _ I h) fun us s1 ⟨vs, H1, I1, r1, q1⟩ => ?_) (by rw [hs, hs2]) (by rw [hs2]; rfl)))
  obtain ⟨i, j, e, ⟨q1, q2, q3, q4⟩, q⟩ := q1
  subst e
  cases r1 with
  | cons r rr =>
    cases rr with
    | cons r' rr =>
      cases rr
      obtain ⟨t, rfl⟩ := r
      obtain ⟨t', rfl⟩ := r'
      exact call_range_2 (range_it I1 q1 q2 q3 q4 q)
noncomputable def tFor (wi : TI) (g : TG) (tb : TS) : TS := fun D σ H => wi σ H fun J H1 => ∃ W : Nat → Nat → St → Hp → Prop, (∃ m, W 0 m σ H1) ∧ ∀ i m σ H, W i m σ H →
  (J.stop i H ∧ D.nx σ H) ∨ (J.go i H ∧ ∃ N : St → Hp → Prop, (∀ σ' H', N σ' H' → ∃ m', m' < m ∧ W (i + 1) m' σ' H') ∧ ∀ x H', J.yld i H x H' → g x σ H' fun σ2 H2 => tb { D with nx := N, ct := N, bk := D.nx } σ2 H2)
noncomputable def pinsAt (fp : List Addr) (h : Heap) : List (Addr × Obj) := fp.filterMap fun b => (h.get? b).map fun o => (b, o)
theorem mem_pinsAt {fp : List Addr} {h : Heap} {b : Addr} {o : Obj} (hb : b ∈ fp) (e : h.get? b = some o) : (b, o) ∈ pinsAt fp h := List.mem_filterMap.mpr ⟨b, hb, by rw [e]; rfl⟩
theorem of_pinsAt {fp : List Addr} {h : Heap} {p : Addr × Obj} (hp : p ∈ pinsAt fp h) : p.1 ∈ fp ∧ h.get? p.1 = some p.2 := by
  obtain ⟨b, hb, e⟩ := List.mem_filterMap.mp hp
  cases q : h.get? b with
  | none => rw [q] at e; cases e
  | some o =>
    rw [q] at e
    have e' : (b, o) = p := Option.some.inj e
    subst e'
    exact ⟨hb, q⟩
theorem Inv.pinned {pins : List (Addr × Obj)} {σ : St} {H : Hp} {s : Shared} {fp : List Addr} (I : Inv X pins σ H s) (hf : ∀ b ∈ fp, FpOk X pins H b) (ho : ∀ b ∈ fp, ∃ o, s.heap.get? b = some o ∧ ∀ v, o.data ≠ .cell v) : Inv X (pins ++ pinsAt fp s.heap) σ H s :=
  I.pins_of fun p hp => (List.mem_append.mp hp).elim (fun z => I.pin p (List.mem_append_right _ z)) fun z => by
    obtain ⟨hb, e⟩ := of_pinsAt z
    obtain ⟨f0, f1, f2, _⟩ := hf p.1 hb
    obtain ⟨o, e', d⟩ := ho p.1 hb
    rw [e] at e'; cases e'
    exact ⟨e, f0, f1, f2, d⟩
theorem Inv.unpinned {pins pl : List (Addr × Obj)} {σ : St} {H : Hp} {s : Shared} (I : Inv X (pins ++ pl) σ H s) : Inv X pins σ H s := I.pins_of fun p hp => I.pin p (List.mem_append_right _ (List.mem_append_left _ hp))
theorem ps_for {iter : Expr} {body : List Stmt} {wi : TI} {g : TG} {tb : TS} {pos : Pos} (hp : PassesOwn (model X.prog X.w) X.A X.env X.xe) (hc : X.calm = true) (hi : PI X tg iter wi) (hg : PG X tg g) (hb : PSs X body tb)
    (hs : ∀ x, foldedSetIterable iter X.env x = pure x := by intro _; rfl) : PS X (.For tg iter body [] pos) (tFor wi g tb) := by
  intro pins s σ H D I h
  refine wpAny_For (thn (hi pins s σ H _ I h) fun v s1 h1 => thn h1 fun itv s2 h2 => ?_) hs
  obtain ⟨it, fp, tn, J, H2, e, I2, T, st2, f2, W, ⟨m0, w0⟩, turn⟩ := h2
  subst e
  have stat : ∀ {H' : Hp}, (∀ b ∈ fp, H' b = none) → ∀ b ∈ fp, FpOk X pins H' b := fun hn b hb => ⟨hn b hb, (f2 b hb).2⟩
  refine codeAny_forLoop_any (fun n s' => ∃ i σ' H', Inv X pins σ' H' s' ∧ tn i s'.heap ∧ (∀ b ∈ fp, H' b = none) ∧ W i n σ' H') ?_ m0 ⟨0, σ, H2, I2, st2, fun b hb => (f2 b hb).1, w0⟩
  rintro n s3 ⟨i, σ3, H3, I3, st3, fr3, w3⟩
  rcases turn i n σ3 H3 w3 with ⟨stop, qn⟩ | ⟨go, N, hN, step⟩
  · refine wpAny_passesOwn hp (thn (T.done X rfl rfl rfl hc i pins s3 σ3 H3 X.xe I3 (stat fr3) st3 stop) fun r s4 ⟨hr, I4⟩ => ?_)
    subst hr
    exact wpAny_execs_nil ⟨σ3, H3, I4, qn⟩
  · refine wpAny_passesOwn hp (thn (T.item X rfl rfl rfl hc i pins s3 σ3 H3 X.xe I3 (stat fr3) st3 go) fun r s4 ⟨u, hr, h4⟩ => ?_)
    subst hr
    refine wpAny_passesOwn hp (thn h4 fun _ s5 ⟨x, H5, I5, r5, y5, st5, fr5⟩ => ?_)
    have I5' := I5.pinned (stat fr5) (T.obj _ _ st5)
    refine wpAny_passesOwn hp (thn (hg _ s5 σ3 H5 x u _ I5' r5 (step x H5 y5)) fun _ s6 ⟨σ6, H6, I6, q6⟩ => ?_)
    refine wpAny_passesOwn hp (thn (hb _ s6 σ6 H6 _ I6 q6) fun f s7 q7 => ?_)
    have again : ∀ {σ7 : St} {H7 : Hp}, Inv X (pins ++ pinsAt fp s5.heap) σ7 H7 s7 → N σ7 H7 → ∃ m, m < n ∧ ∃ i σ' H', Inv X pins σ' H' s7 ∧ tn i s7.heap ∧ (∀ b ∈ fp, H' b = none) ∧ W i m σ' H' := fun {σ7 H7} I7 n7 => by
      obtain ⟨m', hm, w7⟩ := hN σ7 H7 n7
      refine ⟨m', hm, i + 1, σ7, H7, I7.unpinned, T.keep _ _ _ st5 fun b hb o e => (I7.pin (b, o) (List.mem_append_right _ (List.mem_append_right _ (mem_pinsAt hb e)))).1, fun b hb => ?_, w7⟩
      obtain ⟨o, e, d⟩ := T.obj _ _ st5 b hb
      exact (I7.pin (b, o) (List.mem_append_right _ (List.mem_append_right _ (mem_pinsAt hb e)))).2.1
    cases f with
    | next => obtain ⟨σ7, H7, I7, n7⟩ := q7; exact again I7 n7
    | cont => obtain ⟨σ7, H7, I7, n7⟩ := q7; exact again I7 n7
    | brk => obtain ⟨σ7, H7, I7, q7⟩ := q7; exact ⟨σ7, H7, I7.unpinned, q7⟩
    | ret v => obtain ⟨x7, σ7, H7, I7, r7, q7⟩ := q7; exact ⟨x7, σ7, H7, I7.unpinned, r7, q7⟩
end
theorem for_list {K : PySem.W.Frag} {a : Addr} {xs : List V} {g : TG} {tb : TS} {D : Ends} {σ : St} {H : Hp} (Pv : Nat → St → Hp → Prop) (h0 : Pv 0 σ H) (hl : ∀ i σ H, i ≤ xs.length → Pv i σ H → SqL K H a xs)
    (hs : ∀ i x σ H, xs[i]? = some x → Pv i σ H → g x σ H fun σ2 H2 => tb { D with nx := Pv (i + 1), ct := Pv (i + 1), bk := D.nx } σ2 H2) (hd : ∀ σ H, Pv xs.length σ H → D.nx σ H) :
    ∃ W : Nat → Nat → St → Hp → Prop, (∃ m, W 0 m σ H) ∧ ∀ i m σ H, W i m σ H →
      ((Itl K a).stop i H ∧ D.nx σ H) ∨ ((Itl K a).go i H ∧ ∃ N : St → Hp → Prop, (∀ σ' H', N σ' H' → ∃ m', m' < m ∧ W (i + 1) m' σ' H') ∧ ∀ x H', (Itl K a).yld i H x H' → g x σ H' fun σ2 H2 => tb { D with nx := N, ct := N, bk := D.nx } σ2 H2) := by
  refine ⟨fun i m σ H => m = xs.length - i ∧ i ≤ xs.length ∧ Pv i σ H, ⟨xs.length, by simp, Nat.zero_le _, h0⟩, ?_⟩
  rintro i m σ H ⟨rfl, hi, p⟩
  have q := hl i σ H hi p
  by_cases hlt : i < xs.length
  · refine .inr ⟨⟨xs, xs[i], q, by simp [hlt]⟩, Pv (i + 1), fun σ' H' p' => ⟨xs.length - (i + 1), by omega, rfl, hlt, p'⟩, fun x H' y => ?_⟩
    obtain ⟨e, y⟩ := y
    subst e
    exact hs i x σ _ (y xs q) p
  · have e : i = xs.length := by omega
    subst e
    exact .inl ⟨⟨xs, q, Nat.le_refl _⟩, hd σ H p⟩
theorem for_range {lo : Int} {n : Nat} {g : TG} {tb : TS} {D : Ends} {σ : St} {H : Hp} (Pv : Nat → St → Hp → Prop) (h0 : Pv 0 σ H)
    (hs : ∀ i σ H, i < n → Pv i σ H → g (.int (lo + i)) σ H fun σ2 H2 => tb { D with nx := Pv (i + 1), ct := Pv (i + 1), bk := D.nx } σ2 H2) (hd : ∀ σ H, Pv n σ H → D.nx σ H) :
    ∃ W : Nat → Nat → St → Hp → Prop, (∃ m, W 0 m σ H) ∧ ∀ i m σ H, W i m σ H →
      ((Itr lo n).stop i H ∧ D.nx σ H) ∨ ((Itr lo n).go i H ∧ ∃ N : St → Hp → Prop, (∀ σ' H', N σ' H' → ∃ m', m' < m ∧ W (i + 1) m' σ' H') ∧ ∀ x H', (Itr lo n).yld i H x H' → g x σ H' fun σ2 H2 => tb { D with nx := N, ct := N, bk := D.nx } σ2 H2) := by
  refine ⟨fun i m σ H => m = n - i ∧ i ≤ n ∧ Pv i σ H, ⟨n, by simp, Nat.zero_le _, h0⟩, ?_⟩
  rintro i m σ H ⟨rfl, hi, p⟩
  by_cases hlt : i < n
  · refine .inr ⟨hlt, Pv (i + 1), fun σ' H' p' => ⟨n - (i + 1), by omega, rfl, hlt, p'⟩, fun x H' y => ?_⟩
    obtain ⟨e, y⟩ := y
    subst e y
    exact hs i σ _ hlt p
  · have e : i = n := by omega
    subst e
    exact .inl ⟨Nat.le_refl _, hd σ H p⟩
end L2
namespace L2
open PySem PySem.Spec PyProof.Rows
noncomputable abbrev R2 := V → V → Hp → VK → Prop
noncomputable def OpR (X : Cx) (f : Value → Value → Sem Value) (r : R2) : Prop :=
  ∀ (pins : List (Addr × Obj)) (s : Shared) (σ : St) (H : Hp) (x y : V) (v u : Value) (Q : VK), Inv X pins σ H s → RelV x v → RelV y u → r x y H Q →
    wpAny (model X.prog X.w) X.A (f v u) (EP X pins σ Q) X.xe s
noncomputable def UnR (X : Cx) (f : Value → Sem Value) (r : V → Hp → VK → Prop) : Prop :=
  ∀ (pins : List (Addr × Obj)) (s : Shared) (σ : St) (H : Hp) (x : V) (v : Value) (Q : VK), Inv X pins σ H s → RelV x v → r x H Q →
    wpAny (model X.prog X.w) X.A (f v) (EP X pins σ Q) X.xe s
noncomputable def CallR (X : Cx) (f : Value) (r : List V → Hp → VK → Prop) : Prop :=
  ∀ (pins : List (Addr × Obj)) (s : Shared) (σ : St) (H : Hp) (xs : List V) (us : List Value) (Q : VK), Inv X pins σ H s → Vals xs us → r xs H Q →
    wpAny (model X.prog X.w) X.A (call f us) (EP X pins σ Q) X.xe s
noncomputable def tOp (r : R2) (ta tb : TE) : TE := fun σ H Q => ta σ H fun x H1 => tb σ H1 fun y H2 => r x y H2 Q
noncomputable def tUn (r : V → Hp → VK → Prop) (ta : TE) : TE := fun σ H Q => ta σ H fun x H1 => r x H1 Q
noncomputable def rI (C : Int → Int → Prop) (g : Int → Int → V) : R2 := fun x y H Q => ∃ i j, x = .int i ∧ y = .int j ∧ C i j ∧ Q (g i j) H
noncomputable def rI0 (g : Int → Int → V) : R2 := fun x y H Q => ∃ i j, x = .int i ∧ y = .int j ∧ Q (g i j) H
noncomputable def rU (g : Int → V) : V → Hp → VK → Prop := fun x H Q => ∃ i, x = .int i ∧ Q (g i) H
section
variable {X : Cx} {a b c : Expr} {ta tb tc : TE} {pos : Pos}
theorem binT (ha : PE X a ta) (hb : PE X b tb) {pins : List (Addr × Obj)} {s : Shared} {σ : St} {H : Hp} {R : V → V → Hp → Prop} (I : Inv X pins σ H s)
    (h : ta σ H fun x H1 => tb σ H1 fun y H2 => R x y H2) {Q : Value → Shared → Prop} {f : Value → Value → Sem Value}
    (hf : ∀ v u s2 x y H2, Inv X pins σ H2 s2 → RelV x v → RelV y u → R x y H2 → wpAny (model X.prog X.w) X.A (f v u) Q X.xe s2) :
    wpAny (model X.prog X.w) X.A (eval a X.env) (fun v s₁ => wpAny (model X.prog X.w) X.A (eval b X.env) (fun u s₂ => wpAny (model X.prog X.w) X.A (f v u) Q X.xe s₂) X.xe s₁) X.xe s := by
  refine thn (ha pins s σ H _ I h) fun v s1 ⟨x, H1, I1, r1, q1⟩ => ?_
  refine thn (hb pins s1 σ H1 _ I1 q1) fun u s2 ⟨y, H2, I2, r2, q2⟩ => ?_
  exact hf v u s2 x y H2 I2 r1 r2 q2
theorem pe_op {op : Operator} {r : R2} (ho : OpR X (binaryOp op) r) (ha : PE X a ta) (hb : PE X b tb) : PE X (.BinOp a op b pos) (tOp r ta tb) := by
  intro pins s σ H Q I h
  exact wpAny_BinOp (binT ha hb I h fun v u s2 x y H2 I2 rx ry q => ho pins s2 σ H2 x y v u Q I2 rx ry q)
theorem pe_un {op : UnaryOp} {r : V → Hp → VK → Prop} (ho : UnR X (unaryOp op) r) (ha : PE X a ta) : PE X (.UnaryOp op a pos) (tUn r ta) := by
  intro pins s σ H Q I h
  exact UnaryOp_ (thn (ha pins s σ H _ I h) fun v s1 ⟨x, H1, I1, r1, q1⟩ => ho pins s1 σ H1 x v Q I1 r1 q1)
theorem opI {f : Value → Value → Sem Value} {C : Int → Int → Prop} {g : Int → Int → Int}
    (rule : ∀ (i j : Int) (t u : Tok) (s : Shared) (Q : Value → Shared → Prop) (E : Value → Shared → Prop), C i j → Q (.int (g i j) s.toks) { s with toks := s.toks + 1 } → wpAny (model X.prog X.w) X.A (f (.int i t) (.int j u)) Q E s) :
    OpR X f (rI C fun i j => .int (g i j)) := by
  intro pins s σ H x y v u Q I rx ry h
  obtain ⟨i, j, rfl, rfl, hc, q⟩ := h
  obtain ⟨t, rfl⟩ := rx
  obtain ⟨t', rfl⟩ := ry
  exact rule i j t t' s _ _ hc ⟨.int (g i j), H, I.tok _, ⟨_, rfl⟩, q⟩
theorem opI0 {f : Value → Value → Sem Value} {g : Int → Int → Int}
    (rule : ∀ (i j : Int) (t u : Tok) (s : Shared) (Q : Value → Shared → Prop) (E : Value → Shared → Prop), Q (.int (g i j) s.toks) { s with toks := s.toks + 1 } → wpAny (model X.prog X.w) X.A (f (.int i t) (.int j u)) Q E s) :
    OpR X f (rI0 fun i j => .int (g i j)) := by
  intro pins s σ H x y v u Q I rx ry h
  obtain ⟨i, j, rfl, rfl, q⟩ := h
  obtain ⟨t, rfl⟩ := rx
  obtain ⟨t', rfl⟩ := ry
  exact rule i j t t' s _ _ ⟨.int (g i j), H, I.tok _, ⟨_, rfl⟩, q⟩
theorem opB0 {f : Value → Value → Sem Value} {g : Int → Int → Bool}
    (rule : ∀ (i j : Int) (t u : Tok) (s : Shared) (Q : Value → Shared → Prop) (E : Value → Shared → Prop), Q (.bool (g i j)) s → wpAny (model X.prog X.w) X.A (f (.int i t) (.int j u)) Q E s) :
    OpR X f (rI0 fun i j => .bl (g i j)) := by
  intro pins s σ H x y v u Q I rx ry h
  obtain ⟨i, j, rfl, rfl, q⟩ := h
  obtain ⟨t, rfl⟩ := rx
  obtain ⟨t', rfl⟩ := ry
  exact rule i j t t' s _ _ ⟨.bl (g i j), H, I, rfl, q⟩
theorem op_add : OpR X (binaryOp .Add) (rI0 fun i j => .int (i + j)) := opI0 fun _ _ _ _ _ _ _ q => add_int q
theorem op_sub : OpR X (binaryOp .Sub) (rI0 fun i j => .int (i - j)) := opI0 fun _ _ _ _ _ _ _ q => sub_int q
theorem op_mod : OpR X (binaryOp .Mod) (rI (fun _ j => 0 < j) fun i j => .int (i % j)) := opI fun i j _ _ _ _ _ hc q => by
  have h1 : (0 : Int) < j := hc
  exact mod_int' (by omega) (by rw [Int.fmod_eq_emod_of_nonneg i (by omega)]; exact q)
theorem unI {f : Value → Sem Value} {g : Int → Int}
    (rule : ∀ (i : Int) (t : Tok) (s : Shared) (Q : Value → Shared → Prop) (E : Value → Shared → Prop), Q (.int (g i) s.toks) { s with toks := s.toks + 1 } → wpAny (model X.prog X.w) X.A (f (.int i t)) Q E s) :
    UnR X f (rU fun i => .int (g i)) := by
  intro pins s σ H x v Q I rx h
  obtain ⟨i, rfl, q⟩ := h
  obtain ⟨t, rfl⟩ := rx
  exact rule i t s _ _ ⟨.int (g i), H, I.tok _, ⟨_, rfl⟩, q⟩
theorem un_neg : UnR X (unaryOp .USub) (rU fun i => .int (-i)) := unI fun _ _ _ _ _ q => neg_int q
end
noncomputable def scal : V → V → Bool
  | .non, .non => true | .non, .int _ => true | .int _, .non => true | .non, .bl _ => true | .bl _, .non => true | .non, .str _ => true | .str _, .non => true
  | .int _, .int _ => true | .bl _, .bl _ => true | .str _, .str _ => true | .byt _, .byt _ => true
  | .int _, .str _ => true | .str _, .int _ => true | .bl _, .str _ => true | .str _, .bl _ => true
  | _, _ => false
noncomputable def rEq : R2 := fun x y H Q => scal x y = true ∧ Q (.bl (decide (x = y))) H
noncomputable def rNe : R2 := fun x y H Q => scal x y = true ∧ Q (.bl (!decide (x = y))) H
theorem dec_int {i j : Int} : decide (V.int i = V.int j) = (i == j) := by
  rw [Bool.eq_iff_iff]
  simp
theorem dec_bl {i j : Bool} : decide (V.bl i = V.bl j) = (i == j) := by
  rw [Bool.eq_iff_iff]
  simp
theorem dec_str {i j : Str} : decide (V.str i = V.str j) = (i == j) := by
  rw [Bool.eq_iff_iff]
  simp
theorem dec_byt {i j : Array UInt8} : decide (V.byt i = V.byt j) = (i.toList == j.toList) := by
  rw [Bool.eq_iff_iff]
  cases i
  cases j
  simp
section
variable {X : Cx} {a b c : Expr} {ta tb tc : TE} {pos : Pos}
theorem fin_bl {pins : List (Addr × Obj)} {σ : St} {H : Hp} {s : Shared} {Q : VK} {k k' : Bool} (I : Inv X pins σ H s) (q : Q (.bl k) H) (e : k = k') : EP X pins σ Q (.bool k') s := by
  subst e
  exact ⟨.bl k, H, I, rfl, q⟩
theorem op_eq : OpR X (compareOp .Eq) rEq := by
  intro pins s σ H x y v u Q I rx ry h
  obtain ⟨hs, q⟩ := h
  cases x with
  | non =>
    cases rx
    cases y with
    | non => cases ry; exact PySem.EqNone.eq_none_none (fin_bl I q (by simp))
    | bl j => cases ry; exact PySem.EqNone.eq_none_bool (fin_bl I q (by simp))
    | int j => obtain ⟨t', rfl⟩ := ry; exact PySem.EqNone.eq_none_int (fin_bl I q (by simp))
    | str j => obtain ⟨t', rfl⟩ := ry; exact PySem.EqNone.eq_none_str (fin_bl I q (by simp))
    | _ => exact absurd (show false = true from hs) Bool.false_ne_true
  | bl i =>
    cases rx
    cases y with
    | non => cases ry; exact PySem.EqNone.eq_bool_none (fin_bl I q (by simp))
    | bl j => cases ry; exact eq_bool (fin_bl I q dec_bl)
    | str j => obtain ⟨t', rfl⟩ := ry; exact PySem.EqMixed.eq_bool_str (fin_bl I q (by simp))
    | _ => exact absurd (show false = true from hs) Bool.false_ne_true
  | int i =>
    obtain ⟨t, rfl⟩ := rx
    cases y with
    | non => cases ry; exact PySem.EqNone.eq_int_none (fin_bl I q (by simp))
    | int j => obtain ⟨t', rfl⟩ := ry; exact eq_int (fin_bl I q dec_int)
    | str j => obtain ⟨t', rfl⟩ := ry; exact PySem.EqMixed.eq_int_str (fin_bl I q (by simp))
    | _ => exact absurd (show false = true from hs) Bool.false_ne_true
  | str i =>
    obtain ⟨t, rfl⟩ := rx
    cases y with
    | non => cases ry; exact PySem.EqNone.eq_str_none (fin_bl I q (by simp))
    | bl j => cases ry; exact PySem.EqMixed.eq_str_bool (fin_bl I q (by simp))
    | int j => obtain ⟨t', rfl⟩ := ry; exact PySem.EqMixed.eq_str_int (fin_bl I q (by simp))
    | str j => obtain ⟨t', rfl⟩ := ry; exact eq_str (fin_bl I q dec_str)
    | _ => exact absurd (show false = true from hs) Bool.false_ne_true
  | byt i =>
    obtain ⟨t, rfl⟩ := rx
    cases y with
    | byt j => obtain ⟨t', rfl⟩ := ry; exact PySem.W.eq_bytes (fin_bl I q dec_byt)
    | _ => exact absurd (show false = true from hs) Bool.false_ne_true
  | _ => cases y <;> exact absurd (show false = true from hs) Bool.false_ne_true
theorem op_ne : OpR X (compareOp .NotEq) rNe := by
  intro pins s σ H x y v u Q I rx ry h
  obtain ⟨hs, q⟩ := h
  cases x with
  | non =>
    cases rx
    cases y with
    | non => cases ry; exact PySem.EqNone.ne_none_none (fin_bl I q (by simp))
    | bl j => cases ry; exact PySem.EqNone.ne_none_bool (fin_bl I q (by simp))
    | int j => obtain ⟨t', rfl⟩ := ry; exact PySem.EqNone.ne_none_int (fin_bl I q (by simp))
    | str j => obtain ⟨t', rfl⟩ := ry; exact PySem.EqNone.ne_none_str (fin_bl I q (by simp))
    | _ => exact absurd (show false = true from hs) Bool.false_ne_true
  | bl i =>
    cases rx
    cases y with
    | non => cases ry; exact PySem.EqNone.ne_bool_none (fin_bl I q (by simp))
    | bl j => cases ry; exact ne_bool (fin_bl I q (congrArg not dec_bl))
    | str j => obtain ⟨t', rfl⟩ := ry; exact PySem.EqMixed.ne_bool_str (fin_bl I q (by simp))
    | _ => exact absurd (show false = true from hs) Bool.false_ne_true
  | int i =>
    obtain ⟨t, rfl⟩ := rx
    cases y with
    | non => cases ry; exact PySem.EqNone.ne_int_none (fin_bl I q (by simp))
    | int j => obtain ⟨t', rfl⟩ := ry; exact ne_int (fin_bl I q (congrArg not dec_int))
    | str j => obtain ⟨t', rfl⟩ := ry; exact PySem.EqMixed.ne_int_str (fin_bl I q (by simp))
    | _ => exact absurd (show false = true from hs) Bool.false_ne_true
  | str i =>
    obtain ⟨t, rfl⟩ := rx
    cases y with
    | non => cases ry; exact PySem.EqNone.ne_str_none (fin_bl I q (by simp))
    | bl j => cases ry; exact PySem.EqMixed.ne_str_bool (fin_bl I q (by simp))
    | int j => obtain ⟨t', rfl⟩ := ry; exact PySem.EqMixed.ne_str_int (fin_bl I q (by simp))
    | str j => obtain ⟨t', rfl⟩ := ry; exact ne_str (fin_bl I q (congrArg not dec_str))
    | _ => exact absurd (show false = true from hs) Bool.false_ne_true
  | byt i =>
    obtain ⟨t, rfl⟩ := rx
    cases y with
    | byt j => obtain ⟨t', rfl⟩ := ry; exact PySem.W.ne_bytes (fin_bl I q (congrArg not dec_byt))
    | _ => exact absurd (show false = true from hs) Bool.false_ne_true
  | _ => cases y <;> exact absurd (show false = true from hs) Bool.false_ne_true
theorem op_lt : OpR X (compareOp .Lt) (rI0 fun i j => .bl (decide (i < j))) := opB0 fun _ _ _ _ _ _ _ q => lt_int q
theorem op_le : OpR X (compareOp .LtE) (rI0 fun i j => .bl (decide (i ≤ j))) := opB0 fun _ _ _ _ _ _ _ q => le_int q
theorem op_gt : OpR X (compareOp .Gt) (rI0 fun i j => .bl (decide (j < i))) := opB0 fun _ _ _ _ _ _ _ q => gt_int q
theorem op_ge : OpR X (compareOp .GtE) (rI0 fun i j => .bl (decide (j ≤ i))) := opB0 fun _ _ _ _ _ _ _ q => ge_int q
theorem op_notN : OpR X (compareOp .IsNot) (fun x y H Q => y = .non ∧ Q (.bl (!decide (x = .non))) H) := by
  intro pins s σ H x y v u Q I rx ry h
  obtain ⟨rfl, q⟩ := h
  cases ry
  refine isnot_none_gen (fin_bl I q ?_)
  cases x <;> first
    | (cases rx; rfl)
    | (obtain ⟨t, rfl⟩ := rx; rfl)
theorem nomark (b : Expr) {op : CmpOp} (h : op ≠ .In := by decide) (h2 : op ≠ .NotIn := by decide) : behindInMarks op b = false := by
  have e1 : (op == CmpOp.In) = false := by cases op <;> first | rfl | exact absurd rfl h
  have e2 : (op == CmpOp.NotIn) = false := by cases op <;> first | rfl | exact absurd rfl h2
  cases b <;> simp [behindInMarks, e1, e2]
theorem pe_cmpR {op : CmpOp} {r : R2} (ho : OpR X (compareOp op) r) (ha : PE X a ta) (hb : PE X b tb) (hm : behindInMarks op b = false) : PE X (.Compare a [op] [b] pos) (tOp r ta tb) := by
  intro pins s σ H Q I h
  exact wpAny_Compare1 (binT ha hb I h fun v u s2 x y H2 I2 rx ry q => ho pins s2 σ H2 x y v u Q I2 rx ry q) hm
noncomputable def tTest (t : TE) : TT := fun σ H Q => t σ H fun x H' => ∃ k, x = .bl k ∧ Q k H'
theorem pt_cmpR {op : CmpOp} {r : R2} (ho : OpR X (compareOp op) r) (ha : PE X a ta) (hb : PE X b tb) (hm : behindInMarks op b = false) : PT X (.Compare a [op] [b] pos) (tTest (tOp r ta tb)) := by
  intro pins s σ H Q I h
  refine wpAny_isTrue_Compare1 (thn (ha pins s σ H _ I h) fun v s1 ⟨x, H1, I1, r1, q1⟩ => thn (hb pins s1 σ H1 _ I1 q1) fun u s2 ⟨y, H2, I2, r2, q2⟩ =>
    thn (ho pins s2 σ H2 x y v u _ I2 r1 r2 q2) fun c s3 ⟨z, H3, I3, r3, k, e, q3⟩ => ?_) hm
  subst e
  cases r3
  exact wpAny_truthy_bool ⟨H3, I3, q3⟩
noncomputable def tChain (r r' : R2) (ta tb tc : TE) : TE := fun σ H Q => ta σ H fun x H1 => tb σ H1 fun y H2 => r x y H2 fun z H3 => ∃ k, z = .bl k ∧
  (if k = true then tc σ H3 fun w' H4 => r' y w' H4 Q else Q (.bl false) H3)
theorem pt_chain {op op' : CmpOp} {r r' : R2} (ho : OpR X (compareOp op) r) (ho' : OpR X (compareOp op') r') (ha : PE X a ta) (hb : PE X b tb) (hc : PE X c tc)
    (hm : lastMarks [op, op'] [b, c] = false := by with_unfolding_all rfl) : PT X (.Compare a [op, op'] [b, c] pos) (tTest (tChain r r' ta tb tc)) := by
  intro pins s σ H Q I h
  refine isTrue_chain (thn (ha pins s σ H _ I h) fun v s1 ⟨x, H1, I1, r1, q1⟩ => test_link (thn (hb pins s1 σ H1 _ I1 q1) fun u s2 ⟨y, H2, I2, r2, q2⟩ =>
    thn (ho pins s2 σ H2 x y v u _ I2 r1 r2 q2) fun d s3 ⟨z, H3, I3, r3, k, e, q3⟩ => ?_)) hm
  subst e
  cases r3
  refine wpAny_truthy_bool ?_
  cases k with
  | false =>
    obtain ⟨k', e', q'⟩ := q3
    cases e'
    exact ite_ff ⟨H3, I3, q'⟩
  | true =>
    refine ite_tt (test_last (thn (hc pins s3 σ H3 _ I3 q3) fun w' s4 ⟨z', H4, I4, r4, q4⟩ => thn (ho' pins s4 σ H4 y z' u w' _ I4 r2 r4 q4) fun d' s5 ⟨z2, H5, I5, r5, k2, e2, q5⟩ => ?_))
    subst e2
    cases r5
    exact wpAny_truthy_bool ⟨H5, I5, q5⟩
theorem line63 : (sizeLine : Nat) < 2 ^ 63 := by rw [sizeLine_eq]; decide
theorem vals1 {x : V} {us : List Value} (r : Vals [x] us) : ∃ u, us = [u] ∧ RelV x u := by
  cases r with
  | cons r1 r2 => cases r2; exact ⟨_, rfl, r1⟩
theorem vals2 {x y : V} {us : List Value} (r : Vals [x, y] us) : ∃ u w', us = [u, w'] ∧ RelV x u ∧ RelV y w' := by
  cases r with
  | cons r1 r2 =>
    cases r2 with
    | cons r3 r4 => cases r4; exact ⟨_, _, rfl, r1, r3⟩
theorem call_abs : CallR X (.builtin "abs") (fun xs H Q => ∃ i, xs = [.int i] ∧ Q (.int (if i < 0 then -i else i)) H) := by
  intro pins s σ H xs us Q I r h
  obtain ⟨i, rfl, q⟩ := h
  obtain ⟨u, rfl, t, rfl⟩ := vals1 r
  exact call_abs_int fun u tk => ⟨.int (if i < 0 then -i else i), H, I.tok _, ⟨_, rfl⟩, q⟩
theorem call_max2 (hc : X.calm = true) : CallR X (.builtin "max") (fun xs H Q => ∃ i j, xs = [.int i, .int j] ∧ Q (.int (if j > i then j else i)) H) := by
  intro pins s σ H xs us Q I r h
  obtain ⟨i, j, rfl, q⟩ := h
  obtain ⟨u, w', rfl, ⟨t, rfl⟩, ⟨t', rfl⟩⟩ := vals2 r
  refine max_two_ints (I.ok.hd hc) fun h' tk k => ⟨_, H, I.kept k, ?_, q⟩
  by_cases hj : j > i
  · rw [if_pos hj, if_pos hj]; exact ⟨_, rfl⟩
  · rw [if_neg hj, if_neg hj]; exact ⟨_, rfl⟩
theorem call_min2 (hc : X.calm = true) : CallR X (.builtin "min") (fun xs H Q => ∃ i j, xs = [.int i, .int j] ∧ Q (.int (if j < i then j else i)) H) := by
  intro pins s σ H xs us Q I r h
  obtain ⟨i, j, rfl, q⟩ := h
  obtain ⟨u, w', rfl, ⟨t, rfl⟩, ⟨t', rfl⟩⟩ := vals2 r
  refine min_two_ints (I.ok.hd hc) fun h' tk k => ⟨_, H, I.kept k, ?_, q⟩
  by_cases hj : j < i
  · rw [if_pos hj, if_pos hj]; exact ⟨_, rfl⟩
  · rw [if_neg hj, if_neg hj]; exact ⟨_, rfl⟩
noncomputable def LenV (K : PySem.W.Frag) (x : V) (H : Hp) (n : Nat) : Prop :=
  match x with
  | .str y => y.length ≤ sizeLine ∧ n = y.length
  | .byt y => y.size ≤ sizeLine ∧ n = y.size
  | .ref p => (∃ xs, SqL K H p xs ∧ n = xs.length) ∨ ∃ xs, SqT K H p xs ∧ n = xs.length
  | _ => False
theorem call_len : CallR X (.builtin "len") (fun xs H Q => ∃ x n, xs = [x] ∧ LenV X.K x H n ∧ Q (.int n) H) := by
  intro pins s σ H xs us Q I r h
  obtain ⟨x, n, rfl, e, q⟩ := h
  obtain ⟨u, rfl, rx⟩ := vals1 r
  have hl := line63
  have hs : sizeLine = 16777216 := sizeLine_eq
  cases x with
  | str y =>
    obtain ⟨t, rfl⟩ := rx
    obtain ⟨hy, e'⟩ : y.length ≤ sizeLine ∧ n = y.length := e
    subst e'
    exact len_str (by omega) ⟨.int _, H, I.tok _, ⟨_, rfl⟩, q⟩
  | byt y =>
    obtain ⟨t, rfl⟩ := rx
    obtain ⟨hy, e'⟩ : y.size ≤ sizeLine ∧ n = y.size := e
    subst e'
    exact PySem.W.len_bytes (by omega) ⟨.int _, H, I.tok _, ⟨_, rfl⟩, q⟩
  | ref p =>
    cases rx
    have e' : (∃ xs, SqL X.K H p xs ∧ n = xs.length) ∨ ∃ xs, SqT X.K H p xs ∧ n = xs.length := e
    rcases e' with ⟨xs, hx, e'⟩ | ⟨xs, hx, e'⟩
    · subst e'
      obtain ⟨its, r', pl, hz⟩ := I.list hx
      have hlen := r'.length
      exact Calls.call_len_list pl.isList (by simp only [List.size_toArray]; omega) ⟨.int xs.length, H, I.tok _, ⟨_, by simp only [List.size_toArray]; rw [hlen]⟩, q⟩
    · subst e'
      obtain ⟨its, r', pl, hz⟩ := I.tuple hx
      have hlen := r'.length
      exact len_tuple pl (by simp only [List.size_toArray]; omega) ⟨.int xs.length, H, I.tok _, ⟨_, by simp only [List.size_toArray]; rw [hlen]⟩, q⟩
  | _ => exact (show False from e).elim
end
end L2
namespace L2
open PySem PySem.Spec PyProof.Rows
structure ObjM (h : Heap) (x dx C : Addr) (mA : Str → Option Value) : Prop where
  obj : h.get? x = some (PySem.W.instObj C dx)
  ns : h.Ns1 dx mA
  ne : dx ≠ x
theorem lookIn_ns {h : Heap} {dx : Addr} {mA : Str → Option Value} (n : h.Ns1 dx mA) : ∃ od, h.get? dx = some od ∧ ∀ name, PySem.W.lookIn name od = some (mA name) := by
  obtain ⟨o, es, ep, ho, hd, hk, _, hm⟩ := n
  refine ⟨o, ho, fun name => ?_⟩
  have e := hm name
  unfold nsFind findBy at e
  rw [← Array.find?_toList] at e
  unfold PySem.W.lookIn
  rw [hd]
  dsimp only
  split
  · rename_i y q
    rw [q] at e
    exact congrArg some e
  · rename_i q
    rw [q] at e
    have a : es.toList.any (·.refKey) = false := by
      rw [List.any_eq_false]
      intro y hy
      obtain ⟨z, t, hkey⟩ := hk y (Array.mem_toList_iff.mp hy)
      simp [DictEntry.refKey, hkey]
    have a' : ¬ es.toList.any (·.refKey) = true := by rw [a]; exact Bool.false_ne_true
    rw [if_neg a']
    exact congrArg some e
theorem ObjM.look {h : Heap} {x dx C : Addr} {mA : Str → Option Value} (I : ObjM h x dx C mA) : ∃ od, PySem.W.InstAt h x (PySem.W.instObj C dx) C (some od) ∧ ∀ name, PySem.W.lookIn name od = some (mA name) :=
  let ⟨od, ho, hl⟩ := lookIn_ns I.ns
  ⟨od, ⟨I.obj, rfl, rfl, ho⟩, hl⟩
section
variable {prog : Program} {w : World} {A : Around} {E : Value → Shared → Prop} {s : Shared} {K : PySem.W.Frag} {x dx C f : Addr} {mA : Str → Option Value} {name : Str} {v : Value}
end
section
variable {P : Program} {w : World} {H H' : Hp} {h h' : Heap} {a C dx : Addr} {fs fs' : List (Str × V)}
theorem ins_get (hok : HOk P w H h) (e : H a = some (.ins C dx fs)) : ∃ mA, ObjM h a dx C mA ∧ (∀ f, RelO (fs.lookup f) (mA f)) ∧ PySem.Within mA (fs.map (·.1)) ∧ fs.length ≤ 1000 ∧ H dx = some (.own a) := by
  obtain ⟨d, z, ne, ob, mA, n, r, q⟩ := (show ObjOk P w H h a (.ins C dx fs) from hok a _ e)
  exact ⟨mA, ⟨ob, n, ne⟩, r, q, z, d⟩
end
structure Cls (K : PySem.W.Frag) (C : Addr) : Prop where
  pg : PySem.W.plainGet K C Str.empty = true
  hd : PySem.W.hasDictIn K C = true
  po : PySem.W.plainOver K C = true
  sa : PySem.W.findIn K (.ref C) "__setattr__" = some (some (.builtin "object.__setattr__"))
theorem Cls.get {K : PySem.W.Frag} {C : Addr} (c : Cls K C) (f : Str) : PySem.W.plainGet K C f = true := c.pg
section
variable {X : Cx} {pins : List (Addr × Obj)} {σ : St} {H : Hp} {s : Shared} {a C dx : Addr} {fs : List (Str × V)} {f : Str} {v : V} {A : Around} {E : Value → Shared → Prop}
end
section
variable {X : Cx} {o e value : Expr} {f : Str} {pos pos' tpos : Pos} {ta tv : TE}
end
section
variable {X : Cx} {pins : List (Addr × Obj)} {σ : St} {H : Hp} {s : Shared} {A : Around} {E : Value → Shared → Prop} {Q : Value → Shared → Prop} {c : Value} {b : Bool}
inductive TyOf (K : PySem.W.Frag) (H : Hp) : V → Value → Prop where
  | non : TyOf K H .non (.type "NoneType")
  | bl (x : Bool) : TyOf K H (.bl x) (.type "bool")
  | int (i : Int) : TyOf K H (.int i) (.type "int")
  | str (x : Str) : TyOf K H (.str x) (.type "str")
  | flt (x : UInt64) : TyOf K H (.flt x) (.type "float")
  | lst {a : Addr} {xs : List V} (e : H a = some (.lst xs)) : TyOf K H (.ref a) (.type "list")
  | frz {a : Addr} {o : Obj} {xs : List V} (e : H a = some (.frz o (.lst xs))) : TyOf K H (.ref a) (.type "list")
  | tup {a : Addr} {xs : List V} (e : H a = some (.tup xs)) : TyOf K H (.ref a) (.type "tuple")
  | dK {a : Addr} {kvs : List (Key × V)} (e : H a = some (.dK kvs)) : TyOf K H (.ref a) (.type "dict")
  | dT {a : Addr} {kvs : List (List Key × V)} (e : H a = some (.dT kvs)) : TyOf K H (.ref a) (.type "dict")
  | ins {a C dx : Addr} {fs : List (Str × V)} (e : H a = some (.ins C dx fs)) (cl : Cls K C) (ha : PySem.W.findIn K (.ref C) "__class__" = some (some (.builtin "object.__class__")))
      (hn : PySem.W.specialIn K (.builtin "object.__class__") "__get__" = some (some (.builtin "getset_descriptor.__get__"))) (htk : PySem.W.takesIn K (.builtin "object.__class__") = some true)
      (hm : PySem.W.mroIn K C (.type "object") = some true) : TyOf K H (.ref a) (.ref C)
theorem isinst_ok {x : V} {u t : Value} (I : Inv X pins σ H s) (rx : RelV x u) (ty : TyOf X.K H x t) (e : PySem.W.kitOne X.K t c = some b) (h : ∀ tk, Q (.bool b) { s with toks := tk }) :
    wpAny (model X.prog X.w) A (call (.builtin "isinstance") [u, c]) Q E s := by
  cases ty with
  | non => cases (show u = Value.none from rx); exact PySem.W.kia_one PySem.W.kitx_none I.kIn True.intro e (fun z => nomatch z) h
  | bl y => cases (show u = Value.bool y from rx); exact PySem.W.kia_one PySem.W.kitx_bool I.kIn True.intro e (fun z => nomatch z) h
  | int i => obtain ⟨t, q⟩ := (show ∃ t, u = Value.int i t from rx); cases q; exact PySem.W.kia_one PySem.W.kitx_int I.kIn True.intro e (fun z => nomatch z) h
  | str y => obtain ⟨t, q⟩ := (show ∃ t, u = Value.str y t from rx); cases q; exact PySem.W.kia_one PySem.W.kitx_str I.kIn True.intro e (fun z => nomatch z) h
  | flt y => obtain ⟨t, q⟩ := (show ∃ t, u = Value.float y t from rx); cases q; exact PySem.W.kia_one PySem.W.kitx_float I.kIn True.intro e (fun z => nomatch z) h
  | @lst a xs ea =>
    cases (show u = Value.ref a from rx)
    obtain ⟨_, _, n, _, h1⟩ := (show ObjOk X.prog X.w H s.heap a (.lst xs) from I.hok a _ ea)
    exact PySem.W.kia_one PySem.W.kitx_list I.kIn ⟨_, h1, rfl⟩ e (fun z => nomatch z) h
  | @frz a ob xs ea =>
    cases (show u = Value.ref a from rx)
    obtain ⟨_, _, _, n, _, h1⟩ := (show ObjOk X.prog X.w H s.heap a (.frz ob (.lst xs)) from I.hok a _ ea)
    exact PySem.W.kia_one PySem.W.kitx_list I.kIn ⟨_, h1, rfl⟩ e (fun z => nomatch z) h
  | @tup a xs ea =>
    cases (show u = Value.ref a from rx)
    obtain ⟨_, _, _, p⟩ := (show ObjOk X.prog X.w H s.heap a (.tup xs) from I.hok a _ ea)
    obtain ⟨o, h1, h2, _⟩ := p
    exact PySem.W.kia_one PySem.W.kitx_tuple I.kIn ⟨o, h1, h2⟩ e (fun z => nomatch z) h
  | @dK a kvs ea =>
    cases (show u = Value.ref a from rx)
    obtain ⟨_, _, vs, _, p⟩ := (show ObjOk X.prog X.w H s.heap a (.dK kvs) from I.hok a _ ea)
    obtain ⟨o, es, ep, h1, h2, _⟩ := p
    exact PySem.W.kia_one PySem.W.kitx_dict I.kIn ⟨o, h1, h2.1⟩ e (fun z => nomatch z) h
  | @dT a kvs ea =>
    cases (show u = Value.ref a from rx)
    obtain ⟨_, _, xs, _, o, es, ep, h1, h2, _⟩ := (show ObjOk X.prog X.w H s.heap a (.dT kvs) from I.hok a _ ea)
    exact PySem.W.kia_one PySem.W.kitx_dict I.kIn ⟨o, h1, h2.1⟩ e (fun z => nomatch z) h
  | @ins a C dx fs ea cl ha hn htk hm =>
    cases (show u = Value.ref a from rx)
    obtain ⟨mA, O, _⟩ := ins_get I.hok ea
    obtain ⟨od, J, _⟩ := O.look
    exact PySem.W.kia_one (PySem.W.kitx_own (cl.get _) cl.hd ha hn htk hm) I.kIn J e (fun z => nomatch z) h
end
end L2
namespace L2
open PySem PySem.Spec PyProof.Rows
structure Room (k : Nat) (A : Around) : Prop where
  hd : A.handled = none
  dp : A.depth + 3 * k + 5 < recursionLimit
  un : A.units + 16 * k + 200 < cLine
theorem Room.mono {j k : Nat} {A : Around} (r : Room k A) (h : j ≤ k) : Room j A := ⟨r.hd, by have := r.dp; omega, by have := r.un; omega⟩
theorem Room.deeper {k : Nat} {A : Around} (r : Room (k + 1) A) (env : Env) : Room k (A.deeper env) :=
  ⟨r.hd, by have := r.dp; show A.depth + 1 + 3 * k + 5 < _; omega, by have := r.un; show A.units + 3 + 16 * k + 200 < _; omega⟩
theorem Room.depth {k : Nat} {A : Around} (r : Room k A) : A.depth < recursionLimit := by have := r.dp; omega
noncomputable def tNil : TA := fun _ H Q => Q [] H
noncomputable def tCons (ta : TE) (tr : TA) : TA := fun σ H Q => ta σ H fun x H1 => tr σ H1 fun xs H2 => Q (x :: xs) H2
section
variable {X : Cx} {e : Expr} {es : List Expr} {te : TE} {t : TA} {pos : Pos}
theorem pa_nil : PA X [] tNil := fun _ _ _ _ H Q I h => Calls.spliced_nil ⟨[], H, I, .nil, h⟩
theorem pa_cons (ha : PE X e te) (hr : PA X es t) (hs : starEach (e :: es) X.env = (false, eval e X.env) :: starEach es X.env := by rfl) : PA X (e :: es) (tCons te t) := by
  intro pos pins s σ H Q I h
  rw [hs]
  show wpAny _ _ (spliced ((false, eval e X.env) :: backTo pos (starEach es X.env))) _ _ s
  refine Calls.spliced_cons (thn (ha pins s σ H _ I h) fun u s1 ⟨x, H1, I1, r1, q1⟩ => ?_)
  exact thn (hr pos pins s1 σ H1 _ I1 q1) fun us s2 ⟨xs, H2, I2, r2, q2⟩ => ⟨x :: xs, H2, I2, .cons r1 r2, q2⟩
noncomputable def tTup (t : TA) : TE := fun σ H Q => t σ H fun xs H1 => xs.length ≤ sizeLine ∧ ∀ p, H1 p = none → Q (.ref p) (upd H1 p (.tup xs))
noncomputable def tLst (t : TA) : TE := fun σ H Q => t σ H fun xs H1 => xs.length ≤ sizeLine ∧ ∀ p, H1 p = none → Q (.ref p) (upd H1 p (.lst xs))
theorem pe_tup {x1} (h : PA X es t) : PE X (.Tuple es x1 pos) (tTup t) := by
  intro pins s σ H Q I hq
  refine wpAny_Tuple_spliced (thn (h pos pins s σ H _ I hq) fun us s1 ⟨xs, H1, I1, r, z, q⟩ => ⟨by rw [← r.length]; exact z, ?_⟩)
  have hf : H1 s1.heap.objs.size = none := I1.hok.fresh (Nat.le_refl _)
  refine ⟨.ref s1.heap.objs.size, upd H1 s1.heap.objs.size (.tup xs), I1.laid (t' := s1.toks) (fun b u e => Heap.get?_push_of_some _ e) (Nat.le_refl _) ?_, rfl, q _ hf⟩
  exact ⟨z, us, r, ⟨_, Heap.get?_push_size _ rfl, rfl, _, rfl⟩⟩
theorem pe_lst (h : PA X es t) : PE X (.List es pos) (tLst t) := by
  intro pins s σ H Q I hq
  refine wpAny_List_spliced (thn (h pos pins s σ H _ I hq) fun us s1 ⟨xs, H1, I1, r, z, q⟩ => ⟨by rw [← r.length]; exact z, ?_⟩)
  have hf : H1 s1.heap.objs.size = none := I1.hok.fresh (Nat.le_refl _)
  refine ⟨.ref s1.heap.objs.size, upd H1 s1.heap.objs.size (.lst xs), I1.laid (t' := s1.toks) (fun b u e => Heap.get?_push_of_some _ e) (Nat.le_refl _) ?_, rfl, q _ hf⟩
  exact ⟨z, us, 0, r, Heap.get?_push_size _ rfl⟩
end
noncomputable abbrev Sp := List V → Hp → VK → XK → Prop
noncomputable abbrev CXT := List Env → Hp → Shared → XK → Value → Shared → Prop
structure Env0 (P : Program) (w : World) (K : PySem.W.Frag) (mg : Str → Option Value) (base : Heap) (A : Around) (outer : List Env) (s : Shared) (H : Hp) : Prop where
  frames : A.frames = some outer
  mod : Mod K mg base
  bs : ∀ b o, base.get? b = some o → s.heap.get? b = some o ∧ H b = none
  bsz : base.objs.size ≤ s.heap.objs.size
  funs : s.heap.FunFrames base outer
  frf : ∀ b ∈ frs outer, H b = none
  hok : HOk P w H s.heap
  bare : AllBare s.gens
noncomputable def CE (outer : List Env) (P : Program) (w : World) (H : Hp) (s : Shared) (Q : VK) (u : Value) (s' : Shared) : Prop :=
  ∃ v H', s'.os = s.os ∧ AllBare s'.gens ∧ Un (frs outer) [] H H' s.heap s'.heap ∧ HOk P w H' s'.heap ∧ RelV v u ∧ Q v H'
noncomputable def CR (CX : CXT) (outer : List Env) (P : Program) (w : World) (H : Hp) (s : Shared) (Q : VK) (E : XK) (r : Result) (s' : Shared) : Prop :=
  match r with
  | .ok (.ret u) => CE outer P w H s Q u s'
  | .ok _ => False
  | .error e => CX outer H s E e s'
structure FnOk (P : Program) (w : World) (K : PySem.W.Frag) (mg : Str → Option Value) (base : Heap) (CX : CXT) (k : Nat) (f : Addr) (fd : FuncData) (ps : List Str) (sp : Sp) : Prop where
  len : ∀ vs H Q E, sp vs H Q E → vs.length = ps.length
  run : ∀ (A : Around) (outer : List Env) (s : Shared) (H : Hp) (args : Args) (us : List Value) (vs : List V) (Q : VK) (E : XK), Room k A → Env0 P w K mg base A outer s H → BindsTo s fd args (ps.zip us) → Vals vs us → sp vs H Q E →
    codeAny (model P w) A (.call (.ref f) args) (CR CX outer P w H s Q E) s
theorem FnOk.imp {P : Program} {w : World} {K : PySem.W.Frag} {mg : Str → Option Value} {base : Heap} {CX : CXT} {k : Nat} {f : Addr} {fd : FuncData} {ps : List Str} {sp sp' : Sp} (F : FnOk P w K mg base CX k f fd ps sp)
    (h : ∀ vs H Q E, sp' vs H Q E → sp vs H Q E) : FnOk P w K mg base CX k f fd ps sp' :=
  ⟨fun vs H Q E q => F.len vs H Q E (h _ _ _ _ q), fun A outer s H args us vs Q E hr he hb hv hs => F.run A outer s H args us vs Q E hr he hb hv (h _ _ _ _ hs)⟩
section
variable {X : Cx} {pins : List (Addr × Obj)} {σ : St} {H : Hp} {s s' : Shared}
theorem Inv.env0 (I : Inv X pins σ H s) : Env0 X.prog X.w X.K X.mg X.base X.A X.stack s H :=
  ⟨I.ok.frames, I.ok.mod, I.bs, Nat.le_trans I.ok.bsz I.sz, I.stack, I.stkFree, I.hok, I.bare⟩
theorem Inv.after {Q : VK} {u : Value} (I : Inv X pins σ H s) (h : CE X.stack X.prog X.w H s Q u s') : EP X pins σ Q u s' := by
  obtain ⟨v, H', os, bare, un, hok, r, q⟩ := h
  obtain ⟨hh, g, d, t, os'⟩ := s'
  obtain rfl : os' = s.os := os
  exact ⟨v, H', I.call (h' := hh) (g' := g) (d' := d) (t' := t) (ch := []) un hok bare (fun b z => absurd z (by simp)), r, q⟩
end
noncomputable def tCall (sp : Sp) (dvs : List V) (E : XK) (t : TA) : TE := fun σ H Q => t σ H fun vs H1 => sp (vs ++ dvs) H1 Q E
noncomputable def Binds (K : PySem.W.Frag) (fd : FuncData) (ps : List Str) (ds : List Value) : Prop :=
  ∀ (s : Shared) (us : List Value), K.In s.heap → (us ++ ds).length = ps.length → BindsTo s fd ⟨us, []⟩ (ps.zip (us ++ ds))
theorem Binds.all {K : PySem.W.Frag} {fd : FuncData} {ps : List Str} (h : ∀ us : List Value, us.length = ps.length → bindArgs fd ⟨us, []⟩ = pure (ps.zip us)) : Binds K fd ps [] := fun s us _ hl => by
  rw [List.append_nil] at hl ⊢
  exact .of_eq (h us hl)
noncomputable def Passes (CX : CXT) (X : Cx) (E : XK) : Prop := ∀ (pins : List (Addr × Obj)) (σ : St) (H : Hp) (s : Shared) (e : Value) (s' : Shared), Inv X pins σ H s → CX X.stack H s E e s' → X.xe e s'
section
variable {X : Cx} {CX : CXT} {k : Nat} {f C : Addr} {fd : FuncData} {ps : List Str} {sp : Sp} {dvs : List V} {ds : List Value} {E : XK} {x m : Str} {p pos apos : Pos} {e o : Expr} {es : List Expr} {ta : TE} {t : TA}
theorem run_fn {pins : List (Addr × Obj)} {σ : St} {H : Hp} {s : Shared} {Q : VK} {us : List Value} {vs : List V} (F : FnOk X.prog X.w X.K X.mg X.base CX k f fd ps sp) (hr : Room k X.A) (hb : Binds X.K fd ps ds) (hd : Vals dvs ds) (hx : Passes CX X E)
    (I : Inv X pins σ H s) (r : Vals vs us) (h : sp (vs ++ dvs) H Q E) : wpAny (model X.prog X.w) X.A (call (.ref f) us) (EP X pins σ Q) X.xe s := by
  have r2 : Vals (vs ++ dvs) (us ++ ds) := r.append hd
  have hl : (us ++ ds).length = ps.length := by rw [← r2.length]; exact F.len _ _ _ _ h
  refine wpAny_call (codeAny_mono (F.run X.A X.stack s H ⟨us, []⟩ (us ++ ds) (vs ++ dvs) Q E hr I.env0 (hb s us I.kIn hl) r2 h) fun r s' hq => ?_)
  cases r with
  | error e => exact hx pins σ H s e s' I hq
  | ok fl =>
    cases fl with
    | ret u => exact I.after hq
    | next => exact False.elim hq
    | brk => exact False.elim hq
    | cont => exact False.elim hq
theorem pe_call (F : FnOk X.prog X.w X.K X.mg X.base CX k f fd ps sp) (hr : Room k X.A) (hg : Gl X x) (hm : X.mg x = some (.ref f)) (hk : PySem.W.keepIn X.K (.ref f) = true) (hb : Binds X.K fd ps ds) (hd : Vals dvs ds) (hx : Passes CX X E)
    (ha : PA X (e :: es) t) (hdb : (x == ("__debug__" : Str)) = false := by decide) (he : starEach (e :: es) X.env = (false, eval e X.env) :: starEach es X.env := by rfl) (hpl : (backTo pos (starEach es X.env)).any (·.1) = false := by rfl) :
    PE X (.Call (.Name x p) (e :: es) [] pos) (tCall sp dvs E t) := by
  intro pins s σ H Q I h
  refine wpAny_Call_Name_kw (ld_glob I hg hm ?_ hdb)
  refine PySem.W.callWith_K (h₀ := X.base) I.ok.mod.kin hk (thn (ha pos pins s σ H _ I h) fun us s1 ⟨vs, H1, I1, r, q⟩ => ⟨I1.kIn, ?_⟩) he hpl
  exact run_fn F hr hb hd hx I1 r q
end
section
variable {X : Cx} {CX : CXT} {k : Nat} {f C : Addr} {fd : FuncData} {ps ks : List Str} {sp : Sp} {E : XK} {x m : Str} {p pos apos kpos : Pos} {e o : Expr} {es : List Expr} {kws : List Keyword} {te ta : TE} {t tk : TA} {nm : Option Str}
variable {g : List Value → List Value → List Value} {gV : List V → List V → List V}
end
structure FnScope (N P : List Str) (sc : Scope) : Prop where
  kind : sc.kind = .function
  co : sc.isCoroutine = false
  gen : sc.isGenerator = false
  nd : N.Nodup
  pre : N.take P.length = P
  par : ∀ x ∈ P, sc.names.lookup x = some .local ∨ sc.names.lookup x = some .cell
  nofree : ∀ y ∈ sc.names, y.2 ≠ .free
theorem bindL_out {kindOf : Str → Option NameKind} {x : Str} : ∀ {binds : List (Str × Value)} {m : Str → Option Value}, (∀ v, (x, v) ∉ binds) → bindL kindOf binds m x = m x
  | [], _, _ => rfl
  | (n, v) :: r, m, h => by
    unfold bindL
    rw [bindL_out fun w hw => h w (List.mem_cons_of_mem _ hw)]
    split
    · have : x ≠ n := by rintro rfl; exact h v List.mem_cons_self
      simp [this]
    · rfl
theorem bindC_out {kindOf : Str → Option NameKind} {x : Str} : ∀ {binds : List (Str × Value)} {m : Str → Option Value}, (∀ v, (x, v) ∉ binds) → bindC kindOf binds m x = m x
  | [], _, _ => rfl
  | (n, v) :: r, m, h => by
    unfold bindC
    rw [bindC_out fun w hw => h w (List.mem_cons_of_mem _ hw)]
    split
    · rfl
    · have : x ≠ n := by rintro rfl; exact h v List.mem_cons_self
      simp [this]
theorem bindL_get {kindOf : Str → Option NameKind} {x : Str} {v : Value} : ∀ {P : List Str} {vs : List Value} {i : Nat} {m : Str → Option Value}, P.Nodup → P[i]? = some x → vs[i]? = some v → kindOf x = some .local →
    bindL kindOf (P.zip vs) m x = some v
  | [], _, _, _, _, h, _, _ => by simp at h
  | _ :: _, [], _, _, _, _, h, _ => by simp at h
  | p :: P, w :: vs, 0, m, nd, h1, h2, hk => by
    simp at h1 h2; subst h1; subst h2
    show bindL kindOf ((p, w) :: P.zip vs) m p = _
    unfold bindL
    rw [bindL_out fun v hv => (List.nodup_cons.mp nd).1 (List.of_mem_zip hv).1, if_pos hk]
    simp
  | p :: P, w :: vs, i + 1, m, nd, h1, h2, hk => by
    show bindL kindOf ((p, w) :: P.zip vs) m x = _
    unfold bindL
    exact bindL_get (i := i) (List.nodup_cons.mp nd).2 (by simpa using h1) (by simpa using h2) hk
theorem bindC_get {kindOf : Str → Option NameKind} {x : Str} {v : Value} : ∀ {P : List Str} {vs : List Value} {i : Nat} {m : Str → Option Value}, P.Nodup → P[i]? = some x → vs[i]? = some v → kindOf x ≠ some .local →
    bindC kindOf (P.zip vs) m x = some v
  | [], _, _, _, _, h, _, _ => by simp at h
  | _ :: _, [], _, _, _, _, h, _ => by simp at h
  | p :: P, w :: vs, 0, m, nd, h1, h2, hk => by
    simp at h1 h2; subst h1; subst h2
    show bindC kindOf ((p, w) :: P.zip vs) m p = _
    unfold bindC
    rw [bindC_out fun v hv => (List.nodup_cons.mp nd).1 (List.of_mem_zip hv).1, if_neg hk]
    simp
  | p :: P, w :: vs, i + 1, m, nd, h1, h2, hk => by
    show bindC kindOf ((p, w) :: P.zip vs) m x = _
    unfold bindC
    exact bindC_get (i := i) (List.nodup_cons.mp nd).2 (by simpa using h1) (by simpa using h2) hk
noncomputable def start (N : List Str) (vs : List V) : St := vs.map some ++ List.replicate (N.length - vs.length) none
noncomputable def cxOf (CX : CXT) (P : Program) (w : World) (K : PySem.W.Frag) (mg : Str → Option Value) (base : Heap) (N : List Str) (qual : Str) (scope : Scope) (f : Addr) (cd : Value) (A : Around) (outer : List Env) (s : Shared) (H : Hp) (E : XK) : Cx where
  prog := P
  w := w
  K := K
  mg := mg
  base := base
  A := A.deeper (envOfC qual scope s.heap.objs.size f cd)
  N := N
  s₀ := s
  H₀ := H
  env := envOfC qual scope s.heap.objs.size f cd
  outer := outer
  stack := envOfC qual scope s.heap.objs.size f cd :: outer
  ex := []
  calm := true
  fn := fun _ => true
  pn := []
  xe := fun e s' => wpAny (model P w) (A.deeper (envOfC qual scope s.heap.objs.size f cd)) (leaving (envOfC qual scope s.heap.objs.size f cd) e) (fun _ s'' => CX outer H s E e s'') (fun e' s'' => CX outer H s E e' s'') s'
theorem cell_has {sc : Scope} {n : Nat} {x : Str} (h : sc.names.lookup x = some .cell) : ∃ c, (cellsFrom n sc.names []).lookup x = some c := by
  have q := PySem.W.cellsFrom_some sc.names n [] (.inl h)
  exact Option.isSome_iff_exists.mp q
theorem inv_start {CX : CXT} {P : Program} {w : World} {K : PySem.W.Frag} {mg : Str → Option Value} {base : Heap} {N ps : List Str} {qual : Str} {scope : Scope} {f : Addr} {cd : Value} {A : Around} {outer : List Env} {s s1 : Shared} {H : Hp} {E : XK} {us : List Value} {vs : List V}
    (S : FnScope N ps scope) (hd : A.handled = none) (e0 : Env0 P w K mg base A outer s H) (hl : vs.length = ps.length) (r : Vals vs us)
    (x : InCallC s s.heap.objs.size (bindL (envOfC qual scope s.heap.objs.size f cd).kindOf (ps.zip us) fun _ => none) (cellsFrom (s.heap.objs.size + 1) scope.names []) (bindC (envOfC qual scope s.heap.objs.size f cd).kindOf (ps.zip us) fun _ => none) s1) :
    Inv (cxOf CX P w K mg base N qual scope f cd A outer s H E) [] (start N vs) H s1 := by
  have hpl : ps.length ≤ N.length := by have := congrArg List.length S.pre; rw [List.length_take] at this; omega
  obtain ⟨h1, tk, rfl, hk⟩ := x.done
  have noA : ∀ b : Addr, b ∉ (cxOf CX P w K mg base N qual scope f cd A outer s H E).ex := fun b z => absurd (show b ∈ ([] : List Addr) from z) (by simp)
  refine ⟨⟨e0.mod, S.kind, rfl, rfl, Nat.le_refl _, fun y z c h1 h2 => ?_, fun y hy => ?_, fun y c _ h => ?_, fun _ => hd, Around.frames_deeper e0.frames, .inr ⟨rfl, rfl⟩, fun b z => absurd z (noA b), e0.bs, e0.bsz, fun b _ _ => noA b, fun b z => absurd z (noA b), e0.funs, e0.frf⟩,
    rfl, e0.bare, Un.kept hk, ⟨_, x.toInCall.ns, fun i y v h1 h2 h3 => ?_⟩, fun y c h => ⟨_, x.cell y c h⟩, e0.hok.fresh (Nat.le_refl _), fun y c h => ?_, fun p hp => absurd (show p ∈ ([] : List (Addr × Obj)) from hp) (by simp), e0.hok.kept hk, ?_⟩
  · exact name_of_addr x.apart (PySem.mem_of_lookup h1) (PySem.mem_of_lookup h2)
  · have hy : scope.names.lookup y = some .cell ∨ scope.names.lookup y = some .free := hy
    rcases hy with hy | hy
    · exact cell_has hy
    · exact absurd rfl (S.nofree _ (PySem.mem_of_lookup hy))
  · exact Nat.le_of_lt (x.above y c (PySem.mem_of_lookup h))
  · have hi : i < vs.length := by
      unfold start at h2
      by_cases hi : i < vs.length
      · exact hi
      · rw [List.getElem?_append_right (by simpa using hi)] at h2
        rw [List.getElem?_replicate] at h2
        split at h2 <;> cases h2
    have ha : vs[i]? = some v := by
      unfold start at h2
      rw [List.getElem?_append_left (by simpa using hi), List.getElem?_map] at h2
      cases e : vs[i]? with
      | none => rw [e] at h2; cases h2
      | some a => rw [e] at h2; cases h2; rfl
    obtain ⟨u, hu, rv⟩ := r.get ha
    have hp : ps[i]? = some y := by
      rw [← S.pre, List.getElem?_take_of_lt (by omega)]; exact h1
    have ndP : ps.Nodup := by rw [← S.pre]; exact S.nd.sublist (List.take_sublist _ _)
    refine ⟨u, rv, ?_⟩
    rcases S.par y (List.mem_of_getElem? hp) with k | k
    · exact .inl ⟨k, bindL_get ndP hp hu k⟩
    · obtain ⟨c, e⟩ := cell_has (n := s.heap.objs.size + 1) k
      refine .inr ⟨.inl k, c, e, ?_⟩
      have q := x.cell y c e
      rw [bindC_get ndP hp hu (by show scope.names.lookup y ≠ _; rw [k]; decide)] at q
      exact q
  · exact e0.hok.fresh (Nat.le_of_lt (x.above y c (PySem.mem_of_lookup h)))
  · unfold start
    show _ = N.length
    rw [List.length_append, List.length_map, List.length_replicate]
    omega
theorem fn_of {CX : CXT} {P : Program} {w : World} {K : PySem.W.Frag} {mg : Str → Option Value} {base : Heap} {k : Nat} {f : Addr} {name qual : Str} {params : Arguments} {body : List Stmt} {scope : Scope} {dV kV doc pm cdv ct oc : Value} {an od : Option Addr}
    {osl : Array (Option Value)} {N ps : List Str} {sp : Sp} (lk : K.lookup f = some ⟨oc, od, .func (PySem.W.fnOf name qual params body scope dV kV doc pm an cdv ct), osl⟩) (hcd : PySem.W.codeIn K cdv qual = true) (S : FnScope N ps scope)
    (len : ∀ vs H Q E, sp vs H Q E → vs.length = ps.length)
    (hbody : ∀ (A : Around) (outer : List Env) (s : Shared) (H : Hp) (vs : List V) (Q : VK) (E : XK), Room k (A.deeper (envOfC qual scope s.heap.objs.size f cdv)) → sp vs H Q E →
      ∃ t, PSs (cxOf CX P w K mg base N qual scope f cdv A outer s H E) body t ∧ t { nx := fun _ H' => Q .non H', rt := Q } (start N vs) H) :
    FnOk P w K mg base CX (k + 1) f (PySem.W.fnOf name qual params body scope dV kV doc pm an cdv ct) ps sp := by
  refine ⟨len, fun A outer s H args us vs Q E hr e0 hb r hsp => ?_⟩
  have hl := len _ _ _ _ hsp
  have KX : K.In s.heap := e0.mod.kin.keeps fun b o e => (e0.bs b o e).1
  have lim : s.heap.NoLimit := e0.mod.nolimit.keeps fun b o e => (e0.bs b o e).1
  have hkind : ∀ y ∈ ps.zip us, scope.names.lookup y.1 = some .local ∨ (scope.names.lookup y.1 = some .cell ∧ ((cellsFrom (s.heap.objs.size + 1) scope.names []).lookup y.1).isSome = true) := fun ⟨n, v⟩ hy => by
    rcases S.par n (List.of_mem_zip hy).1 with q | q
    · exact .inl q
    · exact .inr ⟨q, PySem.W.cellsFrom_some _ _ _ (.inl q)⟩
  refine codeAny_call_function hr.depth (KX _ _ lk) rfl S.co S.gen rfl (PySem.W.codeRec_of KX hcd) (hb _ _ _ _ ?_)
  refine wpAny_newFunctionEnv_cells S.kind hkind fun env he s1 x => ?_
  subst he
  refine ⟨lim.keeps x.toInCall.keep, codeAny_func ?_⟩
  obtain ⟨t, ht, hq⟩ := hbody A outer s H vs Q E (hr.deeper _) hsp
  have I : Inv (cxOf CX P w K mg base N qual scope f cdv A outer s H E) [] (start N vs) H s1 := inv_start S hr.hd e0 hl r x
  refine wpAny_mono (ht [] s1 (start N vs) H _ I hq) (fun fl s' hs => ?_) fun e s' hs => hs
  have fin : ∀ {σ' : St} {H' : Hp} {v : V} {u : Value}, Inv (cxOf CX P w K mg base N qual scope f cdv A outer s H E) [] σ' H' s' → RelV v u → Q v H' → CE outer P w H s Q u s' :=
    fun {σ' H' v u} J rv q => ⟨v, H', J.os, J.bare, J.base, J.hok, rv, q⟩
  cases fl with
  | ret u =>
    obtain ⟨v, σ', H', J, rv, q⟩ := hs
    exact fin J rv q
  | next =>
    obtain ⟨σ', H', J, q⟩ := hs
    exact fin (v := V.non) (u := Value.none) J rfl q
  | brk =>
    obtain ⟨_, _, _, q⟩ := hs
    exact False.elim q
  | cont =>
    obtain ⟨_, _, _, q⟩ := hs
    exact False.elim q
end L2
namespace L2
open PySem PySem.Spec PyProof.Rows
section
variable {X : Cx} {x : Str} {p pos : Pos} {e : Expr} {es : List Expr} {t : TA} {id T : String} {r : List V → Hp → VK → Prop}
noncomputable def tCB (r : List V → Hp → VK → Prop) (t : TA) : TE := fun σ H Q => t σ H fun vs H1 => r vs H1 Q
theorem pe_callB (hc : CallR X (.builtin id) r) (hg : Gl X x) (hm : X.mg x = none) (hv : bootBuiltins x = some (.builtin id)) (ha : PA X (e :: es) t) (hn : x ≠ "__name__" := by decide) (hdb : (x == ("__debug__" : Str)) = false := by decide)
    (he : starEach (e :: es) X.env = (false, eval e X.env) :: starEach es X.env := by rfl) (hpl : (backTo pos (starEach es X.env)).any (·.1) = false := by rfl) : PE X (.Call (.Name x p) (e :: es) [] pos) (tCB r t) := by
  intro pins s σ H Q I h
  refine wpAny_Call_Name_kw (ld_blt I hg hm hv ?_ hn hdb)
  exact PyProof.Rows.callWith_builtin1 (thn (ha pos pins s σ H _ I h) fun us s1 ⟨vs, H1, I1, r1, q1⟩ => hc pins s1 σ H1 vs us Q I1 r1 q1) he hpl
end
end L2
namespace HT
open PySem PyProof.Rows
section
open PySem.SeqAt
open PySem.AutoSeq1 (wpAny_loadPart')
open PySem.MeetsSeq PySem.MeetsSeq2 PySem.MeetsSeq3
end
section
variable {prog : Program} {w : World} {A : Around} {E : Value → Shared → Prop} {s : Shared}
end
end HT
namespace L2
open PySem PySem.Spec PyProof.Rows
section
variable {X : Cx} {e : Expr} {te : TE} {lo hi : Option Expr} {tl th : TO} {pos p2 : Pos}
end
end L2
namespace L2
open PySem PySem.Spec PyProof.Rows
noncomputable def ixN (n : Nat) (i : Int) : Option Nat := if 0 ≤ i then (if i < n then some i.toNat else none) else if -(n : Int) ≤ i then some (i + n).toNat else none
noncomputable def atI {α : Type} (xs : List α) (i : Int) : Option α := (ixN xs.length i).bind fun j => xs[j]?
theorem ixN_seq {n : Nat} {i : Int} {j : Nat} (h : ixN n i = some j) : seqIndex? i n = some j ∧ j < n ∧ -(n : Int) ≤ i ∧ i < n := by
  unfold ixN at h
  by_cases h0 : 0 ≤ i
  · rw [if_pos h0] at h
    by_cases h1 : i < n
    · rw [if_pos h1] at h
      have e : i.toNat = j := Option.some.inj h
      exact ⟨by rw [seqIndex_of h0 h1, e], by omega, by omega, h1⟩
    · rw [if_neg h1] at h; cases h
  · rw [if_neg h0] at h
    by_cases h1 : -(n : Int) ≤ i
    · rw [if_pos h1] at h
      have e : (i + n).toNat = j := Option.some.inj h
      exact ⟨by rw [seqIndex_neg (by omega) h1, e], by omega, h1, by omega⟩
    · rw [if_neg h1] at h; cases h
theorem atI_get {α : Type} {xs : List α} {i : Int} {v : α} (h : atI xs i = some v) : ∃ j, seqIndex? i xs.length = some j ∧ xs[j]? = some v ∧ j < xs.length ∧ -(xs.length : Int) ≤ i ∧ i < xs.length := by
  unfold atI at h
  cases e : ixN xs.length i with
  | none => rw [e] at h; cases h
  | some j =>
    rw [e] at h
    obtain ⟨h1, h2, h3, h4⟩ := ixN_seq e
    exact ⟨j, h1, h, h2, h3, h4⟩
theorem atI_nat {α : Type} {xs : List α} {j : Nat} {v : α} (h : xs[j]? = some v) : atI xs (j : Int) = some v := by
  have hj : j < xs.length := (List.getElem?_eq_some_iff.mp h).1
  have e : ixN xs.length (j : Int) = some j := by
    unfold ixN
    rw [if_pos (by omega), if_pos (by omega)]; simp
  unfold atI; rw [e]; exact h
noncomputable def PlainIx (b : Expr) : Prop := ∀ o i, subscripted b false o i = operate [o, i] (getItem o i)
noncomputable def IxR (X : Cx) (r : R2) : Prop :=
  ∀ (value slice : Expr) (pins : List (Addr × Obj)) (s : Shared) (σ : St) (H : Hp) (x y : V) (v u : Value) (Q : VK), Inv X pins σ H s → RelV x v → RelV y u → r x y H Q →
    subscripted slice false v u = operate [v, u] (getItem v u) → wpAny (model X.prog X.w) X.A (subscriptTail value slice v u) (EP X pins σ Q) X.xe s
noncomputable def MtR (X : Cx) (id : String) (r : V → List V → Hp → VK → Prop) : Prop :=
  ∀ (pins : List (Addr × Obj)) (s : Shared) (σ : St) (H : Hp) (x : V) (xs : List V) (v : Value) (us : List Value) (Q : VK), Inv X pins σ H s → RelV x v → Vals xs us → r x xs H Q →
    wpAny (model X.prog X.w) X.A (call (.builtin id) (v :: us)) (EP X pins σ Q) X.xe s
section
variable {X : Cx} {a b : Expr} {ta tb : TE} {pos : Pos}
theorem pe_ix {r : R2} (hr : IxR X r) (ha : PE X a ta) (hb : PE X b tb) (hs : PlainIx b) : PE X (.Subscript a b pos) (tOp r ta tb) := by
  intro pins s σ H Q I h
  exact Subscript_ (binT ha hb I h fun v u s2 x y H2 I2 rx ry q => hr a b pins s2 σ H2 x y v u Q I2 rx ry q (hs _ _))
noncomputable def rIxL (K : PySem.W.Frag) : R2 := fun x y H Q => ∃ p xs i v, x = .ref p ∧ y = .int i ∧ SqL K H p xs ∧ atI xs i = some v ∧ Q v H
noncomputable def rIxT (K : PySem.W.Frag) : R2 := fun x y H Q => ∃ p xs i v, x = .ref p ∧ y = .int i ∧ SqT K H p xs ∧ atI xs i = some v ∧ Q v H
theorem ix_list : IxR X (rIxL X.K) := by
  intro value slice pins s σ H x y v u Q I rx ry h hs
  obtain ⟨p, xs, i, z, rfl, rfl, hq, he, q⟩ := h
  cases rx
  obtain ⟨t, rfl⟩ := ry
  obtain ⟨its, r, pl, hz⟩ := I.list hq
  obtain ⟨j, h1, h2, h3, h4, h5⟩ := atI_get he
  obtain ⟨w, ew, rw'⟩ := r.get h2
  have hl := r.length
  have hn := line63
  have fin : EP X pins σ Q w s := ⟨z, H, I, rw', q⟩
  by_cases h0 : 0 ≤ i
  · have hj : i.toNat = j := by
      rw [seqIndex_of h0 h5] at h1
      exact Option.some.inj h1
    exact item_listR pl.isList h0 (by omega) (by rw [hj]; simpa using ew) fin hs
  · have hj : (i + (its.toArray.size : Int)).toNat = j := by
      rw [seqIndex_neg (by omega) h4] at h1
      rw [List.size_toArray, ← hl]
      exact Option.some.inj h1
    exact subscriptTail_builtinR (x := w) pl.isList.typeIs slot_list_getitem.lookup
      (wpAny_getItem_list_neg (Q := fun r s' => r = w ∧ EP X pins σ Q r s') pl.isList (by omega) (by rw [List.size_toArray] <;> omega) (by omega) (by rw [hj]; simpa using ew) ⟨rfl, fin⟩) hs
theorem ix_tup : IxR X (rIxT X.K) := by
  intro value slice pins s σ H x y v u Q I rx ry h hs
  obtain ⟨p, xs, i, z, rfl, rfl, hq, he, q⟩ := h
  cases rx
  obtain ⟨t, rfl⟩ := ry
  obtain ⟨its, r, pl, hz⟩ := I.tuple hq
  obtain ⟨j, h1, h2, h3, h4, h5⟩ := atI_get he
  obtain ⟨w, ew, rw'⟩ := r.get h2
  have hl := r.length
  have hn := line63
  have fin : EP X pins σ Q w s := ⟨z, H, I, rw', q⟩
  exact subscriptTail_builtinR (x := w) pl.typeIs slot_tuple_getitem.lookup
    (getItem_tuple (j := j) (Q := fun r s' => r = w ∧ EP X pins σ Q r s') pl (by omega) (by omega) (by rw [List.size_toArray, ← hl]; exact h1) (by simpa using ew) ⟨rfl, fin⟩) hs
theorem mapSeq_set (its : List Value) (n j : Nat) (u : Value) : Obj.mapSeq (·.setIfInBounds j u) { cls := .type "list", data := .seq its.toArray n } = { cls := .type "list", data := .seq (its.set j u).toArray n } := by
  simp [Obj.mapSeq]
theorem Inv.lst {pins : List (Addr × Obj)} {σ : St} {H : Hp} {s : Shared} {p : Addr} {xs : List V} (I : Inv X pins σ H s) (h : H p = some (.lst xs)) :
    ∃ (its : List Value) (n : Nat), Vals xs its ∧ s.heap.get? p = some { cls := .type "list", data := .seq its.toArray n } ∧ xs.length ≤ sizeLine := by
  obtain ⟨z, its, n, r, e⟩ := I.hok p _ h
  exact ⟨its, n, r, e, z⟩
theorem Inv.lstUpd {pins : List (Addr × Obj)} {σ : St} {H : Hp} {s : Shared} {p : Addr} {xs ys : List V} {its its' : List Value} {n n' : Nat} {f : Obj → Obj} (I : Inv X pins σ H s) (h : H p = some (.lst xs))
    (ho : s.heap.get? p = some { cls := .type "list", data := .seq its.toArray n }) (hf : f { cls := .type "list", data := .seq its.toArray n } = { cls := .type "list", data := .seq its'.toArray n' }) (r : Vals ys its') (hz : ys.length ≤ sizeLine) (t : Nat) :
    Inv X pins σ (upd H p (.lst ys)) { s with heap := s.heap.update p f, toks := t } := by
  have e : (s.heap.update p f).get? p = some { cls := .type "list", data := .seq its'.toArray n' } := by
    rw [Heap.get?_update_self f ho (by rw [hf] <;> rfl), hf]
  refine I.write (x := p) (e := p) (by rw [h]; trivial) (.inl rfl) (fun b u hb q => (Heap.get?_update_other _ _ (Ne.symm hb)).trans q) ⟨_, e⟩ ?_
  exact ⟨hz, its', n', r, e⟩
noncomputable def rSetL : V → V → V → Hp → (Hp → Prop) → Prop := fun o i v H Q => ∃ p xs k j, o = .ref p ∧ i = .int k ∧ H p = some (.lst xs) ∧ ixN xs.length k = some j ∧ Q (upd H p (.lst (xs.set j v)))
theorem set_list : PSet X rSetL := by
  intro pins s σ H o i v ov iv u Q I ro ri rv h
  obtain ⟨p, xs, k, j, rfl, rfl, hp, hj, q⟩ := h
  cases ro
  obtain ⟨t, rfl⟩ := ri
  obtain ⟨its, n, r, ho, hz⟩ := I.lst hp
  obtain ⟨h1, h2, h3, h4⟩ := ixN_seq hj
  have hl := r.length
  have hn := line63
  have I' : Inv X pins σ (upd H p (.lst (xs.set j v))) { s with heap := s.heap.update p (Obj.mapSeq (·.setIfInBounds j u)) } :=
    I.lstUpd hp ho (mapSeq_set its n j u) (r.set rv j) (by rw [List.length_set]; exact hz) s.toks
  by_cases h0 : 0 ≤ k
  · have hk : k.toNat = j := by
      rw [seqIndex_of h0 h4] at h1
      exact Option.some.inj h1
    exact PySem.W.ki_setAt ho h0 (by omega) (by rw [List.size_toArray, ← hl]; exact h4) (by rw [hk]; exact ⟨_, I', q⟩)
  · have hk : (k + (its.toArray.size : Int)).toNat = j := by
      rw [seqIndex_neg (by omega) h3] at h1
      rw [List.size_toArray, ← hl]
      exact Option.some.inj h1
    exact PySem.W.ki_setBack ho (by omega) (by rw [List.size_toArray, ← hl]; exact h3) (by omega) (by rw [hk]; exact ⟨_, I', q⟩)
noncomputable def tyV (K : PySem.W.Frag) (T : String) (x : V) (H : Hp) : Prop := match x with
  | .str _ => T = "str"
  | .int _ => T = "int"
  | .ref p => (T = "list" ∧ ∃ xs, SqL K H p xs) ∨ (T = "tuple" ∧ ∃ o, K.lookup p = some o ∧ o.cls = .type "tuple" ∧ o.dict = none) ∨
      (T = "dict" ∧ ((∃ kvs, H p = some (.dK kvs)) ∨ ∃ kvs, H p = some (.dT kvs))) ∨ (T = "set" ∧ ∃ S n, H p = some (.set S n))
  | _ => False
theorem tyV_is {pins : List (Addr × Obj)} {σ : St} {H : Hp} {s : Shared} {T : String} {x : V} {v : Value} (I : Inv X pins σ H s) (r : RelV x v) (ty : tyV X.K T x H) :
    s.TypeIs v T ∧ ∀ a, v = .ref a → ∃ ob, s.heap.get? a = some ob ∧ ob.dict = none := by
  cases x with
  | str z =>
    obtain ⟨t, rfl⟩ := r
    cases (show T = "str" from ty)
    exact ⟨typeIs_str s z t, fun _ e => nomatch e⟩
  | int i =>
    obtain ⟨t, rfl⟩ := r
    cases (show T = "int" from ty)
    exact ⟨typeIs_int s i t, fun _ e => nomatch e⟩
  | ref p =>
    cases r
    rcases ty with ⟨rfl, xs, hq⟩ | ⟨rfl, o, hk, hc, hd⟩ | ⟨rfl, hk⟩ | ⟨rfl, S, n, hk⟩
    · obtain ⟨its, _, pl, _⟩ := I.list hq
      refine ⟨pl.isList.typeIs, fun a e => ?_⟩
      cases e
      obtain ⟨o, n, e, c, hd, _⟩ := pl
      exact ⟨o, e, hd⟩
    · refine ⟨⟨o, I.kIn p o hk, hc⟩, fun a e => ?_⟩
      cases e
      exact ⟨o, I.kIn _ o hk, hd⟩
    · have z : ∃ o, s.heap.get? p = some o ∧ o.ExactDict := by
        rcases hk with ⟨kvs, hk⟩ | ⟨kvs, hk⟩
        · obtain ⟨_, _, _, _, o, _, _, e, ex, _⟩ := I.hok p _ hk
          exact ⟨o, e, ex⟩
        · obtain ⟨_, _, _, _, o, _, _, e, ex, _⟩ := I.hok p _ hk
          exact ⟨o, e, ex⟩
      obtain ⟨o, e, ex⟩ := z
      refine ⟨⟨o, e, ex.1⟩, fun a e2 => ?_⟩
      cases e2
      exact ⟨o, e, ex.2.1⟩
    · obtain ⟨o, _, _, _, e, ex, _⟩ := I.hok p _ hk
      refine ⟨⟨o, e, ex.1⟩, fun a e2 => ?_⟩
      cases e2
      exact ⟨o, e, ex.2.1⟩
  | _ => exact False.elim ty
noncomputable def tBM0 (K : PySem.W.Frag) (T : String) (r : V → List V → Hp → VK → Prop) (to : TE) : TE := fun σ H Q => to σ H fun x H1 => tyV K T x H1 ∧ r x [] H1 Q
noncomputable def tBM (K : PySem.W.Frag) (T : String) (r : V → List V → Hp → VK → Prop) (to : TE) (t : TA) : TE := fun σ H Q => to σ H fun x H1 => tyV K T x H1 ∧ t σ H1 fun xs H2 => r x xs H2 Q
variable {o e : Expr} {es : List Expr} {to : TE} {t : TA} {name : Str} {apos cpos : Pos} {T id : String} {r : V → List V → Hp → VK → Prop}
theorem pe_bm0 (pa : PlainAttrs T) (slot : Slot T name id) (hty : typeOf (.builtin id) = pure (.type "method_descriptor")) (hm : MtR X id r) (ho : PE X o to)
    (hbase : attributeBase o name X.env (eval o X.env) = eval o X.env := by rfl) (hline : (apos.endLine == cpos.line) = true := by rfl) : PE X (.Call (.Attribute o name apos) [] [] cpos) (tBM0 X.K T r to) := by
  intro pins s σ H Q I h
  refine wpAny_Call_method0_late hbase hline (thn (ho pins s σ H _ I h) fun v s1 ⟨x, H1, I1, r1, ty, q1⟩ => ?_)
  obtain ⟨h1, h2⟩ := tyV_is I1 r1 ty
  exact ⟨T, id, pa, slot, hty, h1, h2, Calls.callWith_builtin rfl (PySem.evalArgs_none (hm pins s1 σ H1 x [] v [] Q I1 r1 .nil q1))⟩
theorem pe_bm (pa : PlainAttrs T) (slot : Slot T name id) (hty : typeOf (.builtin id) = pure (.type "method_descriptor")) (hm : MtR X id r) (ho : PE X o to) (ha : PA X (e :: es) t)
    (hbase : attributeBase o name X.env (eval o X.env) = eval o X.env := by rfl)
    (hfew : ((backTo cpos (starEach (e :: es) X.env)).all (fun x => !x.1) && (backToKw cpos (keywordEach [] X.env)).all (fun x => x.1.isSome)
      && decide ((e :: es).length + ([] : List Keyword).length + (if ([] : List Keyword).isEmpty then 0 else 1) < 30)) = true := by rfl)
    (hline : (apos.endLine == cpos.line) = true := by rfl) (hs : starEach (e :: es) X.env = (false, eval e X.env) :: starEach es X.env := by rfl) (hplain : (backTo cpos (starEach es X.env)).any (·.1) = false := by rfl) :
    PE X (.Call (.Attribute o name apos) (e :: es) [] cpos) (tBM X.K T r to t) := by
  intro pins s σ H Q I h
  refine wpAny_Call_method_late hbase hfew hline rfl (thn (ho pins s σ H _ I h) fun v s1 ⟨x, H1, I1, r1, ty, q1⟩ => ?_)
  obtain ⟨h1, h2⟩ := tyV_is I1 r1 ty
  refine ⟨T, id, pa, slot, hty, h1, h2, ?_⟩
  have hA := ha cpos pins s1 σ H1 _ I1 q1
  rw [hs] at hA ⊢
  refine Calls.callWith_builtin (by show (false || (backTo cpos (starEach es X.env)).any (·.1)) = false; rw [hplain] <;> rfl) (Calls.evalArgs_plain ?_)
  exact thn hA fun us s2 ⟨vs, H2, I2, r2, q2⟩ => hm pins s2 σ H2 x vs v us Q I2 r1 r2 q2
end
end L2
namespace L2
open PySem PySem.Spec PyProof.Rows
noncomputable def MtM (X : Cx) (id : String) (r : V → List V → Hp → VK → Prop) : Prop :=
  ∀ (pins : List (Addr × Obj)) (s : Shared) (σ : St) (H : Hp) (x : V) (xs : List V) (v : Value) (us : List Value) (Q : VK), Inv X pins σ H s → RelV x v → Vals xs us → r x xs H Q →
    wpAny (model X.prog X.w) X.A (call (.builtin id) (v :: us)) (EP X pins σ Q) X.xe s
theorem Vals.one : ∀ {x : V} {us : List Value}, Vals [x] us → ∃ u, us = [u] ∧ RelV x u
  | _, _, .cons r .nil => ⟨_, rfl, r⟩
section
variable {X : Cx} {pins : List (Addr × Obj)} {σ : St} {H : Hp} {s : Shared} {l b : Addr} {xs ys zs : List V}
theorem Inv.lset {its its' : List Value} {n : Nat} {f : Array Value → Array Value} {t' : Nat} (I : Inv X pins σ H s) (hH : H l = some (.lst xs))
    (e : s.heap.get? l = some { cls := .type "list", data := .seq its.toArray n }) (hf : f its.toArray = its'.toArray) (hv : Vals ys its') (hz : ys.length ≤ sizeLine) :
    Inv X pins σ (upd H l (.lst ys)) { s with heap := s.heap.update l (Obj.mapSeq f), toks := t' } := by
  have q := PySem.IsL.update e f
  rw [hf] at q
  refine I.write (x := l) (e := l) (by rw [hH]; exact trivial) (.inl rfl) (fun b' u hb hu => (Heap.get?_update_other s.heap (Obj.mapSeq f) (Ne.symm hb)).trans hu) ⟨_, q⟩ ?_
  exact ⟨hz, its', _, hv, q⟩
theorem Inv.lstM (I : Inv X pins σ H s) (hH : H l = some (.lst xs)) : xs.length ≤ sizeLine ∧ ∃ (its : List Value) (n : Nat), Vals xs its ∧ xs.length = its.length ∧ s.heap.get? l = some { cls := .type "list", data := .seq its.toArray n } := by
  obtain ⟨z, its, n, r, e⟩ := I.hok l _ hH
  exact ⟨z, its, n, r, r.length, e⟩
end
section
variable {X : Cx}
noncomputable def rAppend : V → List V → Hp → VK → Prop := fun x vs H Q => ∃ l xs y, x = .ref l ∧ vs = [y] ∧ H l = some (.lst xs) ∧ xs.length < sizeLine ∧ Q .non (upd H l (.lst (xs ++ [y])))
theorem mt_append : MtM X "list.append" rAppend := by
  intro pins s σ H x vs v us Q I rx rv h
  obtain ⟨l, xs, y, rfl, rfl, hH, hz, q⟩ := h
  cases rx
  obtain ⟨u, rfl, ru⟩ := rv.one
  obtain ⟨z, its, n, r, hl, e⟩ := I.lstM hH
  refine call_meets F.slot_list_append ⟨_, e, rfl⟩ F.entry_list_append (F.args_list_append_2 _ _) (PySem.list_append l its.toArray n u (by rw [List.size_toArray]; omega)) ⟨e, ?_⟩
  refine ⟨.non, _, I.lset (its' := its ++ [u]) hH e (by simp) (r.append (.cons ru .nil)) ?_, rfl, q⟩
  rw [List.length_append, List.length_singleton]
  omega
end
section
variable {prog : Program} {w : World} {A : Around} {E : Value → Shared → Prop} {s : Shared}
end
section
variable {X : Cx}
end
end L2
namespace Att
open PySem PySem.W PySem.Calls PyProof.Rows
theorem ints_of_wellAll {P : Params} {h : Heap} : ∀ (ns : List Int) (vs : List Value), WellAll P h vs (ns.map WData.int) → IntsAre vs ns := by
  intro ns
  induction ns with
  | nil =>
    intro vs w
    rw [List.map_nil] at w
    cases w
    exact .nil
  | cons n ns ih =>
    intro vs w
    rw [List.map_cons] at w
    cases w with
    | cons a b =>
      cases a
      exact .cons _ _ (ih _ b)
theorem script_of {l : OpenLaw} {n : Nat} (hn : l.most = some n) {P : Params} {h : Heap} {args : List WData} {vals : List Value}
    (hpre : l.row.toRowW.claim.pre args = true) (hwl : WellAll P h vals args) :
    ∃ a vs ns, vals = [Value.ref a] ∧ args = [WData.list (ns.map WData.int)] ∧ h.get? a = some { cls := .type "list", data := .seq vs.toArray } ∧ IntsAre vs ns ∧ ns.length ≤ n := by
  have hsh : WShape.hasAll [] args [.list .int] = true := (pre_splitW hpre).1
  have hc : l.pre.holds [] { args := args } = true := (pre_splitW hpre).2
  obtain ⟨d, r, rfl, h1, h2⟩ := hasAllW_cons hsh
  obtain rfl := hasAllW_nil h2
  obtain ⟨xs, rfl, h3⟩ := hasW_list h1
  obtain ⟨ns, rfl⟩ := items_int h3
  have hlen : ns.length ≤ n := by
    unfold OpenLaw.pre at hc
    have h4 : (WTm.not (.lt (.lit (.int (n : Int))) (.len (.arg 0)))).holds [] { args := [.list (ns.map .int)] } = true := by
      have h4 := (holds_andW hc).1
      rw [hn] at h4
      exact h4
    have h5 := condW_of h4 (w_not (w_lt w_lit (w_len_list (w_arg rfl))))
    rw [List.length_map] at h5
    refine Nat.le_of_not_lt fun q => ?_
    have q' : (n : Int) < ((ns.length : Nat) : Int) := by omega
    first
      | (rw [decide_eq_true q'] at h5; exact absurd h5 (by decide))
      | (simp at h5; omega)
  cases hwl with
  | cons w1 w2 =>
    cases w2
    cases w1 with
    | list ho hall => exact ⟨_, _, ns, rfl, rfl, ho, ints_of_wellAll ns _ hall, hlen⟩
theorem post_true (l : OpenLaw) (args : List WData) : l.row.toRowW.claim.post args (.bool true) args = true :=
  postW_of (r := l.row.toRowW) (X := (true == true))
    (show WShape.has [] (.bool true) .bool = true by first | rfl | decide | simp [WShape.has, WShape.arms, WShape.armsAll])
    (show (WTm.eq .res (.lit (.bool true))).value [] { args := args, res := some (.bool true), after := args } = some (.bool (true == true)) from w_eq_bool (w_res rfl) w_lit) rfl
section
variable {prog : Program} {w : World} {A : Around} {E : Value → Shared → Prop} {s : Shared} {K : Frag}
end
end Att
namespace L2
open PySem PySem.Spec PyProof.Rows
theorem vals_ints : ∀ {vs : List Value} {ns : List Int}, IntsAre vs ns → Vals (ns.map V.int) vs
  | _, _, .nil => .nil
  | _, _, .cons n t h => .cons ⟨t, rfl⟩ (vals_ints h)
noncomputable def Only (H : Hp) : Prop := ∀ b, H b = none ∨ ∃ o xs, H b = some (.frz o (.lst xs))
theorem law_call {P : Program} {w : World} {K : PySem.W.Frag} {mg mb : Str → Option Value} {CX : CXT} {k : Nat} {fa a : Addr} {fd : FuncData} {x : Str} {sp : Sp} {s₁ : Shared} {vs : List Value} {ns : List Int}
    (KX : K.In s₁.heap) (hns : s₁.heap.Ns mainGlobals mg) (hb : s₁.heap.Ns builtinsNs mb) (hbb : ∀ x : Str, x ≠ "__name__" → mb x = bootBuiltins x) (hlim : s₁.heap.NoLimit) (hg : s₁.gens = #[])
    (ha : s₁.heap.get? a = some { cls := .type "list", data := .seq vs.toArray }) (hi : IntsAre vs ns) (hl : ns.length ≤ sizeLine) (hr : Room k callerA)
    (F : ∀ base : Heap, K.In base → base.Ns mainGlobals mg → FnOk P w K mg base CX k fa fd [x] sp) (hbind : ∀ (s : Shared) (u : Value), BindsTo s fd ⟨[u], []⟩ [(x, u)])
    (hsp : ∀ H : Hp, Only H → SqL K H a (ns.map V.int) → sp [.ref a] H (fun v _ => v = .bl true) fun _ _ _ => False)
    (hCX : ∀ H e s', CX [] H s₁ (fun _ _ _ => False) e s' → False) :
    codeAny (model P w) callerA (.call (.ref fa) ⟨[.ref a], []⟩) (fun r s' => r = .ok (.ret (.bool true)) ∧ OldK s₁.heap s'.heap ∧ s'.os = s₁.os ∧ AllBare s'.gens) s₁ := by
  have rv := vals_ints hi
  have lenV := hi.length
  have core : ∀ H : Hp, Only H → SqL K H a (ns.map V.int) → HOk P w H s₁.heap → (∀ b, H b ≠ none → b = a) → (H a ≠ none → K.lookup a = none) →
      codeAny (model P w) callerA (.call (.ref fa) ⟨[.ref a], []⟩) (fun r s' => r = .ok (.ret (.bool true)) ∧ OldK s₁.heap s'.heap ∧ s'.os = s₁.os ∧ AllBare s'.gens) s₁ := by
    intro H hO hS hok hA hK
    have base_of : ∀ {b : Addr} {o : Obj}, s₁.heap.get? b = some o → H b = none → (hidT s₁.heap H).get? b = some o := fun e n => hidT_get e n
    have noA : ∀ {b : Addr} {o : Obj} {es : Array DictEntry} {ep : Nat}, s₁.heap.get? b = some o → o.data = .dict es ep → H b = none := fun {b o es ep} e d => by
      cases q : H b with
      | none => rfl
      | some u =>
        have e' : b = a := hA b (by rw [q]; simp)
        subst e'
        rw [ha] at e; cases e
        have d' : Data.seq vs.toArray _ = Data.dict es ep := d
        cases d'
    have nsK : ∀ {b : Addr} {m : Str → Option Value}, s₁.heap.Ns b m → (hidT s₁.heap H).Ns b m := fun {b m} ⟨o, es, ep, e, d, r⟩ => ⟨o, es, ep, base_of e (noA e d), d, r⟩
    have hKb : K.In (hidT s₁.heap H) := fun b o e => base_of (KX b o e) (by
      cases q : H b with
      | none => rfl
      | some u =>
        have e' : b = a := hA b (by rw [q]; simp)
        subst e'
        rw [hK (by rw [q]; simp)] at e; cases e)
    have hM : Mod K mg (hidT s₁.heap H) := ⟨hKb, nsK hns, ⟨mb, nsK hb, hbb⟩, let ⟨mc, h1, h2⟩ := hlim; ⟨mc, nsK h1, h2⟩⟩
    have e0 : Env0 P w K mg (hidT s₁.heap H) callerA [] s₁ H := ⟨rfl, hM, fun b o e => of_hidT e, Nat.le_of_eq (hidT_size _ _), trivial, fun b hb => absurd (show b ∈ ([] : List Addr) from hb) (by simp), hok, .of_eq hg⟩
    refine codeAny_mono ((F _ hKb (nsK hns)).run callerA [] s₁ H ⟨[.ref a], []⟩ [.ref a] [.ref a] _ _ hr e0 (hbind s₁ (.ref a)) (.cons rfl .nil) (hsp H hO hS)) fun r s' h => ?_
    cases r with
    | error e => exact (hCX H e s' h).elim
    | ok fl =>
      cases fl with
      | next => exact False.elim h
      | brk => exact False.elim h
      | cont => exact False.elim h
      | ret u =>
        obtain ⟨v, H', os, bare, un, hok', r', q⟩ := h
        have q' : v = .bl true := q
        subst q'
        obtain rfl : u = Value.bool true := r'
        refine ⟨rfl, OldK.of_keep fun b o e => ?_, os, bare⟩
        cases q : H b with
        | none => exact un.keep b o e q (by intro z; exact absurd (show b ∈ ([] : List Addr) from z) (by simp)) (by simp)
        | some u =>
          rcases hO b with z | ⟨ob, xs, z⟩
          · rw [q] at z; cases z
          · have z2 := un.frzs b ob _ z
            obtain ⟨e1, _⟩ := hok b _ z
            obtain ⟨e2, _⟩ := hok' b _ z2
            rw [e] at e1; cases e1
            exact e2
  cases hk : K.lookup a with
  | some o =>
    have e := KX a o hk
    rw [ha] at e
    cases e
    refine core (fun _ => none) (fun _ => .inl rfl) (.inr ⟨_, vs.toArray, _, hk, rfl, rfl, rfl, by rw [List.size_toArray, lenV]; exact hl, by simpa using rv⟩) (fun b u z => by have z' : (none : Option HO) = some u := z; cases z') (fun b z => absurd rfl z) fun z => absurd rfl z
  | none =>
    refine core (fun b => if b = a then some (.frz { cls := .type "list", data := .seq vs.toArray } (.lst (ns.map V.int))) else none) (fun b => ?_) (.inl (.inr ⟨{ cls := .type "list", data := .seq vs.toArray }, if_pos rfl⟩)) (fun b u z => ?_) (fun b z => ?_) fun _ => hk
    · by_cases hb : b = a
      · exact .inr ⟨_, _, if_pos hb⟩
      · exact .inl (if_neg hb)
    · by_cases hb : b = a
      · have z' := (if_pos hb).symm.trans z
        cases z'
        subst hb
        exact ⟨ha, by rw [List.length_map]; exact hl, vs, _, rv, ha⟩
      · have z' := (if_neg hb).symm.trans z
        cases z'
    · by_cases hb : b = a
      · exact hb
      · exact absurd (if_neg hb) z
end L2
namespace L2
open PySem PySem.Spec PyProof.Rows
end L2
namespace L2
open PySem PySem.Spec PyProof.Rows
noncomputable def defArgs (s : Stmt) : Arguments := match s with
  | .FunctionDef _ a _ _ _ _ _ _ _ _ => a
  | _ => { posonlyargs := [], args := [], vararg := none, kwonlyargs := [], kw_defaults := [], kwarg := none, defaults := [] }
noncomputable def defBody (s : Stmt) : List Stmt := match s with
  | .FunctionDef _ _ b _ _ _ _ _ _ _ => b
  | _ => []
noncomputable def defScope (s : Stmt) : Scope := match s with
  | .FunctionDef _ _ _ _ _ _ sc _ _ _ => sc
  | _ => { kind := .function, names := [], isGenerator := false, isCoroutine := false }
noncomputable abbrev E0 : XK := fun _ _ _ => False
section
variable {P : Program} {w : World} {K : PySem.W.Frag} {mg : Str → Option Value} {base : Heap}
end
section
variable {X : Cx}
theorem pv (i : Nat) {x : Str} {pos : Pos} (hN : X.N[i]? = some x := by rfl) (hv : Vis X.env.scope x := by first | exact Or.inl rfl | exact Or.inr (Or.inl rfl) | exact Or.inr (Or.inr rfl)) (hd : (x == ("__debug__" : Str)) = false := by decide)
    (hcd : (x == ("__classdict__" : Str)) = false := by decide) : PE X (.Name x pos) (tVar i) := pe_var hN hv hd hcd
end
theorem iteF {A B : Prop} (h : B) : if false = true then A else B := by
  rw [if_neg Bool.false_ne_true]
  exact h
theorem iteT {A B : Prop} (h : A) : if true = true then A else B := by
  rw [if_pos rfl]
  exact h
noncomputable def Same (H H' : Hp) : Prop := ∀ b o, H b = some o → H' b = some o
theorem Same.refl (H : Hp) : Same H H := fun _ _ h => h
theorem Same.trans {H H1 H2 : Hp} (a : Same H H1) (b : Same H1 H2) : Same H H2 := fun c o h => b c o (a c o h)
theorem Same.seq {K : PySem.W.Frag} {H H' : Hp} {a : Addr} {xs : List V} (e : Same H H') (h : SqL K H a xs) : SqL K H' a xs := by
  rcases h with (h | ⟨o, h⟩) | h
  · exact .inl (.inl (e _ _ h))
  · exact .inl (.inr ⟨o, e _ _ h⟩)
  · exact .inr h
end L2
set_option maxRecDepth 100000
namespace Kw
theorem gcd_step (g s : Int) (hg : 0 ≤ g) (hs : 0 < s) : Int.gcd s (g % s) = Int.gcd g s := by
  obtain ⟨m, rfl⟩ := Int.eq_ofNat_of_zero_le hg
  obtain ⟨n, rfl⟩ := Int.eq_ofNat_of_zero_le (Int.le_of_lt hs)
  have e : ((m : Int) % (n : Int)) = ((m % n : Nat) : Int) := by omega
  rw [e]
  show Nat.gcd n (m % n) = Nat.gcd m n
  rw [Nat.gcd_comm m n, Nat.gcd_rec n m, Nat.gcd_comm]
theorem gcd_abs (a b : Int) : Int.gcd (if a < 0 then -a else a) (if b < 0 then -b else b) = Int.gcd a b := by
  have e : ∀ x : Int, (if x < 0 then -x else x).natAbs = x.natAbs := fun x => by split <;> omega
  show Nat.gcd _ _ = Nat.gcd _ _
  rw [e, e]
theorem gcd_end (g : Int) (hg : 0 ≤ g) : ((Int.gcd g 0 : Nat) : Int) = g := by
  show ((Nat.gcd g.natAbs 0 : Nat) : Int) = g
  rw [Nat.gcd_zero_right]; omega
theorem abs_nn (a : Int) : 0 ≤ (if a < 0 then -a else a) := by split <;> omega
noncomputable def dv (t b : Int) : Int := if b < 0 then -((Int.gcd t b : Nat) : Int) else ((Int.gcd t b : Nat) : Int)
noncomputable def fT (t b : Int) : Int := t.fdiv (dv t b)
noncomputable def fB (t b : Int) : Int := b.fdiv (dv t b)
theorem dv_ne {t b : Int} (h : b ≠ 0) : dv t b ≠ 0 := by
  have hp : 0 < Int.gcd t b := Int.gcd_pos_of_ne_zero_right _ h
  unfold dv; split <;> omega
theorem dv_le {t b : Int} (h : b ≠ 0) : (dv t b).natAbs ≤ b.natAbs := by
  have hd : Int.gcd t b ∣ b.natAbs := Nat.gcd_dvd_right _ _
  have := Nat.le_of_dvd (by omega) hd
  unfold dv; split <;> omega
theorem dv_dvd_b (t b : Int) : dv t b ∣ b := by
  have h : ((Int.gcd t b : Nat) : Int) ∣ b := Int.gcd_dvd_right ..
  unfold dv; split
  · exact (Int.neg_dvd).mpr h
  · exact h
theorem dv_dvd_t (t b : Int) : dv t b ∣ t := by
  have h : ((Int.gcd t b : Nat) : Int) ∣ t := Int.gcd_dvd_left ..
  unfold dv; split
  · exact (Int.neg_dvd).mpr h
  · exact h
theorem fT_mul (t b : Int) : dv t b * fT t b = t := by
  unfold fT
  exact Int.mul_fdiv_cancel' (dv_dvd_t t b)
theorem fB_mul (t b : Int) : dv t b * fB t b = b := by
  unfold fB
  exact Int.mul_fdiv_cancel' (dv_dvd_b t b)
theorem fB_pos {t b : Int} (h : b ≠ 0) : 0 < fB t b := by
  have e := fB_mul t b
  have hn := dv_ne (t := t) h
  have hg : 0 ≤ ((Int.gcd t b : Nat) : Int) := Int.natCast_nonneg _
  rcases Int.lt_or_gt_of_ne h with hb | hb
  · have hd : dv t b < 0 := by unfold dv at hn ⊢; rw [if_pos hb] at hn ⊢; omega
    refine Int.not_le.mp fun q => ?_
    have := Int.mul_nonneg_of_nonpos_of_nonpos (Int.le_of_lt hd) q
    omega
  · have hd : 0 < dv t b := by unfold dv at hn ⊢; rw [if_neg (by omega)] at hn ⊢; omega
    refine Int.not_le.mp fun q => ?_
    have := Int.mul_nonpos_of_nonneg_of_nonpos (Int.le_of_lt hd) q
    omega
theorem natAbs_le_mul {d x : Int} (h : d ≠ 0) : x.natAbs ≤ (d * x).natAbs := by
  rw [Int.natAbs_mul]
  exact Nat.le_mul_of_pos_left _ (by omega)
theorem fT_le {t b : Int} (h : b ≠ 0) : (fT t b).natAbs ≤ t.natAbs := by
  have q := natAbs_le_mul (x := fT t b) (dv_ne (t := t) h)
  rw [fT_mul] at q; exact q
theorem fB_le {t b : Int} (h : b ≠ 0) : (fB t b).natAbs ≤ b.natAbs := by
  have q := natAbs_le_mul (x := fB t b) (dv_ne (t := t) h)
  rw [fB_mul] at q; exact q
end Kw
set_option Elab.async false
set_option linter.all false
set_option maxRecDepth 100000
set_option maxHeartbeats 4000000
namespace Kw
open PySem PySem.Spec PyProof.Rows L2
noncomputable def But (b : Addr) (H H' : Hp) : Prop := ∀ a o, a ≠ b → H a = some o → H' a = some o
theorem But.refl {b : Addr} (H : Hp) : But b H H := fun _ _ _ h => h
theorem But.trans {b : Addr} {H H1 H2 : Hp} (x : But b H H1) (y : But b H1 H2) : But b H H2 := fun a o n h => y a o n (x a o n h)
theorem But.of {b : Addr} {H H' : Hp} (x : Same H H') : But b H H' := fun a o _ h => x a o h
theorem same_new {H : Hp} {p : Addr} (h : H p = none) (o : HO) : Same H (upd H p o) := fun b u q => by rw [upd_ne (ne_of_none q h)]; exact q
theorem but_upd {H : Hp} {p : Addr} (o : HO) : But p H (upd H p o) := fun b u n q => by rw [upd_ne n]; exact q
theorem Same.tup {K : PySem.W.Frag} {H H' : Hp} {a : Addr} {xs : List V} (e : Same H H') (h : SqT K H a xs) : SqT K H' a xs := by
  rcases h with (h | ⟨o, h⟩) | h
  · exact .inl (.inl (e _ _ h))
  · exact .inl (.inr ⟨o, e _ _ h⟩)
  · exact .inr h
theorem But.tup {K : PySem.W.Frag} {H H' : Hp} {b a : Addr} {ys xs : List V} (e : But b H H') (hb : H b = some (.lst ys)) (h : SqT K H a xs) : SqT K H' a xs := by
  rcases h with (h | ⟨o, h⟩) | h
  · exact .inl (.inl (e _ _ (ne_of h hb (by intro z; cases z)) h))
  · exact .inl (.inr ⟨o, e _ _ (ne_of h hb (by intro z; cases z)) h⟩)
  · exact .inr h
theorem But.seq {K : PySem.W.Frag} {H H' : Hp} {b a : Addr} {xs : List V} (e : But b H H') (n : a ≠ b) (h : SqL K H a xs) : SqL K H' a xs := by
  rcases h with (h | ⟨o, h⟩) | h
  · exact .inl (.inl (e _ _ n h))
  · exact .inl (.inr ⟨o, e _ _ n h⟩)
  · exact .inr h
section
variable {σ : L2.St} {H : Hp} {Q : VK} {v : V} {i j : Int} {K : PySem.W.Frag} {p : Addr} {xs : List V}
theorem rd_new {R : V → Hp → Prop} {o : HO} (h : ∀ p H', Same H H' → H' p = some o → R (.ref p) H') : ∀ p, H p = none → R (.ref p) (upd H p o) := fun p hp => h p _ (same_new hp o) upd_same
end
theorem if_cases {c : Bool} {A B : Prop} (h1 : c = true → A) (h2 : c = false → B) : if c = true then A else B := by
  cases c
  · exact iteF (h2 rfl)
  · exact iteT (h1 rfl)
theorem if_dec {c : Prop} [Decidable c] {A B : Prop} (h1 : c → A) (h2 : ¬ c → B) : if decide c = true then A else B :=
  if_cases (fun e => h1 (of_decide_eq_true e)) (fun e => h2 (of_decide_eq_false e))
theorem if_decI {i j : Int} {A B : Prop} (h1 : i = j → A) (h2 : i ≠ j → B) : if decide (V.int i = V.int j) = true then A else B :=
  if_dec (fun e => h1 (V.int.inj e)) (fun e => h2 fun z => e (congrArg V.int z))
theorem if_neI {i j : Int} {A B : Prop} (h1 : i ≠ j → A) (h2 : i = j → B) : if (!decide (V.int i = V.int j)) = true then A else B := by
  by_cases e : i = j
  · rw [show decide (V.int i = V.int j) = true by simp [e]]; exact iteF (h2 e)
  · rw [show decide (V.int i = V.int j) = false by simp [e]]; exact iteT (h1 e)
section
variable {X : Cx} {a b c : Expr} {ta tb tc : TE} {pos : Pos}
noncomputable def CDivB (_ j : Int) : Prop := j ≠ 0 ∧ j.natAbs.log2 < 9000
theorem op_fdivB : OpR X (binaryOp .FloorDiv) (rI CDivB fun i j => .int (i.fdiv j)) := opI fun _ _ _ _ _ _ _ hc q => floordiv_int hc.1 q (.inl (PyProof.noPylong_of_log2 hc.2))
theorem op_mulB : OpR X (binaryOp .Mult) (rI IntMulOk fun i j => .int (i * j)) := opI fun _ _ _ _ _ _ _ hc q => mul_int q hc
theorem call_divmodB : CallR X (.builtin "divmod") (fun xs H Q => ∃ i j, xs = [.int i, .int j] ∧ (0 < j ∧ j.natAbs.log2 < 9000) ∧ ∀ p, H p = none → Q (.ref p) (upd H p (.tup [.int (i / j), .int (i % j)]))) := by
  intro pins s σ H xs us Q I r h
  obtain ⟨i, j, rfl, ⟨h1, h2⟩, q⟩ := h
  obtain ⟨u, w', rfl, ⟨t, rfl⟩, ⟨t', rfl⟩⟩ := vals2 r
  refine divmod_int (by omega) ?_ (.inl (PyProof.noPylong_of_log2 h2))
  rw [Int.fdiv_eq_ediv_of_nonneg i (by omega), Int.fmod_eq_emod_of_nonneg i (by omega)]
  have hn : H s.heap.objs.size = none := I.hok.fresh (Nat.le_refl _)
  refine ⟨.ref s.heap.objs.size, _, ?_, rfl, q _ hn⟩
  refine I.laid (fun b o e => Heap.get?_push_of_some _ e) (Nat.le_refl _) ⟨by simp only [List.length_cons, List.length_nil]; rw [sizeLine_eq]; decide, [.int (i / j) s.toks, .int (i % j) (s.toks + 1)], .cons ⟨_, rfl⟩ (.cons ⟨_, rfl⟩ .nil), ?_⟩
  exact ⟨_, Heap.get?_push_size s.heap rfl, rfl, 0, rfl⟩
theorem pe_globI {x : Str} {i : Int} {pos : Pos} (hg : Gl X x) (hm : ∃ t, X.mg x = some (.int i t)) (hd : (x == ("__debug__" : Str)) = false := by decide) (hcd : (x == ("__classdict__" : Str)) = false := by decide) : PE X (.Name x pos) (tC (.int i)) := by
  obtain ⟨t, hm⟩ := hm
  exact pe_glob hg hm ⟨t, rfl⟩ hd
theorem pe_bty {x : Str} {T : String} {pos : Pos} (hg : Gl X x) (hm : X.mg x = none) (hv : bootBuiltins x = some (.type T)) (hn : x ≠ "__name__" := by decide) (hd : (x == ("__debug__" : Str)) = false := by decide) : PE X (.Name x pos) (tC (.ty T)) :=
  pe_bltn hg hm hv (v := .ty T) rfl hn hd
noncomputable def valC : V → Value
  | .ty T => .type T
  | .ref C => .ref C
  | _ => .none
noncomputable def IsI (K : PySem.W.Frag) (H : Hp) (x c : V) (b : Bool) : Prop := ∃ t, TyOf K H x t ∧ PySem.W.kitOne K t (valC c) = some b
theorem call_isinst : CallR X (.builtin "isinstance") (fun xs H Q => ∃ x c b, xs = [x, c] ∧ ((∃ T, c = .ty T) ∨ ∃ C, c = .ref C) ∧ IsI X.K H x c b ∧ Q (.bl b) H) := by
  intro pins s σ H xs us Q I r h
  obtain ⟨x, c, b, rfl, hc, ⟨t, ty, e⟩, q⟩ := h
  obtain ⟨u, w', rfl, rx, rc⟩ := vals2 r
  have ec : w' = valC c := by
    rcases hc with ⟨T, rfl⟩ | ⟨C, rfl⟩
    · exact rc
    · exact rc
  subst ec
  exact isinst_ok I rx ty e fun tk => ⟨.bl b, H, I.tok _, rfl, q⟩
end
end Kw
set_option Elab.async false
set_option linter.all false
set_option maxRecDepth 100000
set_option maxHeartbeats 4000000
namespace Kw
open PySem PySem.Spec PyProof.Rows L2
section
variable {M : Model} {A : Around} {E : Value → Shared → Prop} {s : Shared} {bs : Heap} {l up : List Env} {env : Env} {x L : Addr} {c : Value} {od : Option Addr} {a0 fl : Value} {Q : Unit → Shared → Prop}
end
end Kw
set_option Elab.async false
set_option linter.all false
set_option maxRecDepth 100000
set_option maxHeartbeats 4000000
namespace Kw
open PySem PySem.Spec PyProof.Rows L2
structure FlyAt (H : Hp) (h0 h : Heap) (x : Addr) (C : Value) (od : Option Addr) : Prop where
  new : h0.get? x = none
  free : H x = none
  tr : ∃ oe vs a0 T oT ts, h.get? x = some oe ∧ oe.cls = C ∧ oe.dict = od ∧ oe.data = .fields vs ∧ vs[0]? = some a0 ∧ vs[1]? = some (.ref T) ∧ h0.get? T = none ∧ H T = none ∧ T ≠ x ∧ h.get? T = some oT ∧ oT.data = .fields ts ∧ ts[3]? = some .none
noncomputable def CXE (P : Program) (w : World) : CXT := fun outer H s E e s' =>
  ∃ (x : Addr) (C : Value) (od : Option Addr) (H' : Hp), e = .ref x ∧ s'.os = s.os ∧ AllBare s'.gens ∧ Un (frs outer) [] H H' s.heap s'.heap ∧ HOk P w H' s'.heap ∧ FlyAt H' s.heap s'.heap x C od ∧ E C od H'
theorem passE0 {P : Program} {w : World} {X : Cx} : Passes (CXE P w) X E0 := fun _ _ _ _ _ _ _ h => by
  obtain ⟨_, _, _, _, _, _, _, _, _, _, q⟩ := h
  exact q.elim
section
variable {X : Cx} {pins : List (Addr × Obj)} {σ : L2.St} {H : Hp} {s : Shared} {h' : Heap} {ch : List Addr}
structure Flown (X : Cx) (H : Hp) (h h' : Heap) (ch : List Addr) : Prop where
  keep : ∀ b o, h.get? b = some o → b ∉ frs X.stack → b ∉ ch → h'.get? b = some o
  slot : ∀ b o, h.get? b = some o → b ∈ frs X.stack → ∃ sl, h'.get? b = some { o with slots := sl }
  young : ∀ b ∈ ch, X.s₀.heap.get? b = none ∧ H b = none
end
end Kw
set_option Elab.async false
set_option linter.all false
set_option maxRecDepth 100000
set_option maxHeartbeats 4000000
namespace Kw
open PySem PySem.Spec PyProof.Rows L2
section
variable {X : Cx} {x : Str} {C : Addr} {E : XK} {e : Expr} {es : List Expr} {t : TA} {np cpos pos : Pos}
end
structure Fu (K : PySem.W.Frag) (x : Str) (st : Stmt) (f : Addr) (fd : FuncData) : Prop where
  ex : ∃ (oc : Value) (od : Option Addr) (dV kV doc pm : Value) (an : Option Addr) (cdv ct : Value) (osl : Array (Option Value)),
    fd = PySem.W.fnOf x x (defArgs st) (defBody st) (defScope st) dV kV doc pm an cdv ct ∧ K.lookup f = some ⟨oc, od, .func fd, osl⟩ ∧ PySem.W.codeIn K cdv x = true
  kp : PySem.W.keepIn K (.ref f) = true
structure Df (K : PySem.W.Frag) (mg : Str → Option Value) (x : Str) (st : Stmt) (ps : List Str) : Prop where
  ex : ∃ f fd, Fu K x st f fd ∧ Binds K fd ps [] ∧ mg x = some (.ref f)
structure Fn (P : Program) (w : World) (K : PySem.W.Frag) (mg : Str → Option Value) (base : Heap) (k : Nat) (x : Str) (ps : List Str) (sp : Sp) : Prop where
  ex : ∃ f fd, FnOk P w K mg base (CXE P w) k f fd ps sp ∧ mg x = some (.ref f) ∧ PySem.W.keepIn K (.ref f) = true ∧ Binds K fd ps [] ∧ ∃ oc od osl, K.lookup f = some ⟨oc, od, .func fd, osl⟩
section
variable {P : Program} {w : World} {K : PySem.W.Frag} {mg : Str → Option Value} {base : Heap} {x : Str} {st : Stmt} {N ps : List Str} {k : Nat} {sp : Sp}
theorem Df.ok0 (D : Df K mg x st ps) (S : FnScope N ps (defScope st)) (len : ∀ vs H Q E, sp vs H Q E → vs.length = ps.length)
    (hbody : ∀ (f : Addr) (cdv : Value) (A : Around) (outer : List Env) (s : Shared) (H : Hp) (vs : List V) (Q : VK) (E : XK), Room k (A.deeper (envOfC x (defScope st) s.heap.objs.size f cdv)) → sp vs H Q E →
      ∃ t, PSs (cxOf (CXE P w) P w K mg base N x (defScope st) f cdv A outer s H E).nox (defBody st) t ∧ t { nx := fun _ H' => Q .non H', rt := Q } (start N vs) H) : Fn P w K mg base (k + 1) x ps sp := by
  obtain ⟨f, fd, ⟨⟨oc, od, dV, kV, doc, pm, an, cdv, ct, osl, rfl, lk, hcd⟩, kp⟩, bd, hm⟩ := D.ex
  refine ⟨f, _, fn_of lk hcd S len fun A outer s H vs Q E hr hsp => ?_, hm, kp, bd, _, _, _, lk⟩
  obtain ⟨t, h, q⟩ := hbody f cdv A outer s H vs Q E hr hsp
  exact ⟨t, h.nox, q⟩
end
section
variable {X : Cx} {k k' : Nat} {x : Str} {ps : List Str} {sp : Sp} {E : XK} {p pos : Pos} {e : Expr} {es : List Expr} {t : TA}
theorem pe_fn (F : Fn X.prog X.w X.K X.mg X.base k x ps sp) (hk : k ≤ k') (hr : Room k' X.A) (hg : Gl X x) (hx : Passes (CXE X.prog X.w) X E) (ha : PA X (e :: es) t) (hdb : (x == ("__debug__" : Str)) = false := by decide)
    (he : starEach (e :: es) X.env = (false, eval e X.env) :: starEach es X.env := by rfl) (hpl : (backTo pos (starEach es X.env)).any (·.1) = false := by rfl) : PE X (.Call (.Name x p) (e :: es) [] pos) (tCall sp [] E t) := by
  obtain ⟨f, fd, G, hm, kp, bd, _⟩ := F.ex
  exact pe_call G (hr.mono hk) hg hm kp bd .nil hx ha hdb he hpl
end
end Kw
set_option Elab.async false
set_option linter.all false
set_option maxRecDepth 100000
set_option maxHeartbeats 4000000
namespace Kw
open PySem PySem.Spec PyProof.Rows L2
noncomputable def Bd (n : Nat) (i : Int) : Prop := i.natAbs < 2 ^ n
theorem Bd.mono {m n : Nat} {i : Int} (h : Bd m i) (l : m ≤ n) : Bd n i := Nat.lt_of_lt_of_le h (Nat.pow_le_pow_right (by decide) l)
theorem Bd.of_le {n : Nat} {i j : Int} (h : Bd n j) (l : i.natAbs ≤ j.natAbs) : Bd n i := Nat.lt_of_le_of_lt l h
theorem Bd.bits {n : Nat} {i : Int} (h : Bd n i) : Builtin.Int.intBits i ≤ n := intBits_le_iff.mpr h
theorem bd_bits {n : Nat} {i : Int} (h : Builtin.Int.intBits i ≤ n) : Bd n i := intBits_le_iff.mp h
theorem Bd.mul {m n : Nat} {i j : Int} (h : Bd m i) (g : Bd n j) : Bd (m + n) (i * j) := bd_bits (intBits_mul_le h.bits g.bits)
theorem Bd.add {m : Nat} {i j : Int} (h : Bd m i) (g : Bd m j) : Bd (m + 1) (i + j) := bd_bits (Nat.le_trans (intBits_add_le h.bits g.bits) (by omega))
theorem Bd.sub {m : Nat} {i j : Int} (h : Bd m i) (g : Bd m j) : Bd (m + 1) (i - j) := bd_bits (Nat.le_trans (intBits_sub_le h.bits g.bits) (by omega))
theorem Bd.ok {m n : Nat} {i j : Int} (h : Bd m i) (g : Bd n j) (l : m + n ≤ 134217728) : IntMulOk i j := .of_le h.bits g.bits l
theorem Bd.small {i : Int} (h1 : -(2 ^ 64) < i) (h2 : i < 2 ^ 64) : Bd 64 i := bd_bits (intBits_le_64 h1 h2)
theorem Bd.log {i : Int} (h : Bd 9000 i) : i.natAbs.log2 < 9000 := by
  by_cases h0 : i.natAbs = 0
  · rw [h0]; decide +kernel
  · exact (Nat.log2_lt h0).mpr h
theorem mulOk_small {i j : Int} (h1 : -(2 ^ 64) < j) (h2 : j < 2 ^ 64) : IntMulOk i j := .of_right (intBits_le_64 h1 h2)
theorem mulOk_smallL {i j : Int} (h1 : -(2 ^ 64) < i) (h2 : i < 2 ^ 64) : IntMulOk i j := .of_left (intBits_le_64 h1 h2)
theorem bd_fT {n : Nat} {t b : Int} (h : b ≠ 0) (g : Bd n t) : Bd n (fT t b) := g.of_le (fT_le h)
theorem bd_fB {n : Nat} {t b : Int} (h : b ≠ 0) (g : Bd n b) : Bd n (fB t b) := g.of_le (fB_le h)
theorem bd_dv {n : Nat} {t b : Int} (h : b ≠ 0) (g : Bd n b) : Bd n (dv t b) := g.of_le (dv_le h)
section
variable {K : PySem.W.Frag}
theorem kit_int_int : PySem.W.kitOne K (.type "int") (.type "int") = some true := by with_unfolding_all rfl
theorem kit_int_bool : PySem.W.kitOne K (.type "int") (.type "bool") = some false := by with_unfolding_all rfl
end
noncomputable def spWhole (K : PySem.W.Frag) : Sp := fun vs H Q _ => ∃ x t b1 b2, vs = [x] ∧ TyOf K H x t ∧ PySem.W.kitOne K t (.type "int") = some b1 ∧ PySem.W.kitOne K t (.type "bool") = some b2 ∧ Q (.bl (b1 && !b2)) H
noncomputable def Frac (t b : Int) (H : Hp) (Q : VK) : Prop := ∀ p H', Same H H' → H' p = some (.tup [.int (fT t b), .int (fB t b)]) → Q (.ref p) H'
noncomputable def Scr (K : PySem.W.Frag) (H : Hp) (a : Addr) : Prop := ∃ ns : List Int, SqL K H a (ns.map V.int) ∧ ns.length ≤ 63 ∧ ∀ n ∈ ns, Bd 1048576 n
noncomputable def spCell (K : PySem.W.Frag) : Sp := fun vs H Q _ => ∃ a k, vs = [.ref a, .int k] ∧ Scr K H a ∧ 0 ≤ k ∧ k ≤ 1000 ∧ ∀ c, Bd 1048576 c → Q (.int c) H
noncomputable def spMix : Sp := fun vs H Q _ => ∃ c k, vs = [.int c, .int k] ∧ Bd 1048576 c ∧ 0 ≤ k ∧ k ≤ 1000 ∧ ∀ n, Q (.int n) H
noncomputable def spBox (K : PySem.W.Frag) : Sp := fun vs H Q _ => ∃ a k, vs = [.ref a, .int k] ∧ Scr K H a ∧ 0 ≤ k ∧ k ≤ 1000 ∧ ∀ p n H', H p = none → Same H H' → H' p = some (.lst [.int n]) → Q (.ref p) H'
noncomputable def spTake : Sp := fun vs H Q _ => ∃ b m n, vs = [.ref b, .int m] ∧ H b = some (.lst [.int n]) ∧ 0 < m ∧ Bd 9000 m ∧ ∀ d n' H', 0 ≤ d → d < m → But b H H' → H' b = some (.lst [.int n']) → Q (.int d) H'
noncomputable def spFit : Sp := fun vs H Q _ => ∃ a b : Int, vs = [.int a, .int b] ∧ b ≠ 0 ∧ Bd 9000 b ∧ Frac a b H Q
end Kw
set_option Elab.async false
set_option linter.all false
set_option maxRecDepth 100000
set_option maxHeartbeats 4000000
namespace Kw
open PySem PySem.Spec PyProof.Rows L2
section
variable {X : Cx} {pins : List (Addr × Obj)} {σ : L2.St} {H : Hp} {s : Shared} {h' : Heap} {ch : List Addr} {x : Addr}
theorem Inv.adopt (hcl : ∀ y c, X.env.cells.lookup y = some c → c ≠ x)   {o : HO} (I : Inv X pins σ H s) (n0 : X.s₀.heap.get? x = none) (hx : H x = none) (hL : x ≠ X.env.locals) (np : ∀ p ∈ X.pn ++ pins, p.1 ≠ x) (ok : ObjOk X.prog X.w (upd H x o) s.heap x o) :
    Inv X pins σ (upd H x o) s := by
  have nx : ∀ b, H b ≠ none → b ≠ x := fun b hb z => hb (by rw [z]; exact hx)
  refine ⟨I.ok, I.os, I.bare, ⟨I.base.keep, I.base.slot, fun b ob q n hb => ?_, I.base.there, fun b xs q => ?_, fun b ob u q => ?_, fun b ps q => ?_⟩, I.loc, I.cell, ?_, fun y c z => ?_, fun p hp => ?_, fun a u e => ?_, I.len⟩
  · rw [upd_ne fun z => by rw [z, n0] at q; cases q]
    exact I.base.free b ob q n hb
  · have z := I.base.tups b xs q
    rw [upd_ne (nx b (by rw [z]; exact fun q => nomatch q))]
    exact z
  · have z := I.base.frzs b ob u q
    rw [upd_ne (nx b (by rw [z]; exact fun q => nomatch q))]
    exact z
  · obtain ⟨more, z⟩ := I.base.tbls b ps q
    exact ⟨more, by rw [upd_ne (nx b (by rw [z]; exact fun q => nomatch q))]; exact z⟩
  · rw [upd_ne (Ne.symm hL)]
    exact I.free
  · rw [upd_ne (hcl y c z)]
    exact I.freeC y c z
  · obtain ⟨a, b, c, d, e⟩ := I.pin p hp
    exact ⟨a, by rw [upd_ne (np p hp)]; exact b, c, d, e⟩
  · by_cases z : a = x
    · subst z
      rw [upd_same] at e
      cases e
      exact ok
    · rw [upd_ne z] at e
      refine (I.hok a u e).stay (fun b v hb q => q) (fun b q => ?_) fun b xs q => ?_
      · rw [upd_ne (nx b (by rw [q]; exact fun q => nomatch q))]
        exact q
      · rw [upd_ne (nx b (by rw [q]; exact fun q => nomatch q))]
        exact q
end
end Kw
set_option Elab.async false
set_option linter.all false
set_option maxRecDepth 100000
set_option maxHeartbeats 4000000
namespace Kw
open PySem PySem.Spec PyProof.Rows L2
section
variable {X : Cx} {pins : List (Addr × Obj)} {σ : L2.St} {H : Hp} {s : Shared}
end
section
variable {X : Cx} {k k' i j : Nat} {fx y n xK : Str} {ps : List Str} {sp : Sp} {CK : Addr} {e : Expr} {es : List Expr} {t : TA} {ts : TS} {b₀ : Stmt} {suite : List Stmt} {np cpos yp apos kp hpos pos : Pos}
end
end Kw
set_option Elab.async false
set_option linter.all false
set_option maxRecDepth 100000
set_option maxHeartbeats 4000000
namespace Kw
open PySem PySem.Spec PyProof.Rows L2
section
variable {X : Cx}
end
end Kw
set_option Elab.async false
set_option linter.all false
set_option maxRecDepth 100000
set_option maxHeartbeats 4000000
namespace Kw
open PySem PySem.Spec PyProof.Rows L2
section
variable {X : Cx} {pins : List (Addr × Obj)} {σ : L2.St} {H : Hp} {s : Shared} {h' : Heap} {ch : List Addr}
theorem Inv.turnedL {t' : Nat} (I : Inv X pins σ H s) (k : ∀ b o, b ∉ ch → s.heap.get? b = some o → h'.get? b = some o) (hf : ∀ b ∈ ch, FpOk X pins H b) : Inv X pins σ H { s with heap := h', toks := t' } := by
  have nit : ∀ b u, H b = some u → b ∉ ch := fun b u e z => by rw [(hf b z).1] at e; cases e
  refine I.step (g' := s.gens) (d' := s.drawn) (ch := ch) (fun b hb => ?_) (fun b o _ _ hc e _ => k b o hc e) (fun b o _ _ hc e _ => ⟨o.slots, k b o hc e⟩) (fun _ _ _ _ n => n) (fun b o hc e => ⟨o, k b o hc e⟩) (fun _ _ e => e) (fun _ _ _ e => e)
    (fun b ps e => ⟨#[], by rw [e]; simp⟩) (fun m hm => ?_) (fun b u e => ?_) I.bare
  · obtain ⟨_, f1, _, f3, f4, f5⟩ := hf b hb
    exact ⟨f3, f1, f4, f5⟩
  · obtain ⟨o, es, ep, ho, r⟩ := hm
    exact ⟨o, es, ep, k _ o (fun z => (hf _ z).2.1 rfl) ho, r⟩
  · refine (I.hok b u e).stay (fun c v hc q => k c v ?_ q) (fun _ q => q) fun _ _ q => q
    rcases hc with z | z
    · rw [z]; exact nit b u e
    · exact nit c _ z
end
end Kw
set_option Elab.async false
set_option linter.all false
set_option maxRecDepth 100000
set_option maxHeartbeats 4000000
namespace Kw
open PySem PySem.Spec PyProof.Rows L2
section
variable {X : Cx}
theorem all_range_eq : ∀ (ns ms : List Int), ((List.range (min ns.length ms.length)).all (fun j => decide (ns[j]? = ms[j]?)) && ns.length == ms.length) = decide (ns = ms) := by
  intro ns ms
  by_cases e : ns = ms
  · subst e
    rw [decide_eq_true rfl, Bool.and_eq_true]
    exact ⟨List.all_eq_true.mpr fun j _ => decide_eq_true rfl, beq_self_eq_true _⟩
  · rw [decide_eq_false e, Bool.and_eq_false_iff]
    by_cases l : ns.length = ms.length
    · left
      refine Bool.eq_false_iff.mpr fun h => e (List.ext_getElem? fun i => ?_)
      by_cases hi : i < ns.length
      · exact of_decide_eq_true (List.all_eq_true.mp h i (List.mem_range.mpr (by omega)))
      · rw [List.getElem?_eq_none (by omega), List.getElem?_eq_none (by omega)]
    · right
      exact beq_eq_false_iff_ne.mpr l
theorem int_item {ns : List Int} {its : List Value} (r : Vals (ns.map V.int) its) {j : Nat} (h : j < its.toArray.size) : ∃ n t, ns[j]? = some n ∧ its.toArray[j] = Value.int n t := by
  have hl := r.length
  rw [List.length_map] at hl
  have hj : j < ns.length := by simp at h; omega
  have e : (ns.map V.int)[j]? = some (V.int ns[j]) := by rw [List.getElem?_map, List.getElem?_eq_getElem hj]; rfl
  obtain ⟨u, hu, t, rfl⟩ := r.get e
  refine ⟨ns[j], t, List.getElem?_eq_getElem hj, ?_⟩
  have hj' : j < its.length := by omega
  rw [List.getElem?_eq_getElem hj'] at hu
  simpa using Option.some.inj hu
theorem op_eqTI (hu : X.A.units < cLine) : OpR X (compareOp .Eq) (fun x y H Q => ∃ (a b : Addr) (ns ms : List Int), x = .ref a ∧ y = .ref b ∧ SqT X.K H a (ns.map V.int) ∧ SqT X.K H b (ms.map V.int) ∧ Q (.bl (decide (ns = ms))) H) := by
  intro pins s σ H x y v u Q I rx ry h
  obtain ⟨a, b, ns, ms, rfl, rfl, ha, hb, q⟩ := h
  cases (show v = Value.ref a from rx)
  cases (show u = Value.ref b from ry)
  obtain ⟨its, r, pl, hz⟩ := I.tuple ha
  obtain ⟨jts, r', pl', hz'⟩ := I.tuple hb
  refine SeqAt.eq_tupleAt (e := fun j => decide (ns[j]? = ms[j]?)) pl pl' hu (fun j h1 h2 => ?_) ?_
  · obtain ⟨n, t, e1, e2⟩ := int_item r h1
    obtain ⟨m, t', e3, e4⟩ := int_item r' h2
    rw [e2, e4, e1, e3]
    have z : decide (some n = some m) = (n == m) := by
      by_cases c : n = m
      · subst c; simp
      · simp [c]
    rw [z]
    exact SeqAt.EqAt.int_int n t m t'
  · have l1 : its.toArray.size = ns.length := by rw [List.size_toArray, ← r.length, List.length_map]
    have l2 : jts.toArray.size = ms.length := by rw [List.size_toArray, ← r'.length, List.length_map]
    rw [l1, l2, all_range_eq]
    exact ⟨.bl (decide (ns = ms)), H, I, rfl, q⟩
end
end Kw
set_option Elab.async false
set_option linter.all false
set_option maxRecDepth 100000
set_option maxHeartbeats 4000000
namespace Kw
open PySem PySem.Spec PyProof.Rows L2
theorem weight_items : ∀ (ns : List Int) (n : Int), n ∈ ns → Builtin.Int.intBits n ≤ PySem.W.WData.weightAll (ns.map PySem.W.WData.int)
  | [], _, h => nomatch h
  | m :: r, n, h => by
    have e : PySem.W.WData.weightAll ((m :: r).map PySem.W.WData.int) = Builtin.Int.intBits m + 1 + PySem.W.WData.weightAll (r.map PySem.W.WData.int) := rfl
    rw [e]
    rcases List.mem_cons.mp h with z | z
    · subst z; omega
    · have := weight_items r n z
      omega
theorem script_bits {ns : List Int} (h : PySem.W.WData.layableAll [PySem.W.WData.list (ns.map PySem.W.WData.int)] = true) : ∀ n ∈ ns, Bd 1048576 n := fun n hn => by
  have h1 : PySem.W.WData.layable (PySem.W.WData.list (ns.map PySem.W.WData.int)) = true := by
    unfold PySem.W.WData.layableAll at h
    simpa using h
  unfold PySem.W.WData.layable at h1
  rw [Bool.and_eq_true] at h1
  have h2 : PySem.W.WData.weightAll (ns.map PySem.W.WData.int) ≤ 2 ^ 20 := of_decide_eq_true h1.2
  exact bd_bits (Nat.le_trans (weight_items ns n hn) h2)
noncomputable def spLaw (K : PySem.W.Frag) : Sp := fun vs H Q _ => ∃ a, vs = [.ref a] ∧ Scr K H a ∧ ∀ H', Q (.bl true) H'
theorem walk_kw {pn : Str} {l : PySem.W.OpenLaw} {k : Nat} {q : Program} {loose : List Str} {XP : (Str → Option Value) → Heap → Prop} {YP : World → Heap → Prop} {d : DefRec} {K : Params → PySem.W.Frag}
    (hn : l.most = some 63) (hdf : d.params.defaults = []) (hr : Room k callerA) (hY : ∀ (w : World) (h : Heap), YP w h → (K w.params).In h) (hnm : d.name = "law")
    (F : ∀ (w : World) (mg : Str → Option Value) (h : Heap), (K w.params).In h → h.Ns mainGlobals mg → ∃ fa, mg "law" = some (.ref fa) ∧ ∃ fd : FuncData, (∀ (s : Shared) (u : Value), BindsTo s fd ⟨[u], []⟩ [(pn, u)]) ∧
      ∀ base : Heap, (K w.params).In base → base.Ns mainGlobals mg → FnOk l.prog w (K w.params) mg base (CXE l.prog w) k fa fd [pn] (spLaw (K w.params))) :
    PySem.W.WalkO q loose XP YP l.row.toRowW d [] (fun f vs => PySem.call f vs) := by
  intro w s₀ s₁ mg mb G Y fa o pm cd doc dV kV ho hd hcd hD hmg hg args vals as hpre hlay hrd hwl hlo
  obtain ⟨a, vs, ns, e1, e2, hobj, hints, hlen⟩ := Att.script_of hn hpre hwl
  subst e1 e2
  have KX := hY w _ Y
  obtain ⟨fa', hfa, fd, hb, hF⟩ := F w mg _ KX G.T.g
  rw [hnm, hfa] at hmg
  cases hmg
  have core := law_call KX G.T.g G.T.b G.T.builtins G.T.nolimit hg hobj hints (Nat.le_trans hlen (by decide)) hr hF hb (fun H hO hS => ⟨a, rfl, ⟨ns, hS, hlen, script_bits hlay⟩, fun _ => rfl⟩) (fun H e s' z => by
    obtain ⟨_, _, _, _, _, _, _, _, _, _, z⟩ := z
    exact z)
  refine PySem.W.enter_call (codeAny_mono core fun r s' hq => ?_)
  obtain ⟨rfl, h2, h3, h4⟩ := hq
  exact ⟨.inl ⟨.bool true, .bool true, [], rfl, fun _ => rfl, .bool true, Att.post_true l _, fun _ => ⟨List.Pairwise.nil, fun _ hm => (nomatch hm)⟩⟩, h2, h3, h4⟩
theorem df_mk {K : PySem.W.Frag} {h : Heap} {mg : Str → Option Value} {x : Str} {st : Stmt} {ps : List Str} {f : Addr} {od an : Option Addr} {sl : Array (Option Value)} {oc kV dc pm cd ct : Value} (X : K.In h) (G : h.Ns mainGlobals mg)
    (a : PySem.W.nsIn K mainGlobals x = some (some (.ref f))) (l : K.lookup f = some ⟨oc, od, .func (PySem.W.fnOf x x (defArgs st) (defBody st) (defScope st) .none kV dc pm an cd ct), sl⟩) (c : PySem.W.codeIn K cd x = true) (k : PySem.W.keepIn K (.ref f) = true)
    (b : ∀ us : List Value, us.length = ps.length → bindArgs (PySem.W.fnOf x x (defArgs st) (defBody st) (defScope st) .none kV dc pm an cd ct) ⟨us, []⟩ = pure (ps.zip us)) : Df K mg x st ps :=
  ⟨f, _, ⟨⟨oc, od, .none, kV, dc, pm, an, cd, ct, sl, rfl, l, c⟩, k⟩, .all b, PySem.W.mg_of X G a⟩
theorem law_end {pn : Str} {P : Program} {w : World} {K : PySem.W.Frag} {h : Heap} {mg : Str → Option Value} {st : Stmt} {f : Addr} {od an : Option Addr} {sl : Array (Option Value)} {oc kV dc pm cd ct : Value} {k : Nat} (X : K.In h) (G : h.Ns mainGlobals mg)
    (a : PySem.W.nsIn K mainGlobals "law" = some (some (.ref f))) (l : K.lookup f = some ⟨oc, od, .func (PySem.W.fnOf "law" "law" (defArgs st) (defBody st) (defScope st) .none kV dc pm an cd ct), sl⟩)
    (b : ∀ u : Value, bindArgs (PySem.W.fnOf "law" "law" (defArgs st) (defBody st) (defScope st) .none kV dc pm an cd ct) ⟨[u], []⟩ = pure [(pn, u)])
    (F : ∀ base : Heap, K.In base → base.Ns mainGlobals mg → Fn P w K mg base k "law" [pn] (spLaw K)) :
    ∃ fa, mg "law" = some (.ref fa) ∧ ∃ fd : FuncData, (∀ (s : Shared) (u : Value), BindsTo s fd ⟨[u], []⟩ [(pn, u)]) ∧ ∀ base : Heap, K.In base → base.Ns mainGlobals mg → FnOk P w K mg base (CXE P w) k fa fd [pn] (spLaw K) := by
  have hm := PySem.W.mg_of X G a
  refine ⟨f, hm, _, fun s u => .of_eq (b u), fun base kb nb => ?_⟩
  obtain ⟨f', fd', G', hm', _, _, _, _, _, lk⟩ := (F base kb nb).ex
  rw [hm] at hm'
  cases hm'
  rw [l] at lk
  cases lk
  exact G'
end Kw
set_option Elab.async false
set_option linter.all false
set_option maxRecDepth 100000
set_option maxHeartbeats 4000000
namespace Kw
open PySem PySem.Spec PyProof.Rows L2 PySem.Builtin PySem.Builtin.ObjectAttr PySem.Builtin.Getset_descriptor
section
variable {prog : Program} {w : World} {A : Around} {E : Value → Shared → Prop} {s : Shared} {K : PySem.W.Frag} {x C : Addr}
end
section
variable {X : Cx}
end
end Kw
set_option Elab.async false
set_option linter.all false
set_option maxRecDepth 100000
set_option maxHeartbeats 4000000
namespace Kw
open PySem PySem.Spec PyProof.Rows L2
mutual
inductive Dp (K : PySem.W.Frag) (H : Hp) : V → PyData → Prop
  | non : Dp K H .non .none
  | bl (b : Bool) : Dp K H (.bl b) (.bool b)
  | int (i : Int) : Dp K H (.int i) (.int i)
  | str (x : Str) : Dp K H (.str x) (.str x)
  | lst {p : Addr} {xs : List V} {ds : List PyData} : SqL K H p xs → Dps K H xs ds → Dp K H (.ref p) (.list ds)
  | tup {p : Addr} {xs : List V} {ds : List PyData} : SqT K H p xs → Dps K H xs ds → Dp K H (.ref p) (.tuple ds)
inductive Dps (K : PySem.W.Frag) (H : Hp) : List V → List PyData → Prop
  | nil : Dps K H [] []
  | cons {x : V} {xs : List V} {d : PyData} {ds : List PyData} : Dp K H x d → Dps K H xs ds → Dps K H (x :: xs) (d :: ds)
end
section
variable {X : Cx} {pins : List (Addr × Obj)} {σ : L2.St} {H : Hp} {s : Shared}
mutual
theorem Dp.reads (I : Inv X pins σ H s) : ∀ {x : V} {d : PyData} {u : Value}, Dp X.K H x d → RelV x u → ∃ as, Reads s.heap u d as
  | _, _, _, .non, r => by cases r; exact ⟨_, .none⟩
  | _, _, _, .bl b, r => by cases r; exact ⟨_, .bool b⟩
  | _, _, _, .int i, r => by obtain ⟨t, rfl⟩ := r; exact ⟨_, .int i t⟩
  | _, _, _, .str x, r => by obtain ⟨t, rfl⟩ := r; exact ⟨_, .str x t⟩
  | _, _, _, .lst h q, r => by
    cases r
    obtain ⟨its, r', pl, hz⟩ := I.list h
    obtain ⟨as, ra⟩ := Dps.reads I q r'
    obtain ⟨o, n, ho, hc, _, hd⟩ := pl
    exact ⟨_, .list ho hc hd ra⟩
  | _, _, _, .tup h q, r => by
    cases r
    obtain ⟨its, r', pl, hz⟩ := I.tuple h
    obtain ⟨as, ra⟩ := Dps.reads I q r'
    obtain ⟨o, ho, hc, n, hd⟩ := pl
    exact ⟨_, .tuple ho hc hd ra⟩
theorem Dps.reads (I : Inv X pins σ H s) : ∀ {xs : List V} {ds : List PyData} {us : List Value}, Dps X.K H xs ds → Vals xs us → ∃ as, ReadsAll s.heap us ds as
  | _, _, _, .nil, r => by cases r; exact ⟨_, .nil⟩
  | _, _, _, .cons h q, r => by
    cases r with
    | cons a b =>
      obtain ⟨as, ra⟩ := Dp.reads I h a
      obtain ⟨bs, rb⟩ := Dps.reads I q b
      exact ⟨_, .cons ra rb⟩
end
noncomputable def rDp (K : PySem.W.Frag) (g : Bool → Bool) : V → V → Hp → VK → Prop := fun x y H Q => ∃ dx dy, Dp K H x dx ∧ Dp K H y dy ∧ dx.canLay0 = true ∧ dy.canLay0 = true ∧ min dx.depth dy.depth ≤ 60 ∧ Q (.bl (g (PyData.eqv dx dy))) H
theorem op_neD {K : PySem.W.Frag} (hK : X.K = K) (hu : X.A.units + 100 < cLine) : OpR X (compareOp .NotEq) (rDp K not) := by
  subst hK
  intro pins s σ H x y v u Q I rx ry h
  obtain ⟨dx, dy, hx, hy, cx, cy, dep, q⟩ := h
  obtain ⟨as, ra⟩ := hx.reads I rx
  obtain ⟨bs, rb⟩ := hy.reads I ry
  exact SeqAt.compareNe_reads ra rb cx cy (by omega) ⟨.bl (!PyData.eqv dx dy), H, I, rfl, q⟩
end
end Kw
set_option Elab.async false
set_option linter.all false
set_option maxRecDepth 100000
set_option maxHeartbeats 4000000
namespace Kw
open PySem PySem.Spec PyProof.Rows L2
section
variable {X : Cx} {pos : Pos} {k v : Expr} {x : Str} {i : Int}
end
end Kw
namespace Kw
open PySem PySem.Spec PyProof.Rows L2
section
variable {X : Cx}
end
section
variable {K : PySem.W.Frag} {H H' : Hp} {v : V} {t : Value}
end
end Kw
namespace Kw
open PySem PySem.Spec PyProof.Rows L2
section
variable {X : Cx} {k k' : Nat} {x : Str} {ps : List Str} {sp : Sp} {E : XK} {p pos : Pos} {e : Expr} {es : List Expr} {t : TA} {dv : V}
end
end Kw
namespace Kw
end Kw
namespace Kw
open PySem PySem.Spec PyProof.Rows L2
end Kw
namespace Kw
open PySem PySem.Spec PyProof.Rows L2
theorem newO {H : Hp} {p : Addr} (hp : H p = none) (o : HO) : ∃ H', upd H p o = H' ∧ Same H H' ∧ H' p = some o := ⟨_, rfl, same_new hp o, upd_same⟩
end Kw
namespace Kw
open PySem PySem.Spec PyProof.Rows L2
end Kw
theorem Kw.u100 {k : Nat} {A : PySem.Around} (r : L2.Room k A) : A.units + 100 < PySem.cLine := by have := r.un; omega
namespace Kw
open PySem PySem.Spec PyProof.Rows L2
end Kw
set_option Elab.async false
set_option linter.all false
set_option maxRecDepth 100000
set_option maxHeartbeats 4000000
namespace Kw
open PySem PySem.Spec PyProof.Rows L2
noncomputable def cxC (X : Cx) (N : List Str) (scope : Scope) (cl : List (Str × Addr)) (C : Addr) (s : Shared) (H : Hp) (fp : List Addr) : Cx :=
  { X with N := N, s₀ := s, H₀ := H, env := compEnvC scope cl C X.env, outer := X.stack, stack := X.stack, ex := fp, fn := fun _ => false, pn := [], xe := fun _ _ => False }
section
variable {X : Cx} {pins : List (Addr × Obj)} {σ : L2.St} {H : Hp} {s : Shared} {N ns : List Str} {scope : Scope} {cl : List (Str × Addr)} {C : Addr} {fp : List Addr} {x : Str} {idx : List Nat}
theorem okC (I : Inv X pins σ H s) (f : ∀ b ∈ fp, FpOk X pins H b) (lt : ∀ b ∈ fp, b < s.heap.objs.size) (hC : s.heap.objs.size ≤ C) (hkind : scope.kind = .function) (hcl : ∀ y c, cl.lookup y = some c → X.env.cells.lookup y = some c)
    (hfr : ∀ y, ((compEnvC scope cl C X.env).kindOf y = some .cell ∨ (compEnvC scope cl C X.env).kindOf y = some .free) → ∃ c, cl.lookup y = some c) : (cxC X N scope cl C s H fp).Ok where
  mod := I.ok.mod
  kind := hkind
  glob := I.ok.glob
  blt := I.ok.blt
  above := hC
  inj := fun x y c e1 e2 => I.ok.inj x y c (hcl _ _ e1) (hcl _ _ e2)
  has := hfr
  cab := fun _ _ h => nomatch h
  hd := I.ok.hd
  frames := I.ok.frames
  stk := .inl rfl
  exf := fun b hb => ⟨Nat.ne_of_lt (Nat.lt_of_lt_of_le (lt b hb) hC), fun x c e => (f b hb).2.2.2.2.1 x c (hcl _ _ e)⟩
  bs := I.bs
  bsz := Nat.le_trans I.ok.bsz I.sz
  noex := fun b o e hb => by
    rcases (f b hb).2.2.2.1 with z | z
    · exact I.ok.noex b o e z
    · exact absurd (Nat.lt_of_lt_of_le (Heap.lt_size e) (Nat.le_trans I.ok.bsz z)) (Nat.lt_irrefl _)
  exfs := fun b hb hs => by
    rcases List.mem_cons.mp (I.stkSub b hs) with z | z
    · exact (f b hb).2.1 z
    · exact (f b hb).2.2.1 z
  funs := I.stack
  frf := I.stkFree
noncomputable def Capt (X : Cx) (scope : Scope) (cl : List (Str × Addr)) (ns : List Str) (idx : List Nat) : Prop :=
  idx.length = ns.length ∧ ∀ (k : Nat) (y : Str), ns[k]? = some y → ∃ j c, idx[k]? = some j ∧ X.N[j]? = some y ∧ X.env.kindOf y = some .cell ∧ X.env.cells.lookup y = some c ∧ cl.lookup y = some c ∧ ((relabel scope X.env).names.lookup y = some .cell ∨ (relabel scope X.env).names.lookup y = some .free)
noncomputable def stIn (v : Option V) (idx : List Nat) (σ : L2.St) : L2.St := v :: idx.map fun j => (σ[j]?).join
theorem invC {D : Addr} {h1 : Heap} {t : Nat} {o : Obj} {mC : Str → Option Value} (I : Inv X pins σ H s) (ok : (cxC X (x :: ns) scope cl C s H fp).Ok) (cap : Capt X scope cl ns idx) (hcl : ∀ y c, cl.lookup y = some c → X.env.cells.lookup y = some c)
    (keep : ∀ b u, s.heap.get? b = some u → h1.get? b = some u) (hC : s.heap.objs.size ≤ C) (hns : h1.Ns C mC) (hD : h1.get? D = some o) (hDs : s.heap.objs.size ≤ D) (hDC : D ≠ C) (hod : ∀ v, o.data ≠ .cell v) (hx : (relabel scope X.env).names.lookup x = some .local) :
    Inv (cxC X (x :: ns) scope cl C s H fp) [(D, o)] (stIn none idx σ) H { s with heap := h1, toks := t } := by
  have cellK : ∀ y c, cl.lookup y = some c → ∀ v, s.heap.IsCell c v → h1.IsCell c v := fun y c e v ⟨o, ho, hd⟩ => ⟨o, keep _ _ ho, hd⟩
  refine ⟨ok, rfl, I.bare, Un.kept keep, ⟨mC, hns, fun i y v e1 e2 e3 => ?_⟩, fun y c e => ?_, I.hok.fresh hC, fun y c e => I.freeC y c (hcl y c e), fun p hp => ?_, I.hok.kept keep, ?_⟩
  · cases i with
    | zero => cases e2
    | succ k =>
      have e1' : ns[k]? = some y := e1
      obtain ⟨j, c, h1', h2, h3, h4, h5, h6⟩ := cap.2 k y e1'
      have e2' : (idx.map fun j => (σ[j]?).join)[k]? = some (some v) := e2
      rw [List.getElem?_map, h1'] at e2'
      have e4 : (σ[j]?).join = some v := Option.some.inj e2'
      have e5 : σ[j]? = some (some v) := by
        cases q : σ[j]? with
        | none => rw [q] at e4; cases e4
        | some z => rw [q] at e4; exact congrArg some e4
      obtain ⟨m, hn, hl⟩ := I.loc
      obtain ⟨u, r, lk⟩ := hl j y v h2 e5 (.inr (.inl h3))
      refine ⟨u, r, .inr ⟨h6, c, h5, ?_⟩⟩
      rcases lk with ⟨z, _⟩ | ⟨_, c', z, ic⟩
      · rw [h3] at z; cases z
      · rw [h4] at z; cases z
        exact cellK y c h5 _ ic
  · obtain ⟨v, ic⟩ := I.cell y c (hcl y c e)
    exact ⟨v, cellK y c e v ic⟩
  · have e : p = (D, o) := by simpa [cxC] using hp
    subst e
    refine ⟨hD, I.hok.fresh hDs, hDC, fun hs => ?_, hod⟩
    obtain ⟨_, o', ho', _⟩ := I.stack.mem hs
    exact absurd (Heap.lt_size ho') (Nat.not_lt.mpr hDs)
  · unfold stIn
    rw [List.length_cons, List.length_map, cap.1]
    rfl
end
noncomputable abbrev NoE : Value → Shared → Prop := fun _ _ => False
noncomputable abbrev testsOf (ifs : List Expr) (env : Env) : Sem Bool := forIn ifs true fun c r => if r = true then do let ok ← isTrue c env (eval c env); pure (ForInStep.yield ok) else pure (ForInStep.yield r)
noncomputable def PTs (X : Cx) (ifs : List Expr) (t : TT) : Prop :=
  ∀ (pins : List (Addr × Obj)) (s : Shared) (σ : L2.St) (H : Hp) (Q : Bool → Hp → Prop), Inv X pins σ H s → t σ H Q → wpAny (model X.prog X.w) X.A (testsOf ifs X.env) (TP X pins σ Q) X.xe s
noncomputable def ttNil : TT := fun _ H Q => Q true H
theorem pts_nil {X : Cx} : PTs X [] ttNil := fun _ _ _ H _ I h => wpAny_tests_nil ⟨H, I, h⟩
theorem pts_one {X : Cx} {c : Expr} {t : TT} (h : PT X c t) : PTs X [c] t := fun pins s σ H Q I q => wpAny_tests_one (h pins s σ H Q I q)
theorem lc_loop {prog : Program} {w : World} {A : Around} {R : Result → Shared → Prop} {s : Shared} {elt target iter : Expr} {ifs : List Expr} {scope : Scope} {pos : Pos} {it acc : Value} {env : Env} (Z : Nat → Shared → Prop)
    (turn : ∀ n z, Z n z → wpAny (model prog w) A (pyNext it) (fun r z1 => match r with
      | none => R (.ok .next) z1
      | some v => wpAny (model prog w) A (letOwnedTupleGo target it v) (fun _ z2 => wpAny (model prog w) A (assign target env v) (fun _ z3 => wpAny (model prog w) A (testsOf ifs env) (fun ok z4 => if ok = true then
          wpAny (model prog w) A (eval elt env) (fun y z5 => wpAny (model prog w) A (call (.builtin "list.append") [acc, y]) (fun _ z6 => ∃ m, m < n ∧ Z m z6) NoE z5) NoE z4 else ∃ m, m < n ∧ Z m z4) NoE z3) NoE z2) NoE z1) NoE z)
    (n : Nat) (h : Z n s) : codeAny (model prog w) A (.compLoop (.ListComp elt [⟨target, iter, ifs, 0⟩] scope pos) 0 it acc env) R s := by
  refine codeAny_loop rfl Z (fun n z hZ => ?_) n h
  show wpAny _ A ((compTurn (.ListComp elt [⟨target, iter, ifs, 0⟩] scope pos) 0 it acc env).onRaise (fun q => do noteFrame q env; theTreesLotGoes q)) _ _ z
  refine wpAny_noted ?_
  rw [compTurn_list]
  refine wpAny_bind (wpAny_standAt (wpAny_bind (wpAny_mono (turn n z hZ) (fun r z1 k1 => ?_) fun _ _ q => q.elim)))
  cases r with
  | none => exact wpAny_pure k1
  | some v =>
    refine wpAny_bind (wpAny_mono k1 (fun _ z2 k2 => ?_) fun _ _ q => q.elim)
    refine wpAny_bind (wpAny_mono k2 (fun _ z3 k3 => ?_) fun _ _ q => q.elim)
    refine wpAny_bind (wpAny_mono k3 (fun ok z4 k4 => ?_) fun _ _ q => q.elim)
    cases ok with
    | false => exact wpAny_pure ⟨rfl, k4⟩
    | true =>
      refine wpAny_bind (wpAny_bind (wpAny_mono (show wpAny _ _ _ _ _ _ from k4) (fun y z5 k5 => ?_) fun _ _ q => q.elim))
      exact wpAny_bind (wpAny_mono k5 (fun _ z6 k6 => wpAny_pure (wpAny_pure ⟨rfl, k6⟩)) fun _ _ q => q.elim)
noncomputable def LcBody (J : It) (idx : List Nat) (te : TE) (σ : L2.St) (Q : VK) (H1 : Hp) : Prop := ∃ W : Nat → Nat → List V → Hp → Prop, (∃ m, W 0 m [] H1) ∧ ∀ i m ys H, W i m ys H → ys.length ≤ sizeLine ∧
  ((J.stop i H ∧ ∀ p, H p = none → Q (.ref p) (upd H p (.lst ys))) ∨ (J.go i H ∧ ∀ y H', J.yld i H y H' → te (stIn (some y) idx σ) H' fun v H2 => ∃ m', m' < m ∧ W (i + 1) m' (ys ++ [v]) H2))
noncomputable def tLc (wi : TI) (idx : List Nat) (te : TE) : TE := fun σ H Q => wi σ H fun J H1 => LcBody J idx te σ Q H1
noncomputable def LcBodyT (J : It) (idx : List Nat) (tt : TT) (te : TE) (σ : L2.St) (Q : VK) (H1 : Hp) : Prop := ∃ W : Nat → Nat → List V → Hp → Prop, (∃ m, W 0 m [] H1) ∧ ∀ i m ys H, W i m ys H → ys.length ≤ sizeLine ∧
  ((J.stop i H ∧ ∀ p, H p = none → Q (.ref p) (upd H p (.lst ys))) ∨ (J.go i H ∧ ∀ y H', J.yld i H y H' → tt (stIn (some y) idx σ) H' fun b H3 => if b = true then te (stIn (some y) idx σ) H3 fun v H2 => ∃ m', m' < m ∧ W (i + 1) m' (ys ++ [v]) H2
    else ∃ m', m' < m ∧ W (i + 1) m' ys H3))
noncomputable def tLcT (wi : TI) (idx : List Nat) (tt : TT) (te : TE) : TE := fun σ H Q => wi σ H fun J H1 => LcBodyT J idx tt te σ Q H1
theorem LcBody.toT {J : It} {idx : List Nat} {te : TE} {σ : L2.St} {Q : VK} {H1 : Hp} (h : LcBody J idx te σ Q H1) : LcBodyT J idx ttNil te σ Q H1 := by
  obtain ⟨W, w0, turn⟩ := h
  refine ⟨W, w0, fun i m ys H w => ?_⟩
  obtain ⟨hz, h⟩ := turn i m ys H w
  refine ⟨hz, h.imp id fun h => ⟨h.1, fun y H' yl => ?_⟩⟩
  show (if true = true then te (stIn (some y) idx σ) H' (fun v H2 => ∃ m', m' < m ∧ W (i + 1) m' (ys ++ [v]) H2) else ∃ m', m' < m ∧ W (i + 1) m' ys H')
  rw [if_pos rfl]
  exact h.2 y H' yl
section
variable {X : Cx} {elt iter : Expr} {ifs : List Expr} {x : Str} {px pos : Pos} {scope : Scope} {cl : List (Str × Addr)} {wi : TI} {tt : TT} {te : TE} {ns : List Str} {idx : List Nat}
structure LcEnd (X : Cx) (fp : List Addr) (H2 H4 : Hp) (s2 s5 : Shared) (C D : Addr) (ys : List V) : Prop where
  dn : D = s2.heap.objs.size
  cn : s2.heap.objs.size ≤ C
  dc : D ≠ C
  un : Un (frs X.stack) fp H2 H4 s2.heap s5.heap
  hok : HOk X.prog X.w H4 s5.heap
  cf : H4 C = none
  df : H4 D = none
  os : s5.os = s2.os
  bare : AllBare s5.gens
  ns : ∃ m, s5.heap.Ns C m
  obj : ∃ us, Vals ys us ∧ s5.heap.get? D = some (LCg.lst us)
  len : ys.length ≤ sizeLine
theorem lc_main (hc : X.calm = true) (hi : PI X (.Name x px) iter wi) (hclos : closureFor scope X.env = pure cl) (hcell : ∀ y ∈ scope.names, y.2 ≠ .cell) (hkind : scope.kind = .function)
    (hnames : ∀ y ∈ scope.names, y.2 = .local → scope.names.lookup y.1 = some .local) (hx : scope.names.lookup x = some .local) (nd : (x :: ns).Nodup) (cap : Capt X scope cl ns idx)
    (hcl : ∀ y c, cl.lookup y = some c → X.env.cells.lookup y = some c) (hfr : ∀ y, ((relabel scope X.env).names.lookup y = some .cell ∨ (relabel scope X.env).names.lookup y = some .free) → ∃ c, cl.lookup y = some c)
    (htt : ∀ (C : Addr) (s : Shared) (H : Hp) (fp : List Addr), PTs (cxC X (x :: ns) scope cl C s H fp) ifs tt) (hel : ∀ (C : Addr) (s : Shared) (H : Hp) (fp : List Addr), PE (cxC X (x :: ns) scope cl C s H fp) elt te)
    {pins : List (Addr × Obj)} {σ : L2.St} {Q : VK} {itv : Value} {s2 : Shared} {E : Value → Shared → Prop} {RR : Value → Addr → Result → Shared → Prop} (h2 : PIE X pins σ (.Name x px) (fun J H1 => LcBodyT J idx tt te σ Q H1) itv s2)
    (hRR : ∀ fp H2 H4 s5 C D ys, Inv X pins σ H2 s2 → (∀ b ∈ fp, FpOk X pins H2 b) → LcEnd X fp H2 H4 s2 s5 C D ys → Q (.ref D) (upd H4 D (.lst ys)) → RR (.ref D) C (.ok .next) s5) :
    wpAny (model X.prog X.w) X.A (newList []) (fun acc s3 => wpAny (model X.prog X.w) X.A (newFunctionEnv scope X.env.globals cl [] X.env.qual none .none (some X.env)) (fun cenv s4 =>
      codeAny (model X.prog X.w) X.A (.compStart (.ListComp elt [⟨.Name x px, iter, ifs, 0⟩] scope pos) 0 itv acc { cenv with scope := relabel scope X.env }) (RR acc cenv.locals) s4) E s3) E s2 := by
  obtain ⟨it, fp, tn, J, H2, e, I2, T, st2, f2, W, ⟨m0, w0⟩, turn⟩ := h2
  subst e
  refine wpAny_newObj_type (wpAny_newFunctionEnv hcell (by intro y hy; simp at hy) (fun h1 hns1 hsb1 => ?_) hkind)
  dsimp only at hns1 hsb1 ⊢
  generalize hH2 : s2.heap.push { cls := .type "list", dict := none, data := .seq ([] : List Value).toArray } = g2 at hns1 hsb1 ⊢
  have hC : g2.objs.size = s2.heap.objs.size + 1 := by rw [← hH2, Heap.size_push]
  have hDC : s2.heap.objs.size ≠ g2.objs.size := by rw [hC]; exact Nat.ne_of_lt (Nat.lt_succ_self _)
  have hCle : s2.heap.objs.size ≤ g2.objs.size := by rw [hC]; exact Nat.le_succ _
  have keep1 : ∀ b o, s2.heap.get? b = some o → h1.get? b = some o := fun b o e => hsb1.extBut b o (Nat.ne_of_lt (Nat.lt_of_lt_of_le (Heap.lt_size e) hCle)) (Heap.get?_push_of_some _ (hH2 ▸ Heap.get?_push_of_some _ e))
  have hacc : h1.get? s2.heap.objs.size = some { cls := .type "list", data := .seq ([] : List Value).toArray 0 } := hsb1.extBut _ _ hDC (Heap.get?_push_of_some _ (hH2 ▸ Heap.get?_push_size _ rfl))
  have lt : ∀ b ∈ fp, b < s2.heap.objs.size := fun b hb => by
    obtain ⟨o, e, _⟩ := T.obj _ _ st2 b hb
    exact Heap.lt_size e
  have hxr : (relabel scope X.env).names.lookup x = some .local := lookup_relabel_local hx
  have ok := okC (N := x :: ns) (scope := scope) (cl := cl) (C := g2.objs.size) I2 f2 lt hCle hkind hcl hfr
  have I3 := invC (D := s2.heap.objs.size) (t := s2.toks + ([] : List (Str × Value)).length) I2 ok cap hcl keep1 hCle hns1 hacc (Nat.le_refl _) hDC (fun v z => by cases z) hxr
  have fC : ∀ {H' : Hp} {pl : List (Addr × Obj)}, (∀ p ∈ pl, p.1 = s2.heap.objs.size) → (∀ b ∈ fp, H' b = none) → ∀ b ∈ fp, FpOk (cxC X (x :: ns) scope cl g2.objs.size s2 H2 fp) pl H' b := fun {H' pl} hpl hn b hb =>
    ⟨hn b hb, (ok.exf b hb).1, fun z => ok.exfs b hb z, .inl hb, (ok.exf b hb).2, fun p hp z => by
      have q := hpl p (by simpa [cxC] using hp)
      have := lt b hb
      rw [← z, q] at this
      exact Nat.lt_irrefl _ this⟩
  have lnc : ∀ us : List Value, ∀ v, (LCg.lst us).data ≠ .cell v := fun us v z => by cases z
  have loop : ∀ s3 : Shared, s3 = { s2 with heap := h1, toks := s2.toks + ([] : List (Str × Value)).length } →
      codeAny (model X.prog X.w) X.A (.compLoop (.ListComp elt [⟨.Name x px, iter, ifs, 0⟩] scope pos) 0 (.ref it) (.ref s2.heap.objs.size) (compEnvC scope cl g2.objs.size X.env))
        (RR (.ref s2.heap.objs.size) g2.objs.size) s3 := by
    rintro s3 rfl
    refine lc_loop (fun n s' => ∃ i ys us r H', Inv (cxC X (x :: ns) scope cl g2.objs.size s2 H2 fp) [(s2.heap.objs.size, LCg.lst us)] (stIn r idx σ) H' s' ∧ tn i s'.heap ∧ (∀ b ∈ fp, H' b = none) ∧ Vals ys us ∧ W i n ys H') ?_ m0
      ⟨0, [], [], none, H2, I3, T.keep _ _ _ st2 fun b _ o e => keep1 b o e, fun b hb => (f2 b hb).1, .nil, w0⟩
    rintro n s4 ⟨i, ys, us, r, H4, I4, st4, fr4, vs4, w4⟩
    obtain ⟨hz, ⟨stop, qn⟩ | ⟨go, step⟩⟩ := turn i n ys H4 w4
    · refine thn (T.done (cxC X (x :: ns) scope cl g2.objs.size s2 H2 fp) rfl rfl rfl hc i _ s4 _ H4 NoE I4 (fC (fun p hp => by rw [List.mem_singleton.mp hp]) fr4) st4 stop) fun r5 s5 ⟨hr5, I5⟩ => ?_
      subst hr5
      obtain ⟨mC, hnC, _⟩ := I5.loc
      obtain ⟨pD1, pD2, _⟩ := I5.pin (s2.heap.objs.size, LCg.lst us) (List.mem_append_right _ (List.mem_singleton.mpr rfl))
      exact hRR fp H2 H4 s5 g2.objs.size s2.heap.objs.size ys I2 f2 ⟨rfl, hCle, hDC, I5.base, I5.hok, I5.free, pD2, I5.os, I5.bare, ⟨mC, hnC⟩, ⟨us, vs4, pD1⟩, hz⟩ (qn _ pD2)
    · refine thn (T.item (cxC X (x :: ns) scope cl g2.objs.size s2 H2 fp) rfl rfl rfl hc i _ s4 _ H4 NoE I4 (fC (fun p hp => by rw [List.mem_singleton.mp hp]) fr4) st4 go) fun r5 s5 ⟨u, hr5, k5⟩ => ?_
      subst hr5
      refine thn k5 fun _ s6 ⟨y, H6, I6, r6, y6, st6, fr6⟩ => ?_
      have I6' := I6.pinned (fC (fun p hp => by rw [List.mem_singleton.mp hp]) fr6) (T.obj _ _ st6)
      have G := pg_name (X := cxC X (x :: ns) scope cl g2.objs.size s2 H2 fp) (pos := px) (i := 0) (x := x) nd rfl (.inl hxr) (.inr hxr)
      refine thn (G _ s6 _ H6 y u (fun σ' H' => σ' = stIn (some y) idx σ ∧ H' = H6) I6' r6 ⟨rfl, rfl⟩) fun _ s7 ⟨σ7, H7, I7, e7, eH⟩ => ?_
      subst e7 eH
      refine thn (htt g2.objs.size s2 H2 fp _ s7 _ _ _ I7 (step y _ y6)) fun ok s71 ⟨H71, I71, k71⟩ => ?_
      cases ok with
      | false =>
        obtain ⟨m', lm, w8⟩ := (show ∃ m', m' < n ∧ W (i + 1) m' ys H71 from k71)
        have kf : ∀ b ∈ fp, ∀ o, s6.heap.get? b = some o → s71.heap.get? b = some o ∧ H71 b = none := fun b hb o e => by
          have q := I71.pin (b, o) (List.mem_append_right _ (List.mem_append_right _ (mem_pinsAt hb e)))
          exact ⟨q.1, q.2.1⟩
        obtain ⟨pD1, pD2, pD3, pD4, _⟩ := I71.pin (s2.heap.objs.size, LCg.lst us) (by simp [cxC])
        refine ⟨m', lm, i + 1, ys, us, some y, H71, I71.pins_of fun p hp => ?_, ?_, fun b hb => ?_, vs4, w8⟩
        · rw [List.mem_singleton.mp hp]
          exact ⟨pD1, pD2, pD3, pD4, lnc _⟩
        · exact T.keep _ _ _ st6 fun b hb o e => (kf b hb o e).1
        · obtain ⟨o, e, _⟩ := T.obj _ _ st6 b hb
          exact (kf b hb o e).2
      | true =>
      refine thn (hel g2.objs.size s2 H2 fp _ s71 _ _ _ I71 k71) fun y8 s8 ⟨v, H8, I8, r8, m', lm, w8⟩ => ?_
      obtain ⟨pD1, pD2, pD3, pD4, _⟩ := I8.pin (s2.heap.objs.size, LCg.lst us) (by simp [cxC])
      have kf : ∀ b ∈ fp, ∀ o, s6.heap.get? b = some o → s8.heap.get? b = some o ∧ H8 b = none := fun b hb o e => by
        have q := I8.pin (b, o) (List.mem_append_right _ (List.mem_append_right _ (mem_pinsAt hb e)))
        exact ⟨q.1, q.2.1⟩
      refine append_at (hsz := by show us.toArray.size ≤ sizeLine; rw [List.size_toArray, ← vs4.length]; exact hz) pD1 fun h9 sb9 hD9 => ?_
      have I8' : Inv (cxC X (x :: ns) scope cl g2.objs.size s2 H2 fp) [] (stIn (some y) idx σ) H8 s8 := I8.pins_of fun p hp => nomatch hp
      have I9 := I8'.turned (it := s2.heap.objs.size) (h' := h9) (t' := s8.toks) (fun b o hb e => (sb9.2 b hb).trans e) pD2 pD3 (.inr (Nat.le_refl _)) (fun y c e z => by
          obtain ⟨v, q⟩ := I2.cell y c (hcl y c e)
          exact absurd q.lt (by rw [z]; exact Nat.lt_irrefl _)) (fun p hp => by simp [cxC] at hp)
      refine ⟨m', lm, i + 1, ys ++ [v], us ++ [y8], some y, H8, I9.pins_of fun p hp => ?_, ?_, fun b hb => ?_, vs4.append (.cons r8 .nil), w8⟩
      · rw [List.mem_singleton.mp hp]
        exact ⟨hD9.trans (congrArg some (LCg.lst_snoc us y8)), pD2, pD3, pD4, lnc _⟩
      · exact T.keep _ _ _ st6 fun b hb o e => (sb9.2 b (Nat.ne_of_lt (lt b hb))).trans (kf b hb o e).1
      · obtain ⟨o, e, _⟩ := T.obj _ _ st6 b hb
        exact (kf b hb o e).2
  exact codeAny_compStart_list (loop _ rfl) (T.self _ 0 _ _ _ (T.keep _ _ _ st2 fun b _ o e => keep1 b o e) (loop _ rfl))
theorem LcEnd.inv {fp : List Addr} {H2 H4 : Hp} {s2 s5 : Shared} {C D : Addr} {ys : List V} {pins : List (Addr × Obj)} {σ : L2.St} {h' : Heap} (L : LcEnd X fp H2 H4 s2 s5 C D ys) (I2 : Inv X pins σ H2 s2) (f2 : ∀ b ∈ fp, FpOk X pins H2 b) (sb : Heap.SameBut C s5.heap h') :
    Inv X pins σ (upd H4 D (.lst ys)) { s5 with heap := h' } := by
  obtain ⟨rfl, hCle, hDC, U, hok, cf, pD2, eo, bare, ⟨mC, hnC⟩, ⟨us, vs4, pD1⟩, hz⟩ := L
  have neC : ∀ b o, s2.heap.get? b = some o → b ≠ C := fun b o e => Nat.ne_of_lt (Nat.lt_of_lt_of_le (Heap.lt_size e) hCle)
  have U' : Un (frs X.stack) fp H2 H4 s2.heap h' := ⟨fun b o e n hb hx => (sb.2 b (neC b o e)).trans (U.keep b o e n hb hx), fun b o e n hb hx => by
      obtain ⟨sl, q⟩ := U.slot b o e n hb hx
      exact ⟨sl, (sb.2 b (neC b o e)).trans q⟩, U.free, fun b o e hx => by
      obtain ⟨o', q⟩ := U.there b o e hx
      exact ⟨o', (sb.2 b (neC b o e)).trans q⟩, U.tups, U.frzs, U.tbls⟩
  have hok' : HOk X.prog X.w H4 h' := fun a o e => by
    refine (hok a o e).stay (fun b u hb q => (sb.2 b ?_).trans q) (fun _ z => z) fun _ _ z => z
    rintro rfl
    rcases hb with hb | hb
    · rw [← hb, cf] at e; cases e
    · rw [cf] at hb; cases hb
  have I6 := I2.call (ch := fp) (h' := h') (g' := s5.gens) (t' := s5.toks) (d' := s5.drawn) U' hok' bare fun b hb => ⟨(f2 b hb).2.2.2.1, (f2 b hb).2.1, (f2 b hb).2.2.2.2.1, (f2 b hb).2.2.2.2.2⟩
  have I7 := Inv.adopt (x := s2.heap.objs.size) (o := .lst ys) (fun y c e z => by
      obtain ⟨v, q⟩ := I2.cell y c e
      exact absurd q.lt (by rw [z]; exact Nat.lt_irrefl _)) I6 (Heap.get?_none_of_le I2.sz) pD2 (Nat.ne_of_gt I2.lt) (fun p hp z => by
      have := Heap.lt_size (I2.pin p hp).1
      rw [z] at this
      exact Nat.lt_irrefl _ this) ⟨hz, us, us.length, vs4, (sb.2 _ hDC).trans pD1⟩
  rw [← eo] at I7
  exact I7
theorem pie_toT {pins : List (Addr × Obj)} {σ : L2.St} {tg : Expr} {Q : VK} {itv : Value} {s2 : Shared} (h : PIE X pins σ tg (fun J H1 => LcBody J idx te σ Q H1) itv s2) : PIE X pins σ tg (fun J H1 => LcBodyT J idx ttNil te σ Q H1) itv s2 := by
  obtain ⟨it, fp, tn, J, H', a, b, c, d, e, q⟩ := h
  exact ⟨it, fp, tn, J, H', a, b, c, d, e, q.toT⟩
theorem pe_lcT (hc : X.calm = true) (hi : PI X (.Name x px) iter wi) (hclos : closureFor scope X.env = pure cl) (hcell : ∀ y ∈ scope.names, y.2 ≠ .cell) (hkind : scope.kind = .function)
    (hnames : ∀ y ∈ scope.names, y.2 = .local → scope.names.lookup y.1 = some .local) (hx : scope.names.lookup x = some .local) (nd : (x :: ns).Nodup) (cap : Capt X scope cl ns idx)
    (hcl : ∀ y c, cl.lookup y = some c → X.env.cells.lookup y = some c) (hfr : ∀ y, ((relabel scope X.env).names.lookup y = some .cell ∨ (relabel scope X.env).names.lookup y = some .free) → ∃ c, cl.lookup y = some c)
    (htt : ∀ (C : Addr) (s : Shared) (H : Hp) (fp : List Addr), PTs (cxC X (x :: ns) scope cl C s H fp) ifs tt) (hel : ∀ (C : Addr) (s : Shared) (H : Hp) (fp : List Addr), PE (cxC X (x :: ns) scope cl C s H fp) elt te) (hs : ∀ v, foldedSetIterable iter X.env v = pure v := by intro _; rfl) :
    PE X (.ListComp elt [⟨.Name x px, iter, ifs, 0⟩] scope pos) (tLcT wi idx tt te) := by
  intro pins s σ H Q I h
  rw [eval_ListComp]
  refine wpAny_comprehension_free (use := none) rfl hs hclos hkind hnames (thn (hi pins s σ H _ I h) fun v s1 h1 => thn h1 fun itv s2 h2 => ?_)
  refine lc_main hc hi hclos hcell hkind hnames hx nd cap hcl hfr htt hel (RR := fun acc C => compPost (model X.prog X.w) X.A X.xe none (EP X pins σ Q) acc C) h2 fun fp H2 H4 s5 C D ys I2 f2 L q => ?_
  obtain ⟨mC, hnC⟩ := L.ns
  exact ⟨mC, hnC, fun h' sb => ⟨.ref D, _, L.inv I2 f2 sb, rfl, q⟩⟩
theorem pe_lc (hc : X.calm = true) (hi : PI X (.Name x px) iter wi) (hclos : closureFor scope X.env = pure cl) (hcell : ∀ y ∈ scope.names, y.2 ≠ .cell) (hkind : scope.kind = .function)
    (hnames : ∀ y ∈ scope.names, y.2 = .local → scope.names.lookup y.1 = some .local) (hx : scope.names.lookup x = some .local) (nd : (x :: ns).Nodup) (cap : Capt X scope cl ns idx)
    (hcl : ∀ y c, cl.lookup y = some c → X.env.cells.lookup y = some c) (hfr : ∀ y, ((relabel scope X.env).names.lookup y = some .cell ∨ (relabel scope X.env).names.lookup y = some .free) → ∃ c, cl.lookup y = some c)
    (hel : ∀ (C : Addr) (s : Shared) (H : Hp) (fp : List Addr), PE (cxC X (x :: ns) scope cl C s H fp) elt te) (hs : ∀ v, foldedSetIterable iter X.env v = pure v := by intro _; rfl) :
    PE X (.ListComp elt [⟨.Name x px, iter, [], 0⟩] scope pos) (tLc wi idx te) := by
  intro pins s σ H Q I h
  rw [eval_ListComp]
  refine wpAny_comprehension_free (use := none) rfl hs hclos hkind hnames (thn (hi pins s σ H _ I h) fun v s1 h1 => thn h1 fun itv s2 h2 => ?_)
  refine lc_main (tt := ttNil) hc hi hclos hcell hkind hnames hx nd cap hcl hfr (fun _ _ _ _ => pts_nil) hel (RR := fun acc C => compPost (model X.prog X.w) X.A X.xe none (EP X pins σ Q) acc C) (pie_toT h2) fun fp H2 H4 s5 C D ys I2 f2 L q => ?_
  obtain ⟨mC, hnC⟩ := L.ns
  exact ⟨mC, hnC, fun h' sb => ⟨.ref D, _, L.inv I2 f2 sb, rfl, q⟩⟩
theorem ps_lc {j : Nat} {y : Str} {py spos : Pos} (hN : X.N.Nodup) (hj : X.N[j]? = some y) (hy : X.env.scope.names.lookup y = some .local) (hsw : swapsWith (.ListComp elt [⟨.Name x px, iter, [], 0⟩] scope pos) (some (.Name y py)) spos.line X.env = pure true)
    (hc : X.calm = true) (hi : PI X (.Name x px) iter wi) (hclos : closureFor scope X.env = pure cl) (hcell : ∀ y ∈ scope.names, y.2 ≠ .cell) (hkind : scope.kind = .function)
    (hnames : ∀ y ∈ scope.names, y.2 = .local → scope.names.lookup y.1 = some .local) (hx : scope.names.lookup x = some .local) (nd : (x :: ns).Nodup) (cap : Capt X scope cl ns idx)
    (hcl : ∀ y c, cl.lookup y = some c → X.env.cells.lookup y = some c) (hfr : ∀ y, ((relabel scope X.env).names.lookup y = some .cell ∨ (relabel scope X.env).names.lookup y = some .free) → ∃ c, cl.lookup y = some c)
    (hel : ∀ (C : Addr) (s : Shared) (H : Hp) (fp : List Addr), PE (cxC X (x :: ns) scope cl C s H fp) elt te) (hs : ∀ v, foldedSetIterable iter X.env v = pure v) :
    PS X (.Assign [.Name y py] (.ListComp elt [⟨.Name x px, iter, [], 0⟩] scope pos) spos) (tAsg (tLc wi idx te) (gName j)) := by
  intro pins s σ H D I h
  rw [exec_Assign_Name_used _ _ _ _ hsw]
  refine wpAny_bind (wpAny_standAt (wpAny_bind ?_))
  show wpAny _ _ (do let _ ← comprehension (.ListComp elt [⟨.Name x px, iter, [], 0⟩] scope pos) scope X.env _ (newList []) false (eval iter X.env) (some (assign (.Name y py) X.env))) _ _ s
  refine wpAny_bind (wpAny_mono (wpAny_comprehension_free (use := some (assign (.Name y py) X.env)) (Q := fun _ s' => SP X pins D .next s') rfl hs hclos hkind hnames
    (thn (hi pins s σ H _ I h) fun v s1 h1 => thn h1 fun itv s2 h2 => ?_)) (fun _ s' hq => wpAny_pure (wpAny_pure hq)) fun _ _ e => e)
  refine lc_main (tt := ttNil) hc hi hclos hcell hkind hnames hx nd cap hcl hfr (fun _ _ _ _ => pts_nil) hel (RR := fun acc C => compPost (model X.prog X.w) X.A X.xe (some (assign (.Name y py) X.env)) (fun _ s' => SP X pins D .next s') acc C) (pie_toT h2) fun fp H2 H4 s5 C Da ys I2 f2 L q => ?_
  have I7 := L.inv I2 f2 (h' := s5.heap) ⟨rfl, fun _ _ => rfl⟩
  show wpAny _ _ (assign (.Name y py) X.env (.ref Da)) _ _ s5
  have cL : C ≠ X.env.locals := Nat.ne_of_gt (Nat.lt_of_lt_of_le I2.lt L.cn)
  have cc : ∀ z c, X.env.cells.lookup z = some c → c ≠ C := fun z c e => by
    obtain ⟨v, k⟩ := I2.cell z c e
    exact Nat.ne_of_lt (Nat.lt_of_lt_of_le k.lt L.cn)
  refine wpAny_assign_Name (store_ok2 I7 hN hj (.inl hy) (v := .ref Da) rfl (fun s8 I8 sm => ?_) (.inr hy))
  obtain ⟨a, sba, ha⟩ := sm
  have ac : C ≠ a := by
    rcases ha with rfl | ha
    · exact cL
    · exact Ne.symm (cc _ _ ha)
  obtain ⟨mC, o, es, ep, e1, e2⟩ := L.ns
  refine ⟨mC, ⟨o, es, ep, (sba.2 C ac).trans e1, e2⟩, fun h' sb => ⟨_, _, ?_, q⟩⟩
  refine I8.turned (it := C) (h' := h') (t' := s8.toks) (fun b u nb e => (sb.2 b nb).trans e) ?_ cL (.inr (Nat.le_trans I2.sz L.cn)) cc fun p hp z => ?_
  · rw [upd_ne (Ne.symm L.dc)]
    exact L.cf
  · have := Heap.lt_size (I2.pin p hp).1
    rw [z] at this
    exact absurd this (Nat.not_lt.mpr L.cn)
end
end Kw
set_option Elab.async false
set_option linter.all false
set_option maxRecDepth 100000
set_option maxHeartbeats 4000000
namespace Kw
open PySem PySem.Spec PyProof.Rows L2
section
variable {X : Cx}
end
end Kw
namespace Kw
open PySem PySem.Spec PyProof.Rows L2
section
variable {prog : Program} {w : World} {A : Around} {E : Value → Shared → Prop} {s : Shared} {I l S : Addr} {items : Array Value}
end
end Kw
namespace Kw
open PySem PySem.Spec PyProof.Rows L2
section
variable {X : Cx}
end
end Kw
set_option Elab.async false
set_option linter.all false
set_option maxRecDepth 100000
set_option maxHeartbeats 4000000
namespace Kw
open PySem PySem.Spec PyProof.Rows L2
section
variable {X : Cx}
end
end Kw
set_option Elab.async false
set_option linter.all false
set_option maxRecDepth 100000
set_option maxHeartbeats 4000000
namespace Kw
open PySem PySem.Spec PyProof.Rows L2
section
variable {K : PySem.W.Frag} {idx : List Nat} {te : TE} {σ : L2.St} {H : Hp} {Q : VK}
theorem lc_list {a : Addr} {xs : List V} (Pv : Nat → List V → Hp → Prop) (h0 : Pv 0 [] H) (hz : xs.length ≤ sizeLine) (hy : ∀ i ys H, Pv i ys H → ys.length = i) (hl : ∀ i ys H, Pv i ys H → SqL K H a xs)
    (hs : ∀ i x ys H (Q' : VK), xs[i]? = some x → Pv i ys H → (∀ v H2, Pv (i + 1) (ys ++ [v]) H2 → Q' v H2) → te (stIn (some x) idx σ) H Q') (hd : ∀ ys H, Pv xs.length ys H → ∀ p, H p = none → Q (.ref p) (upd H p (.lst ys))) :
    LcBody (Itl K a) idx te σ Q H := by
  refine ⟨fun i m ys H => m = xs.length - i ∧ i ≤ xs.length ∧ Pv i ys H, ⟨xs.length, by simp, Nat.zero_le _, h0⟩, ?_⟩
  rintro i m ys H ⟨rfl, hi, p⟩
  have q := hl i ys H p
  refine ⟨by rw [hy i ys H p]; omega, ?_⟩
  by_cases hlt : i < xs.length
  · refine .inr ⟨⟨xs, xs[i], q, by simp [hlt]⟩, fun y H' yl => ?_⟩
    obtain ⟨e, yl⟩ := yl
    subst e
    exact hs i y ys _ _ (yl xs q) p fun v H2 z => ⟨xs.length - (i + 1), by omega, rfl, hlt, z⟩
  · have e : i = xs.length := by omega
    subst e
    exact .inl ⟨⟨xs, q, Nat.le_refl _⟩, hd ys H p⟩
end
theorem no_free {names : List (Str × NameKind)} {cl : List (Str × Addr)} (h : names.all (fun z => z.2 != .cell && z.2 != .free) = true) : ∀ y, (names.lookup y = some .cell ∨ names.lookup y = some .free) → ∃ c, cl.lookup y = some c := fun y hy => by
  have mem : ∀ (l : List (Str × NameKind)) k, l.lookup y = some k → ∃ z ∈ l, z.2 = k := fun l => by
    induction l with
    | nil => intro k e; cases e
    | cons a r ih =>
      intro k e
      rw [List.lookup_cons] at e
      split at e
      · exact ⟨a, List.mem_cons_self, Option.some.inj e⟩
      · obtain ⟨z, hz, ez⟩ := ih k e
        exact ⟨z, List.mem_cons_of_mem _ hz, ez⟩
  rcases hy with e | e
  all_goals
    obtain ⟨z, hz, ez⟩ := mem _ _ e
    have := List.all_eq_true.mp h z hz
    rw [ez] at this
    simp at this
theorem cap_none {X : Cx} {scope : Scope} {cl : List (Str × Addr)} : Capt X scope cl [] [] := ⟨rfl, fun k y h => by simp at h⟩
end Kw
namespace Kw
open PySem PySem.Spec PyProof.Rows L2
section
variable {K : PySem.W.Frag} {H H' : Hp} {b : Addr} {v : V}
end
end Kw
namespace Kw
open PySem PySem.Spec PyProof.Rows L2
section
variable {K : PySem.W.Frag} {H H' : Hp} {b c : Addr} {x : V}
end
end Kw
namespace Kw
open PySem PySem.Spec PyProof.Rows L2
theorem cap_one {X : Cx} {scope : Scope} {cl : List (Str × Addr)} {y : Str} {j : Nat} {c : Addr} (h1 : X.N[j]? = some y) (h2 : X.env.kindOf y = some .cell) (h3 : X.env.cells.lookup y = some c) (h4 : cl.lookup y = some c)
    (h5 : (relabel scope X.env).names.lookup y = some .cell ∨ (relabel scope X.env).names.lookup y = some .free) : Capt X scope cl [y] [j] :=
  ⟨rfl, fun k z h => by
    cases k with
    | zero => cases h; exact ⟨j, c, rfl, h1, h2, h3, h4, h5⟩
    | succ k => simp at h⟩
theorem cap_fr {names : List (Str × NameKind)} {cl : List (Str × Addr)} (h : names.all (fun z => (z.2 != .cell && z.2 != .free) || (cl.lookup z.1).isSome) = true) : ∀ y, (names.lookup y = some .cell ∨ names.lookup y = some .free) → ∃ c, cl.lookup y = some c := fun y hy => by
  have mem : ∀ (l : List (Str × NameKind)) k, l.lookup y = some k → (y, k) ∈ l := fun l => by
    induction l with
    | nil => intro k e; cases e
    | cons a r ih =>
      intro k e
      rw [List.lookup_cons] at e
      split at e
      · rename_i q
        have e1 : y = a.1 := by simpa using q
        have e2 := Option.some.inj e
        rw [e1, ← e2]
        exact List.mem_cons_self
      · exact List.mem_cons_of_mem _ (ih k e)
  rcases hy with e | e
  all_goals
    have := List.all_eq_true.mp h _ (mem _ _ e)
    exact Option.isSome_iff_exists.mp (by simpa using this)
end Kw
theorem Kw.ixL {X : L2.Cx} {K : PySem.W.Frag} (hK : X.K = K) : L2.IxR X (L2.rIxL K) := by
  subst hK
  exact L2.ix_list
theorem Kw.ixT {X : L2.Cx} {K : PySem.W.Frag} (hK : X.K = K) : L2.IxR X (L2.rIxT K) := by
  subst hK
  exact L2.ix_tup
namespace Kw
open PySem PySem.Spec PyProof.Rows L2
section
variable {K : PySem.W.Frag} {H : Hp} {b : Addr} {x : V}
end
end Kw
set_option maxRecDepth 100000
namespace Kw
theorem q_of {n d : Int} (hd : 0 < d) (hg : Int.gcd n d = 1) : (Rat.divInt n d).num = n ∧ (((Rat.divInt n d).den : Nat) : Int) = d := by
  rw [Rat.num_divInt, Rat.den_divInt, Int.gcd_comm, hg, Int.sign_eq_one_of_pos hd, if_neg (by omega)]
  constructor
  · simp
  · simp; omega
theorem q_is {q : Rat} {n d : Int} (hd : 0 < d) (hg : Int.gcd n d = 1) (e : q = Rat.divInt n d) : n = q.num ∧ d = ((q.den : Nat) : Int) := by
  subst e
  obtain ⟨a, b⟩ := q_of hd hg
  exact ⟨a.symm, b.symm⟩
theorem gcd_fT_fB {t b : Int} (h : b ≠ 0) : Int.gcd (fT t b) (fB t b) = 1 := by
  have hp : 0 < Int.gcd t b := Int.gcd_pos_of_ne_zero_right _ h
  have e1 := fT_mul t b
  have e2 := fB_mul t b
  have e : Int.gcd (dv t b * fT t b) (dv t b * fB t b) = (dv t b).natAbs * Int.gcd (fT t b) (fB t b) := Int.gcd_mul_left ..
  rw [e1, e2] at e
  have hn : (dv t b).natAbs = Int.gcd t b := by unfold dv; split <;> simp
  rw [hn] at e
  exact Nat.eq_of_mul_eq_mul_left hp (by omega)
theorem q_fit {t b : Int} (h : b ≠ 0) : fT t b = (Rat.divInt t b).num ∧ fB t b = (((Rat.divInt t b).den : Nat) : Int) := by
  refine q_is (fB_pos h) (gcd_fT_fB h) ?_
  have e := Rat.divInt_mul_left (n := fT t b) (d := fB t b) (dv_ne (t := t) h)
  rw [fT_mul, fB_mul] at e
  exact e
theorem q_red (q : Rat) : Int.gcd q.num ((q.den : Nat) : Int) = 1 := by
  have := q.reduced
  simpa [Int.gcd, Nat.Coprime] using this
theorem q_pos (q : Rat) : 0 < ((q.den : Nat) : Int) := by
  have := q.den_nz
  omega
theorem q_add (x y : Rat) : Rat.divInt (x.num * y.den + y.num * x.den) (x.den * y.den) = x + y := by
  conv => rhs; rw [← Rat.num_divInt_den x, ← Rat.num_divInt_den y]
  rw [Rat.divInt_add_divInt _ _ (by have := q_pos x; omega) (by have := q_pos y; omega)]
theorem q_sub (x y : Rat) : Rat.divInt (x.num * y.den - y.num * x.den) (x.den * y.den) = x - y := by
  conv => rhs; rw [← Rat.num_divInt_den x, ← Rat.num_divInt_den y]
  rw [Rat.divInt_sub_divInt _ _ (by have := q_pos x; omega) (by have := q_pos y; omega)]
theorem q_mul (x y : Rat) : Rat.divInt (x.num * y.num) (x.den * y.den) = x * y := by
  conv => rhs; rw [← Rat.num_divInt_den x, ← Rat.num_divInt_den y]
  rw [Rat.divInt_mul_divInt]
theorem q_inv (y : Rat) : Rat.divInt y.den y.num = y⁻¹ := by
  conv => rhs; rw [← Rat.num_divInt_den y]
  rw [Rat.inv_divInt]
theorem q_div (x y : Rat) : Rat.divInt (x.num * y.den) (x.den * y.num) = x / y := by
  rw [Rat.div_def, ← q_inv]
  conv => rhs; rw [← Rat.num_divInt_den x]
  rw [Rat.divInt_mul_divInt]
theorem q_neg (y : Rat) : (-y).num = -y.num ∧ (-y).den = y.den := ⟨rfl, rfl⟩
theorem q_lt (x y : Rat) : x < y ↔ x.num * y.den < y.num * x.den := Rat.lt_iff x y
theorem fd_mul {x g : Int} (h : g ∣ x) : g * x.fdiv g = x := Int.mul_fdiv_cancel' h
theorem quot_dvd {x g : Int} (h : g ∣ x) : x.fdiv g ∣ x := ⟨g, by rw [Int.mul_comm]; exact (fd_mul h).symm⟩
theorem cop_dvd {a b b' : Int} (h : Int.gcd a b = 1) (d : b' ∣ b) : Int.gcd a b' = 1 := by
  have h1 : Int.gcd a b' ∣ Int.gcd a b := Int.dvd_gcd (Int.gcd_dvd_left ..) (Int.dvd_trans (Int.gcd_dvd_right ..) d)
  rw [h] at h1
  exact Nat.dvd_one.mp h1
theorem cop_mul {a b c : Int} (h : Int.gcd a b = 1) (k : Int.gcd a c = 1) : Int.gcd a (b * c) = 1 := by
  show Nat.gcd a.natAbs (b * c).natAbs = 1
  rw [Int.natAbs_mul]
  exact Nat.Coprime.mul_right h k
theorem cop_add {a b c : Int} (h : Int.gcd a b = 1) : Int.gcd (a + c * b) b = 1 := by
  rw [Int.gcd_add_mul_right_left]; exact h
theorem cop_quot {a b : Int} (h : b ≠ 0) (g : Int) (hg : g = ((Int.gcd a b : Nat) : Int)) : Int.gcd (a.fdiv g) (b.fdiv g) = 1 := by
  have hp : 0 < Int.gcd a b := Int.gcd_pos_of_ne_zero_right _ h
  have e1 : g * a.fdiv g = a := fd_mul (by rw [hg]; exact Int.gcd_dvd_left ..)
  have e2 : g * b.fdiv g = b := fd_mul (by rw [hg]; exact Int.gcd_dvd_right ..)
  have e : Int.gcd (g * a.fdiv g) (g * b.fdiv g) = g.natAbs * Int.gcd (a.fdiv g) (b.fdiv g) := Int.gcd_mul_left ..
  rw [e1, e2] at e
  have hn : g.natAbs = Int.gcd a b := by rw [hg]; simp
  rw [hn] at e
  exact Nat.eq_of_mul_eq_mul_left hp (by omega)
theorem quot_pos {b g : Int} (hb : 0 < b) (hg : 0 < g) (d : g ∣ b) : 0 < b.fdiv g := by
  have e := fd_mul d
  refine Int.not_le.mp fun q => ?_
  have := Int.mul_nonpos_of_nonneg_of_nonpos (Int.le_of_lt hg) q
  omega
theorem gpos {a b : Int} (h : b ≠ 0) : 0 < ((Int.gcd a b : Nat) : Int) := by
  have := Int.gcd_pos_of_ne_zero_right a h
  omega
theorem q_plus (x y : Rat) (g t h : Int) (hg : g = ((Int.gcd ((x.den : Nat) : Int) ((y.den : Nat) : Int) : Nat) : Int)) (ht : t = x.num * ((y.den : Nat) : Int).fdiv g + y.num * ((x.den : Nat) : Int).fdiv g) (hh : h = ((Int.gcd t g : Nat) : Int)) :
    t.fdiv h = (x + y).num ∧ ((x.den : Nat) : Int).fdiv g * ((y.den : Nat) : Int).fdiv h = (((x + y).den : Nat) : Int) := by
  have hb := q_pos x
  have hd := q_pos y
  have rx := q_red x
  have ry := q_red y
  have ea := q_add x y
  revert hb hd rx ry hg ht ea
  generalize x.num = a
  generalize y.num = c
  generalize ((x.den : Nat) : Int) = b
  generalize ((y.den : Nat) : Int) = d
  intro hg ht hb hd rx ry ea
  have g0 : 0 < g := by rw [hg]; exact gpos (by omega)
  have h0 : 0 < h := by rw [hh]; exact gpos (by omega)
  have gb : g ∣ b := by rw [hg]; exact Int.gcd_dvd_left ..
  have gd : g ∣ d := by rw [hg]; exact Int.gcd_dvd_right ..
  have hht : h ∣ t := by rw [hh]; exact Int.gcd_dvd_left ..
  have hhg : h ∣ g := by rw [hh]; exact Int.gcd_dvd_right ..
  have eb := fd_mul gb
  have ed := fd_mul gd
  have et := fd_mul hht
  have eg := fd_mul hhg
  have b0 := quot_pos hb g0 gb
  have d0 := quot_pos hd g0 gd
  have k0 := quot_pos g0 h0 hhg
  have cbd : Int.gcd (b.fdiv g) (d.fdiv g) = 1 := cop_quot (by omega) g hg
  have ctg : Int.gcd (t.fdiv h) (g.fdiv h) = 1 := cop_quot (by omega) h hh
  have dh : d.fdiv h = g.fdiv h * d.fdiv g := by
    have e := fd_mul (Int.dvd_trans hhg gd)
    have e2 : h * (g.fdiv h * d.fdiv g) = d := by rw [← Int.mul_assoc, eg, ed]
    exact Int.eq_of_mul_eq_mul_left (by omega) (e.trans e2.symm)
  have ct1 : Int.gcd t (b.fdiv g) = 1 := by
    rw [ht]
    refine cop_add ?_
    rw [Int.gcd_comm]
    exact cop_mul (by rw [Int.gcd_comm]; exact cop_dvd rx ⟨g, by rw [Int.mul_comm]; exact eb.symm⟩) cbd
  have ct2 : Int.gcd t (d.fdiv g) = 1 := by
    rw [ht, Int.add_comm]
    refine cop_add ?_
    rw [Int.gcd_comm]
    exact cop_mul (by rw [Int.gcd_comm]; exact cop_dvd ry ⟨g, by rw [Int.mul_comm]; exact ed.symm⟩) (by rw [Int.gcd_comm]; exact cbd)
  have sub : ∀ z, Int.gcd t z = 1 → Int.gcd (t.fdiv h) z = 1 := fun z hz => by
    rw [Int.gcd_comm] at hz ⊢
    exact cop_dvd hz ⟨h, by rw [Int.mul_comm]; exact et.symm⟩
  rw [dh]
  refine q_is ?_ ?_ ?_
  · exact Int.mul_pos b0 (Int.mul_pos k0 d0)
  · exact cop_mul (sub _ ct1) (cop_mul ctg (sub _ ct2))
  · rw [← ea]
    have z := Rat.divInt_mul_left (n := t.fdiv h) (d := b.fdiv g * (g.fdiv h * d.fdiv g)) (a := g * h) (by have := Int.mul_pos g0 h0; omega)
    rw [← z]
    congr 1
    · rw [Int.mul_assoc, et, ht, Int.mul_add]
      congr 1
      · rw [← Int.mul_assoc, Int.mul_comm g, Int.mul_assoc, ed]
      · rw [← Int.mul_assoc, Int.mul_comm g, Int.mul_assoc, eb]
    · rw [show g * h * (b.fdiv g * (g.fdiv h * d.fdiv g)) = (g * b.fdiv g) * ((h * g.fdiv h) * d.fdiv g) by grind, eb, eg, ed]
theorem q_times (x y : Rat) (f s : Int) (hf : f = ((Int.gcd x.num ((y.den : Nat) : Int) : Nat) : Int)) (hs : s = ((Int.gcd y.num ((x.den : Nat) : Int) : Nat) : Int)) :
    x.num.fdiv f * y.num.fdiv s = (x * y).num ∧ ((x.den : Nat) : Int).fdiv s * ((y.den : Nat) : Int).fdiv f = (((x * y).den : Nat) : Int) := by
  have hb := q_pos x
  have hd := q_pos y
  have rx := q_red x
  have ry := q_red y
  have ea := q_mul x y
  revert hb hd rx ry hf hs ea
  generalize x.num = a
  generalize y.num = c
  generalize ((x.den : Nat) : Int) = b
  generalize ((y.den : Nat) : Int) = d
  intro hf hs hb hd rx ry ea
  have f0 : 0 < f := by rw [hf]; exact gpos (by omega)
  have s0 : 0 < s := by rw [hs]; exact gpos (by omega)
  have fa : f ∣ a := by rw [hf]; exact Int.gcd_dvd_left ..
  have fd : f ∣ d := by rw [hf]; exact Int.gcd_dvd_right ..
  have sc : s ∣ c := by rw [hs]; exact Int.gcd_dvd_left ..
  have sb : s ∣ b := by rw [hs]; exact Int.gcd_dvd_right ..
  have ea' := fd_mul fa
  have ed := fd_mul fd
  have ec := fd_mul sc
  have eb := fd_mul sb
  have c1 : Int.gcd (a.fdiv f) (d.fdiv f) = 1 := cop_quot (by omega) f hf
  have c2 : Int.gcd (c.fdiv s) (b.fdiv s) = 1 := cop_quot (by omega) s hs
  have c3 : Int.gcd (a.fdiv f) (b.fdiv s) = 1 := by
    refine cop_dvd (b := b) ?_ (quot_dvd sb)
    rw [Int.gcd_comm] at rx ⊢
    exact cop_dvd rx (quot_dvd fa)
  have c4 : Int.gcd (c.fdiv s) (d.fdiv f) = 1 := by
    refine cop_dvd (b := d) ?_ (quot_dvd fd)
    rw [Int.gcd_comm] at ry ⊢
    exact cop_dvd ry (quot_dvd sc)
  refine q_is (Int.mul_pos (quot_pos hb s0 sb) (quot_pos hd f0 fd)) ?_ ?_
  · rw [Int.gcd_comm]
    refine cop_mul ?_ ?_
    · rw [Int.gcd_comm]; exact cop_mul c3 c1
    · rw [Int.gcd_comm]; exact cop_mul c2 c4
  · rw [← ea]
    have z := Rat.divInt_mul_left (n := a.fdiv f * c.fdiv s) (d := b.fdiv s * d.fdiv f) (a := f * s) (by have := Int.mul_pos f0 s0; omega)
    rw [← z]
    congr 1
    · rw [show f * s * (a.fdiv f * c.fdiv s) = (f * a.fdiv f) * (s * c.fdiv s) by grind, ea', ec]
    · rw [show f * s * (b.fdiv s * d.fdiv f) = (s * b.fdiv s) * (f * d.fdiv f) by grind, eb, ed]
theorem q_dv (a b : Int) : Rat.divInt a b = (a : Rat) / (b : Rat) := by
  have h := q_div (a : Rat) (b : Rat)
  have e1 : (a : Rat).num * (((b : Rat).den : Nat) : Int) = a := by show a * 1 = a; omega
  have e2 : (((a : Rat).den : Nat) : Int) * (b : Rat).num = b := by show 1 * b = b; omega
  rw [e1, e2] at h
  exact h
theorem q_wpos {i : Int} (h : 1 ≤ i) : (0 : Rat) < (i : Rat) := by
  have : ((0 : Int) : Rat) < (i : Rat) := Rat.intCast_lt_intCast.mpr (by omega)
  exact this
theorem q_divpos {a b : Int} (ha : 0 < a) (hb : 0 < b) : (0 : Rat) < Rat.divInt a b := by
  rw [q_dv]
  rw [Rat.div_def]
  exact Rat.mul_pos (q_wpos (by omega)) (Rat.inv_pos.mpr (q_wpos (by omega)))
theorem q_le0 (x : Rat) : x.num ≤ 0 ↔ ¬ 0 < x := by
  have h := q_lt 0 x
  have e : (0 : Rat).num * (x.den : Int) < x.num * ((0 : Rat).den : Int) ↔ 0 < x.num := by
    show 0 * (x.den : Int) < x.num * 1 ↔ 0 < x.num
    omega
  rw [h, e]
  omega
theorem q_div_pos {a b : Rat} (ha : 0 < a) (hb : 0 < b) : (0 : Rat) < a / b := by
  rw [Rat.div_def]
  exact Rat.mul_pos ha (Rat.inv_pos.mpr hb)
end Kw
set_option Elab.async false
set_option linter.all false
set_option maxRecDepth 100000
set_option maxHeartbeats 4000000
namespace Kw
open PySem PySem.Spec PyProof.Rows L2
noncomputable abbrev FQ (K : PySem.W.Frag) (H : Hp) (p : Addr) (x : Rat) : Prop := SqT K H p [.int x.num, .int ((x.den : Nat) : Int)]
section
variable {K : PySem.W.Frag} {H H' : Hp} {p q : Addr} {x y : Rat} {m n : Nat}
theorem FQ.cast (h : FQ K H p x) (e : x = y) : FQ K H p y := e ▸ h
theorem FQ.dp (h : FQ K H p x) : Dp K H (.ref p) (.tuple [.int x.num, .int ((x.den : Nat) : Int)]) := .tup h (.cons (.int _) (.cons (.int _) .nil))
theorem FQ.fit {t b : Int} (h : b ≠ 0) (e : SqT K H p [.int (fT t b), .int (fB t b)]) : FQ K H p (Rat.divInt t b) := by
  obtain ⟨e1, e2⟩ := q_fit (t := t) h
  rw [e1, e2] at e
  exact e
theorem FQ.ofInt {i : Int} (h : SqT K H p [.int i, .int 1]) : FQ K H p (i : Rat) := h
theorem FQ.ofNeg {i : Int} (h : SqT K H p [.int i, .int ((x.den : Nat) : Int)]) (e : i = -x.num) : FQ K H p (-x) := by
  subst e
  exact h
noncomputable def FB (n : Nat) (x : Rat) : Prop := Bd n x.num ∧ Bd n ((x.den : Nat) : Int)
theorem FB.mono (h : FB m x) (l : m ≤ n) : FB n x := ⟨h.1.mono l, h.2.mono l⟩
theorem FB.cast (h : FB n x) (e : x = y) : FB n y := e ▸ h
theorem FB.fit {t b : Int} (h : b ≠ 0) (g1 : Bd n t) (g2 : Bd n b) : FB n (Rat.divInt t b) := by
  obtain ⟨e1, e2⟩ := q_fit (t := t) h
  refine ⟨?_, ?_⟩
  · rw [← e1]; exact bd_fT h g1
  · rw [← e2]; exact bd_fB h g2
theorem q_ne (x : Rat) : ((x.den : Nat) : Int) ≠ 0 := by have := q_pos x; omega
theorem q_num_ne (h : x ≠ 0) : x.num ≠ 0 := fun e => h (Rat.num_eq_zero.mp e)
theorem FB.add (h : FB m x) (g : FB n y) : FB (m + n + 1) (x + y) := by
  rw [← q_add]
  exact FB.fit (Int.mul_ne_zero (q_ne x) (q_ne y)) ((h.1.mul g.2).add ((g.1.mul h.2).mono (by omega))) ((h.2.mul g.2).mono (by omega))
theorem FB.sub (h : FB m x) (g : FB n y) : FB (m + n + 1) (x - y) := by
  rw [← q_sub]
  exact FB.fit (Int.mul_ne_zero (q_ne x) (q_ne y)) ((h.1.mul g.2).sub ((g.1.mul h.2).mono (by omega))) ((h.2.mul g.2).mono (by omega))
theorem FB.mul (h : FB m x) (g : FB n y) : FB (m + n) (x * y) := by
  rw [← q_mul]
  exact FB.fit (Int.mul_ne_zero (q_ne x) (q_ne y)) (h.1.mul g.1) (h.2.mul g.2)
theorem FB.div (h : FB m x) (g : FB n y) (y0 : y ≠ 0) : FB (m + n) (x / y) := by
  rw [← q_div]
  exact FB.fit (Int.mul_ne_zero (q_ne x) (q_num_ne y0)) (h.1.mul g.2) (h.2.mul g.1)
theorem FB.neg (h : FB n x) : FB n (-x) := by
  refine ⟨?_, h.2⟩
  have := h.1
  unfold Bd at this ⊢
  rw [(q_neg x).1]
  omega
theorem FB.ofInt {i : Int} (h : Bd n i) (l : 64 ≤ n) : FB n (i : Rat) := ⟨h, (Bd.small (i := 1) (by decide) (by decide)).mono l⟩
theorem bd_quot {b g : Int} (hb : Bd n b) (d : g ∣ b) (g0 : g ≠ 0) : Bd n (b.fdiv g) := by
  refine hb.of_le ?_
  have e := fd_mul d
  have q := natAbs_le_mul (x := b.fdiv g) g0
  rw [e] at q
  exact q
theorem bd_gcdR {a b : Int} (h : b ≠ 0) (hb : Bd n b) : Bd n ((Int.gcd a b : Nat) : Int) := by
  refine hb.of_le ?_
  have hd : Int.gcd a b ∣ b.natAbs := Nat.gcd_dvd_right _ _
  have := Nat.le_of_dvd (by omega) hd
  omega
end
theorem But.fresh {b : Addr} {H H' : Hp} (h : H b = none) (s : But b H H') : Same H H' := fun a o e => s a o (ne_of_none e h) e
theorem atI_mem (ns : List Int) (d : Int) (lo : 0 ≤ d) (hi : d < (ns.length : Int)) : ∃ v, atI (ns.map V.int) d = some (.int v) ∧ v ∈ ns := by
  have hk : d.toNat < ns.length := by omega
  have ek : d = ((d.toNat : Nat) : Int) := by omega
  have z : atI (ns.map V.int) ((d.toNat : Nat) : Int) = some (.int ns[d.toNat]) := atI_nat (by rw [List.getElem?_map, List.getElem?_eq_getElem hk] <;> rfl)
  rw [← ek] at z
  exact ⟨_, z, List.getElem_mem hk⟩
theorem Scr.same {K : PySem.W.Frag} {H H' : Hp} {a : Addr} (h : Scr K H a) (s : Same H H') : Scr K H' a := by
  obtain ⟨ns, x, y⟩ := h
  exact ⟨ns, s.seq x, y⟩
theorem Fn.imp {P : Program} {w : World} {K : PySem.W.Frag} {mg : Str → Option Value} {base : Heap} {k : Nat} {x : Str} {ps : List Str} {sp sp' : Sp} (F : Fn P w K mg base k x ps sp) (h : ∀ vs H Q E, sp' vs H Q E → sp vs H Q E) : Fn P w K mg base k x ps sp' := by
  obtain ⟨f, fd, g, r⟩ := F.ex
  exact ⟨f, fd, g.imp h, r⟩
theorem if_not {c : Prop} [Decidable c] {A B : Prop} (h1 : ¬ c → A) (h2 : c → B) : if (!decide c) = true then A else B := by
  by_cases e : c
  · rw [decide_eq_true e]; exact iteF (h2 e)
  · rw [decide_eq_false e]; exact iteT (h1 e)
section
variable {X : Cx}
noncomputable def rAl (K : PySem.W.Frag) (r : Bool) : V → V → Hp → VK → Prop := fun x y H Q => ∃ d, Dp K H x d ∧ Dp K H y d ∧ d.canLay0 = true ∧ Nat.ble d.depth 60 = true ∧ Q (.bl r) H
theorem op_neA {K : PySem.W.Frag} (hK : X.K = K) (hu : X.A.units + 100 < cLine) : OpR X (compareOp .NotEq) (rAl K false) := by
  intro pins s σ H x y v u Q I rx ry h
  obtain ⟨d, hx, hy, c, dep, q⟩ := h
  refine op_neD hK hu pins s σ H x y v u Q I rx ry ⟨d, d, hx, hy, c, c, ?_, ?_⟩
  · have := Nat.le_of_ble_eq_true dep
    omega
  · rw [SeqAt.eqv_refl d c]
    exact q
theorem q_list {x y : Rat} : ([x.num, ((x.den : Nat) : Int)] = [y.num, ((y.den : Nat) : Int)]) ↔ x = y := by
  constructor
  · intro e
    simp only [List.cons.injEq, and_true] at e
    exact Rat.ext e.1 (by omega)
  · intro e
    rw [e]
theorem op_eqQ {K : PySem.W.Frag} (hK : X.K = K) (hu : X.A.units + 100 < cLine) : OpR X (compareOp .Eq) (fun a b H Q => ∃ (p q : Addr) (x y : Rat), a = .ref p ∧ b = .ref q ∧ FQ K H p x ∧ FQ K H q y ∧ Q (.bl (decide (x = y))) H) := by
  subst hK
  intro pins s σ H a b v u Q I rx ry h
  obtain ⟨p, q, x, y, rfl, rfl, hx, hy, k⟩ := h
  refine op_eqTI (by omega) pins s σ H _ _ v u Q I rx ry ⟨p, q, [x.num, ((x.den : Nat) : Int)], [y.num, ((y.den : Nat) : Int)], rfl, rfl, hx, hy, ?_⟩
  rw [decide_eq_decide.mpr q_list]
  exact k
end
end Kw
set_option Elab.async false
set_option linter.all false
set_option maxRecDepth 100000
set_option maxHeartbeats 4000000
namespace Kw
open PySem PySem.Spec PyProof.Rows L2
section
variable {X : Cx}
noncomputable def rBits : V → List V → Hp → VK → Prop := fun x vs H Q => ∃ i : Int, x = .int i ∧ vs = [] ∧ Q (.int ((Builtin.Int.intBits i : Nat) : Int)) H
theorem mt_bits : MtR X "int.bit_length" rBits := by
  intro pins s σ H x vs v us Q I rx rv h
  obtain ⟨i, rfl, rfl, q⟩ := h
  obtain ⟨t, rfl⟩ := rx
  cases rv
  exact call_gives PySem.F.slot_int_bit_length (typeIs_int s i t) PySem.F.entry_int_bit_length (PySem.F.args_int_bit_length_1 _) (PySem.AutoIntG2.int_bit_length_int_0 i t) ⟨.int ((Builtin.Int.intBits i : Nat) : Int), H, I.tok _, ⟨_, rfl⟩, q⟩
end
noncomputable def spGcdB : Sp := fun vs H Q _ => ∃ a b : Int, vs = [.int a, .int b] ∧ Bd 4000 b ∧ Q (.int ((Int.gcd a b : Nat) : Int)) H
theorem short_min {a b : Int} (h : Bd 4000 b) : ¬ (((Builtin.Int.intBits (if (if b < 0 then -b else b) < (if a < 0 then -a else a) then (if b < 0 then -b else b) else (if a < 0 then -a else a)) : Nat) : Int) > 4000) := by
  have l : Bd 4000 (if (if b < 0 then -b else b) < (if a < 0 then -a else a) then (if b < 0 then -b else b) else (if a < 0 then -a else a)) := by
    refine h.of_le ?_
    split <;> split <;> (try split) <;> omega
  have := l.bits
  omega
end Kw
set_option Elab.async false
set_option linter.all false
set_option maxRecDepth 100000
set_option maxHeartbeats 4000000
namespace Kw
open PySem PySem.Spec PyProof.Rows L2
theorem q_invp {y : Rat} (h : 0 < y.num) : (y⁻¹).num = ((y.den : Nat) : Int) ∧ (((y⁻¹).den : Nat) : Int) = y.num := by
  have e : y⁻¹ = Rat.inv y := rfl
  rw [e]
  unfold Rat.inv
  rw [dif_neg (by omega), dif_pos h]
  exact ⟨rfl, by show ((y.num.natAbs : Nat) : Int) = y.num; omega⟩
theorem q_invn {y : Rat} (h : y.num < 0) : (y⁻¹).num = -((y.den : Nat) : Int) ∧ (((y⁻¹).den : Nat) : Int) = -y.num := by
  have e : y⁻¹ = Rat.inv y := rfl
  rw [e]
  unfold Rat.inv
  rw [dif_pos h]
  exact ⟨rfl, by show ((y.num.natAbs : Nat) : Int) = -y.num; omega⟩
theorem FB.inv {n : Nat} {y : Rat} (h : FB n y) (y0 : y ≠ 0) : FB n y⁻¹ := (FB.fit (q_num_ne y0) h.2 h.1).cast (q_inv y)
end Kw
namespace Kw
open PySem PySem.Spec PyProof.Rows L2
theorem cap_two {X : Cx} {scope : Scope} {cl : List (Str × Addr)} {y y' : Str} {j j' : Nat} {c c' : Addr} (h1 : X.N[j]? = some y) (h2 : X.env.kindOf y = some .cell) (h3 : X.env.cells.lookup y = some c) (h4 : cl.lookup y = some c)
    (h5 : (relabel scope X.env).names.lookup y = some .cell ∨ (relabel scope X.env).names.lookup y = some .free)
    (g1 : X.N[j']? = some y') (g2 : X.env.kindOf y' = some .cell) (g3 : X.env.cells.lookup y' = some c') (g4 : cl.lookup y' = some c')
    (g5 : (relabel scope X.env).names.lookup y' = some .cell ∨ (relabel scope X.env).names.lookup y' = some .free) : Capt X scope cl [y, y'] [j, j'] :=
  ⟨rfl, fun k z h => by
    match k with
    | 0 => cases h; exact ⟨j, c, rfl, h1, h2, h3, h4, h5⟩
    | 1 => cases h; exact ⟨j', c', rfl, g1, g2, g3, g4, g5⟩
    | k + 2 => simp at h⟩
end Kw
namespace Kw
theorem cl_two {cells : List (PySem.Str × PySem.Addr)} {y1 y2 : PySem.Str} {c1 c2 : PySem.Addr} (h1 : cells.lookup y1 = some c1) (h2 : cells.lookup y2 = some c2) : ∀ y c, List.lookup y [(y1, c1), (y2, c2)] = some c → cells.lookup y = some c := by
  intro y c e
  rw [List.lookup_cons] at e
  split at e
  · rename_i q
    have e1 : y = y1 := by simpa using q
    cases e
    rw [e1]
    exact h1
  · rw [List.lookup_cons] at e
    split at e
    · rename_i q
      have e1 : y = y2 := by simpa using q
      cases e
      rw [e1]
      exact h2
    · cases e
end Kw
set_option Elab.async false
set_option linter.all false
set_option maxRecDepth 100000
set_option maxHeartbeats 4000000
namespace Kw
open PySem PySem.Spec PyProof.Rows L2
noncomputable def Al2 {β : Type} (R : V → β → Prop) : List V → List β → Prop
  | [], [] => True
  | x :: xs, b :: bs => R x b ∧ Al2 R xs bs
  | _, _ => False
section
variable {β : Type} {R R' : V → β → Prop}
theorem Al2.imp (h : ∀ x b, R x b → R' x b) : ∀ {xs : List V} {bs : List β}, Al2 R xs bs → Al2 R' xs bs
  | [], [], _ => trivial
  | _ :: _, _ :: _, z => ⟨h _ _ z.1, Al2.imp h z.2⟩
  | [], _ :: _, z => z.elim
  | _ :: _, [], z => z.elim
theorem Al2.len : ∀ {xs : List V} {bs : List β}, Al2 R xs bs → xs.length = bs.length
  | [], [], _ => rfl
  | _ :: _, _ :: _, z => by simp [Al2.len z.2]
  | [], _ :: _, z => z.elim
  | _ :: _, [], z => z.elim
theorem Al2.get : ∀ {xs : List V} {bs : List β} {i : Nat} {x : V}, Al2 R xs bs → xs[i]? = some x → ∃ b, bs[i]? = some b ∧ R x b
  | [], _, _, _, _, e => by simp at e
  | _ :: _, [], _, _, z, _ => z.elim
  | _ :: _, b :: _, 0, _, z, e => by
    simp only [List.getElem?_cons_zero, Option.some.injEq] at e
    subst e
    exact ⟨b, rfl, z.1⟩
  | _ :: _, _ :: _, i + 1, _, z, e => by
    simp only [List.getElem?_cons_succ] at e
    obtain ⟨b, h1, h2⟩ := Al2.get z.2 e
    exact ⟨b, by simpa using h1, h2⟩
theorem Al2.snoc : ∀ {xs : List V} {bs : List β} {x : V} {b : β}, Al2 R xs bs → R x b → Al2 R (xs ++ [x]) (bs ++ [b])
  | [], [], _, _, _, h => ⟨h, trivial⟩
  | _ :: _, _ :: _, _, _, z, h => ⟨z.1, Al2.snoc z.2 h⟩
  | [], _ :: _, _, _, z, _ => z.elim
  | _ :: _, [], _, _, z, _ => z.elim
theorem Al2.rev : ∀ {xs : List V} {bs : List β}, Al2 R xs bs → Al2 R xs.reverse bs.reverse
  | [], [], _ => trivial
  | x :: xs, b :: bs, z => by
    rw [List.reverse_cons, List.reverse_cons]
    exact Al2.snoc (Al2.rev z.2) z.1
  | [], _ :: _, z => z.elim
  | _ :: _, [], z => z.elim
theorem take_snoc {bs : List β} {i : Nat} {b : β} (h : bs[i]? = some b) : bs.take (i + 1) = bs.take i ++ [b] := by
  rw [List.take_add_one, h]
  rfl
end
noncomputable def FrQ (K : PySem.W.Frag) (H : Hp) (n : Nat) (x : V) (q : Rat) : Prop := ∃ p, x = .ref p ∧ FQ K H p q ∧ FB n q
noncomputable def BdQ (K : PySem.W.Frag) (H : Hp) (n : Nat) (x : V) (b : Rat × Rat × Int) : Prop := ∃ p a c, x = .ref p ∧ SqT K H p [.ref a, .ref c, .int b.2.2] ∧ FQ K H a b.1 ∧ FQ K H c b.2.1 ∧ FB n b.1 ∧ FB n b.2.1 ∧ 1 ≤ b.2.2 ∧ b.2.2 ≤ 10000
section
variable {K : PySem.W.Frag} {H H' : Hp} {n m : Nat} {x : V} {q : Rat} {b : Rat × Rat × Int}
theorem FrQ.same (h : FrQ K H n x q) (s : Same H H') : FrQ K H' n x q := by
  obtain ⟨p, e, g, d⟩ := h
  exact ⟨p, e, Kw.Same.tup s g, d⟩
theorem BdQ.same (h : BdQ K H n x b) (s : Same H H') : BdQ K H' n x b := by
  obtain ⟨p, a, c, e, h1, h2, h3, r⟩ := h
  exact ⟨p, a, c, e, Kw.Same.tup s h1, Kw.Same.tup s h2, Kw.Same.tup s h3, r⟩
theorem frs_same {xs : List V} {qs : List Rat} (h : Al2 (FrQ K H n) xs qs) (s : Same H H') : Al2 (FrQ K H' n) xs qs := Al2.imp (fun _ _ z => z.same s) h
theorem bds_same {xs : List V} {bs : List (Rat × Rat × Int)} (h : Al2 (BdQ K H n) xs bs) (s : Same H H') : Al2 (BdQ K H' n) xs bs := Al2.imp (fun _ _ z => z.same s) h
end
noncomputable def mir1 (b : Rat × Rat × Int) : Rat × Rat × Int := (-b.1, -b.2.1, b.2.2)
noncomputable def mirQ (bs : List (Rat × Rat × Int)) : List (Rat × Rat × Int) := bs.reverse.map mir1
noncomputable def sumQ (qs : List Rat) : Rat := qs.foldl (fun a b => a + b) 0
theorem sumQ_snoc (qs : List Rat) (q : Rat) : sumQ (qs ++ [q]) = sumQ qs + q := by
  unfold sumQ
  rw [List.foldl_append]
  rfl
noncomputable def pushQ (bs : List (Rat × Rat × Int)) : Rat := sumQ (bs.map fun b => (b.2.2 : Rat) * b.2.1)
noncomputable def mightQ (bs : List (Rat × Rat × Int)) : Rat := sumQ (bs.map fun b => (b.2.2 : Rat) * b.2.1 * b.2.1)
section
variable {X : Cx} {K : PySem.W.Frag}
noncomputable def tGlobT (K : PySem.W.Frag) (t b : Int) : TE := fun _ H Q => ∀ N, (∀ H1, SqT K H1 N [.int t, .int b]) → Q (.ref N) H
theorem pe_globT {x : Str} {t b : Int} {pos : Pos} (hK : X.K = K) (hg : Gl X x) (hm : ∃ N, X.mg x = some (.ref N) ∧ ∀ H, SqT K H N [.int t, .int b]) (hd : (x == ("__debug__" : Str)) = false := by decide) : PE X (.Name x pos) (tGlobT K t b) := by
  obtain ⟨N, hm, hN⟩ := hm
  intro pins s σ H Q I h
  exact pe_glob hg hm (v := .ref N) rfl hd pins s σ H Q I (h N hN)
theorem sqt_const {A : Addr} {o : Option Addr} {t b : Int} {k1 k2 : Tok} {n : Nat} {sl : Array (Option Value)} (h : K.lookup A = some ⟨.type "tuple", o, .seq #[.int t k1, .int b k2] n, sl⟩) : ∀ H, SqT K H A [.int t, .int b] := fun H =>
  .inr ⟨_, _, _, h, rfl, rfl, by show 2 ≤ sizeLine; decide, .cons ⟨_, rfl⟩ (.cons ⟨_, rfl⟩ .nil)⟩
end
end Kw
set_option Elab.async false
set_option linter.all false
set_option maxRecDepth 100000
set_option maxHeartbeats 4000000
namespace Kw
open PySem PySem.Spec PyProof.Rows L2
section
variable {pr : Program} {wd : World} {Ar : Around} {Er : Value → Shared → Prop}
end
section
variable {X : Cx} {pos : Pos}
end
end Kw
set_option Elab.async false
set_option linter.all false
set_option maxRecDepth 100000
set_option maxHeartbeats 4000000
namespace Kw
open PySem PySem.Spec PyProof.Rows L2
noncomputable def Itv (K : PySem.W.Frag) (a : Addr) (n : Nat) : It where
  go := fun i H => i < n ∧ ∃ xs, SqL K H a xs ∧ xs.length = n
  yld := fun i H v H' => H' = H ∧ ∀ xs, SqL K H a xs → xs[n - 1 - i]? = some v
  stop := fun i _ => i = n
theorem turn_rev {P : Program} {w : World} {K : PySem.W.Frag} {tg : Expr} (a it : Addr) (n : Nat) : Turn P w K tg (Itv K a n) [it] it (fun i h => h.IsRevIter it a ((n : Int) - 1 - (i : Int))) where
  mem := by simp
  obj := fun i h st b hb => by
    have eb : b = it := by simpa using hb
    subst eb
    obtain ⟨o, ho, _, d⟩ := st
    exact ⟨o, ho, fun v z => by rw [d] at z; cases z⟩
  keep := fun i h h' st k => st.at fun o e => k it (by simp) o e
  item := by
    intro X hP hw hK hc i pins s σ H E I hf st hg
    subst hP hw hK
    obtain ⟨hi, xs, hq, hn⟩ := hg
    obtain ⟨its, rv, p, hz⟩ := I.list hq
    have hx : xs[n - 1 - i]? = some (xs[n - 1 - i]'(by omega)) := List.getElem?_eq_getElem (by omega)
    obtain ⟨u, hu, ru⟩ := rv.get hx
    have f := hf it (by simp)
    have ez : (n : Int) - 1 - (i : Int) = ((n - 1 - i : Nat) : Int) := by omega
    rw [ez] at st
    refine wpAny_pyNext_rev_item st p.isList (x := u) (by simpa using hu) fun h' st' sb => ?_
    have I1 : Inv X pins σ H { s with heap := h' } := I.turned (t' := s.toks) (fun b o hb e => (sb.2 b hb).trans e) f.1 f.2.1 f.2.2.2.1 f.2.2.2.2.1 f.2.2.2.2.2
    have e2 : ((n - 1 - i : Nat) : Int) - 1 = (n : Int) - 1 - ((i + 1 : Nat) : Int) := by omega
    rw [e2] at st'
    obtain ⟨o, e, c, d⟩ := id st'
    exact ⟨u, rfl, go_of (s := { s with heap := h' }) e c d (by decide) ⟨_, H, I1, ru, ⟨rfl, fun ys hy => by rw [I.list_inj hy hq]; exact hx⟩, st', fun b hb => (hf b hb).1⟩⟩
  done := by
    intro X hP hw hK hc i pins s σ H E I hf st hg
    subst hP hw hK
    have f := hf it (by simp)
    have ei : i = n := hg
    subst ei
    have ez : (i : Int) - 1 - (i : Int) = -1 := by omega
    rw [ez] at st
    exact wpAny_pyNext_rev_end (I.ok.hd hc) st fun h' eb => ⟨rfl, I.turned (t' := s.toks) (fun b o hb e => eb b o hb e) f.1 f.2.1 f.2.2.2.1 f.2.2.2.2.1 f.2.2.2.2.2⟩
  self := fun _ _ _ _ _ st h => wpAny_pyIter_revIter st h
noncomputable def iRev (K : PySem.W.Frag) (ta : TA) : TI := fun σ H R => ta σ H fun vs H1 => ∃ a xs, vs = [.ref a] ∧ SqL K H1 a xs ∧ R (Itv K a xs.length) H1
theorem pi_rev {X : Cx} {tg : Expr} {p pos : Pos} {e1 : Expr} {ta : TA} (hg : Gl X "reversed") (hm : X.mg "reversed" = none) (ha : PA X [e1] ta) (hs : starEach [e1] X.env = [(false, eval e1 X.env)] := by rfl) :
    PI X tg (.Call (.Name "reversed" p) [e1] [] pos) (iRev X.K ta) := by
  intro pins s σ H R I h
  refine Call_ (ld_blt I hg hm PyProof.Rows.Boot.«reversed» (PyProof.Rows.callWith_type1 (thn (ha pos pins s σ H _ I h) fun us s1 ⟨vs, H1, I1, r1, q1⟩ => ?_) hs rfl))
  obtain ⟨a, xs, rfl, hx, q⟩ := q1
  obtain ⟨u, rfl, ru⟩ := vals1 r1
  cases (show u = Value.ref a from ru)
  obtain ⟨its, rv, pa, _⟩ := I1.list hx
  refine call_reversed_list pa.isList ?_
  have en : its.toArray.size = xs.length := by rw [List.size_toArray, ← rv.length]
  have hit : (s1.heap.push (revObj a ((its.toArray.size : Int) - 1))).IsRevIter s1.heap.objs.size a ((xs.length : Int) - 1 - ((0 : Nat) : Int)) := ⟨_, Heap.get?_push_size _ rfl, rfl, by rw [en]; simp [revObj]⟩
  refine wpAny_pyIter_revIter hit ?_
  refine ⟨s1.heap.objs.size, [s1.heap.objs.size], _, _, H1, rfl, I1.kept (t' := s1.toks) fun b o e => Heap.get?_push_of_some _ e, turn_rev a _ xs.length, hit, fun b hb => ?_, q⟩
  have e : b = s1.heap.objs.size := by simpa using hb
  subst e
  exact I1.fpOk (Nat.le_refl _) (I1.hok.fresh (Nat.le_refl _))
section
variable {K : PySem.W.Frag} {te : TE} {σ : L2.St} {H : Hp} {Q : VK} {idx : List Nat}
theorem lc_rev {a : Addr} {xs : List V} (Pv : Nat → List V → Hp → Prop) (h0 : Pv 0 [] H) (hz : xs.length ≤ sizeLine) (hy : ∀ i ys H, Pv i ys H → ys.length = i) (hl : ∀ i ys H, Pv i ys H → SqL K H a xs)
    (hs : ∀ i x ys H (Q' : VK), xs.reverse[i]? = some x → Pv i ys H → (∀ v H2, Pv (i + 1) (ys ++ [v]) H2 → Q' v H2) → te (stIn (some x) idx σ) H Q') (hd : ∀ ys H, Pv xs.length ys H → ∀ p, H p = none → Q (.ref p) (upd H p (.lst ys))) :
    LcBody (Itv K a xs.length) idx te σ Q H := by
  refine ⟨fun i m ys H => m = xs.length - i ∧ i ≤ xs.length ∧ Pv i ys H, ⟨xs.length, by simp, Nat.zero_le _, h0⟩, ?_⟩
  rintro i m ys H ⟨rfl, hi, p⟩
  have q := hl i ys H p
  refine ⟨by rw [hy i ys H p]; omega, ?_⟩
  by_cases hlt : i < xs.length
  · refine .inr ⟨⟨hlt, xs, q, rfl⟩, fun y H' yl => ?_⟩
    obtain ⟨e, yl⟩ := yl
    subst e
    have ex : xs.reverse[i]? = some y := by rw [List.getElem?_reverse hlt]; exact yl xs q
    exact hs i y ys _ _ ex p fun v H2 z => ⟨xs.length - (i + 1), by omega, rfl, hlt, z⟩
  · have e : i = xs.length := by omega
    subst e
    exact .inl ⟨rfl, hd ys H p⟩
end
end Kw
set_option Elab.async false
set_option linter.all false
set_option maxRecDepth 100000
set_option maxHeartbeats 4000000
namespace Kw
open PySem PySem.Spec PyProof.Rows L2
section
variable {K : PySem.W.Frag} {H H' : Hp} {n : Nat} {x : V} {q : Rat} {b : Rat × Rat × Int} {c : Addr} {zs xs : List V} {bs : List (Rat × Rat × Int)}
theorem FrQ.but (h : FrQ K H n x q) (s : But c H H') (hc : H c = some (.lst zs)) : FrQ K H' n x q := by
  obtain ⟨p, e, g, d⟩ := h
  exact ⟨p, e, s.tup hc g, d⟩
theorem BdQ.but (h : BdQ K H n x b) (s : But c H H') (hc : H c = some (.lst zs)) : BdQ K H' n x b := by
  obtain ⟨p, a, e, z, h1, h2, h3, r⟩ := h
  exact ⟨p, a, e, z, s.tup hc h1, s.tup hc h2, s.tup hc h3, r⟩
theorem bds_but (h : Al2 (BdQ K H n) xs bs) (s : But c H H') (hc : H c = some (.lst zs)) : Al2 (BdQ K H' n) xs bs := Al2.imp (fun _ _ z => z.but s hc) h
theorem frs_but {qs : List Rat} (h : Al2 (FrQ K H n) xs qs) (s : But c H H') (hc : H c = some (.lst zs)) : Al2 (FrQ K H' n) xs qs := Al2.imp (fun _ _ z => z.but s hc) h
noncomputable def frD (q : Rat) : PyData := .tuple [.int q.num, .int ((q.den : Nat) : Int)]
noncomputable def bdD (b : Rat × Rat × Int) : PyData := .tuple [frD b.1, frD b.2.1, .int b.2.2]
theorem BdQ.dp (h : BdQ K H n x b) : Dp K H x (bdD b) := by
  obtain ⟨p, a, e, rfl, h1, h2, h3, r⟩ := h
  exact .tup h1 (.cons (FQ.dp h2) (.cons (FQ.dp h3) (.cons (.int _) .nil)))
theorem bds_dp : ∀ {xs : List V} {bs : List (Rat × Rat × Int)}, Al2 (BdQ K H n) xs bs → Dps K H xs (bs.map bdD)
  | [], [], _ => .nil
  | _ :: _, _ :: _, z => .cons z.1.dp (bds_dp z.2)
  | [], _ :: _, z => z.elim
  | _ :: _, [], z => z.elim
theorem bds_lay : ∀ bs : List (Rat × Rat × Int), PyData.canLayAll0 (bs.map bdD) = true
  | [] => rfl
  | b :: bs => by
    show (PyData.canLay0 (bdD b) && PyData.canLayAll0 (bs.map bdD)) = true
    rw [bds_lay bs]
    rfl
theorem bds_deep : ∀ bs : List (Rat × Rat × Int), PyData.depthAll (bs.map bdD) ≤ 2
  | [] => Nat.zero_le _
  | b :: bs => by
    show max (PyData.depth (bdD b)) (PyData.depthAll (bs.map bdD)) ≤ 2
    have e : PyData.depth (bdD b) = 2 := rfl
    rw [e]
    have := bds_deep bs
    omega
theorem bds_ok (bs : List (Rat × Rat × Int)) : (PyData.list (bs.map bdD)).canLay0 = true ∧ Nat.ble (PyData.list (bs.map bdD)).depth 60 = true := by
  refine ⟨bds_lay bs, Nat.ble_eq_true_of_le ?_⟩
  have : (PyData.list (bs.map bdD)).depth = PyData.depthAll (bs.map bdD) + 1 := rfl
  have := bds_deep bs
  omega
theorem newB {H : Hp} {p : Addr} (o : HO) : ∃ H', upd H p o = H' ∧ But p H H' ∧ H' p = some o := ⟨_, rfl, but_upd _, upd_same⟩
theorem none_of_but {H H' : Hp} {a c : Addr} (s : But c H H') (h : H' a = none) (n : a ≠ c) : H a = none := by
  cases e : H a with
  | none => rfl
  | some o => have := s _ _ n e; rw [h] at this; cases this
noncomputable def Asc (bs : List (Rat × Rat × Int)) : Prop := List.Pairwise (fun a b => a.1 < b.1) bs
theorem Asc.snoc (h : Asc bs) (k : ∀ a ∈ bs, a.1 < b.1) : Asc (bs ++ [b]) := by
  unfold Asc
  rw [List.pairwise_append]
  exact ⟨h, List.pairwise_singleton _ _, fun a ha z hz => by rw [List.mem_singleton.mp hz]; exact k a ha⟩
end
section
theorem same_then_but {H H1 H2 : Hp} {c : Addr} (n : H c = none) (s : Same H H1) (t : But c H1 H2) : Same H H2 := fun a o e => t a o (ne_of_none e n) (s a o e)
end
theorem most_of (ns : List Int) (N : Int) (h : 1 ≤ N) : ∃ m : Int, (if (if N < (((ns.map V.int).length : Nat) : Int) then N else (((ns.map V.int).length : Nat) : Int)) > 1 then (if N < (((ns.map V.int).length : Nat) : Int) then N else (((ns.map V.int).length : Nat) : Int)) else 1) = m ∧ 1 ≤ m ∧ m ≤ N := by
  refine ⟨_, rfl, ?_⟩
  split
  · split <;> omega
  · omega
end Kw
set_option Elab.async false
set_option linter.all false
set_option maxRecDepth 100000
set_option maxHeartbeats 4000000
namespace Kw
open PySem PySem.Spec PyProof.Rows L2
section
variable {X : Cx} {pins : List (Addr × Obj)} {σ : L2.St} {H : Hp} {s : Shared} {N ns xs : List Str} {scope : Scope} {cl : List (Str × Addr)} {C : Addr} {fp : List Addr} {idx : List Nat}
end
section
variable {X : Cx} {elt iter tg : Expr} {ifs : List Expr} {xs : List Str} {pos : Pos} {scope : Scope} {cl : List (Str × Addr)} {wi : TI} {g : TG} {tt : TT} {te : TE} {ns : List Str} {idx : List Nat}
end
section
variable {K : PySem.W.Frag} {te : TE} {tt : TT} {g : TG} {σ : L2.St} {H : Hp} {Q : VK} {idx : List Nat} {k : Nat}
end
section
variable {X : Cx} {pos : Pos}
end
theorem sumQ_cons (q : Rat) (qs : List Rat) : sumQ (q :: qs) = q + sumQ qs := by
  have h : ∀ (l : List Rat) (a : Rat), l.foldl (fun a b => a + b) a = a + sumQ l := by
    intro l
    induction l with
    | nil => intro a; show a = a + 0; grind
    | cons b l ih =>
      intro a
      show l.foldl _ (a + b) = a + l.foldl (fun a b => a + b) (0 + b)
      rw [ih, ih]
      grind
  show qs.foldl (fun a b => a + b) (0 + q) = _
  rw [h]
  grind
end Kw
set_option Elab.async false
set_option linter.all false
set_option maxRecDepth 100000
set_option maxHeartbeats 4000000
namespace Kw
open PySem PySem.Spec PyProof.Rows L2
noncomputable def Ite (K : PySem.W.Frag) (a : Addr) : It where
  go := fun i H => ∃ xs x, SqL K H a xs ∧ xs[i]? = some x
  yld := fun i H v H' => ∃ p x, v = .ref p ∧ H p = none ∧ H' = upd H p (.tup [.int (i : Int), x]) ∧ ∀ xs, SqL K H a xs → xs[i]? = some x
  stop := fun i H => ∃ xs, SqL K H a xs ∧ xs.length ≤ i
structure EnumAt (e it a : Addr) (i : Nat) (h : Heap) : Prop where
  en : ∃ old, IsEnum h e it (i : Int) old
  ji : h.IsListIter it a i
theorem turn_enum {P : Program} {w : World} {K : PySem.W.Frag} {elts : List Expr} {x1} {pos : Pos} (e it a : Addr) (ne : e ≠ it) :
    Turn P w K (.Tuple elts x1 pos) (Ite K a) [e, it] e (fun i h => EnumAt e it a i h) where
  mem := by simp
  obj := fun i h st c hc => by
    obtain ⟨⟨old, en⟩, ⟨o1, e1, _, c1⟩⟩ := st
    simp only [List.mem_cons, List.not_mem_nil, or_false] at hc
    rcases hc with rfl | rfl
    · exact ⟨_, en, fun v q => nomatch q⟩
    · exact ⟨_, e1, fun v q => by rw [c1] at q; cases q⟩
  keep := fun i h h' st k => by
    obtain ⟨⟨old, en⟩, ⟨o1, e1, b1, c1⟩⟩ := st
    exact ⟨⟨old, k e (by simp) _ en⟩, ⟨o1, k it (by simp) _ e1, b1, c1⟩⟩
  item := by
    intro X hP hw hK hc i pins s σ H E I hf st hg
    subst hP hw hK
    obtain ⟨xs, x, hx, ex⟩ := hg
    obtain ⟨its, rv, p, hz⟩ := I.list hx
    obtain ⟨u, hu, ru⟩ := rv.get ex
    obtain ⟨⟨old, en⟩, ji⟩ := st
    refine wpAny_pyNext_enum_item en ji p.isList (x := u) (by simpa using hu) ne fun h1 eo j1 pt sz kp => ?_
    refine ⟨_, rfl, wpAny_letOwnedTupleGo_enum eo fun h2 e2 sb => ?_⟩
    have I1 : Inv X pins σ H { s with heap := h1, toks := s.toks + 1 } := Kw.Inv.turnedL (t' := s.toks + 1) (ch := [e, it]) I (fun c o hc q => by
      simp only [List.mem_cons, List.not_mem_nil, or_false, not_or] at hc
      exact kp c o hc.1 hc.2 q) hf
    have I2 : Inv X pins σ H { s with heap := h2, toks := s.toks + 1 } := Kw.Inv.turnedL (s := { s with heap := h1, toks := s.toks + 1 }) (t' := s.toks + 1) (ch := [e, it]) I1 (fun c o hc q => by
      simp only [List.mem_cons, List.not_mem_nil, or_false, not_or] at hc
      exact (sb.2 c hc.1).trans q) hf
    have nn : H s.heap.objs.size = none := I.hok.fresh (Nat.le_refl _)
    have zl : e ≠ s.heap.objs.size := Nat.ne_of_lt (Heap.lt_size en)
    have kk : ∀ c, c ≠ e → h2.get? c = h1.get? c := fun c hc => sb.2 c hc
    have pp2 : h2.get? s.heap.objs.size = some { cls := .type "tuple", data := .seq #[.int i s.toks, u] } := (kk _ (Ne.symm zl)).trans pt
    have I3 : Inv X pins σ (upd H s.heap.objs.size (.tup [.int (i : Int), x])) { s with heap := h2, toks := s.toks + 1 } := by
      refine Kw.Inv.adopt (fun q c hq z' => ?_) I2 (Heap.get?_none_of_le I.sz) nn (fun z' => ?_) (fun q hq z' => ?_) ⟨by show 2 ≤ sizeLine; decide, [.int i s.toks, u], .cons ⟨_, rfl⟩ (.cons ru .nil), ⟨_, pp2, rfl, 0, rfl⟩⟩
      · obtain ⟨_, o, q, _⟩ := I.cell q c hq
        exact absurd (Heap.lt_size q) (by rw [z']; exact Nat.lt_irrefl _)
      · exact absurd I.lt (by rw [← z']; exact Nat.lt_irrefl _)
      · exact absurd (Heap.lt_size (I.pin q hq).1) (by rw [z']; exact Nat.lt_irrefl _)
    refine ⟨.ref s.heap.objs.size, _, I3, rfl, ⟨_, x, rfl, nn, rfl, fun zs hzs => by rw [I.list_inj hzs hx]; exact ex⟩, ⟨⟨u, by simpa using e2⟩, ?_⟩, fun c hc => ?_⟩
    · obtain ⟨o1, q1, r1⟩ := j1
      exact ⟨o1, (kk _ (Ne.symm ne)).trans q1, r1⟩
    · have lc : c ≠ s.heap.objs.size := by
        simp only [List.mem_cons, List.not_mem_nil, or_false] at hc
        obtain ⟨o1, q1, _⟩ := ji
        rcases hc with rfl | rfl
        · exact zl
        · exact Nat.ne_of_lt (Heap.lt_size q1)
      rw [upd_ne lc]
      exact (hf c hc).1
  done := by
    intro X hP hw hK hc i pins s σ H E I hf st hg
    subst hP hw hK
    obtain ⟨xs, hx, hl⟩ := hg
    obtain ⟨its, rv, p, hz⟩ := I.list hx
    obtain ⟨⟨old, en⟩, ji⟩ := st
    have l1 := rv.length
    exact wpAny_pyNext_enum_end (I.ok.hd hc) en ji p.isList (by simp; omega) fun h1 eb => ⟨rfl, Kw.Inv.turnedL (t' := s.toks) (ch := [e, it]) I (fun c o hc q => by
      simp only [List.mem_cons, List.not_mem_nil, or_false, not_or] at hc
      exact eb c o hc.2 q) hf⟩
  self := fun _ _ _ _ _ st h => let ⟨_, q⟩ := st.en; wpAny_pyIter_enum q h
noncomputable def iEnum (K : PySem.W.Frag) (ta : TA) : TI := fun σ H R => ta σ H fun vs H1 => ∃ a xs, vs = [.ref a] ∧ SqL K H1 a xs ∧ R (Ite K a) H1
theorem pi_enum {X : Cx} {elts : List Expr} {x1} {tpos p pos : Pos} {e1 : Expr} {ta : TA} (hg : Gl X "enumerate") (hm : X.mg "enumerate" = none) (ha : PA X [e1] ta) (hs : starEach [e1] X.env = [(false, eval e1 X.env)] := by rfl) :
    PI X (.Tuple elts x1 tpos) (.Call (.Name "enumerate" p) [e1] [] pos) (iEnum X.K ta) := by
  intro pins s σ H R I h
  refine Call_ (ld_blt I hg hm PyProof.Rows.Boot.«enumerate» (PyProof.Rows.callWith_type1 (thn (ha pos pins s σ H _ I h) fun us s1 ⟨vs, H1, I1, r1, q1⟩ => ?_) hs rfl))
  obtain ⟨a, xs, rfl, hx, q⟩ := q1
  obtain ⟨u, rfl, ru⟩ := vals1 r1
  cases (show u = Value.ref a from ru)
  obtain ⟨its, _, pa, _⟩ := I1.list hx
  refine call_enumerate_list pa.isList fun h' en ji sz kp => ?_
  refine wpAny_pyIter_enum en ?_
  refine ⟨_, [s1.heap.objs.size + 1, s1.heap.objs.size], _, _, H1, rfl, I1.kept (t' := s1.toks) kp, turn_enum _ _ a (Nat.succ_ne_self _), ⟨⟨_, en⟩, ji⟩, fun c hc => ?_, q⟩
  have lc : s1.heap.objs.size ≤ c := by
    simp only [List.mem_cons, List.not_mem_nil, or_false] at hc
    rcases hc with rfl | rfl
    · exact Nat.le_succ _
    · exact Nat.le_refl _
  exact I1.fpOk lc (I1.hok.fresh lc)
theorem for_enum {K : PySem.W.Frag} {a : Addr} {xs : List V} {g : TG} {tb : TS} {D : Ends} {σ : L2.St} {H : Hp} (Pv : Nat → L2.St → Hp → Prop) (h0 : Pv 0 σ H) (hl : ∀ i σ H, Pv i σ H → SqL K H a xs)
    (hs : ∀ i x σ H, xs[i]? = some x → Pv i σ H → ∀ p H', Same H H' → H p = none → H' p = some (.tup [.int (i : Int), x]) → g (.ref p) σ H' fun σ2 H2 => tb { D with nx := Pv (i + 1), ct := Pv (i + 1), bk := D.nx } σ2 H2) (hd : ∀ σ H, Pv xs.length σ H → D.nx σ H) :
    ∃ W : Nat → Nat → L2.St → Hp → Prop, (∃ m, W 0 m σ H) ∧ ∀ i m σ H, W i m σ H →
      ((Ite K a).stop i H ∧ D.nx σ H) ∨ ((Ite K a).go i H ∧ ∃ N : L2.St → Hp → Prop, (∀ σ' H', N σ' H' → ∃ m', m' < m ∧ W (i + 1) m' σ' H') ∧ ∀ x H', (Ite K a).yld i H x H' → g x σ H' fun σ2 H2 => tb { D with nx := N, ct := N, bk := D.nx } σ2 H2) := by
  refine ⟨fun i m σ H => m + i = xs.length ∧ Pv i σ H, ⟨xs.length, rfl, h0⟩, ?_⟩
  rintro i m σ H ⟨hm, pv⟩
  have l1 := hl i σ H pv
  by_cases hlt : i < xs.length
  · refine .inr ⟨⟨xs, xs[i], l1, List.getElem?_eq_getElem hlt⟩, Pv (i + 1), fun σ' H' p' => ⟨m - 1, by omega, by omega, p'⟩, fun v H' y => ?_⟩
    obtain ⟨q, x', rfl, hq, rfl, ex⟩ := y
    exact hs i x' σ H (ex xs l1) pv q _ (same_new hq _) hq upd_same
  · have e : i = xs.length := by omega
    subst e
    exact .inl ⟨⟨xs, l1, Nat.le_refl _⟩, hd σ H pv⟩
end Kw
set_option Elab.async false
set_option linter.all false
set_option maxRecDepth 100000
set_option maxHeartbeats 4000000
namespace Kw
open PySem PySem.Spec PyProof.Rows L2
section
variable {prog : Program} {w : World} {A : Around} {E : Value → Shared → Prop} {h : Heap} {g : Array GenState} {d : Drawn} {t : Nat} {os : OsState} {C f : Addr} {K : PySem.W.Frag}
end
end Kw
namespace Kw
open PySem PySem.Spec PyProof.Rows L2
section
variable {prog : Program} {w : World} {A : Around} {E : Value → Shared → Prop} {h : Heap} {g : Array GenState} {d : Drawn} {t : Nat} {os : OsState} {C e : Addr} {K : PySem.W.Frag} {oe : Obj} {vs : Array Value}
end
end Kw
namespace Kw
open PySem PySem.Spec PyProof.Rows L2 PySem.Builtin PySem.Builtin.ObjectAttr
section
variable {prog : Program} {w : World} {A : Around} {R : Result → Shared → Prop} {s : Shared} {K : PySem.W.Frag} {x C : Addr} {ox : Obj} {od : Option Obj} {name : Str} {tk : Tok} {v : Value}
end
end Kw
set_option Elab.async false
set_option linter.all false
set_option maxRecDepth 100000
set_option maxHeartbeats 4000000
namespace Kw
open PySem PySem.Spec PyProof.Rows L2 PySem.Builtin PySem.Builtin.ObjectAttr
section
variable {prog : Program} {w : World} {A : Around} {R : Result → Shared → Prop} {s : Shared} {K : PySem.W.Frag} {x C : Addr} {ox : Obj} {od : Option Obj} {name : Str} {tk : Tok} {v : Value}
end
end Kw
set_option Elab.async false
set_option linter.all false
set_option maxRecDepth 100000
set_option maxHeartbeats 4000000
namespace Kw
open PySem PySem.Spec PyProof.Rows L2 PySem.Builtin PySem.Builtin.ObjectAttr
section
variable {prog : Program} {w : World} {A : Around} {E : Value → Shared → Prop} {s : Shared} {K : PySem.W.Frag} {x C : Addr} {ox : Obj} {odx : Obj} {name : Str} {v : Value}
end
end Kw
set_option Elab.async false
set_option linter.all false
set_option maxRecDepth 100000
set_option maxHeartbeats 4000000
namespace Kw
open PySem PySem.Spec PyProof.Rows L2
section
variable {P : Program} {w : World} {H : Hp} {h : Heap} {x C d : Addr} {od : Option Addr} {fs : List (Str × V)}
end
section
variable {P : Program} {w : World} {K : PySem.W.Frag} {mg : Str → Option Value} {base : Heap} {C : Addr} {qual : Str} {st : Stmt} {N ps : List Str} {k : Nat} {sp : Sp}
end
section
variable {X : Cx} {pins : List (Addr × Obj)} {σ : L2.St} {H : Hp} {s : Shared} {k k' : Nat} {f C CK : Addr} {fd : FuncData} {ps : List Str} {sp : Sp} {E : XK} {x : Str} {p pos apos : Pos} {e : Expr} {es : List Expr} {t : TA}
variable {o value : Expr} {f : Str} {pos' : Pos} {ta tv : TE}
end
end Kw
set_option Elab.async false
set_option linter.all false
set_option maxRecDepth 100000
set_option maxHeartbeats 4000000
namespace Kw
open PySem PySem.Spec PyProof.Rows L2
end Kw
set_option Elab.async false
set_option linter.all false
set_option maxRecDepth 100000
set_option maxHeartbeats 4000000
namespace Kw
open PySem PySem.Spec PyProof.Rows L2
section
variable {X : Cx} {E : XK} {e : Expr} {te : TE} {pos : Pos}
variable {o : Expr} {f : Str} {ta : TE}
end
end Kw
set_option Elab.async false
set_option linter.all false
set_option maxRecDepth 100000
set_option maxHeartbeats 4000000
namespace Kw
open PySem PySem.Spec PyProof.Rows L2
section
variable {X : Cx} {pins pins' : List (Addr × Obj)} {σ : L2.St} {H : Hp} {s : Shared} {E0 : Value → Shared → Prop}
end
section
variable {X : Cx} {pins : List (Addr × Obj)} {H : Hp} {s : Shared} {hc : Heap} {x CA : Addr} {od : Option Addr}
end
section
variable {X : Cx} {pins : List (Addr × Obj)} {σ : L2.St} {H : Hp} {s : Shared}
end
section
variable {X : Cx} {j : Nat} {n xK : Str} {CK : Addr} {ts : TS} {b₀ : Stmt} {suite : List Stmt} {kp hpos pos : Pos} {rest : List ExceptHandler} {tr : Ends → Addr → Option Addr → Hp → Prop}
variable {body : List Stmt} {tb : XK → TS} {th : Ends → Addr → Option Addr → Hp → Prop} {h₀ : ExceptHandler} {hs : List ExceptHandler}
end
end Kw
set_option Elab.async false
set_option linter.all false
set_option maxRecDepth 100000
set_option maxHeartbeats 4000000
namespace Kw
open PySem PySem.Spec PyProof.Rows L2
theorem list_ins {prog : Program} {w : World} {A : Around} {E : Value → Shared → Prop} {s : Shared} {l : Addr} {items : Array Value} {n : Nat} {x : Int} {t : Tok} {y : Value} {Q : Value → Shared → Prop} (e : s.heap.get? l = some { cls := .type "list", dict := none, data := .seq items n, slots := #[] })
    (hf : ¬ (!Builtin.List.listFitsIndex x) = true) (hz : items.size ≤ sizeLine)
    (want : ∀ f : Array Value → Array Value, (∀ xs, f xs = (xs.extract 0 (if x < 0 then (x + (xs.size : Int)).toNat else min x.toNat xs.size)).push y ++ xs.extract (if x < 0 then (x + (xs.size : Int)).toNat else min x.toNat xs.size)) → Q .none { s with heap := s.heap.update l (Obj.mapSeq f), toks := s.toks }) :
    wpAny (model prog w) A (call (.builtin "list.insert") [.ref l, .int x t, y]) Q E s :=
  call_meets PySem.F.slot_list_insert ⟨_, e, rfl⟩ PySem.F.entry_list_insert (PySem.F.args_list_insert_3 _ _ _) (PySem.AutoSeq1.list_insert_list_int_val_1 l _ n x t y hf hz) ⟨e, want _ fun _ => rfl⟩
section
variable {X : Cx}
noncomputable def rInsert : V → List V → Hp → VK → Prop := fun x vs H Q => ∃ l xs y, ∃ k : Nat, x = .ref l ∧ vs = [.int (k : Int), y] ∧ H l = some (.lst xs) ∧ k ≤ xs.length ∧ xs.length < sizeLine ∧ Q .non (upd H l (.lst (xs.take k ++ y :: xs.drop k)))
theorem mt_insert : MtM X "list.insert" rInsert := by
  intro pins s σ H x vs v us Q I rx rv h
  obtain ⟨l, xs, y, k, rfl, rfl, hH, hk, hz, q⟩ := h
  cases rx
  obtain ⟨u1, u2, rfl, r1, r2⟩ := vals2 rv
  obtain ⟨t, rfl⟩ := r1
  obtain ⟨z, its, n, r, hl, e⟩ := I.lstM hH
  have hk2 : k ≤ its.length := by omega
  have s2 := sizeLine_eq
  have hf : Builtin.List.listFitsIndex (k : Int) = true := by
    unfold Builtin.List.listFitsIndex
    rw [Bool.and_eq_true, decide_eq_true_iff, decide_eq_true_iff]
    omega
  have nf : ¬ (!Builtin.List.listFitsIndex (k : Int)) = true := by rw [hf]; exact Bool.false_ne_true
  have sz : its.toArray.size ≤ sizeLine := by rw [List.size_toArray]; omega
  refine list_ins e nf sz fun f hfx => ?_
  refine ⟨.non, _, I.lset (its' := its.take k ++ u2 :: its.drop k) hH e ?_ ((r.take k).append (.cons r2 (r.drop k))) ?_, rfl, q⟩
  · have ek : (if (k : Int) < 0 then ((k : Int) + (its.toArray.size : Int)).toNat else min (k : Int).toNat its.toArray.size) = k := by
      rw [if_neg (by omega), List.size_toArray]
      omega
    rw [hfx, ek]
    exact PySem.W.kl_ins_eq its k u2
  · rw [List.length_append, List.length_cons, List.length_take, List.length_drop]
    omega
end
section
variable {K : PySem.W.Frag} {idx : List Nat} {tt : TT} {te : TE} {σ : L2.St} {H : Hp} {Q : VK}
end
end Kw
set_option Elab.async false
set_option linter.all false
set_option maxRecDepth 100000
set_option maxHeartbeats 4000000
namespace Kw
open PySem PySem.Spec PyProof.Rows L2
section
variable {S : V → Prop} {lt : V → V → Bool} {x y : V} {row : List V}
end
end Kw
set_option Elab.async false
set_option linter.all false
set_option maxRecDepth 100000
set_option maxHeartbeats 4000000
namespace Kw
open PySem PySem.Spec PyProof.Rows L2
section
variable {K : PySem.W.Frag} {H H' : Hp} {c : Addr} {x : V} {k k' : Int × Int} {xs ys : List V} {key : V → Int × Int}
end
end Kw
set_option Elab.async false
set_option linter.all false
set_option maxRecDepth 100000
set_option maxHeartbeats 4000000
namespace Kw
open PySem PySem.Spec PyProof.Rows L2
section
variable {K : PySem.W.Frag} {H H' : Hp} {b c : Addr} {x : V} {xs ys : List V}
end
end Kw
namespace Kw
open PySem PySem.Spec PyProof.Rows L2
end Kw
namespace Kw
open PySem PySem.Spec PyProof.Rows L2
end Kw
namespace Kw
open PySem PySem.Spec PyProof.Rows L2
end Kw
namespace Kw
open PySem PySem.Spec PyProof.Rows L2
theorem g_go {i : Nat} {x : V} {σ : L2.St} {H : Hp} {Q : L2.St → Hp → Prop} (h : Q (σ.set i (some x)) H) : gName i x σ H Q := h
end Kw
set_option Elab.async false
set_option linter.all false
set_option maxRecDepth 100000
set_option maxHeartbeats 4000000
namespace Kw
open PySem PySem.Spec PyProof.Rows L2
noncomputable abbrev Bod := Rat × Rat × Int
noncomputable def meetQ (a b : Bod) : Option Rat := if b.2.1 < a.2.1 then some ((b.1 - a.1) / (a.2.1 - b.2.1)) else none
noncomputable def rowQ (bs : List Bod) (b : Bod) (k : Nat) : List Rat := (bs.take k).filterMap fun a => meetQ a b
noncomputable def passN (bs : List Bod) : Nat → List Rat
  | 0 => []
  | n + 1 => passN bs n ++ (match bs[n]? with | some b => rowQ bs b n | none => [])
theorem rowQ_succ {bs : List Bod} {a b : Bod} {k : Nat} (h : bs[k]? = some a) : rowQ bs b (k + 1) = rowQ bs b k ++ (meetQ a b).toList := by
  unfold rowQ
  rw [take_snoc h, List.filterMap_append]
  congr 1
theorem passN_succ {bs : List Bod} {b : Bod} {n : Nat} (h : bs[n]? = some b) : passN bs (n + 1) = passN bs n ++ rowQ bs b n := by
  show passN bs n ++ _ = _
  rw [h]
theorem rowQ_len (bs : List Bod) (b : Bod) (k : Nat) : (rowQ bs b k).length ≤ k := by
  unfold rowQ
  have h := List.length_filterMap_le (fun a => meetQ a b) (bs.take k)
  rw [List.length_take] at h
  omega
theorem passN_len (bs : List Bod) : ∀ n, n ≤ 12 → (passN bs n).length ≤ n * 12
  | 0, _ => Nat.zero_le _
  | n + 1, h => by
    show (passN bs n ++ _).length ≤ _
    rw [List.length_append]
    have h1 := passN_len bs n (by omega)
    cases e : bs[n]? with
    | none => show (passN bs n).length + 0 ≤ _; omega
    | some b => have := rowQ_len bs b n; show (passN bs n).length + (rowQ bs b n).length ≤ _; omega
noncomputable def untilQ (qs : List Rat) (t : Rat) : List Rat := qs.filter fun q => !decide (t < q)
theorem atI_z {xs : List V} {j : Nat} {x : V} (h : xs[j]? = some x) : atI xs (0 + (j : Int)) = some x := by
  rw [Int.zero_add]
  exact atI_nat h
section
variable {K : PySem.W.Frag} {te : TE} {tt : TT} {σ : L2.St} {H : Hp} {Q : VK} {idx : List Nat} {n : Nat}
theorem lc_filterQ {a : Addr} {xs : List V} {qs : List Rat} (f : Rat → Bool) (hl : SqL K H a xs) (hz : xs.length ≤ sizeLine) (al : Al2 (FrQ K H n) xs qs)
    (ht : ∀ x q H1 (Q' : Bool → Hp → Prop), Same H H1 → FrQ K H1 n x q → (∀ H2, Same H1 H2 → Q' (f q) H2) → tt (stIn (some x) idx σ) H1 Q') (he : ∀ x H1 (Q' : VK), Q' x H1 → te (stIn (some x) idx σ) H1 Q')
    (hd : ∀ ys H1, Same H H1 → Al2 (FrQ K H1 n) ys (qs.filter f) → ∀ p, H1 p = none → Q (.ref p) (upd H1 p (.lst ys))) : LcBodyT (Itl K a) idx tt te σ Q H := by
  refine ⟨fun i m ys H' => m = xs.length - i ∧ i ≤ xs.length ∧ Same H H' ∧ Al2 (FrQ K H' n) ys ((qs.take i).filter f), ⟨xs.length, by simp, Nat.zero_le _, Same.refl H, trivial⟩, ?_⟩
  rintro i m ys H' ⟨rfl, hi, sm, hy⟩
  have ly := Al2.len hy
  have lf := List.length_filter_le f (qs.take i)
  rw [List.length_take] at lf
  refine ⟨by omega, ?_⟩
  by_cases hlt : i < xs.length
  · refine .inr ⟨⟨xs, xs[i], sm.seq hl, by simp [hlt]⟩, fun y H2 yl => ?_⟩
    obtain ⟨e, yl⟩ := yl
    subst e
    have ex := yl xs (sm.seq hl)
    obtain ⟨q, eq, fq⟩ := Al2.get al ex
    refine ht y q _ _ sm (fq.same sm) fun H3 s3 => ?_
    cases c : f q with
    | true =>
      refine iteT (he y _ _ ⟨xs.length - (i + 1), by omega, rfl, hlt, sm.trans s3, ?_⟩)
      rw [take_snoc eq, List.filter_append]
      have e1 : [q].filter f = [q] := by simp [c]
      rw [e1]
      exact Al2.snoc (frs_same hy s3) (fq.same (sm.trans s3))
    | false =>
      refine iteF ⟨xs.length - (i + 1), by omega, rfl, hlt, sm.trans s3, ?_⟩
      rw [take_snoc eq, List.filter_append]
      have e1 : [q].filter f = [] := by simp [c]
      rw [e1, List.append_nil]
      exact frs_same hy s3
  · have e : i = xs.length := by omega
    subst e
    have et : qs.take xs.length = qs := by rw [Al2.len al, List.take_length]
    rw [et] at hy
    exact .inl ⟨⟨xs, sm.seq hl, Nat.le_refl _⟩, hd ys _ sm hy⟩
end
section
variable {K : PySem.W.Frag} {H : Hp} {m n : Nat} {x : V} {b : Bod}
theorem BdQ.mono (h : BdQ K H m x b) (l : m ≤ n) : BdQ K H n x b := by
  obtain ⟨p, a, c, e, h1, h2, h3, d1, d2, r⟩ := h
  exact ⟨p, a, c, e, h1, h2, h3, d1.mono l, d2.mono l, r⟩
theorem bds_mono {xs : List V} {bs : List Bod} (h : Al2 (BdQ K H m) xs bs) (l : m ≤ n) : Al2 (BdQ K H n) xs bs := Al2.imp (fun _ _ z => z.mono l) h
theorem Asc.of_places {as bs : List Bod} (h : Asc as) (e : bs.map (·.1) = as.map (·.1)) : Asc bs := by
  have h1 : List.Pairwise (fun a b : Rat => a < b) (as.map (·.1)) := List.pairwise_map.mpr h
  rw [← e] at h1
  exact List.pairwise_map.mp h1
theorem Asc.le {bs : List Bod} (h : Asc bs) {i j : Nat} {a c : Bod} (ha : bs[i]? = some a) (hc : bs[j]? = some c) (l : i ≤ j) : a.1 ≤ c.1 := by
  obtain ⟨h1, e1⟩ := List.getElem?_eq_some_iff.mp ha
  obtain ⟨h2, e2⟩ := List.getElem?_eq_some_iff.mp hc
  by_cases z : i = j
  · subst z
    rw [← e1, ← e2]
    exact Rat.le_refl
  · have := List.pairwise_iff_getElem.mp h i j h1 h2 (by omega)
    rw [e1, e2] at this
    grind
end
theorem q_div_le {a b : Rat} (ha : 0 ≤ a) (hb : 0 < b) : (0 : Rat) ≤ a / b := by
  by_cases e : a = 0
  · subst e
    rw [Rat.div_def, Rat.zero_mul]
    exact Rat.le_refl
  · have := q_div_pos (a := a) (b := b) (by grind) hb
    grind
theorem q_div_nn {a b : Int} (ha : 0 ≤ a) (hb : 0 < b) : (0 : Rat) ≤ (a : Rat) / (b : Rat) := by
  refine q_div_le ?_ (q_wpos (by omega))
  by_cases e : a = 0
  · subst e
    exact Rat.le_refl
  · have := q_wpos (i := a) (by omega)
    grind
end Kw
set_option Elab.async false
set_option linter.all false
set_option maxRecDepth 100000
set_option maxHeartbeats 4000000
namespace Kw
open PySem PySem.Spec PyProof.Rows L2
noncomputable def Six (B : Int) (x : Rat) : Prop := ∃ n : Int, x = (n : Rat) / 6 ∧ -B ≤ n ∧ n ≤ B
section
variable {B C : Int} {x y : Rat}
theorem Six.add (h : Six B x) (g : Six C y) : Six (B + C) (x + y) := by
  obtain ⟨n, rfl, a, b⟩ := h
  obtain ⟨m, rfl, c, d⟩ := g
  refine ⟨n + m, ?_, by omega, by omega⟩
  rw [Rat.intCast_add]
  grind
theorem Six.sub (h : Six B x) (g : Six C y) : Six (B + C) (x - y) := by
  obtain ⟨n, rfl, a, b⟩ := h
  obtain ⟨m, rfl, c, d⟩ := g
  refine ⟨n - m, ?_, by omega, by omega⟩
  rw [Rat.intCast_sub]
  grind
theorem Six.mono (h : Six B x) (l : B ≤ C) : Six C x := by
  obtain ⟨n, e, a, b⟩ := h
  exact ⟨n, e, by omega, by omega⟩
theorem six_dv (n : Int) : Rat.divInt n 6 = (n : Rat) / 6 := q_dv n 6
theorem Six.fb (h : Six B x) (l : B ≤ 1000000000) : FB 64 x := by
  obtain ⟨n, rfl, a, b⟩ := h
  rw [← six_dv]
  exact FB.fit (by decide) (Bd.small (by omega) (by omega)) (Bd.small (by decide) (by decide))
theorem six_fit {n d N : Int} (d1 : 1 ≤ d) (d3 : d ≤ 3) (a : -N ≤ n) (b : n ≤ N) : Six (6 * N) (Rat.divInt n d) := by
  rw [q_dv]
  rcases (show d = 1 ∨ d = 2 ∨ d = 3 by omega) with rfl | rfl | rfl
  · refine ⟨6 * n, ?_, by omega, by omega⟩
    rw [Rat.intCast_mul]
    show (n : Rat) / 1 = 6 * n / 6
    grind
  · refine ⟨3 * n, ?_, by omega, by omega⟩
    rw [Rat.intCast_mul]
    show (n : Rat) / 2 = 3 * n / 6
    grind
  · refine ⟨2 * n, ?_, by omega, by omega⟩
    rw [Rat.intCast_mul]
    show (n : Rat) / 3 = 2 * n / 6
    grind
theorem six_over {c d : Int} (h : Six B x) (l : B ≤ 1000000000) (c1 : 1 ≤ c) (c9 : c ≤ 100) (d1 : 1 ≤ d) (d9 : d ≤ 100) : FB 64 (x / Rat.divInt c d) := by
  obtain ⟨n, rfl, a, b⟩ := h
  have e : (n : Rat) / 6 / Rat.divInt c d = Rat.divInt (n * d) (6 * c) := by
    rw [q_dv, q_dv, Rat.intCast_mul, Rat.intCast_mul]
    have hc := q_wpos c1
    have hd := q_wpos d1
    show (n : Rat) / 6 / ((c : Rat) / d) = n * d / (6 * c)
    grind
  rw [e]
  have p1 : n * d ≤ 100000000000 := by
    have := Int.mul_le_mul (show n ≤ 1000000000 by omega) d9 (by omega) (by decide)
    omega
  have p2 : -100000000000 ≤ n * d := by
    have := Int.mul_le_mul (show -n ≤ 1000000000 by omega) d9 (by omega) (by decide)
    rw [Int.neg_mul] at this
    omega
  exact FB.fit (by omega) (Bd.small (by omega) (by omega)) (Bd.small (by omega) (by omega))
end
end Kw
set_option Elab.async false
set_option linter.all false
set_option maxRecDepth 100000
set_option maxHeartbeats 4000000
namespace Kw
open PySem PySem.Spec PyProof.Rows L2
noncomputable def Ahd (a b : Bod) : Prop := a.1 < b.1 ∨ (a.1 = b.1 ∧ a.2.1 < b.2.1)
noncomputable instance (a b : Bod) : Decidable (Ahd a b) := inferInstanceAs (Decidable (a.1 < b.1 ∨ (a.1 = b.1 ∧ a.2.1 < b.2.1)))
noncomputable def ltI (bs : List Bod) (i j : Nat) : Bool := match bs[i]?, bs[j]? with
  | some a, some b => decide (Ahd a b)
  | _, _ => false
theorem ltI_of {bs : List Bod} {i j : Nat} {a b : Bod} (h : bs[i]? = some a) (g : bs[j]? = some b) : ltI bs i j = decide (Ahd a b) := by
  unfold ltI
  rw [h, g]
noncomputable def insN (lt : Nat → Nat → Bool) (k : Nat) : List Nat → List Nat
  | [] => [k]
  | y :: ys => if lt y k = true then y :: insN lt k ys else k :: y :: ys
noncomputable def ordN (lt : Nat → Nat → Bool) : Nat → List Nat
  | 0 => []
  | n + 1 => insN lt n (ordN lt n)
theorem insN_at {lt : Nat → Nat → Bool} {k : Nat} : ∀ (os : List Nat) (s : Nat), s ≤ os.length → (∀ i y, i < s → os[i]? = some y → lt y k = true) → (∀ y, os[s]? = some y → lt y k = false) → os.take s ++ k :: os.drop s = insN lt k os
  | [], 0, _, _, _ => rfl
  | [], _ + 1, h, _, _ => absurd h (by simp)
  | y :: ys, 0, _, _, hn => by
    have e : lt y k = false := hn y rfl
    show k :: y :: ys = _
    unfold insN
    rw [e]
    simp
  | y :: ys, s + 1, h, hl, hn => by
    have e : lt y k = true := hl 0 y (by omega) rfl
    have ih := insN_at ys s (by simpa using h) (fun i z hi hz => hl (i + 1) z (by omega) (by simpa using hz)) (fun z hz => hn z (by simpa using hz))
    show y :: (ys.take s ++ k :: ys.drop s) = _
    rw [ih]
    unfold insN
    rw [if_pos e]
    cases ys <;> rfl
theorem insN_mem {lt : Nat → Nat → Bool} {k : Nat} : ∀ (os : List Nat) (z : Nat), z ∈ insN lt k os → z = k ∨ z ∈ os
  | [], z, h => .inl (List.mem_singleton.mp h)
  | y :: ys, z, h => by
    unfold insN at h
    split at h
    · rcases List.mem_cons.mp h with e | e
      · exact .inr (by rw [e]; exact List.mem_cons_self)
      · rcases insN_mem ys z e with w | w
        · exact .inl w
        · exact .inr (List.mem_cons_of_mem _ w)
    · rcases List.mem_cons.mp h with e | e
      · exact .inl e
      · exact .inr e
theorem insN_len {lt : Nat → Nat → Bool} {k : Nat} : ∀ os : List Nat, (insN lt k os).length = os.length + 1
  | [] => rfl
  | y :: ys => by
    unfold insN
    split
    · simp [insN_len ys]
    · simp
theorem ordN_len (lt : Nat → Nat → Bool) : ∀ n, (ordN lt n).length = n
  | 0 => rfl
  | n + 1 => by
    show (insN lt n (ordN lt n)).length = _
    rw [insN_len, ordN_len lt n]
theorem ordN_lt (lt : Nat → Nat → Bool) : ∀ n, ∀ z ∈ ordN lt n, z < n
  | 0, z, h => nomatch h
  | n + 1, z, h => by
    rcases insN_mem _ _ h with e | e
    · omega
    · have := ordN_lt lt n z e
      omega
noncomputable def numV (os : List Nat) : List V := os.map fun n : Nat => V.int (n : Int)
theorem numV_len (os : List Nat) : (numV os).length = os.length := List.length_map ..
theorem numV_at {os : List Nat} {s y : Nat} (h : os[s]? = some y) : (numV os)[s]? = some (.int (y : Int)) := by
  unfold numV
  rw [List.getElem?_map, h]
  rfl
theorem numV_ins (os : List Nat) (s k : Nat) : (numV os).take s ++ V.int (k : Int) :: (numV os).drop s = numV (os.take s ++ k :: os.drop s) := by
  unfold numV
  rw [List.map_append, List.map_cons, List.map_take, List.map_drop]
noncomputable def strQ (bs : List Bod) (t : Rat) : List Bod := bs.map fun b => (b.1 + b.2.1 * t, b.2.1, b.2.2)
theorem strQ_len (bs : List Bod) (t : Rat) : (strQ bs t).length = bs.length := List.length_map ..
theorem strQ_snoc (bs : List Bod) (b : Bod) (t : Rat) : strQ (bs ++ [b]) t = strQ bs t ++ [(b.1 + b.2.1 * t, b.2.1, b.2.2)] := by
  unfold strQ
  rw [List.map_append]
  rfl
noncomputable def permQ (bs : List Bod) (os : List Nat) : List Bod := os.filterMap fun k => bs[k]?
theorem permQ_snoc {bs : List Bod} {os : List Nat} {k : Nat} {b : Bod} (h : bs[k]? = some b) : permQ bs (os ++ [k]) = permQ bs os ++ [b] := by
  unfold permQ
  rw [List.filterMap_append]
  simp [h]
noncomputable def sortQ (bs : List Bod) : List Bod := permQ bs (ordN (ltI bs) bs.length)
theorem numV_get {os : List Nat} {i : Nat} {x : V} (h : (numV os)[i]? = some x) : ∃ y, os[i]? = some y ∧ x = .int (y : Int) := by
  unfold numV at h
  rw [List.getElem?_map] at h
  cases e : os[i]? with
  | none => rw [e] at h; cases h
  | some y => rw [e] at h; cases h; exact ⟨y, rfl, rfl⟩
end Kw
set_option maxRecDepth 100000
set_option linter.all false
namespace Kw
end Kw
namespace Kw
end Kw
set_option Elab.async false
set_option linter.all false
set_option maxRecDepth 100000
set_option maxHeartbeats 4000000
namespace Kw
open PySem PySem.Spec PyProof.Rows L2
end Kw
namespace Kw
open PySem PySem.Spec PyProof.Rows L2
end Kw
namespace Kw
open PySem PySem.Spec PyProof.Rows L2
end Kw
set_option Elab.async false
set_option linter.all false
set_option maxRecDepth 100000
set_option maxHeartbeats 4000000
namespace Kw
open PySem PySem.Spec PyProof.Rows L2
theorem cl_one {cells : List (PySem.Str × PySem.Addr)} {y1 : PySem.Str} {c1 : PySem.Addr} (h1 : cells.lookup y1 = some c1) : ∀ y c, List.lookup y [(y1, c1)] = some c → cells.lookup y = some c := by
  intro y c e
  rw [List.lookup_cons] at e
  split at e
  · rename_i q
    have e1 : y = y1 := by simpa using q
    cases e
    rw [e1]
    exact h1
  · cases e
section
variable {idx : List Nat} {tt : TT} {te : TE} {σ : L2.St} {H : Hp} {Q : VK}
end
end Kw
set_option Elab.async false
set_option linter.all false
set_option maxRecDepth 100000
set_option maxHeartbeats 4000000
namespace Kw
open PySem PySem.Spec PyProof.Rows L2
section
variable {X : Cx}
end
end Kw
namespace Kw
open PySem PySem.Spec PyProof.Rows L2
section
variable {X : Cx} {pos : Pos}
end
theorem insN_perm (lt : Nat → Nat → Bool) (k : Nat) : ∀ os : List Nat, (insN lt k os).Perm (k :: os)
  | [] => List.Perm.refl _
  | y :: ys => by
    unfold insN
    split
    · exact ((insN_perm lt k ys).cons y).trans (List.Perm.swap k y ys)
    · exact List.Perm.refl _
theorem ordN_perm (lt : Nat → Nat → Bool) : ∀ n : Nat, (ordN lt n).Perm (List.range n)
  | 0 => List.Perm.refl _
  | n + 1 => by
    show (insN lt n (ordN lt n)).Perm _
    rw [List.range_succ]
    exact (insN_perm lt n _).trans (((ordN_perm lt n).cons n).trans (List.perm_append_singleton n _).symm)
end Kw
set_option Elab.async false
set_option linter.all false
set_option maxRecDepth 100000
set_option maxHeartbeats 4000000
namespace Kw
open PySem PySem.Spec PyProof.Rows L2
theorem Ahd.trans' {a b c : Bod} (h1 : ¬ Ahd b a) (h2 : ¬ Ahd c b) : ¬ Ahd c a := by
  unfold Ahd at *
  grind
theorem Ahd.asym {a b : Bod} (h : Ahd a b) : ¬ Ahd b a := by
  unfold Ahd at *
  grind
noncomputable def SrtB (bs : List Bod) : Prop := bs.Pairwise fun a b => ¬ Ahd b a
theorem SrtB.uniq {bs cs : List Bod} {w : Int} (hb : ∀ b ∈ bs, b.2.2 = w) (hc : ∀ c ∈ cs, c.2.2 = w) (s1 : SrtB bs) (s2 : SrtB cs) (p : bs.Perm cs) : bs = cs := by
  refine List.Perm.eq_of_pairwise (le := fun a b => ¬ Ahd b a) (fun a b ha hb' h1 h2 => ?_) s1 s2 p
  have e1 := hb a ha
  have e2 := hc b hb'
  have z : a.1 = b.1 ∧ a.2.1 = b.2.1 := by
    unfold Ahd at h1 h2
    grind
  refine Prod.ext z.1 (Prod.ext z.2 (e1.trans e2.symm))
theorem insN_srt {lt : Nat → Nat → Bool} (tr : ∀ a b c, lt b a = false → lt c b = false → lt c a = false) (as : ∀ a b, lt a b = true → lt b a = false) (k : Nat) : ∀ os : List Nat, os.Pairwise (fun a b => lt b a = false) → (insN lt k os).Pairwise (fun a b => lt b a = false)
  | [], _ => List.pairwise_singleton ..
  | y :: ys, h => by
    unfold insN
    have h' := List.pairwise_cons.mp h
    split
    · rename_i e
      refine List.pairwise_cons.mpr ⟨fun z hz => ?_, insN_srt tr as k ys h'.2⟩
      rcases insN_mem ys z hz with w | w
      · subst w
        exact as _ _ e
      · exact h'.1 z w
    · rename_i e
      have e' : lt y k = false := by simpa using e
      refine List.pairwise_cons.mpr ⟨fun z hz => ?_, h⟩
      rcases List.mem_cons.mp hz with w | w
      · subst w
        exact e'
      · exact tr k y z e' (h'.1 z w)
theorem ordN_srt {lt : Nat → Nat → Bool} (tr : ∀ a b c, lt b a = false → lt c b = false → lt c a = false) (as : ∀ a b, lt a b = true → lt b a = false) : ∀ n : Nat, (ordN lt n).Pairwise (fun a b => lt b a = false)
  | 0 => List.Pairwise.nil
  | n + 1 => insN_srt tr as n _ (ordN_srt tr as n)
theorem permQ_map {bs : List Bod} : ∀ {os : List Nat}, (∀ k ∈ os, k < bs.length) → ∃ f : Nat → Bod, (∀ k, k < bs.length → bs[k]? = some (f k)) ∧ permQ bs os = os.map f := by
  intro os h
  refine ⟨fun k => bs.getD k (0, 0, 0), fun k hk => by show bs[k]? = some (bs.getD k (0, 0, 0)); rw [List.getD_eq_getElem?_getD, List.getElem?_eq_getElem hk]; rfl, ?_⟩
  induction os with
  | nil => rfl
  | cons k os ih =>
    have hk := h k (by simp)
    show (k :: os).filterMap (fun k => bs[k]?) = _
    rw [List.filterMap_cons, List.getElem?_eq_getElem hk]
    show bs[k] :: permQ bs os = _
    rw [ih fun j hj => h j (by simp [hj]), List.map_cons]
    congr 1
    rw [List.getD_eq_getElem?_getD, List.getElem?_eq_getElem hk]
    rfl
theorem permQ_range (bs : List Bod) : permQ bs (List.range bs.length) = bs := by
  obtain ⟨f, hf, e⟩ := permQ_map (bs := bs) (os := List.range bs.length) fun k hk => List.mem_range.mp hk
  rw [e]
  refine List.ext_getElem? fun i => ?_
  rw [List.getElem?_map]
  by_cases c : i < bs.length
  · rw [List.getElem?_range c, hf i c]
    rfl
  · rw [List.getElem?_eq_none (by rw [List.length_range]; omega), List.getElem?_eq_none (by omega)]
    rfl
theorem sortQ_perm (bs : List Bod) : (sortQ bs).Perm bs := by
  have p : (permQ bs (ordN (ltI bs) bs.length)).Perm (permQ bs (List.range bs.length)) := (ordN_perm (ltI bs) bs.length).filterMap _
  rw [permQ_range] at p
  exact p
theorem sortQ_srt (bs : List Bod) : SrtB (sortQ bs) := by
  have ol := ordN_lt (ltI bs) bs.length
  obtain ⟨f, hf, e⟩ := permQ_map (bs := bs) (os := ordN (ltI bs) bs.length) ol
  unfold SrtB sortQ
  rw [e, List.pairwise_map]
  have q := ordN_perm (ltI bs) bs.length
  have lt' : ∀ i j, i < bs.length → j < bs.length → ltI bs i j = decide (Ahd (f i) (f j)) := fun i j hi hj => ltI_of (hf i hi) (hf j hj)
  have same : ∀ n, n ≤ bs.length → ordN (ltI bs) n = ordN (fun i j => decide (Ahd (f i) (f j))) n := by
    have ins : ∀ (k : Nat) (os : List Nat), k < bs.length → (∀ z ∈ os, z < bs.length) → insN (ltI bs) k os = insN (fun i j => decide (Ahd (f i) (f j))) k os := fun k os hk => by
      induction os with
      | nil => intro _; rfl
      | cons y ys ih =>
        intro hz
        unfold insN
        rw [lt' y k (hz y (by simp)) hk, ih fun z h => hz z (by simp [h])]
    intro n
    induction n with
    | zero => intro _; rfl
    | succ n ih =>
      intro h
      show insN (ltI bs) n (ordN (ltI bs) n) = insN _ n (ordN _ n)
      rw [ins n _ (by omega) fun z hz => by have := ordN_lt (ltI bs) n z hz; omega, ih (by omega)]
  rw [same _ (Nat.le_refl _)]
  refine (ordN_srt (lt := fun i j => decide (Ahd (f i) (f j))) (fun a b c h1 h2 => ?_) (fun a b h => ?_) bs.length).imp fun {a b} h => ?_
  · exact decide_eq_false (Ahd.trans' (of_decide_eq_false h1) (of_decide_eq_false h2))
  · exact decide_eq_false (Ahd.asym (of_decide_eq_true h))
  · exact of_decide_eq_false h
theorem sortQ_all {bs : List Bod} {w : Int} (h : ∀ b ∈ bs, b.2.2 = w) : ∀ b ∈ sortQ bs, b.2.2 = w := fun b hb => h b ((sortQ_perm bs).mem_iff.mp hb)
theorem strQ_all {bs : List Bod} {w : Int} {t : Rat} (h : ∀ b ∈ bs, b.2.2 = w) : ∀ b ∈ strQ bs t, b.2.2 = w := fun b hb => by
  obtain ⟨c, hc, rfl⟩ := List.mem_map.mp hb
  exact h c hc
theorem sortQ_is {bs cs : List Bod} {w : Int} (hb : ∀ b ∈ bs, b.2.2 = w) (s : SrtB cs) (p : cs.Perm bs) : sortQ bs = cs :=
  SrtB.uniq (sortQ_all hb) (fun c hc => hb c (p.mem_iff.mp hc)) (sortQ_srt bs) s ((sortQ_perm bs).trans p.symm)
theorem sortQ_congr {bs cs : List Bod} {w : Int} (hb : ∀ b ∈ bs, b.2.2 = w) (p : cs.Perm bs) : sortQ bs = sortQ cs := sortQ_is hb (sortQ_srt cs) ((sortQ_perm cs).trans p)
theorem strQ_two (bs : List Bod) (a b : Rat) : strQ (strQ bs a) b = strQ bs (a + b) := by
  unfold strQ
  rw [List.map_map]
  refine List.map_congr_left fun c _ => ?_
  show (c.1 + c.2.1 * a + c.2.1 * b, c.2.1, c.2.2) = (c.1 + c.2.1 * (a + b), c.2.1, c.2.2)
  congr 1
  grind
theorem passed_two {bs : List Bod} {w : Int} (hb : ∀ b ∈ bs, b.2.2 = w) (a b : Rat) : sortQ (strQ (sortQ (strQ bs a)) b) = sortQ (strQ bs (a + b)) := by
  rw [← strQ_two]
  exact (sortQ_congr (strQ_all (strQ_all hb)) ((sortQ_perm (strQ bs a)).map _)).symm
theorem sumQ_perm {a b : List Rat} (p : a.Perm b) : sumQ a = sumQ b := by
  induction p with
  | nil => rfl
  | cons x _ ih => rw [sumQ_cons, sumQ_cons, ih]
  | swap x y l => rw [sumQ_cons, sumQ_cons, sumQ_cons, sumQ_cons]; grind
  | trans _ _ h1 h2 => exact h1.trans h2
theorem push_passed (bs : List Bod) (t : Rat) : pushQ (sortQ (strQ bs t)) = pushQ bs := by
  unfold pushQ
  have p := (sortQ_perm (strQ bs t)).map fun b : Bod => (b.2.2 : Rat) * b.2.1
  rw [sumQ_perm p]
  unfold strQ
  rw [List.map_map]
  rfl
theorem might_passed (bs : List Bod) (t : Rat) : mightQ (sortQ (strQ bs t)) = mightQ bs := by
  unfold mightQ
  have p := (sortQ_perm (strQ bs t)).map fun b : Bod => (b.2.2 : Rat) * b.2.1 * b.2.1
  rw [sumQ_perm p]
  unfold strQ
  rw [List.map_map]
  rfl
theorem mir_srt {cs : List Bod} (h : SrtB cs) : SrtB (mirQ cs) := by
  unfold mirQ SrtB
  rw [List.pairwise_map, List.pairwise_reverse]
  refine h.imp fun {a b} h => ?_
  unfold Ahd at *
  show ¬ (-a.1 < -b.1 ∨ (-a.1 = -b.1 ∧ -a.2.1 < -b.2.1))
  grind
theorem mir_all {bs : List Bod} {w : Int} (h : ∀ b ∈ bs, b.2.2 = w) : ∀ b ∈ mirQ bs, b.2.2 = w := fun b hb => by
  obtain ⟨c, hc, rfl⟩ := List.mem_map.mp hb
  exact h c (List.mem_reverse.mp hc)
theorem passed_mir {bs : List Bod} {w : Int} (hb : ∀ b ∈ bs, b.2.2 = w) (t : Rat) : sortQ (strQ (mirQ bs) t) = mirQ (sortQ (strQ bs t)) := by
  refine sortQ_is (strQ_all (mir_all hb)) (mir_srt (sortQ_srt _)) ?_
  have p1 : (mirQ (sortQ (strQ bs t))).Perm (mirQ (strQ bs t)) := by
    unfold mirQ
    exact (((List.reverse_perm _).trans (sortQ_perm (strQ bs t))).trans (List.reverse_perm _).symm).map _
  refine p1.trans ?_
  have e : mirQ (strQ bs t) = strQ (mirQ bs) t := by
    unfold mirQ strQ
    rw [← List.map_reverse, List.map_map, List.map_map]
    refine List.map_congr_left fun c _ => ?_
    show (-(c.1 + c.2.1 * t), -c.2.1, c.2.2) = (-c.1 + -c.2.1 * t, -c.2.1, c.2.2)
    congr 1
    grind
  rw [e]
noncomputable def seeQ (bs : List Bod) (s d : Rat) : List Bod := bs.map fun b => (b.1 - d, b.2.1 - s, b.2.2)
theorem passed_see {bs : List Bod} {w : Int} (hb : ∀ b ∈ bs, b.2.2 = w) (s t : Rat) : sortQ (strQ (seeQ bs s 0) t) = seeQ (sortQ (strQ bs t)) s (s * t) := by
  have all : ∀ b ∈ seeQ bs s 0, b.2.2 = w := fun b h => by
    obtain ⟨c, hc, rfl⟩ := List.mem_map.mp h
    exact hb c hc
  refine sortQ_is (strQ_all all) ?_ ?_
  · have := sortQ_srt (strQ bs t)
    unfold seeQ SrtB at *
    rw [List.pairwise_map]
    refine this.imp fun {a b} h => ?_
    unfold Ahd at *
    show ¬ (b.1 - s * t < a.1 - s * t ∨ (b.1 - s * t = a.1 - s * t ∧ b.2.1 - s < a.2.1 - s))
    grind
  · have e : strQ (seeQ bs s 0) t = seeQ (strQ bs t) s (s * t) := by
      unfold seeQ strQ
      rw [List.map_map, List.map_map]
      refine List.map_congr_left fun c _ => ?_
      show (c.1 - 0 + (c.2.1 - s) * t, c.2.1 - s, c.2.2) = (c.1 + c.2.1 * t - s * t, c.2.1 - s, c.2.2)
      congr 1
      grind
    rw [e]
    exact (sortQ_perm (strQ bs t)).map _
theorem until_mono (qs : List Rat) {a b : Rat} (h : a ≤ b) : (untilQ qs a).length ≤ (untilQ qs b).length := by
  unfold untilQ
  rw [← List.countP_eq_length_filter, ← List.countP_eq_length_filter]
  refine List.countP_mono_left fun q _ hq => ?_
  have : ¬ a < q := by simpa using hq
  have : ¬ b < q := by grind
  simpa using this
end Kw
set_option Elab.async false
set_option linter.all false
set_option maxRecDepth 100000
set_option maxHeartbeats 4000000
namespace Kw
open PySem PySem.Spec PyProof.Rows L2
theorem permQ_by {bs : List Bod} {f : Nat → Bod} (hf : ∀ k, k < bs.length → bs[k]? = some (f k)) : ∀ {os : List Nat}, (∀ k ∈ os, k < bs.length) → permQ bs os = os.map f
  | [], _ => rfl
  | k :: os, h => by
    show (k :: os).filterMap (fun k => bs[k]?) = _
    rw [List.filterMap_cons, hf k (h k (by simp))]
    show f k :: permQ bs os = _
    rw [permQ_by hf fun j hj => h j (by simp [hj])]
    rfl
theorem ord_srt {bs : List Bod} {f : Nat → Bod} (hf : ∀ k, k < bs.length → bs[k]? = some (f k)) : (ordN (ltI bs) bs.length).Pairwise fun i j => ¬ Ahd (f j) (f i) := by
  have s := sortQ_srt bs
  unfold SrtB sortQ at s
  rw [permQ_by hf (ordN_lt (ltI bs) bs.length), List.pairwise_map] at s
  exact s
theorem ord_len (lt : Nat → Nat → Bool) (n : Nat) : (ordN lt n).length = n := by
  rw [(ordN_perm lt n).length_eq, List.length_range]
theorem map_getD (o : List Nat) : (List.range o.length).map (fun y => o.getD y 0) = o := by
  refine List.ext_getElem? fun i => ?_
  rw [List.getElem?_map]
  by_cases c : i < o.length
  · rw [List.getElem?_range c, List.getElem?_eq_getElem c]
    show some (o.getD i 0) = _
    rw [List.getD_eq_getElem?_getD, List.getElem?_eq_getElem c]
    rfl
  · rw [List.getElem?_eq_none (by rw [List.length_range]; omega), List.getElem?_eq_none (by omega)]
    rfl
noncomputable def NoTwin (bs : List Bod) : Prop := ∀ (i j : Nat) (a b : Bod), bs[i]? = some a → bs[j]? = some b → a.1 = b.1 → a.2.1 = b.2.1 → i = j
theorem wear_two {bs : List Bod} (ne : NoTwin bs) (t1 t2 : Rat) :
    ordN (ltI (strQ bs (t1 + t2))) bs.length = (ordN (ltI (strQ (sortQ (strQ bs t1)) t2)) bs.length).map fun y => (ordN (ltI (strQ bs t1)) bs.length).getD y 0 := by
  have hn1 := strQ_len bs t1
  have hn3 := strQ_len bs (t1 + t2)
  let g : Nat → Bod := fun k => bs.getD k (0, 0, 0)
  have hg : ∀ k, k < bs.length → bs[k]? = some (g k) := fun k hk => by
    show bs[k]? = some (bs.getD k (0, 0, 0))
    rw [List.getD_eq_getElem?_getD, List.getElem?_eq_getElem hk]
    rfl
  let go : Rat → Bod → Bod := fun t b => (b.1 + b.2.1 * t, b.2.1, b.2.2)
  have hs : ∀ (cs : List Bod) (t : Rat) (k : Nat), (strQ cs t)[k]? = (cs[k]?).map (go t) := fun cs t k => by
    unfold strQ
    rw [List.getElem?_map]
  have f1 : ∀ k, k < (strQ bs t1).length → (strQ bs t1)[k]? = some (go t1 (g k)) := fun k hk => by
    rw [hs, hg k (by omega)]
    rfl
  have f3 : ∀ k, k < (strQ bs (t1 + t2)).length → (strQ bs (t1 + t2))[k]? = some (go (t1 + t2) (g k)) := fun k hk => by
    rw [hs, hg k (by omega)]
    rfl
  have l1 := ord_len (ltI (strQ bs t1)) bs.length
  have m1 : ∀ k ∈ ordN (ltI (strQ bs t1)) bs.length, k < bs.length := ordN_lt _ _
  generalize ho1 : ordN (ltI (strQ bs t1)) bs.length = o1 at l1 m1 ⊢
  have es : sortQ (strQ bs t1) = o1.map fun k => go t1 (g k) := by
    unfold sortQ
    rw [hn1, ho1]
    exact permQ_by f1 fun k hk => by rw [hn1]; exact m1 k hk
  have lB : (strQ (sortQ (strQ bs t1)) t2).length = bs.length := by
    rw [strQ_len, es, List.length_map, l1]
  have atO : ∀ k, k < bs.length → o1[k]? = some (o1.getD k 0) := fun k hk => by
    rw [List.getD_eq_getElem?_getD, List.getElem?_eq_getElem (by omega)]
    rfl
  have fB : ∀ k, k < (strQ (sortQ (strQ bs t1)) t2).length → (strQ (sortQ (strQ bs t1)) t2)[k]? = some (go (t1 + t2) (g (o1.getD k 0))) := fun k hk => by
    rw [hs, es, List.getElem?_map, atO k (by omega)]
    show some (go t2 (go t1 (g (o1.getD k 0)))) = _
    congr 1
    show ((g (o1.getD k 0)).1 + (g (o1.getD k 0)).2.1 * t1 + (g (o1.getD k 0)).2.1 * t2, (g (o1.getD k 0)).2.1, (g (o1.getD k 0)).2.2) = ((g (o1.getD k 0)).1 + (g (o1.getD k 0)).2.1 * (t1 + t2), (g (o1.getD k 0)).2.1, (g (o1.getD k 0)).2.2)
    congr 1
    grind
  have s3 := ord_srt f3
  have sB := ord_srt fB
  rw [hn3] at s3
  rw [lB] at sB
  have p3 := ordN_perm (ltI (strQ bs (t1 + t2))) bs.length
  have p2 := ordN_perm (ltI (strQ (sortQ (strQ bs t1)) t2)) bs.length
  have p1 : o1.Perm (List.range bs.length) := ho1 ▸ ordN_perm (ltI (strQ bs t1)) bs.length
  have pp : ((ordN (ltI (strQ (sortQ (strQ bs t1)) t2)) bs.length).map fun y => o1.getD y 0).Perm (List.range bs.length) := by
    refine (p2.map _).trans ?_
    have := map_getD o1
    rw [l1] at this
    rw [this]
    exact p1
  refine List.Perm.eq_of_pairwise (le := fun i j => ¬ Ahd (go (t1 + t2) (g j)) (go (t1 + t2) (g i))) (fun i j hi hj h1 h2 => ?_) s3 ?_ (p3.trans pp.symm)
  · have ii : i < bs.length := ordN_lt _ _ i hi
    have jj : j < bs.length := List.mem_range.mp (pp.mem_iff.mp hj)
    have z : (go (t1 + t2) (g i)).1 = (go (t1 + t2) (g j)).1 ∧ (go (t1 + t2) (g i)).2.1 = (go (t1 + t2) (g j)).2.1 := by
      unfold Ahd at h1 h2
      grind
    have z1 : (g i).1 + (g i).2.1 * (t1 + t2) = (g j).1 + (g j).2.1 * (t1 + t2) := z.1
    have z2 : (g i).2.1 = (g j).2.1 := z.2
    refine ne i j _ _ (hg i ii) (hg j jj) ?_ z2
    rw [z2] at z1
    grind
  · rw [List.pairwise_map]
    exact sB
theorem Asc.noTwin {bs : List Bod} (h : Asc bs) : NoTwin bs := fun i j a b ha hb e _ => by
  obtain ⟨hi, rfl⟩ := List.getElem?_eq_some_iff.mp ha
  obtain ⟨hj, rfl⟩ := List.getElem?_eq_some_iff.mp hb
  rcases Nat.lt_trichotomy i j with c | c | c
  · have := List.pairwise_iff_getElem.mp h i j hi hj c
    grind
  · exact c
  · have := List.pairwise_iff_getElem.mp h j i hj hi c
    grind
theorem bds_fb {K : PySem.W.Frag} {H : Hp} {n : Nat} : ∀ {xs : List V} {bs : List Bod}, Al2 (BdQ K H n) xs bs → ∀ b ∈ bs, FB n b.1 ∧ FB n b.2.1
  | [], [], _, b, hb => absurd hb (by simp)
  | _ :: _, c :: bs, z, b, hb => by
    rcases List.mem_cons.mp hb with e | e
    · subst e
      obtain ⟨_, _, _, _, _, _, _, d1, d2, _⟩ := z.1
      exact ⟨d1, d2⟩
    · exact bds_fb z.2 b e
theorem bds_fit {K : PySem.W.Frag} {H : Hp} {n m : Nat} : ∀ {xs : List V} {bs : List Bod}, Al2 (BdQ K H n) xs bs → (∀ b ∈ bs, FB m b.1 ∧ FB m b.2.1) → Al2 (BdQ K H m) xs bs
  | [], [], _, _ => trivial
  | _ :: _, c :: bs, z, h => by
    obtain ⟨p, a, q, e, h1, h2, h3, _, _, w1, w2⟩ := z.1
    have d := h c (by simp)
    exact ⟨⟨p, a, q, e, h1, h2, h3, d.1, d.2, w1, w2⟩, bds_fit z.2 fun b hb => h b (by simp [hb])⟩
theorem str_fb {bs : List Bod} {n m : Nat} {t : Rat} (h : ∀ b ∈ bs, FB n b.1 ∧ FB n b.2.1) (ht : FB m t) : ∀ b ∈ strQ bs t, FB (n + (n + m) + 1) b.1 ∧ FB n b.2.1 := fun b hb => by
  obtain ⟨c, hc, rfl⟩ := List.mem_map.mp hb
  have z := h c hc
  exact ⟨FB.add z.1 (FB.mul z.2 ht), z.2⟩
theorem pass_fb {bs : List Bod} {n m : Nat} {t : Rat} (h : ∀ b ∈ bs, FB n b.1 ∧ FB n b.2.1) (ht : FB m t) : ∀ b ∈ sortQ (strQ bs t), FB (n + (n + m) + 1) b.1 ∧ FB n b.2.1 := fun b hb => str_fb h ht b ((sortQ_perm _).mem_iff.mp hb)
theorem sort_len (bs : List Bod) (t : Rat) : (sortQ (strQ bs t)).length = bs.length := by rw [(sortQ_perm _).length_eq, strQ_len]
end Kw
set_option Elab.async false
set_option linter.all false
set_option maxRecDepth 100000
set_option maxHeartbeats 4000000
namespace Prf
open PySem PySem.Spec PyProof.Rows L2 Kw
noncomputable def top (i : Nat) : Stmt := PySem.Challenge.pw_knockwright_k55_whole_gone_on_through_cr.main.body.getD i (.Pass ⟨0, 0, 0, 0⟩)
structure Tx (K : PySem.W.Frag) (mg : Str → Option Value) : Prop where
  b_isinstance : mg "isinstance" = none
  b_int : mg "int" = none
  b_bool : mg "bool" = none
  b_abs : mg "abs" = none
  b_len : mg "len" = none
  b_divmod : mg "divmod" = none
  b_range : mg "range" = none
  b_max : mg "max" = none
  b_min : mg "min" = none
  b_reversed : mg "reversed" = none
  b_enumerate : mg "enumerate" = none
  k_LONG_BITS : ∃ t, mg "LONG_BITS" = some (.int 4000 t)
  k_NOUGHT : ∃ N, mg "NOUGHT" = some (.ref N) ∧ ∀ H, SqT K H N [.int 0, .int 1]
section
variable {P : Program} {w : World} {K : PySem.W.Frag} {mg : Str → Option Value} {base : Heap}
theorem seq_go {a rest : TS} {D : Ends} {σ : L2.St} {H : Hp} (h : ∀ N : L2.St → Hp → Prop, (∀ σ' H', rest D σ' H' → N σ' H') → a { D with nx := N } σ H) : tSeq a rest D σ H := h (fun σ' H' => rest D σ' H') (fun _ _ z => z)
theorem nil_go {D : Ends} {σ : L2.St} {H : Hp} (h : D.nx σ H) : tNext D σ H := h
theorem sc_is_whole : FnScope ["thing"] ["thing"] (defScope (top 9)) := ⟨rfl, rfl, rfl, by decide +kernel, rfl, by decide +kernel, by decide +kernel⟩
theorem ok_is_whole (D : Df K mg "is_whole" (top 9) ["thing"]) (T : Tx K mg) : Fn P w K mg base 1 "is_whole" ["thing"] (spWhole K) := by
  try with_reducible refine g_go ?_
  try with_reducible refine nil_go ?_
  try with_reducible refine hN2 _ _ ?_
  try with_reducible refine seq_go fun N2 hN2 => ?_
  refine D.ok0 sc_is_whole (fun vs H Q E h => ?_) (fun f cdv A outer s H vs Q E hr h => ?_)
  · obtain ⟨x, t, b1, b2, rfl, _⟩ := h
    rfl
  obtain ⟨x, t, b1, b2, rfl, ty, k1, k2, q⟩ := h
  refine ⟨_, (pss_one (ps_ret (pe_and (pe_callB call_isinst (by rfl) T.b_isinstance PyProof.Rows.Boot.«isinstance» (pa_cons (pv 0) (pa_cons (pe_bty (by rfl) T.b_int PyProof.Rows.Boot.«int») pa_nil))) (pe_one (pe_not (pe_callB call_isinst (by rfl) T.b_isinstance PyProof.Rows.Boot.«isinstance» (pa_cons (pv 0) (pa_cons (pe_bty (by rfl) T.b_bool PyProof.Rows.Boot.«bool») pa_nil)))))))), ?_⟩
  try dsimp only [cxK, cxK0]
  try with_reducible refine g_go ?_
  try with_reducible refine nil_go ?_
  try with_reducible refine hN2 _ _ ?_
  try with_reducible refine seq_go fun N2 hN2 => ?_
  refine ⟨_, rfl, x, _, b1, rfl, .inl ⟨_, rfl⟩, ⟨t, ty, k1⟩, b1, rfl, ?_⟩
  cases b1 with
  | false => exact iteF q
  | true => exact iteT ⟨_, rfl, x, _, b2, rfl, .inl ⟨_, rfl⟩, ⟨t, ty, k2⟩, b2, rfl, q⟩
theorem sc_common_divisor : FnScope ["one", "other", "great", "small", "steps", "rest"] ["one", "other"] (defScope (top 11)) := ⟨rfl, rfl, rfl, by decide +kernel, rfl, by decide +kernel, by decide +kernel⟩
theorem ok_common_divisor (D : Df K mg "common_divisor" (top 11) ["one", "other"]) (T : Tx K mg) : Fn P w K mg base 1 "common_divisor" ["one", "other"] spGcdB := by
  try with_reducible refine g_go ?_
  try with_reducible refine nil_go ?_
  try with_reducible refine hN2 _ _ ?_
  try with_reducible refine seq_go fun N2 hN2 => ?_
  refine D.ok0 sc_common_divisor (fun vs H Q E h => ?_) (fun f cdv A outer s H vs Q E hr h => ?_)
  · obtain ⟨a, b, rfl, _⟩ := h
    rfl
  obtain ⟨a, b, rfl, hb, q⟩ := h
  refine ⟨_, (pss_cons (ps_set (i := 2) sc_common_divisor.nd rfl (Or.inl rfl) (pe_callB call_abs (by rfl) T.b_abs PyProof.Rows.Boot.«abs» (pa_cons (pv 0) pa_nil)))
      (pss_cons (ps_set (i := 3) sc_common_divisor.nd rfl (Or.inl rfl) (pe_callB call_abs (by rfl) T.b_abs PyProof.Rows.Boot.«abs» (pa_cons (pv 1) pa_nil)))
      (pss_cons (ps_while PassesOwn.never (pt_cmpR op_gt (pe_bm0 PySem.F.plainAttrs_int PySem.F.slot_int_bit_length PySem.F.type_int_bit_length mt_bits (pe_callB (call_min2 rfl) (by rfl) T.b_min PyProof.Rows.Boot.«min» (pa_cons (pv 2) (pa_cons (pv 3) pa_nil)))) (pe_globI (by rfl) T.k_LONG_BITS) (nomark _)) pss_never)
      (pss_cons (ps_while PassesOwn.never (pt_cmpR op_gt (pv 3) pe_int (nomark _)) (pss_cons (ps_set (i := 5) sc_common_divisor.nd rfl (Or.inl rfl) (pe_op op_mod (pv 2) (pv 3)))
      (pss_cons (ps_set (i := 2) sc_common_divisor.nd rfl (Or.inl rfl) (pv 3))
      (pss_one (ps_set (i := 3) sc_common_divisor.nd rfl (Or.inl rfl) (pv 5))))))
      (pss_one (ps_ret (pv 2))))))), ?_⟩
  try dsimp only [cxK, cxK0]
  try with_reducible refine g_go ?_
  try with_reducible refine nil_go ?_
  try with_reducible refine hN2 _ _ ?_
  refine ⟨_, rfl, _, rfl, _, rfl, _, rfl, ?_⟩
  try with_reducible refine g_go ?_
  try with_reducible refine nil_go ?_
  try with_reducible refine hN2 _ _ ?_
  try with_reducible refine seq_go fun N2 hN2 => ?_
  refine ⟨fun m σ' H' => ∃ r1 r2 : Option V, σ' = [some (.int a), some (.int b), some (.int (if a < 0 then -a else a)), some (.int (if b < 0 then -b else b)), r1, r2] ∧ H' = H, ⟨0, _, _, rfl, rfl⟩, ?_⟩
  rintro m σ' H' ⟨r1, r2, rfl, rfl⟩
  try with_reducible refine g_go ?_
  try with_reducible refine nil_go ?_
  try with_reducible refine hN2 _ _ ?_
  try with_reducible refine seq_go fun N2 hN2 => ?_
  refine ⟨_, rfl, _, rfl, _, _, rfl, rfl, _, rfl, rfl, _, _, rfl, rfl, _, rfl, ?_⟩
  try with_reducible refine g_go ?_
  try with_reducible refine nil_go ?_
  try with_reducible refine hN2 _ _ ?_
  try with_reducible refine seq_go fun N2 hN2 => ?_
  refine if_dec (fun c => absurd c (short_min hb)) (fun _ => ?_)
  try with_reducible refine g_go ?_
  try with_reducible refine nil_go ?_
  try with_reducible refine hN2 _ _ ?_
  try with_reducible refine seq_go fun N2 hN2 => ?_
  refine ⟨fun m σ' H2 => ∃ g s : Int, ∃ r1 r2 : Option V, σ' = [some (.int a), some (.int b), some (.int g), some (.int s), r1, r2] ∧ H2 = H' ∧ 0 ≤ g ∧ 0 ≤ s ∧ m = s.toNat ∧ Int.gcd g s = Int.gcd a b, ⟨_, _, _, _, _, rfl, rfl, abs_nn a, abs_nn b, rfl, gcd_abs a b⟩, ?_⟩
  rintro m σ' H2 ⟨g, s, r1, r2, rfl, rfl, hg, hs, rfl, e⟩
  try with_reducible refine g_go ?_
  try with_reducible refine nil_go ?_
  try with_reducible refine hN2 _ _ ?_
  try with_reducible refine seq_go fun N2 hN2 => ?_
  refine ⟨_, rfl, _, _, rfl, rfl, _, rfl, ?_⟩
  try with_reducible refine g_go ?_
  try with_reducible refine nil_go ?_
  try with_reducible refine hN2 _ _ ?_
  try with_reducible refine seq_go fun N2 hN2 => ?_
  refine if_dec (fun c => ?_) (fun c => ?_)
  · try with_reducible refine g_go ?_
    try with_reducible refine nil_go ?_
    try with_reducible first | refine hN4 _ _ ?_ | refine hN2 _ _ ?_
    try with_reducible refine seq_go fun N4 hN4 => ?_
    refine ⟨_, fun _ _ n => n, ?_⟩
    try with_reducible refine g_go ?_
    try with_reducible refine nil_go ?_
    try with_reducible first | refine hN4 _ _ ?_ | refine hN2 _ _ ?_
    refine ⟨_, rfl, _, rfl, _, _, rfl, rfl, c, _, rfl, _, rfl, ?_⟩
    have l := Int.emod_lt_of_pos g c
    have l0 := Int.emod_nonneg g (show s ≠ 0 by omega)
    try with_reducible refine g_go ?_
    try with_reducible refine nil_go ?_
    try with_reducible first | refine hN4 _ _ ?_ | refine hN2 _ _ ?_
    try with_reducible refine seq_go fun N4 hN4 => ?_
    exact ⟨_, by omega, s, g % s, _, _, rfl, rfl, by omega, l0, rfl, (gcd_step g s hg c).trans e⟩
  · try with_reducible refine g_go ?_
    try with_reducible refine nil_go ?_
    try with_reducible first | refine hN4 _ _ ?_ | refine hN2 _ _ ?_
    try with_reducible refine seq_go fun N4 hN4 => ?_
    refine ⟨_, rfl, ?_⟩
    have s0 : s = 0 := by omega
    subst s0
    have z := gcd_end g hg
    rw [e] at z
    rw [← z]
    try with_reducible refine g_go ?_
    try with_reducible refine nil_go ?_
    try with_reducible first | refine hN4 _ _ ?_ | refine hN2 _ _ ?_
    try with_reducible refine seq_go fun N4 hN4 => ?_
    exact q
noncomputable def sp_plus (K : PySem.W.Frag) : Sp := fun vs H Q _ => ∃ (p_x : Addr) (x : Rat) (p_y : Addr) (y : Rat), vs = [.ref p_x, .ref p_y] ∧ FQ K H p_x x ∧ FB 8900 x ∧ FQ K H p_y y ∧ FB 4000 y ∧ (∀ (p_r : Addr) (H1 : Hp), Same H H1 → FQ K H1 p_r (x + y) → Q (.ref p_r) H1)
theorem sc_plus : FnScope ["one", "other", "shared", "top", "divisor"] ["one", "other"] (defScope (top 12)) := ⟨rfl, rfl, rfl, by decide +kernel, rfl, by decide +kernel, by decide +kernel⟩
theorem ok_plus (D : Df K mg "plus" (top 12) ["one", "other"]) (T : Tx K mg) (F_common_divisor : Fn P w K mg base 1 "common_divisor" ["one", "other"] spGcdB) : Fn P w K mg base 2 "plus" ["one", "other"] (sp_plus K) := by
  try with_reducible refine g_go ?_
  try with_reducible refine nil_go ?_
  try with_reducible refine hN2 _ _ ?_
  try with_reducible refine seq_go fun N2 hN2 => ?_
  refine D.ok0 sc_plus (fun vs H Q E h => ?_) (fun f cdv A outer s H vs Q E hr h => ?_)
  · obtain ⟨p, x, q, y, rfl, _⟩ := h
    rfl
  obtain ⟨p, x, q, y, rfl, hp, ⟨ha, hb⟩, hq, ⟨hc, hd⟩, k⟩ := h
  refine ⟨_, (pss_cons (ps_set (i := 2) sc_plus.nd rfl (Or.inl rfl) (pe_fn F_common_divisor (by decide) hr (by rfl) passE0 (pa_cons (pe_ix ix_tup (pv 0) pe_int (fun _ _ => rfl)) (pa_cons (pe_ix ix_tup (pv 1) pe_int (fun _ _ => rfl)) pa_nil))))
      (pss_cons (ps_set (i := 3) sc_plus.nd rfl (Or.inl rfl) (pe_op op_add (pe_op op_mulB (pe_ix ix_tup (pv 0) pe_int (fun _ _ => rfl)) (pe_op op_fdivB (pe_ix ix_tup (pv 1) pe_int (fun _ _ => rfl)) (pv 2))) (pe_op op_mulB (pe_ix ix_tup (pv 1) pe_int (fun _ _ => rfl)) (pe_op op_fdivB (pe_ix ix_tup (pv 0) pe_int (fun _ _ => rfl)) (pv 2)))))
      (pss_cons (ps_set (i := 4) sc_plus.nd rfl (Or.inl rfl) (pe_fn F_common_divisor (by decide) hr (by rfl) passE0 (pa_cons (pv 3) (pa_cons (pv 2) pa_nil))))
      (pss_one (ps_ret (pe_tup (pa_cons (pe_op op_fdivB (pv 3) (pv 4)) (pa_cons (pe_op op_mulB (pe_op op_fdivB (pe_ix ix_tup (pv 0) pe_int (fun _ _ => rfl)) (pv 2)) (pe_op op_fdivB (pe_ix ix_tup (pv 1) pe_int (fun _ _ => rfl)) (pv 4))) pa_nil)))))))), ?_⟩
  try dsimp only [cxK, cxK0]
  try with_reducible refine g_go ?_
  try with_reducible refine nil_go ?_
  try with_reducible refine hN2 _ _ ?_
  try with_reducible refine seq_go fun N2 hN2 => ?_
  refine ⟨_, rfl, p, _, _, _, rfl, rfl, hp, rfl, _, rfl, q, _, _, _, rfl, rfl, hq, rfl, _, _, rfl, hd, ?_⟩
  have g0 := gpos (a := ((x.den : Nat) : Int)) (q_ne y)
  have bg := bd_gcdR (a := ((x.den : Nat) : Int)) (q_ne y) hd
  have dg1 : (((Int.gcd ((x.den : Nat) : Int) ((y.den : Nat) : Int) : Nat) : Int)) ∣ ((x.den : Nat) : Int) := Int.gcd_dvd_left ..
  have dg2 : (((Int.gcd ((x.den : Nat) : Int) ((y.den : Nat) : Int) : Nat) : Int)) ∣ ((y.den : Nat) : Int) := Int.gcd_dvd_right ..
  generalize hg : ((Int.gcd ((x.den : Nat) : Int) ((y.den : Nat) : Int) : Nat) : Int) = g at g0 bg dg1 dg2 ⊢
  have g1 : g ≠ 0 := by omega
  have lg := (bg.mono (n := 9000) (by decide)).log
  have b1 := bd_quot hd dg2 g1
  have b2 := bd_quot hb dg1 g1
  try with_reducible refine g_go ?_
  try with_reducible refine nil_go ?_
  try with_reducible refine hN2 _ _ ?_
  try with_reducible refine seq_go fun N2 hN2 => ?_
  refine ⟨_, rfl, p, _, _, _, rfl, rfl, hp, rfl, _, rfl, q, _, _, _, rfl, rfl, hq, rfl, _, rfl, _, _, rfl, rfl, ⟨g1, lg⟩, _, _, rfl, rfl, ha.ok b1 (by decide), _, rfl, q, _, _, _, rfl, rfl, hq, rfl, _, rfl, p, _, _, _, rfl, rfl, hp, rfl, _, rfl, _, _, rfl, rfl, ⟨g1, lg⟩, _, _, rfl, rfl, hc.ok b2 (by decide), _, _, rfl, rfl, ?_⟩
  dsimp only
  have bt := (ha.mul b1).add (hc.mul b2)
  generalize ht : x.num * ((y.den : Nat) : Int).fdiv g + y.num * ((x.den : Nat) : Int).fdiv g = t at bt ⊢
  try with_reducible refine g_go ?_
  try with_reducible refine nil_go ?_
  try with_reducible refine hN2 _ _ ?_
  try with_reducible refine seq_go fun N2 hN2 => ?_
  refine ⟨_, rfl, _, rfl, _, _, rfl, bg, ?_⟩
  have h0 := gpos (a := t) g1
  have bh := bd_gcdR (a := t) g1 bg
  have dh : ((Int.gcd t g : Nat) : Int) ∣ g := Int.gcd_dvd_right ..
  generalize hh : ((Int.gcd t g : Nat) : Int) = h at h0 bh dh ⊢
  have h1 : h ≠ 0 := by omega
  have lh := (bh.mono (n := 9000) (by decide)).log
  have b3 := bd_quot hd (Int.dvd_trans dh dg2) h1
  try with_reducible refine g_go ?_
  try with_reducible refine nil_go ?_
  try with_reducible refine hN2 _ _ ?_
  try with_reducible refine seq_go fun N2 hN2 => ?_
  refine ⟨_, rfl, _, rfl, _, _, rfl, rfl, ⟨h1, lh⟩, _, rfl, p, _, _, _, rfl, rfl, hp, rfl, _, rfl, _, _, rfl, rfl, ⟨g1, lg⟩, _, rfl, q, _, _, _, rfl, rfl, hq, rfl, _, rfl, _, _, rfl, rfl, ⟨h1, lh⟩, _, _, rfl, rfl, b2.ok b3 (by decide), by show 2 ≤ sizeLine; decide, ?_⟩
  try with_reducible refine g_go ?_
  try with_reducible refine nil_go ?_
  try with_reducible refine hN2 _ _ ?_
  try with_reducible refine seq_go fun N2 hN2 => ?_
  refine rd_new fun r H1 sm hr1 => k r H1 sm ?_
  obtain ⟨e1, e2⟩ := q_plus x y g t h hg.symm ht.symm hh.symm
  have z := SqT.of (K := K) hr1
  dsimp only at z
  rw [e1, e2] at z
  try with_reducible refine g_go ?_
  try with_reducible refine nil_go ?_
  try with_reducible refine hN2 _ _ ?_
  try with_reducible refine seq_go fun N2 hN2 => ?_
  exact z
noncomputable def sp_minus (K : PySem.W.Frag) : Sp := fun vs H Q _ => ∃ (p_x : Addr) (x : Rat) (p_y : Addr) (y : Rat), vs = [.ref p_x, .ref p_y] ∧ FQ K H p_x x ∧ FB 8900 x ∧ FQ K H p_y y ∧ FB 4000 y ∧ (∀ (p_r : Addr) (H1 : Hp), Same H H1 → FQ K H1 p_r (x - y) → Q (.ref p_r) H1)
theorem sc_minus : FnScope ["one", "other"] ["one", "other"] (defScope (top 13)) := ⟨rfl, rfl, rfl, by decide +kernel, rfl, by decide +kernel, by decide +kernel⟩
theorem ok_minus (D : Df K mg "minus" (top 13) ["one", "other"]) (T : Tx K mg) (F_plus : Fn P w K mg base 2 "plus" ["one", "other"] (sp_plus K)) : Fn P w K mg base 3 "minus" ["one", "other"] (sp_minus K) := by
  try with_reducible refine g_go ?_
  try with_reducible refine nil_go ?_
  try with_reducible refine hN2 _ _ ?_
  try with_reducible refine seq_go fun N2 hN2 => ?_
  refine D.ok0 sc_minus (fun vs H Q E h => ?_) (fun f cdv A outer s H vs Q E hr h => ?_)
  · obtain ⟨p_x, x, p_y, y, rfl, _⟩ := h
    rfl
  obtain ⟨p_x, x, p_y, y, rfl, g_x, d_x, g_y, d_y, k0⟩ := h
  refine ⟨_, (pss_one (ps_ret (pe_fn F_plus (by decide) hr (by rfl) passE0 (pa_cons (pv 0) (pa_cons (pe_tup (pa_cons (pe_un un_neg (pe_ix ix_tup (pv 1) pe_int (fun _ _ => rfl))) (pa_cons (pe_ix ix_tup (pv 1) pe_int (fun _ _ => rfl)) pa_nil))) pa_nil))))), ?_⟩
  try dsimp only [cxK, cxK0]
  try with_reducible refine g_go ?_
  try with_reducible refine nil_go ?_
  try with_reducible refine hN2 _ _ ?_
  try with_reducible refine seq_go fun N2 hN2 => ?_
  refine ⟨_, rfl, _, rfl, p_y, _, _, _, rfl, rfl, g_y, rfl, _, rfl, _, rfl, p_y, _, _, _, rfl, rfl, g_y, rfl, by show 2 ≤ sizeLine; decide, ?_⟩
  intro p1 n1
  obtain ⟨H1, q1, s1, e1⟩ := newO n1 (.tup [.int ((-(y).num)), .int ((((y).den : Nat) : Int))])
  rw [q1]
  clear q1
  have h1 := SqT.of (K := K) e1
  have g1 : FQ K H1 p1 (-(y)) := by exact FQ.ofNeg h1 (by omega)
  replace g_x := (Kw.Same.tup s1 g_x)
  try with_reducible refine g_go ?_
  try with_reducible refine nil_go ?_
  try with_reducible refine hN2 _ _ ?_
  try with_reducible refine seq_go fun N2 hN2 => ?_
  refine ⟨_, _, _, _, rfl, g_x, (FB.mono d_x (by decide)), g1, (FB.mono (FB.neg d_y) (by decide)), fun p_r2 H2 s2 g_r2 => ?_⟩
  have d_r2 : FB 12901 (x + ((-(y)))) := (FB.mono (FB.add d_x (FB.neg d_y)) (by decide))
  have e3 : ((x + ((-(y)))) : Rat) = x - y := by grind
  try with_reducible refine g_go ?_
  try with_reducible refine nil_go ?_
  try with_reducible refine hN2 _ _ ?_
  try with_reducible refine seq_go fun N2 hN2 => ?_
  exact k0 _ _ (s1.trans s2) (FQ.cast g_r2 e3)
noncomputable def sp_times (K : PySem.W.Frag) : Sp := fun vs H Q _ => ∃ (p_x : Addr) (x : Rat) (p_y : Addr) (y : Rat), vs = [.ref p_x, .ref p_y] ∧ FQ K H p_x x ∧ FB 4000 x ∧ FQ K H p_y y ∧ FB 4000 y ∧ (∀ (p_r : Addr) (H1 : Hp), Same H H1 → FQ K H1 p_r (x * y) → Q (.ref p_r) H1)
theorem sc_times : FnScope ["one", "other", "first", "second"] ["one", "other"] (defScope (top 14)) := ⟨rfl, rfl, rfl, by decide +kernel, rfl, by decide +kernel, by decide +kernel⟩
theorem ok_times (D : Df K mg "times" (top 14) ["one", "other"]) (T : Tx K mg) (F_common_divisor : Fn P w K mg base 1 "common_divisor" ["one", "other"] spGcdB) : Fn P w K mg base 2 "times" ["one", "other"] (sp_times K) := by
  try with_reducible refine g_go ?_
  try with_reducible refine nil_go ?_
  try with_reducible refine hN2 _ _ ?_
  try with_reducible refine seq_go fun N2 hN2 => ?_
  refine D.ok0 sc_times (fun vs H Q E h => ?_) (fun f cdv A outer s H vs Q E hr h => ?_)
  · obtain ⟨p, x, q, y, rfl, _⟩ := h
    rfl
  obtain ⟨p, x, q, y, rfl, hp, ⟨ha, hb⟩, hq, ⟨hc, hd⟩, k⟩ := h
  refine ⟨_, (pss_cons (ps_set (i := 2) sc_times.nd rfl (Or.inl rfl) (pe_fn F_common_divisor (by decide) hr (by rfl) passE0 (pa_cons (pe_ix ix_tup (pv 0) pe_int (fun _ _ => rfl)) (pa_cons (pe_ix ix_tup (pv 1) pe_int (fun _ _ => rfl)) pa_nil))))
      (pss_cons (ps_set (i := 3) sc_times.nd rfl (Or.inl rfl) (pe_fn F_common_divisor (by decide) hr (by rfl) passE0 (pa_cons (pe_ix ix_tup (pv 1) pe_int (fun _ _ => rfl)) (pa_cons (pe_ix ix_tup (pv 0) pe_int (fun _ _ => rfl)) pa_nil))))
      (pss_one (ps_ret (pe_tup (pa_cons (pe_op op_mulB (pe_op op_fdivB (pe_ix ix_tup (pv 0) pe_int (fun _ _ => rfl)) (pv 2)) (pe_op op_fdivB (pe_ix ix_tup (pv 1) pe_int (fun _ _ => rfl)) (pv 3))) (pa_cons (pe_op op_mulB (pe_op op_fdivB (pe_ix ix_tup (pv 0) pe_int (fun _ _ => rfl)) (pv 3)) (pe_op op_fdivB (pe_ix ix_tup (pv 1) pe_int (fun _ _ => rfl)) (pv 2))) pa_nil))))))), ?_⟩
  try dsimp only [cxK, cxK0]
  try with_reducible refine g_go ?_
  try with_reducible refine nil_go ?_
  try with_reducible refine hN2 _ _ ?_
  try with_reducible refine seq_go fun N2 hN2 => ?_
  refine ⟨_, rfl, p, _, _, _, rfl, rfl, hp, rfl, _, rfl, q, _, _, _, rfl, rfl, hq, rfl, _, _, rfl, hd, ?_⟩
  have f0 := gpos (a := x.num) (q_ne y)
  have bf := bd_gcdR (a := x.num) (q_ne y) hd
  have df1 : ((Int.gcd x.num ((y.den : Nat) : Int) : Nat) : Int) ∣ x.num := Int.gcd_dvd_left ..
  have df2 : ((Int.gcd x.num ((y.den : Nat) : Int) : Nat) : Int) ∣ ((y.den : Nat) : Int) := Int.gcd_dvd_right ..
  generalize hf : ((Int.gcd x.num ((y.den : Nat) : Int) : Nat) : Int) = f1 at f0 bf df1 df2 ⊢
  try with_reducible refine g_go ?_
  try with_reducible refine nil_go ?_
  try with_reducible refine hN2 _ _ ?_
  try with_reducible refine seq_go fun N2 hN2 => ?_
  refine ⟨_, rfl, q, _, _, _, rfl, rfl, hq, rfl, _, rfl, p, _, _, _, rfl, rfl, hp, rfl, _, _, rfl, hb, ?_⟩
  have s0 := gpos (a := y.num) (q_ne x)
  have bs := bd_gcdR (a := y.num) (q_ne x) hb
  have ds1 : ((Int.gcd y.num ((x.den : Nat) : Int) : Nat) : Int) ∣ y.num := Int.gcd_dvd_left ..
  have ds2 : ((Int.gcd y.num ((x.den : Nat) : Int) : Nat) : Int) ∣ ((x.den : Nat) : Int) := Int.gcd_dvd_right ..
  generalize hs : ((Int.gcd y.num ((x.den : Nat) : Int) : Nat) : Int) = s1 at s0 bs ds1 ds2 ⊢
  have f1' : f1 ≠ 0 := by omega
  have s1' : s1 ≠ 0 := by omega
  have lf := (bf.mono (n := 9000) (by decide)).log
  have ls := (bs.mono (n := 9000) (by decide)).log
  try with_reducible refine g_go ?_
  try with_reducible refine nil_go ?_
  try with_reducible refine hN2 _ _ ?_
  try with_reducible refine seq_go fun N2 hN2 => ?_
  refine ⟨_, rfl, p, _, _, _, rfl, rfl, hp, rfl, _, rfl, _, _, rfl, rfl, ⟨f1', lf⟩, _, rfl, q, _, _, _, rfl, rfl, hq, rfl, _, rfl, _, _, rfl, rfl, ⟨s1', ls⟩, _, _, rfl, rfl, (bd_quot ha df1 f1').ok (bd_quot hc ds1 s1') (by decide), _, rfl, p, _, _, _, rfl, rfl, hp, rfl, _, rfl, _, _, rfl, rfl, ⟨s1', ls⟩, _, rfl, q, _, _, _, rfl, rfl, hq, rfl, _, rfl, _, _, rfl, rfl, ⟨f1', lf⟩, _, _, rfl, rfl, (bd_quot hb ds2 s1').ok (bd_quot hd df2 f1') (by decide), by show 2 ≤ sizeLine; decide, ?_⟩
  try with_reducible refine g_go ?_
  try with_reducible refine nil_go ?_
  try with_reducible refine hN2 _ _ ?_
  try with_reducible refine seq_go fun N2 hN2 => ?_
  refine rd_new fun r H1 sm hr1 => k r H1 sm ?_
  obtain ⟨e1, e2⟩ := q_times x y f1 s1 hf.symm hs.symm
  have z := SqT.of (K := K) hr1
  dsimp only at z
  rw [e1, e2] at z
  try with_reducible refine g_go ?_
  try with_reducible refine nil_go ?_
  try with_reducible refine hN2 _ _ ?_
  try with_reducible refine seq_go fun N2 hN2 => ?_
  exact z
noncomputable def sp_over (K : PySem.W.Frag) : Sp := fun vs H Q _ => ∃ (p_x : Addr) (x : Rat) (p_y : Addr) (y : Rat), vs = [.ref p_x, .ref p_y] ∧ FQ K H p_x x ∧ FB 4000 x ∧ FQ K H p_y y ∧ FB 4000 y ∧ y ≠ 0 ∧ (∀ (p_r : Addr) (H1 : Hp), Same H H1 → FQ K H1 p_r (x / y) → Q (.ref p_r) H1)
theorem sc_over : FnScope ["one", "other", "flipped"] ["one", "other"] (defScope (top 15)) := ⟨rfl, rfl, rfl, by decide +kernel, rfl, by decide +kernel, by decide +kernel⟩
theorem ok_over (D : Df K mg "over" (top 15) ["one", "other"]) (T : Tx K mg) (F_times : Fn P w K mg base 2 "times" ["one", "other"] (sp_times K)) : Fn P w K mg base 3 "over" ["one", "other"] (sp_over K) := by
  try with_reducible refine g_go ?_
  try with_reducible refine nil_go ?_
  try with_reducible refine hN2 _ _ ?_
  try with_reducible refine seq_go fun N2 hN2 => ?_
  refine D.ok0 sc_over (fun vs H Q E h => ?_) (fun f cdv A outer s H vs Q E hr h => ?_)
  · obtain ⟨p, x, q, y, rfl, _⟩ := h
    rfl
  obtain ⟨p, x, q, y, rfl, hp, dx, hq, dy, y0, k⟩ := h
  refine ⟨_, (pss_cons (ps_if (pt_cmpR op_eq (pe_ix ix_tup (pv 1) pe_int (fun _ _ => rfl)) pe_int (nomark _)) (pss_one ps_never) pss_nil)
      (pss_cons (ps_set (i := 2) sc_over.nd rfl (Or.inl rfl) (pe_ifExp (pt_cmpR op_gt (pe_ix ix_tup (pv 1) pe_int (fun _ _ => rfl)) pe_int (nomark _)) (pe_tup (pa_cons (pe_ix ix_tup (pv 1) pe_int (fun _ _ => rfl)) (pa_cons (pe_ix ix_tup (pv 1) pe_int (fun _ _ => rfl)) pa_nil))) (pe_tup (pa_cons (pe_un un_neg (pe_ix ix_tup (pv 1) pe_int (fun _ _ => rfl))) (pa_cons (pe_un un_neg (pe_ix ix_tup (pv 1) pe_int (fun _ _ => rfl))) pa_nil)))))
      (pss_one (ps_ret (pe_fn F_times (by decide) hr (by rfl) passE0 (pa_cons (pv 0) (pa_cons (pv 2) pa_nil))))))), ?_⟩
  try dsimp only [cxK, cxK0]
  have n0 := q_num_ne y0
  try with_reducible refine g_go ?_
  try with_reducible refine nil_go ?_
  try with_reducible refine hN2 _ _ ?_
  try with_reducible refine seq_go fun N2 hN2 => ?_
  refine ⟨_, rfl, q, _, _, _, rfl, rfl, hq, rfl, rfl, _, rfl, ?_⟩
  try with_reducible refine g_go ?_
  try with_reducible refine nil_go ?_
  try with_reducible refine hN2 _ _ ?_
  try with_reducible refine seq_go fun N2 hN2 => ?_
  refine if_decI (fun z => absurd z n0) (fun _ => ?_)
  try with_reducible refine g_go ?_
  try with_reducible refine nil_go ?_
  try with_reducible refine hN2 _ _ ?_
  try with_reducible refine seq_go fun N2 hN2 => ?_
  refine ⟨_, rfl, q, _, _, _, rfl, rfl, hq, rfl, _, _, rfl, rfl, _, rfl, ?_⟩
  try with_reducible refine g_go ?_
  try with_reducible refine nil_go ?_
  try with_reducible refine hN2 _ _ ?_
  try with_reducible refine seq_go fun N2 hN2 => ?_
  refine if_dec (fun c => ?_) (fun c => ?_)
  · try with_reducible refine g_go ?_
    try with_reducible refine nil_go ?_
    try with_reducible first | refine hN4 _ _ ?_ | refine hN2 _ _ ?_
    try with_reducible refine seq_go fun N4 hN4 => ?_
    refine ⟨_, rfl, q, _, _, _, rfl, rfl, hq, rfl, _, rfl, q, _, _, _, rfl, rfl, hq, rfl, by show 2 ≤ sizeLine; decide, ?_⟩
    intro p1 n1
    obtain ⟨H1, q1, s1, e1⟩ := newO n1 (.tup [.int ((y.den : Nat) : Int), .int y.num])
    rw [q1]
    clear q1
    have g1 : FQ K H1 p1 y⁻¹ := by
      have z := SqT.of (K := K) e1
      rw [← (q_invp c).1, ← (q_invp c).2] at z
      try with_reducible refine g_go ?_
      try with_reducible refine nil_go ?_
      try with_reducible first | refine hN6 _ _ ?_ | refine hN4 _ _ ?_ | refine hN2 _ _ ?_
      try with_reducible refine seq_go fun N6 hN6 => ?_
      exact z
    try with_reducible refine g_go ?_
    try with_reducible refine nil_go ?_
    try with_reducible first | refine hN4 _ _ ?_ | refine hN2 _ _ ?_
    try with_reducible refine seq_go fun N4 hN4 => ?_
    refine ⟨_, rfl, _, rfl, p, x, p1, y⁻¹, rfl, Kw.Same.tup s1 hp, dx, g1, FB.inv dy y0, fun r H3 s3 g3 => ?_⟩
    try with_reducible refine g_go ?_
    try with_reducible refine nil_go ?_
    try with_reducible first | refine hN4 _ _ ?_ | refine hN2 _ _ ?_
    try with_reducible refine seq_go fun N4 hN4 => ?_
    exact k r H3 (s1.trans s3) (g3.cast (Rat.div_def x y).symm)
  · have c' : y.num < 0 := by omega
    try with_reducible refine g_go ?_
    try with_reducible refine nil_go ?_
    try with_reducible first | refine hN4 _ _ ?_ | refine hN2 _ _ ?_
    try with_reducible refine seq_go fun N4 hN4 => ?_
    refine ⟨_, rfl, q, _, _, _, rfl, rfl, hq, rfl, _, rfl, _, rfl, q, _, _, _, rfl, rfl, hq, rfl, _, rfl, by show 2 ≤ sizeLine; decide, ?_⟩
    intro p2 n2
    obtain ⟨H2, q2, s2, e2⟩ := newO n2 (.tup [.int (-((y.den : Nat) : Int)), .int (-y.num)])
    rw [q2]
    clear q2
    have g1 : FQ K H2 p2 y⁻¹ := by
      have z := SqT.of (K := K) e2
      rw [← (q_invn c').1, ← (q_invn c').2] at z
      try with_reducible refine g_go ?_
      try with_reducible refine nil_go ?_
      try with_reducible first | refine hN6 _ _ ?_ | refine hN4 _ _ ?_ | refine hN2 _ _ ?_
      try with_reducible refine seq_go fun N6 hN6 => ?_
      exact z
    try with_reducible refine g_go ?_
    try with_reducible refine nil_go ?_
    try with_reducible first | refine hN4 _ _ ?_ | refine hN2 _ _ ?_
    try with_reducible refine seq_go fun N4 hN4 => ?_
    refine ⟨_, rfl, _, rfl, p, x, p2, y⁻¹, rfl, Kw.Same.tup s2 hp, dx, g1, FB.inv dy y0, fun r H3 s3 g3 => ?_⟩
    try with_reducible refine g_go ?_
    try with_reducible refine nil_go ?_
    try with_reducible first | refine hN4 _ _ ?_ | refine hN2 _ _ ?_
    try with_reducible refine seq_go fun N4 hN4 => ?_
    exact k r H3 (s2.trans s3) (g3.cast (Rat.div_def x y).symm)
noncomputable def sp_under (K : PySem.W.Frag) : Sp := fun vs H Q _ => ∃ (p_x : Addr) (x : Rat) (p_y : Addr) (y : Rat), vs = [.ref p_x, .ref p_y] ∧ FQ K H p_x x ∧ FB 8900 x ∧ FQ K H p_y y ∧ FB 8900 y ∧ (∀  (H1 : Hp), Same H H1 → Q (.bl (decide (x < y))) H1)
theorem sc_under : FnScope ["one", "other"] ["one", "other"] (defScope (top 16)) := ⟨rfl, rfl, rfl, by decide +kernel, rfl, by decide +kernel, by decide +kernel⟩
theorem ok_under (D : Df K mg "under" (top 16) ["one", "other"]) (T : Tx K mg) : Fn P w K mg base 1 "under" ["one", "other"] (sp_under K) := by
  try with_reducible refine g_go ?_
  try with_reducible refine nil_go ?_
  try with_reducible refine hN2 _ _ ?_
  try with_reducible refine seq_go fun N2 hN2 => ?_
  refine D.ok0 sc_under (fun vs H Q E h => ?_) (fun f cdv A outer s H vs Q E hr h => ?_)
  · obtain ⟨p_x, x, p_y, y, rfl, _⟩ := h
    rfl
  obtain ⟨p_x, x, p_y, y, rfl, g_x, d_x, g_y, d_y, k0⟩ := h
  refine ⟨_, (pss_one (ps_ret (pe_cmpR op_lt (pe_op op_mulB (pe_ix ix_tup (pv 0) pe_int (fun _ _ => rfl)) (pe_ix ix_tup (pv 1) pe_int (fun _ _ => rfl))) (pe_op op_mulB (pe_ix ix_tup (pv 1) pe_int (fun _ _ => rfl)) (pe_ix ix_tup (pv 0) pe_int (fun _ _ => rfl))) (nomark _)))), ?_⟩
  try dsimp only [cxK, cxK0]
  try with_reducible refine g_go ?_
  try with_reducible refine nil_go ?_
  try with_reducible refine hN2 _ _ ?_
  try with_reducible refine seq_go fun N2 hN2 => ?_
  refine ⟨_, rfl, p_x, _, _, _, rfl, rfl, g_x, rfl, _, rfl, p_y, _, _, _, rfl, rfl, g_y, rfl, _, _, rfl, rfl, (d_x.1.ok d_y.2 (by decide)), _, rfl, p_y, _, _, _, rfl, rfl, g_y, rfl, _, rfl, p_x, _, _, _, rfl, rfl, g_x, rfl, _, _, rfl, rfl, (d_y.1.ok d_x.2 (by decide)), _, _, rfl, rfl, ?_⟩
  try dsimp only
  rw [show decide (((x).num * (((y).den : Nat) : Int)) < ((y).num * (((x).den : Nat) : Int))) = decide (x < y) from decide_eq_decide.mpr (by exact (q_lt x y).symm)]
  try with_reducible refine g_go ?_
  try with_reducible refine nil_go ?_
  try with_reducible refine hN2 _ _ ?_
  try with_reducible refine seq_go fun N2 hN2 => ?_
  exact k0 _ (Same.refl _)
noncomputable def sp_refuse_below_nought (K : PySem.W.Frag) : Sp := fun vs H Q _ => ∃ (p_x : Addr) (x : Rat), vs = [.ref p_x] ∧ FQ K H p_x x ∧ FB 8900 x ∧ 0 ≤ x ∧ (∀  (H1 : Hp), Same H H1 → Q (.non) H1)
theorem sc_refuse_below_nought : FnScope ["moment"] ["moment"] (defScope (top 19)) := ⟨rfl, rfl, rfl, by decide +kernel, rfl, by decide +kernel, by decide +kernel⟩
theorem ok_refuse_below_nought (D : Df K mg "refuse_below_nought" (top 19) ["moment"]) (T : Tx K mg) (F_under : Fn P w K mg base 1 "under" ["one", "other"] (sp_under K)) : Fn P w K mg base 2 "refuse_below_nought" ["moment"] (sp_refuse_below_nought K) := by
  try with_reducible refine g_go ?_
  try with_reducible refine nil_go ?_
  try with_reducible refine hN2 _ _ ?_
  try with_reducible refine seq_go fun N2 hN2 => ?_
  refine D.ok0 sc_refuse_below_nought (fun vs H Q E h => ?_) (fun f cdv A outer s H vs Q E hr h => ?_)
  · obtain ⟨p_x, x, rfl, _⟩ := h
    rfl
  obtain ⟨p_x, x, rfl, g_x, d_x, pr0, k0⟩ := h
  refine ⟨_, (pss_one (ps_if (pt_val (pe_fn F_under (by decide) hr (by rfl) passE0 (pa_cons (pv 0) (pa_cons (pe_globT (K := K) rfl (by rfl) T.k_NOUGHT) pa_nil))) (fun _ => rfl)) (pss_one ps_never) pss_nil)), ?_⟩
  try dsimp only [cxK, cxK0]
  try with_reducible refine g_go ?_
  try with_reducible refine nil_go ?_
  try with_reducible refine hN2 _ _ ?_
  try with_reducible refine seq_go fun N2 hN2 => ?_
  refine ⟨_, rfl, fun N4 hN4 => ?_⟩
  have g4 : FQ K H N4 (((0 : Int)) : Rat) := hN4 _
  try with_reducible refine g_go ?_
  try with_reducible refine nil_go ?_
  try with_reducible refine hN2 _ _ ?_
  try with_reducible refine seq_go fun N2 hN2 => ?_
  refine ⟨_, _, _, _, rfl, g_x, (FB.mono d_x (by decide)), g4, (FB.mono (FB.ofInt (Bd.small (i := 0) (by decide) (by decide)) (by decide)) (by decide)), fun H5 s5 => ?_⟩
  try with_reducible refine g_go ?_
  try with_reducible refine nil_go ?_
  try with_reducible refine hN2 _ _ ?_
  try with_reducible refine seq_go fun N2 hN2 => ?_
  refine ⟨_, rfl, ?_⟩
  try with_reducible refine g_go ?_
  try with_reducible refine nil_go ?_
  try with_reducible refine hN2 _ _ ?_
  try with_reducible refine seq_go fun N2 hN2 => ?_
  refine if_dec (fun c => absurd c (show ¬ (x < ((((0 : Int) : Rat)))) by have z : ((0 : Int) : Rat) = 0 := rfl; rw [z]; grind)) (fun c6 => ?_)
  try with_reducible refine g_go ?_
  try with_reducible refine nil_go ?_
  try with_reducible refine hN2 _ _ ?_
  try with_reducible refine seq_go fun N2 hN2 => ?_
  exact k0 _ s5
noncomputable def sp_joint_moment (K : PySem.W.Frag) : Sp := fun vs H Q _ => ∃ (p_i a_i b_i : Addr) (x_i v_i : Rat) (m_i : Int) (p_j a_j b_j : Addr) (x_j v_j : Rat) (m_j : Int), vs = [.ref p_i, .ref p_j] ∧ SqT K H p_i [.ref a_i, .ref b_i, .int m_i] ∧ FQ K H a_i x_i ∧ FQ K H b_i v_i ∧ FB 1990 x_i ∧ FB 1990 v_i ∧ 1 ≤ m_i ∧ m_i ≤ 10000 ∧ SqT K H p_j [.ref a_j, .ref b_j, .int m_j] ∧ FQ K H a_j x_j ∧ FQ K H b_j v_j ∧ FB 1990 x_j ∧ FB 1990 v_j ∧ 1 ≤ m_j ∧ m_j ≤ 10000 ∧ (¬ v_j < v_i → ∀  (H1 : Hp), Same H H1 → Q (.non) H1) ∧ (v_j < v_i → ∀ (p_r : Addr) (H1 : Hp), Same H H1 → FQ K H1 p_r ((x_j - x_i) / (v_i - v_j)) → Q (.ref p_r) H1)
theorem sc_joint_moment : FnScope ["one", "other", "gain"] ["one", "other"] (defScope (top 22)) := ⟨rfl, rfl, rfl, by decide +kernel, rfl, by decide +kernel, by decide +kernel⟩
theorem ok_joint_moment (D : Df K mg "joint_moment" (top 22) ["one", "other"]) (T : Tx K mg) (F_minus : Fn P w K mg base 3 "minus" ["one", "other"] (sp_minus K)) (F_over : Fn P w K mg base 3 "over" ["one", "other"] (sp_over K)) : Fn P w K mg base 4 "joint_moment" ["one", "other"] (sp_joint_moment K) := by
  try with_reducible refine g_go ?_
  try with_reducible refine nil_go ?_
  try with_reducible refine hN2 _ _ ?_
  try with_reducible refine seq_go fun N2 hN2 => ?_
  refine D.ok0 sc_joint_moment (fun vs H Q E h => ?_) (fun f cdv A outer s H vs Q E hr h => ?_)
  · obtain ⟨p_i, a_i, b_i, x_i, v_i, m_i, p_j, a_j, b_j, x_j, v_j, m_j, rfl, _⟩ := h
    rfl
  obtain ⟨p_i, a_i, b_i, x_i, v_i, m_i, p_j, a_j, b_j, x_j, v_j, m_j, rfl, h_i, gx_i, gv_i, dx_i, dv_i, lo_i, hi_i, h_j, gx_j, gv_j, dx_j, dv_j, lo_j, hi_j, k0, k1⟩ := h
  refine ⟨_, (pss_cons (ps_set (i := 2) sc_joint_moment.nd rfl (Or.inl rfl) (pe_fn F_minus (by decide) hr (by rfl) passE0 (pa_cons (pe_ix ix_tup (pv 0) pe_int (fun _ _ => rfl)) (pa_cons (pe_ix ix_tup (pv 1) pe_int (fun _ _ => rfl)) pa_nil))))
      (pss_cons (ps_if (pt_cmpR op_le (pe_ix ix_tup (pv 2) pe_int (fun _ _ => rfl)) pe_int (nomark _)) (pss_one (ps_ret pe_non)) pss_nil)
      (pss_one (ps_ret (pe_fn F_over (by decide) hr (by rfl) passE0 (pa_cons (pe_fn F_minus (by decide) hr (by rfl) passE0 (pa_cons (pe_ix ix_tup (pv 1) pe_int (fun _ _ => rfl)) (pa_cons (pe_ix ix_tup (pv 0) pe_int (fun _ _ => rfl)) pa_nil))) (pa_cons (pv 2) pa_nil))))))), ?_⟩
  try dsimp only [cxK, cxK0]
  try with_reducible refine g_go ?_
  try with_reducible refine nil_go ?_
  try with_reducible refine hN2 _ _ ?_
  try with_reducible refine seq_go fun N2 hN2 => ?_
  refine ⟨_, rfl, p_i, _, _, _, rfl, rfl, h_i, rfl, _, rfl, p_j, _, _, _, rfl, rfl, h_j, rfl, _, _, _, _, rfl, gv_i, (FB.mono dv_i (by decide)), gv_j, (FB.mono dv_j (by decide)), fun p_r7 H7 s7 g_r7 => ?_⟩
  have d_r7 : FB 3981 (v_i - v_j) := (FB.mono (FB.sub dv_i dv_j) (by decide))
  try with_reducible refine g_go ?_
  try with_reducible refine nil_go ?_
  try with_reducible refine hN2 _ _ ?_
  try with_reducible refine seq_go fun N2 hN2 => ?_
  refine ⟨_, rfl, p_r7, _, _, _, rfl, rfl, g_r7, rfl, _, _, rfl, rfl, _, rfl, ?_⟩
  try with_reducible refine g_go ?_
  try with_reducible refine nil_go ?_
  try with_reducible refine hN2 _ _ ?_
  try with_reducible refine seq_go fun N2 hN2 => ?_
  refine if_dec (fun c8 => ?_) (fun c8 => ?_)
  · skip
    try with_reducible refine g_go ?_
    try with_reducible refine nil_go ?_
    try with_reducible first | refine hN4 _ _ ?_ | refine hN2 _ _ ?_
    try with_reducible refine seq_go fun N4 hN4 => ?_
    exact k0 (by have := (q_le0 (v_i - v_j)).mp ‹_›; grind) _ s7
  · skip
    replace h_j := (Kw.Same.tup s7 h_j)
    replace h_i := (Kw.Same.tup s7 h_i)
    replace gx_j := (Kw.Same.tup s7 gx_j)
    replace gx_i := (Kw.Same.tup s7 gx_i)
    try with_reducible refine g_go ?_
    try with_reducible refine nil_go ?_
    try with_reducible first | refine hN4 _ _ ?_ | refine hN2 _ _ ?_
    try with_reducible refine seq_go fun N4 hN4 => ?_
    refine ⟨_, rfl, p_j, _, _, _, rfl, rfl, h_j, rfl, _, rfl, p_i, _, _, _, rfl, rfl, h_i, rfl, _, _, _, _, rfl, gx_j, (FB.mono dx_j (by decide)), gx_i, (FB.mono dx_i (by decide)), fun p_r9 H9 s9 g_r9 => ?_⟩
    have d_r9 : FB 3981 (x_j - x_i) := (FB.mono (FB.sub dx_j dx_i) (by decide))
    replace g_r7 := (Kw.Same.tup s9 g_r7)
    try with_reducible refine g_go ?_
    try with_reducible refine nil_go ?_
    try with_reducible first | refine hN4 _ _ ?_ | refine hN2 _ _ ?_
    try with_reducible refine seq_go fun N4 hN4 => ?_
    refine ⟨_, rfl, _, _, _, _, rfl, g_r9, (FB.mono d_r9 (by decide)), g_r7, (FB.mono d_r7 (by decide)), (by have := mt (q_le0 (v_i - v_j)).mpr ‹_›; grind), fun p_r10 H10 s10 g_r10 => ?_⟩
    have d_r10 : FB 7962 (((x_j - x_i)) / ((v_i - v_j))) := (FB.mono (FB.div d_r9 d_r7 (by have := mt (q_le0 (v_i - v_j)).mpr ‹_›; grind)) (by decide))
    try with_reducible refine g_go ?_
    try with_reducible refine nil_go ?_
    try with_reducible first | refine hN4 _ _ ?_ | refine hN2 _ _ ?_
    try with_reducible refine seq_go fun N4 hN4 => ?_
    exact k1 (by have := mt (q_le0 (v_i - v_j)).mpr ‹_›; grind) _ _ (s7.trans (s9.trans s10)) g_r10
noncomputable def sp_refuse_unlike (K : PySem.W.Frag) : Sp := fun vs H Q _ => ∃ (p : Addr) (xs : List V) (bs : List Bod) (w : Int), vs = [.ref p] ∧ H p = some (.lst xs) ∧ Al2 (BdQ K H 1990) xs bs ∧ 1 ≤ bs.length ∧ bs.length ≤ 12 ∧ (∀ b ∈ bs, b.2.2 = w) ∧ ∀ H1, Same H H1 → Q .non H1
theorem sc_refuse_unlike : FnScope ["world", "number"] ["world"] (defScope (top 24)) := ⟨rfl, rfl, rfl, by decide +kernel, rfl, by decide +kernel, by decide +kernel⟩
theorem ok_refuse_unlike (D : Df K mg "refuse_unlike" (top 24) ["world"]) (T : Tx K mg) : Fn P w K mg base 1 "refuse_unlike" ["world"] (sp_refuse_unlike K) := by
  try with_reducible refine g_go ?_
  try with_reducible refine nil_go ?_
  try with_reducible refine hN2 _ _ ?_
  try with_reducible refine seq_go fun N2 hN2 => ?_
  refine D.ok0 sc_refuse_unlike (fun vs H Q E h => ?_) (fun f cdv A outer s H vs Q E hr h => ?_)
  · obtain ⟨p, xs, bs, w, rfl, _⟩ := h
    rfl
  obtain ⟨p, xs, bs, w, rfl, hp, al, l1, l12, hw, k⟩ := h
  refine ⟨_, (pss_one (ps_for PassesOwn.never rfl (pi_range2 (by rfl) T.b_range (pa_cons pe_int (pa_cons (pe_callB call_len (by rfl) T.b_len PyProof.Rows.Boot.«len» (pa_cons (pv 0) pa_nil)) pa_nil))) (pg_name (i := 1) sc_refuse_unlike.nd rfl (Or.inl rfl)) (pss_one (ps_if (pt_cmpR op_ne (pe_ix ix_tup (pe_ix ix_list (pv 0) (pv 1) (fun _ _ => rfl)) pe_int (fun _ _ => rfl)) (pe_ix ix_tup (pe_ix ix_list (pv 0) pe_int (fun _ _ => rfl)) pe_int (fun _ _ => rfl)) (nomark _)) (pss_one ps_never) pss_nil)))), ?_⟩
  try dsimp only [cxK, cxK0]
  have hz := Al2.len al
  try with_reducible refine g_go ?_
  try with_reducible refine nil_go ?_
  try with_reducible refine hN2 _ _ ?_
  try with_reducible refine seq_go fun N2 hN2 => ?_
  refine ⟨_, rfl, _, _, rfl, .inl ⟨_, SqL.of hp, rfl⟩, _, _, rfl, ⟨by decide, by decide, by omega, by omega⟩, for_range (lo := 1) (fun i σ1 H1 => ∃ r : Option V, σ1 = [some (.ref p), r] ∧ H1 = H) ⟨_, rfl, rfl⟩ ?_ ?_⟩
  · rintro i σ1 H1 hi ⟨r, rfl, eH⟩
    subst eH
    have hi' : 1 + i < xs.length := by omega
    obtain ⟨x, hx⟩ : ∃ x, xs[1 + i]? = some x := ⟨_, List.getElem?_eq_getElem hi'⟩
    obtain ⟨x0, hx0⟩ : ∃ x, xs[0]? = some x := ⟨_, List.getElem?_eq_getElem (by omega)⟩
    obtain ⟨b, hb, p1, a1, c1, rfl, e1, _⟩ := Al2.get al hx
    obtain ⟨b0, hb0, p0, a0, c0, rfl, e0, _⟩ := Al2.get al hx0
    have atx : atI xs (1 + (i : Int)) = some (.ref p1) := by
      have z := atI_nat hx
      rwa [show (((1 + i : Nat)) : Int) = 1 + (i : Int) by omega] at z
    have at0 : atI xs 0 = some (.ref p0) := atI_nat hx0
    try with_reducible refine g_go ?_
    try with_reducible refine nil_go ?_
    try with_reducible first | refine hN4 _ _ ?_ | refine hN2 _ _ ?_
    try with_reducible refine seq_go fun N4 hN4 => ?_
    refine ⟨_, rfl, _, rfl, p, _, _, _, rfl, rfl, SqL.of hp, atx, p1, _, _, _, rfl, rfl, e1, rfl, _, rfl, p, _, _, _, rfl, rfl, SqL.of hp, at0, p0, _, _, _, rfl, rfl, e0, rfl, rfl, _, rfl, ?_⟩
    try with_reducible refine g_go ?_
    try with_reducible refine nil_go ?_
    try with_reducible first | refine hN4 _ _ ?_ | refine hN2 _ _ ?_
    try with_reducible refine seq_go fun N4 hN4 => ?_
    refine if_neI (fun c => absurd ((hw b (List.mem_of_getElem? hb)).trans (hw b0 (List.mem_of_getElem? hb0)).symm) c) (fun _ => ?_)
    try with_reducible refine g_go ?_
    try with_reducible refine nil_go ?_
    try with_reducible first | refine hN4 _ _ ?_ | refine hN2 _ _ ?_
    try with_reducible refine seq_go fun N4 hN4 => ?_
    exact ⟨_, rfl, rfl⟩
  · rintro σ1 H1 ⟨r, rfl, eH⟩
    subst eH
    try with_reducible refine g_go ?_
    try with_reducible refine nil_go ?_
    try with_reducible first | refine hN4 _ _ ?_ | refine hN2 _ _ ?_
    try with_reducible refine seq_go fun N4 hN4 => ?_
    exact k _ (Same.refl _)
noncomputable def sp_passings (K : PySem.W.Frag) : Sp := fun vs H Q _ => ∃ (p : Addr) (xs : List V) (bs : List Bod), vs = [.ref p] ∧ H p = some (.lst xs) ∧ Al2 (BdQ K H 1990) xs bs ∧ bs.length ≤ 12 ∧ ∀ (r : Addr) (ys : List V) (H1 : Hp), Same H H1 → H r = none → H1 r = some (.lst ys) → Al2 (FrQ K H1 7962) ys (passN bs bs.length) → Q (.ref r) H1
theorem sc_passings : FnScope ["world", "moments", "right", "left", "moment"] ["world"] (defScope (top 30)) := ⟨rfl, rfl, rfl, by decide +kernel, rfl, by decide +kernel, by decide +kernel⟩
theorem ok_passings (D : Df K mg "passings" (top 30) ["world"]) (T : Tx K mg) (F_joint_moment : Fn P w K mg base 4 "joint_moment" ["one", "other"] (sp_joint_moment K)) : Fn P w K mg base 5 "passings" ["world"] (sp_passings K) := by
  try with_reducible refine g_go ?_
  try with_reducible refine nil_go ?_
  try with_reducible refine hN2 _ _ ?_
  try with_reducible refine seq_go fun N2 hN2 => ?_
  refine D.ok0 sc_passings (fun vs H Q E h => ?_) (fun f cdv A outer s H vs Q E hr h => ?_)
  · obtain ⟨p, xs, bs, rfl, _⟩ := h
    rfl
  obtain ⟨p, xs, bs, rfl, hp, al, l12, k⟩ := h
  refine ⟨_, (pss_cons (ps_set (i := 1) sc_passings.nd rfl (Or.inl rfl) (pe_lst pa_nil))
      (pss_cons (ps_for PassesOwn.never rfl (pi_range1 (by rfl) T.b_range (pa_cons (pe_callB call_len (by rfl) T.b_len PyProof.Rows.Boot.«len» (pa_cons (pv 0) pa_nil)) pa_nil)) (pg_name (i := 2) sc_passings.nd rfl (Or.inl rfl)) (pss_one (ps_for PassesOwn.never rfl (pi_range1 (by rfl) T.b_range (pa_cons (pv 2) pa_nil)) (pg_name (i := 3) sc_passings.nd rfl (Or.inl rfl)) (pss_cons (ps_set (i := 4) sc_passings.nd rfl (Or.inl rfl) (pe_fn F_joint_moment (by decide) hr (by rfl) passE0 (pa_cons (pe_ix ix_list (pv 0) (pv 3) (fun _ _ => rfl)) (pa_cons (pe_ix ix_list (pv 0) (pv 2) (fun _ _ => rfl)) pa_nil))))
      (pss_one (ps_if (pt_cmpR op_notN (pv 4) pe_non (nomark _)) (pss_one (ps_expr (pe_bm PySem.F.plainAttrs_list PySem.F.slot_list_append PySem.F.type_list_append mt_append (pv 1) (pa_cons (pv 4) pa_nil)))) pss_nil))))))
      (pss_one (ps_ret (pv 1))))), ?_⟩
  try dsimp only [cxK, cxK0]
  have hz := Al2.len al
  try with_reducible refine g_go ?_
  try with_reducible refine nil_go ?_
  try with_reducible refine hN2 _ _ ?_
  try with_reducible refine seq_go fun N2 hN2 => ?_
  refine ⟨by show 0 ≤ sizeLine; decide, ?_⟩
  intro p2 n2
  obtain ⟨H2, q2, s2, e2⟩ := newO n2 (.lst [])
  rw [q2]
  clear q2
  have np : p ≠ p2 := ne_of_none hp n2
  have hp2 := s2 _ _ hp
  have al2 := bds_same al s2
  try with_reducible refine g_go ?_
  try with_reducible refine nil_go ?_
  try with_reducible refine hN2 _ _ ?_
  try with_reducible refine seq_go fun N2 hN2 => ?_
  refine ⟨_, rfl, _, _, rfl, .inl ⟨_, SqL.of hp2, rfl⟩, _, rfl, by omega, by omega, for_range (n := xs.length) (fun i σ1 H1 => ∃ (ue0 ue1 ue2 : Option V) (ys : List V), σ1 = [some (.ref p), some (.ref p2), ue0, ue1, ue2] ∧ But p2 H2 H1 ∧ H1 p2 = some (.lst ys) ∧ Al2 (FrQ K H1 7962) ys (passN bs i)) ⟨_, _, _, [], rfl, But.refl _, e2, trivial⟩ ?_ ?_⟩
  · rintro i σ1 H3 hi ⟨ue0, ue1, ue2, ys, rfl, s3, hm3, ay3⟩
    obtain ⟨x, hx⟩ : ∃ x, xs[i]? = some x := ⟨_, List.getElem?_eq_getElem hi⟩
    obtain ⟨b, hb, _⟩ := Al2.get al hx
    have ei : (0 + (i : Int)).toNat = i := by omega
    have pl := passN_len bs i (by omega)
    try with_reducible refine g_go ?_
    try with_reducible refine nil_go ?_
    try with_reducible first | refine hN4 _ _ ?_ | refine hN2 _ _ ?_
    try with_reducible refine seq_go fun N4 hN4 => ?_
    refine ⟨_, rfl, _, rfl, by omega, by omega, for_range (n := (0 + (i : Int)).toNat) (fun j σ1 H1 => ∃ (ui0 ui1 : Option V) (ys : List V), σ1 = [some (.ref p), some (.ref p2), some (.int (0 + (i : Int))), ui0, ui1] ∧ But p2 H2 H1 ∧ H1 p2 = some (.lst ys) ∧ Al2 (FrQ K H1 7962) ys (passN bs i ++ rowQ bs b j)) ⟨_, _, ys, rfl, s3, hm3, by rw [show rowQ bs b 0 = [] from rfl, List.append_nil]; exact ay3⟩ ?_ ?_⟩
    · rintro j σ1 H4 hj ⟨ui0, ui1, ys, rfl, s4, hm4, ay4⟩
      rw [ei] at hj
      obtain ⟨x', hx'⟩ : ∃ x, xs[j]? = some x := ⟨_, List.getElem?_eq_getElem (by omega)⟩
      have al4 := bds_but al2 s4 e2
      have hp4 := s4 _ _ np hp2
      obtain ⟨b', hb', pr, ar, cr, rfl, q1, q2, q3, t1, t2, w1, w2⟩ := Al2.get al4 hx
      obtain ⟨a, ha, pl', al', cl', rfl, z1, z2, z3, t3, t4, w3, w4⟩ := Al2.get al4 hx'
      cases hb.symm.trans hb'
      have rl := rowQ_len bs b j
      have ly : ys.length < sizeLine := by
        have := Al2.len ay4
        rw [List.length_append] at this
        try with_reducible refine g_go ?_
        try with_reducible refine nil_go ?_
        try with_reducible first | refine hN8 _ _ ?_ | refine hN6 _ _ ?_ | refine hN4 _ _ ?_ | refine hN2 _ _ ?_
        try with_reducible refine seq_go fun N8 hN8 => ?_
        exact Nat.lt_of_le_of_lt (show ys.length ≤ 156 by omega) (by decide)
      have nx := rowQ_succ (b := b) ha
      try with_reducible refine g_go ?_
      try with_reducible refine nil_go ?_
      try with_reducible first | refine hN6 _ _ ?_ | refine hN4 _ _ ?_ | refine hN2 _ _ ?_
      try with_reducible refine seq_go fun N6 hN6 => ?_
      refine ⟨_, rfl, _, rfl, p, _, _, _, rfl, rfl, SqL.of hp4, atI_z hx', _, rfl, _, rfl, p, _, _, _, rfl, rfl, SqL.of hp4, atI_z hx, _, _, _, _, _, _, _, _, _, _, _, _, rfl, z1, z2, z3, t3, t4, w3, w4, q1, q2, q3, t1, t2, w1, w2, fun c H5 s5 => ?_, fun c r5 H5 s5 g5 => ?_⟩
      · have ms : meetQ a b = none := if_neg c
        rw [ms] at nx
        try with_reducible refine g_go ?_
        try with_reducible refine nil_go ?_
        try with_reducible first | refine hN8 _ _ ?_ | refine hN6 _ _ ?_ | refine hN4 _ _ ?_ | refine hN2 _ _ ?_
        try with_reducible refine seq_go fun N8 hN8 => ?_
        refine ⟨_, rfl, rfl, _, rfl, iteF ?_⟩
        try with_reducible refine g_go ?_
        try with_reducible refine nil_go ?_
        try with_reducible first | refine hN8 _ _ ?_ | refine hN6 _ _ ?_ | refine hN4 _ _ ?_ | refine hN2 _ _ ?_
        try with_reducible refine seq_go fun N8 hN8 => ?_
        refine ⟨_, _, ys, rfl, s4.trans (But.of s5), s5 _ _ hm4, ?_⟩
        rw [nx]
        show Al2 _ ys (passN bs i ++ (rowQ bs b j ++ []))
        rw [List.append_nil]
        try with_reducible refine g_go ?_
        try with_reducible refine nil_go ?_
        try with_reducible first | refine hN8 _ _ ?_ | refine hN6 _ _ ?_ | refine hN4 _ _ ?_ | refine hN2 _ _ ?_
        try with_reducible refine seq_go fun N8 hN8 => ?_
        exact frs_same ay4 s5
      · try with_reducible refine g_go ?_
        try with_reducible refine nil_go ?_
        try with_reducible first | refine hN8 _ _ ?_ | refine hN6 _ _ ?_ | refine hN4 _ _ ?_ | refine hN2 _ _ ?_
        try with_reducible refine seq_go fun N8 hN8 => ?_
        refine ⟨_, rfl, rfl, _, rfl, iteT ?_⟩
        have hm5 := s5 _ _ hm4
        try with_reducible refine g_go ?_
        try with_reducible refine nil_go ?_
        try with_reducible first | refine hN8 _ _ ?_ | refine hN6 _ _ ?_ | refine hN4 _ _ ?_ | refine hN2 _ _ ?_
        try with_reducible refine seq_go fun N8 hN8 => ?_
        refine ⟨_, rfl, .inl ⟨rfl, _, SqL.of hm5⟩, _, rfl, p2, _, _, rfl, rfl, hm5, ly, ?_⟩
        have ms : meetQ a b = some ((b.1 - a.1) / (a.2.1 - b.2.1)) := if_pos c
        rw [ms] at nx
        have one : FrQ K H5 7962 (.ref r5) ((b.1 - a.1) / (a.2.1 - b.2.1)) := ⟨r5, rfl, g5, (FB.div (FB.sub t1 t3) (FB.sub t4 t2) (by grind)).mono (by decide)⟩
        obtain ⟨H9, q9, s9, e9⟩ := newB (H := H5) (p := p2) (.lst (ys ++ [.ref r5]))
        dsimp only
        rw [q9]
        clear q9
        try with_reducible refine g_go ?_
        try with_reducible refine nil_go ?_
        try with_reducible first | refine hN8 _ _ ?_ | refine hN6 _ _ ?_ | refine hN4 _ _ ?_ | refine hN2 _ _ ?_
        try with_reducible refine seq_go fun N8 hN8 => ?_
        refine ⟨_, _, ys ++ [.ref r5], rfl, s4.trans ((But.of s5).trans s9), e9, ?_⟩
        rw [nx, ← List.append_assoc]
        try with_reducible refine g_go ?_
        try with_reducible refine nil_go ?_
        try with_reducible first | refine hN8 _ _ ?_ | refine hN6 _ _ ?_ | refine hN4 _ _ ?_ | refine hN2 _ _ ?_
        try with_reducible refine seq_go fun N8 hN8 => ?_
        exact frs_but (Al2.snoc (frs_same ay4 s5) one) s9 hm5
    · rintro σ1 H4 ⟨ui0, ui1, ys, rfl, s4, hm4, ay4⟩
      rw [ei] at ay4
      try with_reducible refine g_go ?_
      try with_reducible refine nil_go ?_
      try with_reducible first | refine hN6 _ _ ?_ | refine hN4 _ _ ?_ | refine hN2 _ _ ?_
      try with_reducible refine seq_go fun N6 hN6 => ?_
      refine ⟨_, _, _, ys, rfl, s4, hm4, ?_⟩
      rw [passN_succ hb]
      try with_reducible refine g_go ?_
      try with_reducible refine nil_go ?_
      try with_reducible first | refine hN6 _ _ ?_ | refine hN4 _ _ ?_ | refine hN2 _ _ ?_
      try with_reducible refine seq_go fun N6 hN6 => ?_
      exact ay4
  · rintro σ1 H3 ⟨ue0, ue1, ue2, ys, rfl, s3, hm3, ay3⟩
    rw [hz] at ay3
    try with_reducible refine g_go ?_
    try with_reducible refine nil_go ?_
    try with_reducible first | refine hN4 _ _ ?_ | refine hN2 _ _ ?_
    try with_reducible refine seq_go fun N4 hN4 => ?_
    exact ⟨_, rfl, k p2 ys H3 (same_then_but n2 s2 s3) n2 hm3 ay3⟩
noncomputable def sp_place_at (K : PySem.W.Frag) : Sp := fun vs H Q _ => ∃ (p_i a_i b_i : Addr) (x_i v_i : Rat) (m_i : Int) (p_t : Addr) (t : Rat), vs = [.ref p_i, .ref p_t] ∧ SqT K H p_i [.ref a_i, .ref b_i, .int m_i] ∧ FQ K H a_i x_i ∧ FQ K H b_i v_i ∧ FB 700 x_i ∧ FB 700 v_i ∧ 1 ≤ m_i ∧ m_i ≤ 10000 ∧ FQ K H p_t t ∧ FB 600 t ∧ (∀ (p_r : Addr) (H1 : Hp), Same H H1 → FQ K H1 p_r (x_i + v_i * t) → Q (.ref p_r) H1)
theorem sc_place_at : FnScope ["body", "moment"] ["body", "moment"] (defScope (top 20)) := ⟨rfl, rfl, rfl, by decide +kernel, rfl, by decide +kernel, by decide +kernel⟩
theorem ok_place_at (D : Df K mg "place_at" (top 20) ["body", "moment"]) (T : Tx K mg) (F_times : Fn P w K mg base 2 "times" ["one", "other"] (sp_times K)) (F_plus : Fn P w K mg base 2 "plus" ["one", "other"] (sp_plus K)) : Fn P w K mg base 3 "place_at" ["body", "moment"] (sp_place_at K) := by
  try with_reducible refine g_go ?_
  try with_reducible refine nil_go ?_
  try with_reducible refine hN2 _ _ ?_
  try with_reducible refine seq_go fun N2 hN2 => ?_
  refine D.ok0 sc_place_at (fun vs H Q E h => ?_) (fun f cdv A outer s H vs Q E hr h => ?_)
  · obtain ⟨p_i, a_i, b_i, x_i, v_i, m_i, p_t, t, rfl, _⟩ := h
    rfl
  obtain ⟨p_i, a_i, b_i, x_i, v_i, m_i, p_t, t, rfl, h_i, gx_i, gv_i, dx_i, dv_i, lo_i, hi_i, g_t, d_t, k0⟩ := h
  refine ⟨_, (pss_one (ps_ret (pe_fn F_plus (by decide) hr (by rfl) passE0 (pa_cons (pe_ix ix_tup (pv 0) pe_int (fun _ _ => rfl)) (pa_cons (pe_fn F_times (by decide) hr (by rfl) passE0 (pa_cons (pe_ix ix_tup (pv 0) pe_int (fun _ _ => rfl)) (pa_cons (pv 1) pa_nil))) pa_nil))))), ?_⟩
  try dsimp only [cxK, cxK0]
  try with_reducible refine g_go ?_
  try with_reducible refine nil_go ?_
  try with_reducible refine hN2 _ _ ?_
  try with_reducible refine seq_go fun N2 hN2 => ?_
  refine ⟨_, rfl, p_i, _, _, _, rfl, rfl, h_i, rfl, _, rfl, p_i, _, _, _, rfl, rfl, h_i, rfl, _, rfl, _, _, _, _, rfl, gv_i, (FB.mono dv_i (by decide)), g_t, (FB.mono d_t (by decide)), fun p_r11 H11 s11 g_r11 => ?_⟩
  have d_r11 : FB 1300 (v_i * t) := (FB.mono (FB.mul dv_i d_t) (by decide))
  replace gx_i := (Kw.Same.tup s11 gx_i)
  try with_reducible refine g_go ?_
  try with_reducible refine nil_go ?_
  try with_reducible refine hN2 _ _ ?_
  try with_reducible refine seq_go fun N2 hN2 => ?_
  refine ⟨_, _, _, _, rfl, gx_i, (FB.mono dx_i (by decide)), g_r11, (FB.mono d_r11 (by decide)), fun p_r12 H12 s12 g_r12 => ?_⟩
  have d_r12 : FB 2001 (x_i + ((v_i * t))) := (FB.mono (FB.add dx_i d_r11) (by decide))
  try with_reducible refine g_go ?_
  try with_reducible refine nil_go ?_
  try with_reducible refine hN2 _ _ ?_
  try with_reducible refine seq_go fun N2 hN2 => ?_
  exact k0 _ _ (s11.trans s12) g_r12
noncomputable def sp_led (K : PySem.W.Frag) : Sp := fun vs H Q _ => ∃ (p_i a_i b_i : Addr) (x_i v_i : Rat) (m_i : Int) (p_t : Addr) (t : Rat), vs = [.ref p_i, .ref p_t] ∧ SqT K H p_i [.ref a_i, .ref b_i, .int m_i] ∧ FQ K H a_i x_i ∧ FQ K H b_i v_i ∧ FB 700 x_i ∧ FB 700 v_i ∧ 1 ≤ m_i ∧ m_i ≤ 10000 ∧ FQ K H p_t t ∧ FB 600 t ∧ (∀ (p_r : Addr) (p_x : Addr) (p_v : Addr) (H1 : Hp), Same H H1 → SqT K H1 p_r [.ref p_x, .ref p_v, .int (m_i)] → FQ K H1 p_x (x_i + v_i * t) → FQ K H1 p_v (v_i) → Q (.ref p_r) H1)
theorem sc_led : FnScope ["body", "moment"] ["body", "moment"] (defScope (top 21)) := ⟨rfl, rfl, rfl, by decide +kernel, rfl, by decide +kernel, by decide +kernel⟩
theorem ok_led (D : Df K mg "led" (top 21) ["body", "moment"]) (T : Tx K mg) (F_place_at : Fn P w K mg base 3 "place_at" ["body", "moment"] (sp_place_at K)) : Fn P w K mg base 4 "led" ["body", "moment"] (sp_led K) := by
  try with_reducible refine g_go ?_
  try with_reducible refine nil_go ?_
  try with_reducible refine hN2 _ _ ?_
  try with_reducible refine seq_go fun N2 hN2 => ?_
  refine D.ok0 sc_led (fun vs H Q E h => ?_) (fun f cdv A outer s H vs Q E hr h => ?_)
  · obtain ⟨p_i, a_i, b_i, x_i, v_i, m_i, p_t, t, rfl, _⟩ := h
    rfl
  obtain ⟨p_i, a_i, b_i, x_i, v_i, m_i, p_t, t, rfl, h_i, gx_i, gv_i, dx_i, dv_i, lo_i, hi_i, g_t, d_t, k0⟩ := h
  refine ⟨_, (pss_one (ps_ret (pe_tup (pa_cons (pe_fn F_place_at (by decide) hr (by rfl) passE0 (pa_cons (pv 0) (pa_cons (pv 1) pa_nil))) (pa_cons (pe_ix ix_tup (pv 0) pe_int (fun _ _ => rfl)) (pa_cons (pe_ix ix_tup (pv 0) pe_int (fun _ _ => rfl)) pa_nil)))))), ?_⟩
  try dsimp only [cxK, cxK0]
  try with_reducible refine g_go ?_
  try with_reducible refine nil_go ?_
  try with_reducible refine hN2 _ _ ?_
  try with_reducible refine seq_go fun N2 hN2 => ?_
  refine ⟨_, rfl, _, rfl, _, _, _, _, _, _, _, _, rfl, h_i, gx_i, gv_i, (FB.mono dx_i (by decide)), (FB.mono dv_i (by decide)), (by omega), (by omega), g_t, (FB.mono d_t (by decide)), fun p_r13 H13 s13 g_r13 => ?_⟩
  have d_r13 : FB 2001 (x_i + v_i * t) := (FB.mono (FB.add dx_i (FB.mul dv_i d_t)) (by decide))
  replace h_i := (Kw.Same.tup s13 h_i)
  try with_reducible refine g_go ?_
  try with_reducible refine nil_go ?_
  try with_reducible refine hN2 _ _ ?_
  try with_reducible refine seq_go fun N2 hN2 => ?_
  refine ⟨_, rfl, p_i, _, _, _, rfl, rfl, h_i, rfl, _, rfl, p_i, _, _, _, rfl, rfl, h_i, rfl, by show 3 ≤ sizeLine; decide, ?_⟩
  intro p14 n14
  obtain ⟨H14, q14, s14, e14⟩ := newO n14 (.tup [.ref p_r13, .ref b_i, .int (m_i)])
  rw [q14]
  clear q14
  have h14 := SqT.of (K := K) e14
  replace g_r13 := (Kw.Same.tup s14 g_r13)
  replace gv_i := (Kw.Same.tup s14 (Kw.Same.tup s13 gv_i))
  try with_reducible refine g_go ?_
  try with_reducible refine nil_go ?_
  try with_reducible refine hN2 _ _ ?_
  try with_reducible refine seq_go fun N2 hN2 => ?_
  exact k0 _ _ _ _ (s13.trans s14) h14 g_r13 gv_i
noncomputable def sp_is_ahead (K : PySem.W.Frag) : Sp := fun vs H Q _ => ∃ (p_i a_i b_i : Addr) (x_i v_i : Rat) (m_i : Int) (p_j a_j b_j : Addr) (x_j v_j : Rat) (m_j : Int), vs = [.ref p_i, .ref p_j] ∧ SqT K H p_i [.ref a_i, .ref b_i, .int m_i] ∧ FQ K H a_i x_i ∧ FQ K H b_i v_i ∧ FB 2010 x_i ∧ FB 2010 v_i ∧ 1 ≤ m_i ∧ m_i ≤ 10000 ∧ SqT K H p_j [.ref a_j, .ref b_j, .int m_j] ∧ FQ K H a_j x_j ∧ FQ K H b_j v_j ∧ FB 2010 x_j ∧ FB 2010 v_j ∧ 1 ≤ m_j ∧ m_j ≤ 10000 ∧ (∀  (H1 : Hp), Same H H1 → Q (.bl (decide (x_i < x_j ∨ (x_i = x_j ∧ v_i < v_j)))) H1)
theorem sc_is_ahead : FnScope ["one", "other"] ["one", "other"] (defScope (top 25)) := ⟨rfl, rfl, rfl, by decide +kernel, rfl, by decide +kernel, by decide +kernel⟩
theorem ok_is_ahead (D : Df K mg "is_ahead" (top 25) ["one", "other"]) (T : Tx K mg) (F_under : Fn P w K mg base 1 "under" ["one", "other"] (sp_under K)) : Fn P w K mg base 2 "is_ahead" ["one", "other"] (sp_is_ahead K) := by
  try with_reducible refine g_go ?_
  try with_reducible refine nil_go ?_
  try with_reducible refine hN2 _ _ ?_
  try with_reducible refine seq_go fun N2 hN2 => ?_
  refine D.ok0 sc_is_ahead (fun vs H Q E h => ?_) (fun f cdv A outer s H vs Q E hr h => ?_)
  · obtain ⟨p_i, a_i, b_i, x_i, v_i, m_i, p_j, a_j, b_j, x_j, v_j, m_j, rfl, _⟩ := h
    rfl
  obtain ⟨p_i, a_i, b_i, x_i, v_i, m_i, p_j, a_j, b_j, x_j, v_j, m_j, rfl, h_i, gx_i, gv_i, dx_i, dv_i, lo_i, hi_i, h_j, gx_j, gv_j, dx_j, dv_j, lo_j, hi_j, k0⟩ := h
  refine ⟨_, (pss_cons (ps_if (pt_cmpR (op_eqQ (K := K) rfl (u100 hr)) (pe_ix ix_tup (pv 0) pe_int (fun _ _ => rfl)) (pe_ix ix_tup (pv 1) pe_int (fun _ _ => rfl)) (nomark _)) (pss_one (ps_ret (pe_fn F_under (by decide) hr (by rfl) passE0 (pa_cons (pe_ix ix_tup (pv 0) pe_int (fun _ _ => rfl)) (pa_cons (pe_ix ix_tup (pv 1) pe_int (fun _ _ => rfl)) pa_nil))))) pss_nil)
      (pss_one (ps_ret (pe_fn F_under (by decide) hr (by rfl) passE0 (pa_cons (pe_ix ix_tup (pv 0) pe_int (fun _ _ => rfl)) (pa_cons (pe_ix ix_tup (pv 1) pe_int (fun _ _ => rfl)) pa_nil)))))), ?_⟩
  try dsimp only [cxK, cxK0]
  try with_reducible refine g_go ?_
  try with_reducible refine nil_go ?_
  try with_reducible refine hN2 _ _ ?_
  try with_reducible refine seq_go fun N2 hN2 => ?_
  refine ⟨_, rfl, p_i, _, _, _, rfl, rfl, h_i, rfl, _, rfl, p_j, _, _, _, rfl, rfl, h_j, rfl, _, _, _, _, rfl, rfl, gx_i, gx_j, _, rfl, ?_⟩
  try with_reducible refine g_go ?_
  try with_reducible refine nil_go ?_
  try with_reducible refine hN2 _ _ ?_
  try with_reducible refine seq_go fun N2 hN2 => ?_
  refine if_dec (fun c15 => ?_) (fun c15 => ?_)
  · skip
    try with_reducible refine g_go ?_
    try with_reducible refine nil_go ?_
    try with_reducible first | refine hN4 _ _ ?_ | refine hN2 _ _ ?_
    try with_reducible refine seq_go fun N4 hN4 => ?_
    refine ⟨_, rfl, p_i, _, _, _, rfl, rfl, h_i, rfl, _, rfl, p_j, _, _, _, rfl, rfl, h_j, rfl, _, _, _, _, rfl, gv_i, (FB.mono dv_i (by decide)), gv_j, (FB.mono dv_j (by decide)), fun H16 s16 => ?_⟩
    try dsimp only
    rw [show decide (v_i < v_j) = decide (x_i < x_j ∨ (x_i = x_j ∧ v_i < v_j)) from decide_eq_decide.mpr (by grind)]
    try with_reducible refine g_go ?_
    try with_reducible refine nil_go ?_
    try with_reducible first | refine hN4 _ _ ?_ | refine hN2 _ _ ?_
    try with_reducible refine seq_go fun N4 hN4 => ?_
    exact k0 _ s16
  · skip
    try with_reducible refine g_go ?_
    try with_reducible refine nil_go ?_
    try with_reducible first | refine hN4 _ _ ?_ | refine hN2 _ _ ?_
    try with_reducible refine seq_go fun N4 hN4 => ?_
    refine ⟨_, rfl, p_i, _, _, _, rfl, rfl, h_i, rfl, _, rfl, p_j, _, _, _, rfl, rfl, h_j, rfl, _, _, _, _, rfl, gx_i, (FB.mono dx_i (by decide)), gx_j, (FB.mono dx_j (by decide)), fun H17 s17 => ?_⟩
    try dsimp only
    rw [show decide (x_i < x_j) = decide (x_i < x_j ∨ (x_i = x_j ∧ v_i < v_j)) from decide_eq_decide.mpr (by grind)]
    try with_reducible refine g_go ?_
    try with_reducible refine nil_go ?_
    try with_reducible first | refine hN4 _ _ ?_ | refine hN2 _ _ ?_
    try with_reducible refine seq_go fun N4 hN4 => ?_
    exact k0 _ s17
theorem none_of_sm {H H1 : Hp} {a : Addr} (s : Same H H1) (n : H1 a = none) : H a = none := by
  cases e : H a with
  | none => rfl
  | some o => have := s _ _ e; rw [n] at this; cases this
noncomputable def sp_order_of (K : PySem.W.Frag) : Sp := fun vs H Q _ => ∃ (p : Addr) (xs : List V) (bs : List Bod), vs = [.ref p] ∧ H p = some (.lst xs) ∧ Al2 (BdQ K H 2010) xs bs ∧ bs.length ≤ 12 ∧ ∀ (r : Addr) (H1 : Hp), Same H H1 → H r = none → H1 r = some (.lst (numV (ordN (ltI bs) bs.length))) → Q (.ref r) H1
theorem sc_order_of : FnScope ["bodies", "order", "number", "spot"] ["bodies"] (defScope (top 26)) := ⟨rfl, rfl, rfl, by decide +kernel, rfl, by decide +kernel, by decide +kernel⟩
theorem ok_order_of (D : Df K mg "order_of" (top 26) ["bodies"]) (T : Tx K mg) (F_is_ahead : Fn P w K mg base 2 "is_ahead" ["one", "other"] (sp_is_ahead K)) : Fn P w K mg base 3 "order_of" ["bodies"] (sp_order_of K) := by
  try with_reducible refine g_go ?_
  try with_reducible refine nil_go ?_
  try with_reducible refine hN2 _ _ ?_
  try with_reducible refine seq_go fun N2 hN2 => ?_
  refine D.ok0 sc_order_of (fun vs H Q E h => ?_) (fun f cdv A outer s H vs Q E hr h => ?_)
  · obtain ⟨p, xs, bs, rfl, _⟩ := h
    rfl
  obtain ⟨p, xs, bs, rfl, hp, al, l12, k⟩ := h
  refine ⟨_, (pss_cons (ps_set (i := 1) sc_order_of.nd rfl (Or.inl rfl) (pe_lst pa_nil))
      (pss_cons (ps_for PassesOwn.never rfl (pi_range1 (by rfl) T.b_range (pa_cons (pe_callB call_len (by rfl) T.b_len PyProof.Rows.Boot.«len» (pa_cons (pv 0) pa_nil)) pa_nil)) (pg_name (i := 2) sc_order_of.nd rfl (Or.inl rfl)) (pss_cons (ps_set (i := 3) sc_order_of.nd rfl (Or.inl rfl) pe_int)
      (pss_cons (ps_while PassesOwn.never (pw_and (pt_cmpR op_lt (pv 3) (pe_callB call_len (by rfl) T.b_len PyProof.Rows.Boot.«len» (pa_cons (pv 1) pa_nil)) (nomark _)) (pw_and1 (pt_val (pe_fn F_is_ahead (by decide) hr (by rfl) passE0 (pa_cons (pe_ix ix_list (pv 0) (pe_ix ix_list (pv 1) (pv 3) (fun _ _ => rfl)) (fun _ _ => rfl)) (pa_cons (pe_ix ix_list (pv 0) (pv 2) (fun _ _ => rfl)) pa_nil))) (fun _ => rfl)))).pt (pss_one (ps_aug (i := 3) sc_order_of.nd rfl (Or.inl rfl) pe_int ip_add)))
      (pss_one (ps_expr (pe_bm PySem.F.plainAttrs_list PySem.F.slot_list_insert PySem.F.type_list_insert mt_insert (pv 1) (pa_cons (pv 3) (pa_cons (pv 2) pa_nil))))))))
      (pss_one (ps_ret (pv 1))))), ?_⟩
  try dsimp only [cxK, cxK0]
  have hz := Al2.len al
  try with_reducible refine g_go ?_
  try with_reducible refine nil_go ?_
  try with_reducible refine hN2 _ _ ?_
  try with_reducible refine seq_go fun N2 hN2 => ?_
  refine ⟨by show 0 ≤ sizeLine; decide, ?_⟩
  intro p2 n2
  obtain ⟨H2, q2, s2, e2⟩ := newO n2 (.lst [])
  rw [q2]
  clear q2
  have np : p ≠ p2 := ne_of_none hp n2
  have hp2 := s2 _ _ hp
  have al2 := bds_same al s2
  try with_reducible refine g_go ?_
  try with_reducible refine nil_go ?_
  try with_reducible refine hN2 _ _ ?_
  try with_reducible refine seq_go fun N2 hN2 => ?_
  refine ⟨_, rfl, _, _, rfl, .inl ⟨_, SqL.of hp2, rfl⟩, _, rfl, by omega, by omega, for_range (n := xs.length) (fun i σ1 H1 => ∃ (u2 u3 : Option V), σ1 = [some (.ref p), some (.ref p2), u2, u3] ∧ But p2 H2 H1 ∧ H1 p2 = some (.lst (numV (ordN (ltI bs) i)))) ⟨_, _, rfl, But.refl _, e2⟩ ?_ ?_⟩
  · rintro i σ1 H3 hi ⟨u2, u3, rfl, s3, ho3⟩
    obtain ⟨x, hx⟩ : ∃ x, xs[i]? = some x := ⟨_, List.getElem?_eq_getElem hi⟩
    have lo := ordN_len (ltI bs) i
    try with_reducible refine g_go ?_
    try with_reducible refine nil_go ?_
    try with_reducible first | refine hN4 _ _ ?_ | refine hN2 _ _ ?_
    refine ⟨fun m σ1 H1 => ∃ t : Nat, σ1 = [some (.ref p), some (.ref p2), some (.int (0 + (i : Int))), some (.int (t : Int))] ∧ But p2 H2 H1 ∧ H1 p2 = some (.lst (numV (ordN (ltI bs) i))) ∧ t ≤ i ∧ m = i - t ∧ (∀ j y, j < t → (ordN (ltI bs) i)[j]? = some y → ltI bs y i = true), ⟨_, 0, rfl, s3, ho3, Nat.zero_le _, rfl, fun _ _ h => absurd h (by omega)⟩, ?_⟩
    rintro m σ1 H4 ⟨t, rfl, s4, ho4, ht, rfl, below⟩
    try with_reducible refine g_go ?_
    try with_reducible refine nil_go ?_
    try with_reducible first | refine hN4 _ _ ?_ | refine hN2 _ _ ?_
    try with_reducible refine seq_go fun N4 hN4 => ?_
    refine ⟨_, rfl, _, rfl, _, _, rfl, .inl ⟨_, SqL.of ho4, rfl⟩, _, _, rfl, rfl, _, rfl, ?_⟩
    try with_reducible refine g_go ?_
    try with_reducible refine nil_go ?_
    try with_reducible first | refine hN4 _ _ ?_ | refine hN2 _ _ ?_
    try with_reducible refine seq_go fun N4 hN4 => ?_
    refine if_dec (fun c => ?_) (fun c => ?_)
    · rw [numV_len, lo] at c
      have htl : t < i := by omega
      obtain ⟨y, hy⟩ : ∃ y, (ordN (ltI bs) i)[t]? = some y := ⟨_, List.getElem?_eq_getElem (by rw [lo]; exact htl)⟩
      have yi := ordN_lt (ltI bs) i y (List.mem_of_getElem? hy)
      obtain ⟨z, hz'⟩ : ∃ z, xs[y]? = some z := ⟨_, List.getElem?_eq_getElem (by omega)⟩
      have al4 := bds_but al2 s4 e2
      have hp4 := s4 _ _ np hp2
      obtain ⟨bi, hbi, pi, ai, ci, rfl, i1, i2, i3, i4, i5, i6, i7⟩ := Al2.get al4 hx
      obtain ⟨bz, hbz, pz, az, cz, rfl, z1, z2, z3, z4, z5, z6, z7⟩ := Al2.get al4 hz'
      try with_reducible refine g_go ?_
      try with_reducible refine nil_go ?_
      try with_reducible first | refine hN6 _ _ ?_ | refine hN4 _ _ ?_ | refine hN2 _ _ ?_
      try with_reducible refine seq_go fun N6 hN6 => ?_
      refine ⟨_, rfl, _, rfl, _, rfl, p2, _, _, _, rfl, rfl, SqL.of ho4, atI_nat (numV_at hy), p, _, _, _, rfl, rfl, SqL.of hp4, atI_nat hz', _, rfl, _, rfl, p, _, _, _, rfl, rfl, SqL.of hp4, atI_z hx, _, _, _, _, _, _, _, _, _, _, _, _, rfl, z1, z2, z3, z4, z5, z6, z7, i1, i2, i3, i4, i5, i6, i7, fun H5 s5 => ⟨_, rfl, ?_⟩⟩
      have e := ltI_of hbz hbi
      try with_reducible refine g_go ?_
      try with_reducible refine nil_go ?_
      try with_reducible first | refine hN6 _ _ ?_ | refine hN4 _ _ ?_ | refine hN2 _ _ ?_
      try with_reducible refine seq_go fun N6 hN6 => ?_
      refine if_dec (fun c2 => ?_) (fun c2 => ?_)
      · try with_reducible refine g_go ?_
        try with_reducible refine nil_go ?_
        try with_reducible first | refine hN8 _ _ ?_ | refine hN6 _ _ ?_ | refine hN4 _ _ ?_ | refine hN2 _ _ ?_
        try with_reducible refine seq_go fun N8 hN8 => ?_
        refine ⟨_, fun _ _ n => n, ?_⟩
        try with_reducible refine g_go ?_
        try with_reducible refine nil_go ?_
        try with_reducible first | refine hN8 _ _ ?_ | refine hN6 _ _ ?_ | refine hN4 _ _ ?_ | refine hN2 _ _ ?_
        try with_reducible refine seq_go fun N8 hN8 => ?_
        refine ⟨_, rfl, _, _, rfl, rfl, ?_⟩
        try with_reducible refine g_go ?_
        try with_reducible refine nil_go ?_
        try with_reducible first | refine hN8 _ _ ?_ | refine hN6 _ _ ?_ | refine hN4 _ _ ?_ | refine hN2 _ _ ?_
        try with_reducible refine seq_go fun N8 hN8 => ?_
        refine ⟨i - (t + 1), by omega, t + 1, rfl, s4.trans (But.of s5), s5 _ _ ho4, by omega, rfl, fun j y' hj hy' => ?_⟩
        by_cases ej : j = t
        · subst ej
          cases hy.symm.trans hy'
          rw [e]
          try with_reducible refine g_go ?_
          try with_reducible refine nil_go ?_
          try with_reducible first | refine hN10 _ _ ?_ | refine hN8 _ _ ?_ | refine hN6 _ _ ?_ | refine hN4 _ _ ?_ | refine hN2 _ _ ?_
          try with_reducible refine seq_go fun N10 hN10 => ?_
          exact decide_eq_true c2
        · try with_reducible refine g_go ?_
          try with_reducible refine nil_go ?_
          try with_reducible first | refine hN10 _ _ ?_ | refine hN8 _ _ ?_ | refine hN6 _ _ ?_ | refine hN4 _ _ ?_ | refine hN2 _ _ ?_
          try with_reducible refine seq_go fun N10 hN10 => ?_
          exact below j y' (by omega) hy'
      · have ho5 := s5 _ _ ho4
        have nlt : ∀ y', (ordN (ltI bs) i)[t]? = some y' → ltI bs y' i = false := fun y' h => by
          cases hy.symm.trans h
          rw [e]
          try with_reducible refine g_go ?_
          try with_reducible refine nil_go ?_
          try with_reducible first | refine hN10 _ _ ?_ | refine hN8 _ _ ?_ | refine hN6 _ _ ?_ | refine hN4 _ _ ?_ | refine hN2 _ _ ?_
          try with_reducible refine seq_go fun N10 hN10 => ?_
          exact decide_eq_false c2
        have ei : (numV (ordN (ltI bs) i)).take t ++ V.int (0 + (i : Int)) :: (numV (ordN (ltI bs) i)).drop t = numV (ordN (ltI bs) (i + 1)) := by
          rw [Int.zero_add, numV_ins, insN_at _ t (by omega) below nlt]
          rfl
        try with_reducible refine g_go ?_
        try with_reducible refine nil_go ?_
        try with_reducible first | refine hN8 _ _ ?_ | refine hN6 _ _ ?_ | refine hN4 _ _ ?_ | refine hN2 _ _ ?_
        try with_reducible refine seq_go fun N8 hN8 => ?_
        refine ⟨_, rfl, .inl ⟨rfl, _, SqL.of ho5⟩, _, rfl, _, rfl, p2, _, _, t, rfl, rfl, ho5, by rw [numV_len, lo]; exact ht, by rw [numV_len, lo]; exact Nat.lt_of_le_of_lt (show i ≤ 12 by omega) (by decide), ?_⟩
        obtain ⟨H9, q9, s9, e9⟩ := newB (H := H5) (p := p2) (.lst ((numV (ordN (ltI bs) i)).take t ++ V.int (0 + (i : Int)) :: (numV (ordN (ltI bs) i)).drop t))
        dsimp only
        rw [q9]
        clear q9
        rw [ei] at e9
        try with_reducible refine g_go ?_
        try with_reducible refine nil_go ?_
        try with_reducible first | refine hN8 _ _ ?_ | refine hN6 _ _ ?_ | refine hN4 _ _ ?_ | refine hN2 _ _ ?_
        try with_reducible refine seq_go fun N8 hN8 => ?_
        exact ⟨_, _, rfl, (s4.trans (But.of s5)).trans s9, e9⟩
    · try with_reducible refine g_go ?_
      try with_reducible refine nil_go ?_
      try with_reducible first | refine hN6 _ _ ?_ | refine hN4 _ _ ?_ | refine hN2 _ _ ?_
      try with_reducible refine seq_go fun N6 hN6 => ?_
      refine iteF ?_
      rw [numV_len, lo] at c
      have nlt : ∀ y', (ordN (ltI bs) i)[t]? = some y' → ltI bs y' i = false := fun y' h => by
        have := (List.getElem?_eq_some_iff.mp h).1
        omega
      have ei : (numV (ordN (ltI bs) i)).take t ++ V.int (0 + (i : Int)) :: (numV (ordN (ltI bs) i)).drop t = numV (ordN (ltI bs) (i + 1)) := by
        rw [Int.zero_add, numV_ins, insN_at _ t (by omega) below nlt]
        rfl
      try with_reducible refine g_go ?_
      try with_reducible refine nil_go ?_
      try with_reducible first | refine hN6 _ _ ?_ | refine hN4 _ _ ?_ | refine hN2 _ _ ?_
      try with_reducible refine seq_go fun N6 hN6 => ?_
      refine ⟨_, rfl, .inl ⟨rfl, _, SqL.of ho4⟩, _, rfl, _, rfl, p2, _, _, t, rfl, rfl, ho4, by rw [numV_len, lo]; exact ht, by rw [numV_len, lo]; exact Nat.lt_of_le_of_lt (show i ≤ 12 by omega) (by decide), ?_⟩
      obtain ⟨H9, q9, s9, e9⟩ := newB (H := H4) (p := p2) (.lst ((numV (ordN (ltI bs) i)).take t ++ V.int (0 + (i : Int)) :: (numV (ordN (ltI bs) i)).drop t))
      dsimp only
      rw [q9]
      clear q9
      rw [ei] at e9
      try with_reducible refine g_go ?_
      try with_reducible refine nil_go ?_
      try with_reducible first | refine hN6 _ _ ?_ | refine hN4 _ _ ?_ | refine hN2 _ _ ?_
      try with_reducible refine seq_go fun N6 hN6 => ?_
      exact ⟨_, _, rfl, s4.trans s9, e9⟩
  · rintro σ1 H3 ⟨u2, u3, rfl, s3, ho3⟩
    rw [hz] at ho3
    try with_reducible refine g_go ?_
    try with_reducible refine nil_go ?_
    try with_reducible first | refine hN4 _ _ ?_ | refine hN2 _ _ ?_
    try with_reducible refine seq_go fun N4 hN4 => ?_
    exact ⟨_, rfl, k p2 H3 (same_then_but n2 s2 s3) n2 ho3⟩
noncomputable def sp_straight (K : PySem.W.Frag) : Sp := fun vs H Q _ => ∃ (p : Addr) (xs : List V) (bs : List Bod) (pm : Addr) (t : Rat), vs = [.ref p, .ref pm] ∧ H p = some (.lst xs) ∧ Al2 (BdQ K H 700) xs bs ∧ bs.length ≤ 12 ∧ FQ K H pm t ∧ FB 600 t ∧ ∀ (r : Addr) (ys : List V) (H1 : Hp), Same H H1 → H r = none → H1 r = some (.lst ys) → Al2 (BdQ K H1 2010) ys (strQ bs t) → Q (.ref r) H1
theorem sc_straight : FnScope ["world", "moment"] ["world", "moment"] (defScope (top 28)) := ⟨rfl, rfl, rfl, by decide +kernel, rfl, by decide +kernel, by decide +kernel⟩
theorem ok_straight (D : Df K mg "straight" (top 28) ["world", "moment"]) (T : Tx K mg) (F_led : Fn P w K mg base 4 "led" ["body", "moment"] (sp_led K)) : Fn P w K mg base 5 "straight" ["world", "moment"] (sp_straight K) := by
  try with_reducible refine g_go ?_
  try with_reducible refine nil_go ?_
  try with_reducible refine hN2 _ _ ?_
  try with_reducible refine seq_go fun N2 hN2 => ?_
  refine D.ok0 sc_straight (fun vs H Q E h => ?_) (fun f cdv A outer s H vs Q E hr h => ?_)
  · obtain ⟨p, xs, bs, pm, t, rfl, _⟩ := h
    rfl
  obtain ⟨p, xs, bs, pm, t, rfl, hp, al, l12, gm, dm, k⟩ := h
  refine ⟨_, (pss_one (ps_ret (@pe_lc _ _ _ _ _ _ _ _ _ _ ["moment"] [1] rfl (pi_list (pv 0)) rfl (by decide) rfl (by decide) rfl (by decide) (cap_one (j := 1) rfl rfl rfl rfl (.inl rfl)) (fun y c h => h) (cap_fr rfl) (fun C z Hc fp => (pe_fn F_led (by decide) hr (by rfl) passE0 (pa_cons (pv 0) (pa_cons (pv 1) pa_nil)))) (fun _ => rfl)))), ?_⟩
  try dsimp only [cxK, cxK0]
  have hz := Al2.len al
  try with_reducible refine g_go ?_
  try with_reducible refine nil_go ?_
  try with_reducible refine hN2 _ _ ?_
  try with_reducible refine seq_go fun N2 hN2 => ?_
  refine ⟨_, rfl, p, rfl, ⟨_, SqL.of hp⟩, lc_list (K := K) (xs := xs) (fun i ys H1 => i ≤ xs.length ∧ Same H H1 ∧ Al2 (BdQ K H1 2010) ys (strQ (bs.take i) t)) ⟨Nat.zero_le _, Same.refl H, trivial⟩ (by rw [hz]; exact Nat.le_trans l12 (by decide)) (fun i ys H1 ⟨l, _, e⟩ => by have := Al2.len e; rw [strQ_len] at this; simp at this; omega) (fun i ys H1 ⟨_, g, _⟩ => SqL.of (g _ _ hp)) ?_ ?_⟩
  · rintro i x ys H1 Q1 hx ⟨hl, sm, hy⟩ kq
    obtain ⟨b, hb, p2, a2, c2, rfl, e1, e2, e3, d1, d2, w1, w2⟩ := Al2.get al hx
    have hi : i < xs.length := (List.getElem?_eq_some_iff.mp hx).1
    try with_reducible refine g_go ?_
    try with_reducible refine nil_go ?_
    try with_reducible first | refine hN4 _ _ ?_ | refine hN2 _ _ ?_
    try with_reducible refine seq_go fun N4 hN4 => ?_
    refine ⟨_, rfl, _, rfl, _, _, _, _, _, _, _, _, rfl, Kw.Same.tup sm e1, Kw.Same.tup sm e2, Kw.Same.tup sm e3, d1, d2, w1, w2, Kw.Same.tup sm gm, dm, fun pr px pv H2 s2 h2 gx gv => ?_⟩
    try with_reducible refine g_go ?_
    try with_reducible refine nil_go ?_
    try with_reducible first | refine hN4 _ _ ?_ | refine hN2 _ _ ?_
    try with_reducible refine seq_go fun N4 hN4 => ?_
    refine kq _ _ ⟨by omega, sm.trans s2, ?_⟩
    rw [take_snoc hb, strQ_snoc]
    try with_reducible refine g_go ?_
    try with_reducible refine nil_go ?_
    try with_reducible first | refine hN4 _ _ ?_ | refine hN2 _ _ ?_
    try with_reducible refine seq_go fun N4 hN4 => ?_
    exact Al2.snoc (bds_same hy s2) ⟨pr, px, pv, rfl, h2, gx, gv, (FB.add d1 (FB.mul d2 dm)).mono (by decide), d2.mono (by decide), w1, w2⟩
  · rintro ys H1 ⟨_, sm, hy⟩ pl hpl
    have s2 := same_new hpl (.lst ys)
    rw [hz, List.take_length] at hy
    try with_reducible refine g_go ?_
    try with_reducible refine nil_go ?_
    try with_reducible first | refine hN4 _ _ ?_ | refine hN2 _ _ ?_
    try with_reducible refine seq_go fun N4 hN4 => ?_
    exact k pl ys _ (sm.trans s2) (none_of_sm sm hpl) upd_same (bds_same hy s2)
noncomputable def sp_in_order (K : PySem.W.Frag) : Sp := fun vs H Q _ => ∃ (p : Addr) (xs : List V) (bs : List Bod), vs = [.ref p] ∧ H p = some (.lst xs) ∧ Al2 (BdQ K H 2010) xs bs ∧ bs.length ≤ 12 ∧ ∀ (r : Addr) (ys : List V) (H1 : Hp), Same H H1 → H r = none → H1 r = some (.lst ys) → Al2 (BdQ K H1 2010) ys (sortQ bs) → Q (.ref r) H1
theorem sc_in_order : FnScope ["bodies"] ["bodies"] (defScope (top 27)) := ⟨rfl, rfl, rfl, by decide +kernel, rfl, by decide +kernel, by decide +kernel⟩
theorem ok_in_order (D : Df K mg "in_order" (top 27) ["bodies"]) (T : Tx K mg) (F_order_of : Fn P w K mg base 3 "order_of" ["bodies"] (sp_order_of K)) : Fn P w K mg base 4 "in_order" ["bodies"] (sp_in_order K) := by
  try with_reducible refine g_go ?_
  try with_reducible refine nil_go ?_
  try with_reducible refine hN2 _ _ ?_
  try with_reducible refine seq_go fun N2 hN2 => ?_
  refine D.ok0 sc_in_order (fun vs H Q E h => ?_) (fun f cdv A outer s H vs Q E hr h => ?_)
  · obtain ⟨p, xs, bs, rfl, _⟩ := h
    rfl
  obtain ⟨p, xs, bs, rfl, hp, al, l12, k⟩ := h
  refine ⟨_, (pss_one (ps_ret (@pe_lc _ _ _ _ _ _ _ _ _ _ ["bodies"] [0] rfl (pi_list (pe_fn F_order_of (by decide) hr (by rfl) passE0 (pa_cons (pv 0) pa_nil))) rfl (by decide) rfl (by decide) rfl (by decide) (cap_one (j := 0) rfl rfl rfl rfl (.inl rfl)) (fun y c h => h) (cap_fr rfl) (fun C z Hc fp => (pe_ix (ixL (K := K) rfl) (pv 1) (pv 0) (fun _ _ => rfl))) (fun _ => rfl)))), ?_⟩
  try dsimp only [cxK, cxK0]
  have hz := Al2.len al
  try with_reducible refine g_go ?_
  try with_reducible refine nil_go ?_
  try with_reducible refine hN2 _ _ ?_
  try with_reducible refine seq_go fun N2 hN2 => ?_
  refine ⟨_, rfl, p, xs, bs, rfl, hp, al, l12, fun r H1 s1 nr e1 => ?_⟩
  have lo := ordN_len (ltI bs) bs.length
  have ol := ordN_lt (ltI bs) bs.length
  have hp1 := s1 _ _ hp
  have al1 := bds_same al s1
  try with_reducible refine g_go ?_
  try with_reducible refine nil_go ?_
  try with_reducible refine hN2 _ _ ?_
  try with_reducible refine seq_go fun N2 hN2 => ?_
  refine ⟨r, rfl, ⟨_, SqL.of e1⟩, lc_list (K := K) (a := r) (xs := numV (ordN (ltI bs) bs.length)) (fun i ys H2 => i ≤ bs.length ∧ ys.length = i ∧ Same H1 H2 ∧ Al2 (BdQ K H2 2010) ys (permQ bs ((ordN (ltI bs) bs.length).take i))) ⟨Nat.zero_le _, rfl, Same.refl _, trivial⟩ (by rw [numV_len, lo]; exact Nat.le_trans l12 (by decide)) (fun i ys H2 ⟨_, e, _⟩ => e) (fun i ys H2 ⟨_, _, g, _⟩ => SqL.of (g _ _ e1)) ?_ ?_⟩
  · rintro i x ys H2 Q2 hx ⟨hl, le, sm, hy⟩ kq
    obtain ⟨y, ey, rfl⟩ := numV_get hx
    have yl := ol y (List.mem_of_getElem? ey)
    have hi : i < bs.length := by have := (List.getElem?_eq_some_iff.mp ey).1; omega
    obtain ⟨z, ez⟩ : ∃ z, xs[y]? = some z := ⟨_, List.getElem?_eq_getElem (by omega)⟩
    obtain ⟨b, hb, bq⟩ := Al2.get (bds_same al1 sm) ez
    try with_reducible refine g_go ?_
    try with_reducible refine nil_go ?_
    try with_reducible first | refine hN4 _ _ ?_ | refine hN2 _ _ ?_
    try with_reducible refine seq_go fun N4 hN4 => ?_
    refine ⟨_, rfl, _, rfl, p, _, _, _, rfl, rfl, SqL.of (sm _ _ hp1), atI_nat ez, kq _ _ ⟨by omega, by simp [le], sm, ?_⟩⟩
    rw [take_snoc ey, permQ_snoc hb]
    try with_reducible refine g_go ?_
    try with_reducible refine nil_go ?_
    try with_reducible first | refine hN4 _ _ ?_ | refine hN2 _ _ ?_
    try with_reducible refine seq_go fun N4 hN4 => ?_
    exact Al2.snoc hy bq
  · rintro ys H2 ⟨_, _, sm, hy⟩ pl hpl
    have s2 := same_new hpl (.lst ys)
    have en : (ordN (ltI bs) bs.length).take (numV (ordN (ltI bs) bs.length)).length = ordN (ltI bs) bs.length := by rw [numV_len, List.take_length]
    rw [en] at hy
    try with_reducible refine g_go ?_
    try with_reducible refine nil_go ?_
    try with_reducible first | refine hN4 _ _ ?_ | refine hN2 _ _ ?_
    try with_reducible refine seq_go fun N4 hN4 => ?_
    exact k pl ys _ (s1.trans (sm.trans s2)) (none_of_sm (s1.trans sm) hpl) upd_same (bds_same hy s2)
noncomputable def sp_passed (K : PySem.W.Frag) : Sp := fun vs H Q _ => ∃ (p : Addr) (xs : List V) (bs : List Bod) (w : Int) (pm : Addr) (t : Rat), vs = [.ref p, .ref pm] ∧ H p = some (.lst xs) ∧ Al2 (BdQ K H 700) xs bs ∧ 1 ≤ bs.length ∧ bs.length ≤ 12 ∧ (∀ b ∈ bs, b.2.2 = w) ∧ FQ K H pm t ∧ FB 600 t ∧ 0 ≤ t ∧ ∀ (r : Addr) (ys : List V) (H1 : Hp), Same H H1 → H r = none → H1 r = some (.lst ys) → Al2 (BdQ K H1 2010) ys (sortQ (strQ bs t)) → Q (.ref r) H1
theorem sc_passed : FnScope ["world", "moment"] ["world", "moment"] (defScope (top 29)) := ⟨rfl, rfl, rfl, by decide +kernel, rfl, by decide +kernel, by decide +kernel⟩
theorem ok_passed (D : Df K mg "passed" (top 29) ["world", "moment"]) (T : Tx K mg) (F_refuse_unlike : Fn P w K mg base 1 "refuse_unlike" ["world"] (sp_refuse_unlike K)) (F_refuse_below_nought : Fn P w K mg base 2 "refuse_below_nought" ["moment"] (sp_refuse_below_nought K)) (F_straight : Fn P w K mg base 5 "straight" ["world", "moment"] (sp_straight K)) (F_in_order : Fn P w K mg base 4 "in_order" ["bodies"] (sp_in_order K)) : Fn P w K mg base 6 "passed" ["world", "moment"] (sp_passed K) := by
  try with_reducible refine g_go ?_
  try with_reducible refine nil_go ?_
  try with_reducible refine hN2 _ _ ?_
  try with_reducible refine seq_go fun N2 hN2 => ?_
  refine D.ok0 sc_passed (fun vs H Q E h => ?_) (fun f cdv A outer s H vs Q E hr h => ?_)
  · obtain ⟨p, xs, bs, w, pm, t, rfl, _⟩ := h
    rfl
  obtain ⟨p, xs, bs, w, pm, t, rfl, hp, al, l1, l12, hw, gm, dm, t0, k⟩ := h
  refine ⟨_, (pss_cons (ps_expr (pe_fn F_refuse_unlike (by decide) hr (by rfl) passE0 (pa_cons (pv 0) pa_nil)))
      (pss_cons (ps_expr (pe_fn F_refuse_below_nought (by decide) hr (by rfl) passE0 (pa_cons (pv 1) pa_nil)))
      (pss_one (ps_ret (pe_fn F_in_order (by decide) hr (by rfl) passE0 (pa_cons (pe_fn F_straight (by decide) hr (by rfl) passE0 (pa_cons (pv 0) (pa_cons (pv 1) pa_nil))) pa_nil)))))), ?_⟩
  try dsimp only [cxK, cxK0]
  try with_reducible refine g_go ?_
  try with_reducible refine nil_go ?_
  try with_reducible refine hN2 _ _ ?_
  try with_reducible refine seq_go fun N2 hN2 => ?_
  refine ⟨_, rfl, p, xs, bs, w, rfl, hp, bds_mono al (by decide), l1, l12, hw, fun H1 s1 => ?_⟩
  try with_reducible refine g_go ?_
  try with_reducible refine nil_go ?_
  try with_reducible refine hN2 _ _ ?_
  try with_reducible refine seq_go fun N2 hN2 => ?_
  refine ⟨_, rfl, pm, t, rfl, Kw.Same.tup s1 gm, dm.mono (by decide), t0, fun H2 s2 => ?_⟩
  have s12 := s1.trans s2
  try with_reducible refine g_go ?_
  try with_reducible refine nil_go ?_
  try with_reducible refine hN2 _ _ ?_
  try with_reducible refine seq_go fun N2 hN2 => ?_
  refine ⟨_, rfl, _, rfl, p, xs, bs, pm, t, rfl, s12 _ _ hp, bds_same al s12, l12, Kw.Same.tup s12 gm, dm, fun r3 ys3 H3 s3 n3 e3 al3 => ?_⟩
  try with_reducible refine g_go ?_
  try with_reducible refine nil_go ?_
  try with_reducible refine hN2 _ _ ?_
  try with_reducible refine seq_go fun N2 hN2 => ?_
  refine ⟨r3, ys3, _, rfl, e3, al3, by rw [strQ_len]; exact l12, fun r4 ys4 H4 s4 n4 e4 al4 => ?_⟩
  try with_reducible refine g_go ?_
  try with_reducible refine nil_go ?_
  try with_reducible refine hN2 _ _ ?_
  try with_reducible refine seq_go fun N2 hN2 => ?_
  exact k r4 ys4 H4 (s12.trans (s3.trans s4)) (none_of_sm (s12.trans s3) n4) e4 al4
noncomputable def sp_wearer (K : PySem.W.Frag) : Sp := fun vs H Q _ => ∃ (p : Addr) (xs : List V) (bs : List Bod) (W : Int) (pm : Addr) (t : Rat) (j : Nat), vs = [.ref p, .int (j : Int), .ref pm] ∧ H p = some (.lst xs) ∧ Al2 (BdQ K H 700) xs bs ∧ j < bs.length ∧ bs.length ≤ 12 ∧ (∀ b ∈ bs, b.2.2 = W) ∧ FQ K H pm t ∧ FB 600 t ∧ 0 ≤ t ∧
  ∀ (y : Nat) (H1 : Hp), Same H H1 → (ordN (ltI (strQ bs t)) bs.length)[j]? = some y → Q (.int (y : Int)) H1
theorem sc_wearer : FnScope ["world", "number", "moment"] ["world", "number", "moment"] (defScope (top 32)) := ⟨rfl, rfl, rfl, by decide +kernel, rfl, by decide +kernel, by decide +kernel⟩
theorem ok_wearer (D : Df K mg "wearer" (top 32) ["world", "number", "moment"]) (T : Tx K mg) (F_refuse_unlike : Fn P w K mg base 1 "refuse_unlike" ["world"] (sp_refuse_unlike K)) (F_refuse_below_nought : Fn P w K mg base 2 "refuse_below_nought" ["moment"] (sp_refuse_below_nought K)) (F_is_whole : Fn P w K mg base 1 "is_whole" ["thing"] (spWhole K)) (F_straight : Fn P w K mg base 5 "straight" ["world", "moment"] (sp_straight K)) (F_order_of : Fn P w K mg base 3 "order_of" ["bodies"] (sp_order_of K)) : Fn P w K mg base 6 "wearer" ["world", "number", "moment"] (sp_wearer K) := by
  try with_reducible refine g_go ?_
  try with_reducible refine nil_go ?_
  try with_reducible refine hN2 _ _ ?_
  try with_reducible refine seq_go fun N2 hN2 => ?_
  refine D.ok0 sc_wearer (fun vs H Q E h => ?_) (fun f cdv A outer s H vs Q E hr h => ?_)
  · obtain ⟨p, xs, bs, W, pm, t, j, rfl, _⟩ := h
    rfl
  obtain ⟨p, xs, bs, W, pm, t, j, rfl, hp, al, hj, l12, hw, gm, dm, t0, kq⟩ := h
  refine ⟨_, (pss_cons (ps_expr (pe_fn F_refuse_unlike (by decide) hr (by rfl) passE0 (pa_cons (pv 0) pa_nil)))
      (pss_cons (ps_expr (pe_fn F_refuse_below_nought (by decide) hr (by rfl) passE0 (pa_cons (pv 2) pa_nil)))
      (pss_cons (ps_if (pw_or (pt_not (pt_val (pe_fn F_is_whole (by decide) hr (by rfl) passE0 (pa_cons (pv 1) pa_nil)) (fun _ => rfl))) (pw_or1 (pt_not (pt_chain op_le op_lt pe_int (pv 1) (pe_callB call_len (by rfl) T.b_len PyProof.Rows.Boot.«len» (pa_cons (pv 0) pa_nil)))))).pt (pss_one ps_never) pss_nil)
      (pss_one (ps_ret (pe_ix ix_list (pe_fn F_order_of (by decide) hr (by rfl) passE0 (pa_cons (pe_fn F_straight (by decide) hr (by rfl) passE0 (pa_cons (pv 0) (pa_cons (pv 2) pa_nil))) pa_nil)) (pv 1) (fun _ _ => rfl))))))), ?_⟩
  try dsimp only [cxK, cxK0]
  have hz := Al2.len al
  try with_reducible refine g_go ?_
  try with_reducible refine nil_go ?_
  try with_reducible refine hN2 _ _ ?_
  try with_reducible refine seq_go fun N2 hN2 => ?_
  refine ⟨_, rfl, p, xs, bs, W, rfl, hp, bds_mono al (by decide), by omega, l12, hw, fun H1 s1 => ?_⟩
  try with_reducible refine g_go ?_
  try with_reducible refine nil_go ?_
  try with_reducible refine hN2 _ _ ?_
  try with_reducible refine seq_go fun N2 hN2 => ?_
  refine ⟨_, rfl, pm, t, rfl, Kw.Same.tup s1 gm, dm.mono (by decide), t0, fun H2 s2 => ?_⟩
  have s12 := s1.trans s2
  have hp2 := s12 _ _ hp
  try with_reducible refine g_go ?_
  try with_reducible refine nil_go ?_
  try with_reducible refine hN2 _ _ ?_
  try with_reducible refine seq_go fun N2 hN2 => ?_
  refine ⟨_, rfl, _, _, true, false, rfl, .int _, kit_int_int, kit_int_bool, _, rfl, iteF ?_⟩
  try with_reducible refine g_go ?_
  try with_reducible refine nil_go ?_
  try with_reducible refine hN2 _ _ ?_
  try with_reducible refine seq_go fun N2 hN2 => ?_
  refine ⟨_, rfl, _, _, rfl, rfl, _, rfl, ?_⟩
  try with_reducible refine g_go ?_
  try with_reducible refine nil_go ?_
  try with_reducible refine hN2 _ _ ?_
  try with_reducible refine seq_go fun N2 hN2 => ?_
  refine if_dec (fun _ => ?_) (fun c => absurd (show (0 : Int) ≤ (j : Int) by omega) c)
  try with_reducible refine g_go ?_
  try with_reducible refine nil_go ?_
  try with_reducible refine hN2 _ _ ?_
  try with_reducible refine seq_go fun N2 hN2 => ?_
  refine ⟨_, rfl, _, _, rfl, .inl ⟨_, SqL.of hp2, rfl⟩, _, _, rfl, rfl, _, rfl, ?_⟩
  try with_reducible refine g_go ?_
  try with_reducible refine nil_go ?_
  try with_reducible refine hN2 _ _ ?_
  try with_reducible refine seq_go fun N2 hN2 => ?_
  refine if_not (fun c => absurd (show (j : Int) < ((xs.length : Nat) : Int) by omega) c) (fun _ => ?_)
  try with_reducible refine g_go ?_
  try with_reducible refine nil_go ?_
  try with_reducible refine hN2 _ _ ?_
  try with_reducible refine seq_go fun N2 hN2 => ?_
  refine ⟨_, rfl, _, rfl, p, xs, bs, pm, t, rfl, hp2, bds_same al s12, l12, Kw.Same.tup s12 gm, dm, fun r3 ys3 H3 s3 n3 e3 al3 => ?_⟩
  try with_reducible refine g_go ?_
  try with_reducible refine nil_go ?_
  try with_reducible refine hN2 _ _ ?_
  try with_reducible refine seq_go fun N2 hN2 => ?_
  refine ⟨r3, ys3, _, rfl, e3, al3, by rw [strQ_len]; exact l12, fun r4 H4 s4 n4 e4 => ?_⟩
  rw [strQ_len] at e4
  obtain ⟨y, hy⟩ : ∃ y, (ordN (ltI (strQ bs t)) bs.length)[j]? = some y := ⟨_, List.getElem?_eq_getElem (by rw [ordN_len]; exact hj)⟩
  try with_reducible refine g_go ?_
  try with_reducible refine nil_go ?_
  try with_reducible refine hN2 _ _ ?_
  try with_reducible refine seq_go fun N2 hN2 => ?_
  exact ⟨_, rfl, r4, _, _, _, rfl, rfl, SqL.of e4, atI_nat (numV_at hy), kq y H4 (s12.trans (s3.trans s4)) hy⟩
noncomputable def sp_crossings (K : PySem.W.Frag) : Sp := fun vs H Q _ => ∃ (p : Addr) (xs : List V) (bs : List Bod) (w : Int) (pm : Addr) (t : Rat), vs = [.ref p, .ref pm] ∧ H p = some (.lst xs) ∧ Al2 (BdQ K H 1990) xs bs ∧ 1 ≤ bs.length ∧ bs.length ≤ 12 ∧ (∀ b ∈ bs, b.2.2 = w) ∧ FQ K H pm t ∧ FB 8900 t ∧ 0 ≤ t ∧ ∀ H1, Same H H1 → Q (.int (((untilQ (passN bs bs.length) t).length : Nat) : Int)) H1
theorem sc_crossings : FnScope ["world", "moment"] ["world", "moment"] (defScope (top 31)) := ⟨rfl, rfl, rfl, by decide +kernel, rfl, by decide +kernel, by decide +kernel⟩
theorem ok_crossings (D : Df K mg "crossings" (top 31) ["world", "moment"]) (T : Tx K mg) (F_refuse_unlike : Fn P w K mg base 1 "refuse_unlike" ["world"] (sp_refuse_unlike K)) (F_refuse_below_nought : Fn P w K mg base 2 "refuse_below_nought" ["moment"] (sp_refuse_below_nought K)) (F_passings : Fn P w K mg base 5 "passings" ["world"] (sp_passings K)) (F_under : Fn P w K mg base 1 "under" ["one", "other"] (sp_under K)) : Fn P w K mg base 6 "crossings" ["world", "moment"] (sp_crossings K) := by
  try with_reducible refine g_go ?_
  try with_reducible refine nil_go ?_
  try with_reducible refine hN2 _ _ ?_
  try with_reducible refine seq_go fun N2 hN2 => ?_
  refine D.ok0 sc_crossings (fun vs H Q E h => ?_) (fun f cdv A outer s H vs Q E hr h => ?_)
  · obtain ⟨p, xs, bs, w, pm, t, rfl, _⟩ := h
    rfl
  obtain ⟨p, xs, bs, w, pm, t, rfl, hp, al, l1, l12, hw, gm, dm, t0, k⟩ := h
  refine ⟨_, (pss_cons (ps_expr (pe_fn F_refuse_unlike (by decide) hr (by rfl) passE0 (pa_cons (pv 0) pa_nil)))
      (pss_cons (ps_expr (pe_fn F_refuse_below_nought (by decide) hr (by rfl) passE0 (pa_cons (pv 1) pa_nil)))
      (pss_one (ps_ret (pe_callB call_len (by rfl) T.b_len PyProof.Rows.Boot.«len» (pa_cons (@pe_lcT _ _ _ _ _ _ _ _ _ _ _ _ ["moment"] [1] rfl (pi_list (pe_fn F_passings (by decide) hr (by rfl) passE0 (pa_cons (pv 0) pa_nil))) rfl (by decide) rfl (by decide) rfl (by decide) (cap_one (j := 1) rfl rfl rfl rfl (.inl rfl)) (fun y c h => h) (cap_fr rfl) (fun C z Hc fp => pts_one (pt_not (pt_val (pe_fn F_under (by decide) hr (by rfl) passE0 (pa_cons (pv 1) (pa_cons (pv 0) pa_nil))) (fun _ => rfl)))) (fun C z Hc fp => (pv 0)) (fun _ => rfl)) pa_nil)))))), ?_⟩
  try dsimp only [cxK, cxK0]
  try with_reducible refine g_go ?_
  try with_reducible refine nil_go ?_
  try with_reducible refine hN2 _ _ ?_
  try with_reducible refine seq_go fun N2 hN2 => ?_
  refine ⟨_, rfl, p, xs, bs, w, rfl, hp, al, l1, l12, hw, fun H1 s1 => ?_⟩
  try with_reducible refine g_go ?_
  try with_reducible refine nil_go ?_
  try with_reducible refine hN2 _ _ ?_
  try with_reducible refine seq_go fun N2 hN2 => ?_
  refine ⟨_, rfl, pm, t, rfl, Kw.Same.tup s1 gm, dm, t0, fun H2 s2 => ?_⟩
  have s12 := s1.trans s2
  try with_reducible refine g_go ?_
  try with_reducible refine nil_go ?_
  try with_reducible refine hN2 _ _ ?_
  try with_reducible refine seq_go fun N2 hN2 => ?_
  refine ⟨_, rfl, p, xs, bs, rfl, s12 _ _ hp, bds_same al s12, l12, fun r ys H3 s3 nr e3 ay => ?_⟩
  have s13 := s12.trans s3
  have ly := Al2.len ay
  have pl := passN_len bs bs.length l12
  try with_reducible refine g_go ?_
  try with_reducible refine nil_go ?_
  try with_reducible refine hN2 _ _ ?_
  try with_reducible refine seq_go fun N2 hN2 => ?_
  refine ⟨r, rfl, ⟨_, SqL.of e3⟩, lc_filterQ (K := K) (a := r) (xs := ys) (fun q => !decide (t < q)) (SqL.of e3) (Nat.le_trans (show ys.length ≤ 156 by omega) (by decide)) ay ?_ ?_ ?_⟩
  · rintro x q H4 Q4 s4 ⟨pq, rfl, gq, dq⟩ kq
    try with_reducible refine g_go ?_
    try with_reducible refine nil_go ?_
    try with_reducible first | refine hN4 _ _ ?_ | refine hN2 _ _ ?_
    try with_reducible refine seq_go fun N4 hN4 => ?_
    exact ⟨_, rfl, _, rfl, _, _, _, _, rfl, Kw.Same.tup (s13.trans s4) gm, dm, gq, dq.mono (by decide), fun H5 s5 => ⟨_, rfl, kq H5 s5⟩⟩
  · intro x H4 Q4 h4
    try with_reducible refine g_go ?_
    try with_reducible refine nil_go ?_
    try with_reducible first | refine hN4 _ _ ?_ | refine hN2 _ _ ?_
    try with_reducible refine seq_go fun N4 hN4 => ?_
    exact ⟨_, rfl, h4⟩
  · rintro zs H4 s4 az pn hpn
    have lz := Al2.len az
    have s5 := same_new hpn (.lst zs)
    try with_reducible refine g_go ?_
    try with_reducible refine nil_go ?_
    try with_reducible first | refine hN4 _ _ ?_ | refine hN2 _ _ ?_
    try with_reducible refine seq_go fun N4 hN4 => ?_
    refine ⟨_, _, rfl, .inl ⟨_, SqL.of upd_same, rfl⟩, ?_⟩
    rw [lz]
    try with_reducible refine g_go ?_
    try with_reducible refine nil_go ?_
    try with_reducible first | refine hN4 _ _ ?_ | refine hN2 _ _ ?_
    try with_reducible refine seq_go fun N4 hN4 => ?_
    exact k _ (s13.trans (s4.trans s5))
noncomputable def sp_push_of (K : PySem.W.Frag) : Sp := fun vs H Q _ => ∃ (p_i a_i b_i : Addr) (x_i v_i : Rat) (m_i : Int), vs = [.ref p_i] ∧ SqT K H p_i [.ref a_i, .ref b_i, .int m_i] ∧ FQ K H a_i x_i ∧ FQ K H b_i v_i ∧ FB 2010 x_i ∧ FB 2010 v_i ∧ 1 ≤ m_i ∧ m_i ≤ 10000 ∧ (∀ (p_r : Addr) (H1 : Hp), Same H H1 → FQ K H1 p_r (((m_i : Int) : Rat) * v_i) → Q (.ref p_r) H1)
theorem sc_push_of : FnScope ["body"] ["body"] (defScope (top 34)) := ⟨rfl, rfl, rfl, by decide +kernel, rfl, by decide +kernel, by decide +kernel⟩
theorem ok_push_of (D : Df K mg "push_of" (top 34) ["body"]) (T : Tx K mg) (F_times : Fn P w K mg base 2 "times" ["one", "other"] (sp_times K)) : Fn P w K mg base 3 "push_of" ["body"] (sp_push_of K) := by
  try with_reducible refine g_go ?_
  try with_reducible refine nil_go ?_
  try with_reducible refine hN2 _ _ ?_
  try with_reducible refine seq_go fun N2 hN2 => ?_
  refine D.ok0 sc_push_of (fun vs H Q E h => ?_) (fun f cdv A outer s H vs Q E hr h => ?_)
  · obtain ⟨p_i, a_i, b_i, x_i, v_i, m_i, rfl, _⟩ := h
    rfl
  obtain ⟨p_i, a_i, b_i, x_i, v_i, m_i, rfl, h_i, gx_i, gv_i, dx_i, dv_i, lo_i, hi_i, k0⟩ := h
  refine ⟨_, (pss_one (ps_ret (pe_fn F_times (by decide) hr (by rfl) passE0 (pa_cons (pe_tup (pa_cons (pe_ix ix_tup (pv 0) pe_int (fun _ _ => rfl)) (pa_cons pe_int pa_nil))) (pa_cons (pe_ix ix_tup (pv 0) pe_int (fun _ _ => rfl)) pa_nil))))), ?_⟩
  try dsimp only [cxK, cxK0]
  try with_reducible refine g_go ?_
  try with_reducible refine nil_go ?_
  try with_reducible refine hN2 _ _ ?_
  try with_reducible refine seq_go fun N2 hN2 => ?_
  refine ⟨_, rfl, p_i, _, _, _, rfl, rfl, h_i, rfl, by show 2 ≤ sizeLine; decide, ?_⟩
  intro p18 n18
  obtain ⟨H18, q18, s18, e18⟩ := newO n18 (.tup [.int (m_i), .int ((1 : Int))])
  rw [q18]
  clear q18
  have h18 := SqT.of (K := K) e18
  have g18 : FQ K H18 p18 (((m_i : Int) : Rat)) := by exact FQ.ofInt h18
  replace h_i := (Kw.Same.tup s18 h_i)
  replace gv_i := (Kw.Same.tup s18 gv_i)
  try with_reducible refine g_go ?_
  try with_reducible refine nil_go ?_
  try with_reducible refine hN2 _ _ ?_
  try with_reducible refine seq_go fun N2 hN2 => ?_
  refine ⟨_, rfl, p_i, _, _, _, rfl, rfl, h_i, rfl, _, _, _, _, rfl, g18, (FB.mono (FB.ofInt (Bd.small (i := m_i) (by omega) (by omega)) (by decide)) (by decide)), gv_i, (FB.mono dv_i (by decide)), fun p_r19 H19 s19 g_r19 => ?_⟩
  have d_r19 : FB 2074 (((((m_i : Int) : Rat))) * v_i) := (FB.mono (FB.mul (FB.ofInt (Bd.small (i := m_i) (by omega) (by omega)) (by decide)) dv_i) (by decide))
  try with_reducible refine g_go ?_
  try with_reducible refine nil_go ?_
  try with_reducible refine hN2 _ _ ?_
  try with_reducible refine seq_go fun N2 hN2 => ?_
  exact k0 _ _ (s18.trans s19) g_r19
noncomputable def sp_total (K : PySem.W.Frag) : Sp := fun vs H Q _ => ∃ (p : Addr) (xs : List V) (qs : List Rat) (n : Nat), vs = [.ref p] ∧ SqL K H p xs ∧ Al2 (FrQ K H n) xs qs ∧ (xs.length * (n + 1) + 64 ≤ 8900 ∧ n ≤ 4000) ∧ ∀ (r : Addr) (H1 : Hp), Same H H1 → FQ K H1 r (sumQ qs) → Q (.ref r) H1
theorem sc_total : FnScope ["numbers", "whole", "number"] ["numbers"] (defScope (top 35)) := ⟨rfl, rfl, rfl, by decide +kernel, rfl, by decide +kernel, by decide +kernel⟩
theorem ok_total (D : Df K mg "total" (top 35) ["numbers"]) (T : Tx K mg) (F_plus : Fn P w K mg base 2 "plus" ["one", "other"] (sp_plus K)) : Fn P w K mg base 3 "total" ["numbers"] (sp_total K) := by
  try with_reducible refine g_go ?_
  try with_reducible refine nil_go ?_
  try with_reducible refine hN2 _ _ ?_
  try with_reducible refine seq_go fun N2 hN2 => ?_
  refine D.ok0 sc_total (fun vs H Q E h => ?_) (fun f cdv A outer s H vs Q E hr h => ?_)
  · obtain ⟨p, xs, qs, n, rfl, _⟩ := h
    rfl
  obtain ⟨p, xs, qs, n, rfl, hp, hf, ⟨hn, hn4⟩, k⟩ := h
  refine ⟨_, (pss_cons (ps_set (i := 1) sc_total.nd rfl (Or.inl rfl) (pe_globT (K := K) rfl (by rfl) T.k_NOUGHT))
      (pss_cons (ps_for PassesOwn.never rfl (pi_list (pv 0)) (pg_name (i := 2) sc_total.nd rfl (Or.inl rfl)) (pss_one (ps_set (i := 1) sc_total.nd rfl (Or.inl rfl) (pe_fn F_plus (by decide) hr (by rfl) passE0 (pa_cons (pv 1) (pa_cons (pv 2) pa_nil))))))
      (pss_one (ps_ret (pv 1))))), ?_⟩
  try dsimp only [cxK, cxK0]
  try with_reducible refine g_go ?_
  try with_reducible refine nil_go ?_
  try with_reducible refine hN2 _ _ ?_
  try with_reducible refine seq_go fun N2 hN2 => ?_
  refine fun N hN => ?_
  have g0 : FQ K H N (sumQ (qs.take 0)) := hN _
  have d0 : FB (0 * (n + 1) + 64) (sumQ (qs.take 0)) := (FB.ofInt (n := 64) (i := 0) (Bd.small (by decide) (by decide)) (by decide)).mono (by omega)
  try with_reducible refine g_go ?_
  try with_reducible refine nil_go ?_
  try with_reducible refine hN2 _ _ ?_
  try with_reducible refine seq_go fun N2 hN2 => ?_
  refine ⟨_, rfl, p, rfl, ⟨_, hp⟩, for_list (K := K) (a := p) (xs := xs) (fun i σ1 H1 => ∃ (r : Addr) (nx : Option V), σ1 = [some (.ref p), some (.ref r), nx] ∧ Same H H1 ∧ FQ K H1 r (sumQ (qs.take i)) ∧ FB (i * (n + 1) + 64) (sumQ (qs.take i)))
    ⟨N, _, rfl, Same.refl H, g0, d0⟩ (fun i σ1 H1 _ ⟨_, _, _, g, _⟩ => g.seq hp) ?_ ?_⟩
  · rintro i x σ1 H1 hx ⟨r, nx, rfl, sm, g, d⟩
    obtain ⟨q, hq, p2, rfl, g2, d2⟩ := Al2.get hf hx
    have hi : i < xs.length := (List.getElem?_eq_some_iff.mp hx).1
    have l1 : (i + 1) * (n + 1) ≤ xs.length * (n + 1) := Nat.mul_le_mul_right _ hi
    have l2 : (i + 1) * (n + 1) = i * (n + 1) + n + 1 := by rw [Nat.add_mul]; omega
    have e : sumQ (qs.take i) + q = sumQ (qs.take (i + 1)) := by rw [take_snoc hq, sumQ_snoc]
    try with_reducible refine g_go ?_
    try with_reducible refine nil_go ?_
    try with_reducible first | refine hN4 _ _ ?_ | refine hN2 _ _ ?_
    try with_reducible refine seq_go fun N4 hN4 => ?_
    refine ⟨_, rfl, _, rfl, _, _, _, _, rfl, g, d.mono (by omega), Kw.Same.tup sm g2, d2.mono (by omega), fun r2 H2 s2 g3 => ?_⟩
    try with_reducible refine g_go ?_
    try with_reducible refine nil_go ?_
    try with_reducible first | refine hN4 _ _ ?_ | refine hN2 _ _ ?_
    try with_reducible refine seq_go fun N4 hN4 => ?_
    exact ⟨r2, _, rfl, sm.trans s2, g3.cast e, ((d.add d2).mono (by omega)).cast e⟩
  · rintro σ1 H1 ⟨r, nx, rfl, sm, g, _⟩
    have e : qs.take xs.length = qs := by rw [Al2.len hf, List.take_length]
    rw [e] at g
    try with_reducible refine g_go ?_
    try with_reducible refine nil_go ?_
    try with_reducible first | refine hN4 _ _ ?_ | refine hN2 _ _ ?_
    try with_reducible refine seq_go fun N4 hN4 => ?_
    exact ⟨_, rfl, k r H1 sm g⟩
noncomputable def sp_push (K : PySem.W.Frag) : Sp := fun vs H Q _ => ∃ (p : Addr) (xs : List V) (bs : List (Rat × Rat × Int)) (n : Nat), vs = [.ref p] ∧ SqL K H p xs ∧ Al2 (BdQ K H 2010) xs bs ∧ (∀ b ∈ bs, FB n b.2.1) ∧ (n ≤ 1400 ∧ bs.length ≤ 100 ∧ bs.length * (64 + n + 1) + 64 ≤ 8900) ∧ ∀ (r : Addr) (H1 : Hp), Same H H1 → FQ K H1 r (pushQ bs) → Q (.ref r) H1
theorem sc_push : FnScope ["bodies"] ["bodies"] (defScope (top 36)) := ⟨rfl, rfl, rfl, by decide +kernel, rfl, by decide +kernel, by decide +kernel⟩
theorem ok_push (D : Df K mg "push" (top 36) ["bodies"]) (T : Tx K mg) (F_push_of : Fn P w K mg base 3 "push_of" ["body"] (sp_push_of K)) (F_total : Fn P w K mg base 3 "total" ["numbers"] (sp_total K)) : Fn P w K mg base 4 "push" ["bodies"] (sp_push K) := by
  try with_reducible refine g_go ?_
  try with_reducible refine nil_go ?_
  try with_reducible refine hN2 _ _ ?_
  try with_reducible refine seq_go fun N2 hN2 => ?_
  refine D.ok0 sc_push (fun vs H Q E h => ?_) (fun f cdv A outer s H vs Q E hr h => ?_)
  · obtain ⟨p, xs, bs, n, rfl, _⟩ := h
    rfl
  obtain ⟨p, xs, bs, n, rfl, hp, hf, hv, ⟨hn, h1, h2⟩, k⟩ := h
  refine ⟨_, (pss_one (ps_ret (pe_fn F_total (by decide) hr (by rfl) passE0 (pa_cons (@pe_lc _ _ _ _ _ _ _ _ _ _ [] [] rfl (pi_list (pv 0)) rfl (by decide) rfl (by decide) rfl (by decide) cap_none (fun _ _ h => nomatch h) (no_free rfl) (fun C z Hc fp => (pe_fn F_push_of (by decide) hr (by rfl) passE0 (pa_cons (pv 0) pa_nil))) (fun _ => rfl)) pa_nil)))), ?_⟩
  try dsimp only [cxK, cxK0]
  have hz := Al2.len hf
  try with_reducible refine g_go ?_
  try with_reducible refine nil_go ?_
  try with_reducible refine hN2 _ _ ?_
  try with_reducible refine seq_go fun N2 hN2 => ?_
  refine ⟨_, rfl, p, rfl, ⟨_, hp⟩, lc_list (K := K) (xs := xs) (fun i ys H1 => i ≤ xs.length ∧ Same H H1 ∧ Al2 (FrQ K H1 (64 + n)) ys ((bs.take i).map fun b => (b.2.2 : Rat) * b.2.1)) ⟨Nat.zero_le _, Same.refl H, trivial⟩ (by rw [hz]; exact Nat.le_trans h1 (by decide)) (fun i ys H1 ⟨l, _, e⟩ => by have := Al2.len e; simp at this; omega) (fun i ys H1 ⟨_, g, _⟩ => g.seq hp) ?_ ?_⟩
  · rintro i x ys H1 Q1 hx ⟨hl, sm, hy⟩ kq
    obtain ⟨b, hb, p2, a2, c2, rfl, e1, e2, e3, d1, d9, w1, w2⟩ := Al2.get hf hx
    have d2 := hv b (List.mem_of_getElem? hb)
    have hi : i < xs.length := (List.getElem?_eq_some_iff.mp hx).1
    try with_reducible refine g_go ?_
    try with_reducible refine nil_go ?_
    try with_reducible first | refine hN4 _ _ ?_ | refine hN2 _ _ ?_
    try with_reducible refine seq_go fun N4 hN4 => ?_
    refine ⟨_, rfl, _, _, _, _, _, _, rfl, Kw.Same.tup sm e1, Kw.Same.tup sm e2, Kw.Same.tup sm e3, d1, d9, w1, w2, fun r H2 s2 g => ?_⟩
    try with_reducible refine g_go ?_
    try with_reducible refine nil_go ?_
    try with_reducible first | refine hN4 _ _ ?_ | refine hN2 _ _ ?_
    try with_reducible refine seq_go fun N4 hN4 => ?_
    refine kq _ _ ⟨by omega, sm.trans s2, ?_⟩
    rw [take_snoc hb, List.map_append]
    try with_reducible refine g_go ?_
    try with_reducible refine nil_go ?_
    try with_reducible first | refine hN4 _ _ ?_ | refine hN2 _ _ ?_
    try with_reducible refine seq_go fun N4 hN4 => ?_
    exact Al2.snoc (frs_same hy s2) ⟨r, rfl, g, (FB.mul (FB.ofInt (Bd.small (i := b.2.2) (by omega) (by omega)) (by decide)) d2).mono (by omega)⟩
  · rintro ys H1 ⟨_, sm, hy⟩ pl hpl
    have s2 := same_new hpl (.lst ys)
    have en : bs.take xs.length = bs := by rw [hz, List.take_length]
    rw [en] at hy
    have hl := Al2.len hy
    rw [List.length_map] at hl
    try with_reducible refine g_go ?_
    try with_reducible refine nil_go ?_
    try with_reducible first | refine hN4 _ _ ?_ | refine hN2 _ _ ?_
    try with_reducible refine seq_go fun N4 hN4 => ?_
    refine ⟨_, _, _, _, rfl, SqL.of upd_same, frs_same hy s2, ⟨by rw [hl]; exact h2, by omega⟩, fun r H2 s3 g => ?_⟩
    try with_reducible refine g_go ?_
    try with_reducible refine nil_go ?_
    try with_reducible first | refine hN4 _ _ ?_ | refine hN2 _ _ ?_
    try with_reducible refine seq_go fun N4 hN4 => ?_
    exact k r H2 (sm.trans (s2.trans s3)) g
noncomputable def sp_might (K : PySem.W.Frag) : Sp := fun vs H Q _ => ∃ (p : Addr) (xs : List V) (bs : List (Rat × Rat × Int)) (n : Nat), vs = [.ref p] ∧ SqL K H p xs ∧ Al2 (BdQ K H 2010) xs bs ∧ (∀ b ∈ bs, FB n b.2.1) ∧ (n ≤ 1400 ∧ bs.length ≤ 100 ∧ bs.length * (64 + n + n + 1) + 64 ≤ 8900) ∧ ∀ (r : Addr) (H1 : Hp), Same H H1 → FQ K H1 r (mightQ bs) → Q (.ref r) H1
theorem sc_might : FnScope ["bodies"] ["bodies"] (defScope (top 37)) := ⟨rfl, rfl, rfl, by decide +kernel, rfl, by decide +kernel, by decide +kernel⟩
theorem ok_might (D : Df K mg "might" (top 37) ["bodies"]) (T : Tx K mg) (F_push_of : Fn P w K mg base 3 "push_of" ["body"] (sp_push_of K)) (F_times : Fn P w K mg base 2 "times" ["one", "other"] (sp_times K)) (F_total : Fn P w K mg base 3 "total" ["numbers"] (sp_total K)) : Fn P w K mg base 4 "might" ["bodies"] (sp_might K) := by
  try with_reducible refine g_go ?_
  try with_reducible refine nil_go ?_
  try with_reducible refine hN2 _ _ ?_
  try with_reducible refine seq_go fun N2 hN2 => ?_
  refine D.ok0 sc_might (fun vs H Q E h => ?_) (fun f cdv A outer s H vs Q E hr h => ?_)
  · obtain ⟨p, xs, bs, n, rfl, _⟩ := h
    rfl
  obtain ⟨p, xs, bs, n, rfl, hp, hf, hv, ⟨hn, h1, h2⟩, k⟩ := h
  refine ⟨_, (pss_one (ps_ret (pe_fn F_total (by decide) hr (by rfl) passE0 (pa_cons (@pe_lc _ _ _ _ _ _ _ _ _ _ [] [] rfl (pi_list (pv 0)) rfl (by decide) rfl (by decide) rfl (by decide) cap_none (fun _ _ h => nomatch h) (no_free rfl) (fun C z Hc fp => (pe_fn F_times (by decide) hr (by rfl) passE0 (pa_cons (pe_fn F_push_of (by decide) hr (by rfl) passE0 (pa_cons (pv 0) pa_nil)) (pa_cons (pe_ix (ixT (K := K) rfl) (pv 0) pe_int (fun _ _ => rfl)) pa_nil)))) (fun _ => rfl)) pa_nil)))), ?_⟩
  try dsimp only [cxK, cxK0]
  have hz := Al2.len hf
  try with_reducible refine g_go ?_
  try with_reducible refine nil_go ?_
  try with_reducible refine hN2 _ _ ?_
  try with_reducible refine seq_go fun N2 hN2 => ?_
  refine ⟨_, rfl, p, rfl, ⟨_, hp⟩, lc_list (K := K) (xs := xs) (fun i ys H1 => i ≤ xs.length ∧ Same H H1 ∧ Al2 (FrQ K H1 (64 + n + n)) ys ((bs.take i).map fun b => (b.2.2 : Rat) * b.2.1 * b.2.1)) ⟨Nat.zero_le _, Same.refl H, trivial⟩ (by rw [hz]; exact Nat.le_trans h1 (by decide)) (fun i ys H1 ⟨l, _, e⟩ => by have := Al2.len e; simp at this; omega) (fun i ys H1 ⟨_, g, _⟩ => g.seq hp) ?_ ?_⟩
  · rintro i x ys H1 Q1 hx ⟨hl, sm, hy⟩ kq
    obtain ⟨b, hb, p2, a2, c2, rfl, e1, e2, e3, d1, d9, w1, w2⟩ := Al2.get hf hx
    have d2 := hv b (List.mem_of_getElem? hb)
    have hi : i < xs.length := (List.getElem?_eq_some_iff.mp hx).1
    try with_reducible refine g_go ?_
    try with_reducible refine nil_go ?_
    try with_reducible first | refine hN4 _ _ ?_ | refine hN2 _ _ ?_
    try with_reducible refine seq_go fun N4 hN4 => ?_
    refine ⟨_, rfl, _, _, _, _, _, _, rfl, Kw.Same.tup sm e1, Kw.Same.tup sm e2, Kw.Same.tup sm e3, d1, d9, w1, w2, fun r H2 s2 g => ?_⟩
    have dm : FB (64 + n) ((b.2.2 : Rat) * b.2.1) := FB.mul (FB.ofInt (Bd.small (i := b.2.2) (by omega) (by omega)) (by decide)) d2
    have s12 := sm.trans s2
    try with_reducible refine g_go ?_
    try with_reducible refine nil_go ?_
    try with_reducible first | refine hN4 _ _ ?_ | refine hN2 _ _ ?_
    try with_reducible refine seq_go fun N4 hN4 => ?_
    refine ⟨_, rfl, p2, _, _, _, rfl, rfl, Kw.Same.tup s12 e1, rfl, _, _, _, _, rfl, g, dm.mono (by omega), Kw.Same.tup s12 e3, d2.mono (by omega), fun r3 H3 s3 g3 => ?_⟩
    try with_reducible refine g_go ?_
    try with_reducible refine nil_go ?_
    try with_reducible first | refine hN4 _ _ ?_ | refine hN2 _ _ ?_
    try with_reducible refine seq_go fun N4 hN4 => ?_
    refine kq _ _ ⟨by omega, s12.trans s3, ?_⟩
    rw [take_snoc hb, List.map_append]
    try with_reducible refine g_go ?_
    try with_reducible refine nil_go ?_
    try with_reducible first | refine hN4 _ _ ?_ | refine hN2 _ _ ?_
    try with_reducible refine seq_go fun N4 hN4 => ?_
    exact Al2.snoc (frs_same hy (s2.trans s3)) ⟨r3, rfl, g3, (FB.mul dm d2).mono (by omega)⟩
  · rintro ys H1 ⟨_, sm, hy⟩ pl hpl
    have s2 := same_new hpl (.lst ys)
    have en : bs.take xs.length = bs := by rw [hz, List.take_length]
    rw [en] at hy
    have hl := Al2.len hy
    rw [List.length_map] at hl
    try with_reducible refine g_go ?_
    try with_reducible refine nil_go ?_
    try with_reducible first | refine hN4 _ _ ?_ | refine hN2 _ _ ?_
    try with_reducible refine seq_go fun N4 hN4 => ?_
    refine ⟨_, _, _, _, rfl, SqL.of upd_same, frs_same hy s2, ⟨by rw [hl]; exact h2, by omega⟩, fun r H2 s3 g => ?_⟩
    try with_reducible refine g_go ?_
    try with_reducible refine nil_go ?_
    try with_reducible first | refine hN4 _ _ ?_ | refine hN2 _ _ ?_
    try with_reducible refine seq_go fun N4 hN4 => ?_
    exact k r H2 (sm.trans (s2.trans s3)) g
noncomputable def sp_seen_from (K : PySem.W.Frag) : Sp := fun vs H Q _ => ∃ (p_i a_i b_i : Addr) (x_i v_i : Rat) (m_i : Int) (p_s : Addr) (s : Rat), vs = [.ref p_i, .ref p_s] ∧ SqT K H p_i [.ref a_i, .ref b_i, .int m_i] ∧ FQ K H a_i x_i ∧ FQ K H b_i v_i ∧ FB 900 x_i ∧ FB 900 v_i ∧ 1 ≤ m_i ∧ m_i ≤ 10000 ∧ FQ K H p_s s ∧ FB 900 s ∧ (∀ (p_r : Addr) (p_x : Addr) (p_v : Addr) (H1 : Hp), Same H H1 → SqT K H1 p_r [.ref p_x, .ref p_v, .int (m_i)] → FQ K H1 p_x (x_i) → FQ K H1 p_v (v_i - s) → Q (.ref p_r) H1)
theorem sc_seen_from : FnScope ["body", "speed"] ["body", "speed"] (defScope (top 38)) := ⟨rfl, rfl, rfl, by decide +kernel, rfl, by decide +kernel, by decide +kernel⟩
theorem ok_seen_from (D : Df K mg "seen_from" (top 38) ["body", "speed"]) (T : Tx K mg) (F_minus : Fn P w K mg base 3 "minus" ["one", "other"] (sp_minus K)) : Fn P w K mg base 4 "seen_from" ["body", "speed"] (sp_seen_from K) := by
  try with_reducible refine g_go ?_
  try with_reducible refine nil_go ?_
  try with_reducible refine hN2 _ _ ?_
  try with_reducible refine seq_go fun N2 hN2 => ?_
  refine D.ok0 sc_seen_from (fun vs H Q E h => ?_) (fun f cdv A outer s H vs Q E hr h => ?_)
  · obtain ⟨p_i, a_i, b_i, x_i, v_i, m_i, p_s, s, rfl, _⟩ := h
    rfl
  obtain ⟨p_i, a_i, b_i, x_i, v_i, m_i, p_s, s, rfl, h_i, gx_i, gv_i, dx_i, dv_i, lo_i, hi_i, g_s, d_s, k0⟩ := h
  refine ⟨_, (pss_one (ps_ret (pe_tup (pa_cons (pe_ix ix_tup (pv 0) pe_int (fun _ _ => rfl)) (pa_cons (pe_fn F_minus (by decide) hr (by rfl) passE0 (pa_cons (pe_ix ix_tup (pv 0) pe_int (fun _ _ => rfl)) (pa_cons (pv 1) pa_nil))) (pa_cons (pe_ix ix_tup (pv 0) pe_int (fun _ _ => rfl)) pa_nil)))))), ?_⟩
  try dsimp only [cxK, cxK0]
  try with_reducible refine g_go ?_
  try with_reducible refine nil_go ?_
  try with_reducible refine hN2 _ _ ?_
  try with_reducible refine seq_go fun N2 hN2 => ?_
  refine ⟨_, rfl, p_i, _, _, _, rfl, rfl, h_i, rfl, _, rfl, p_i, _, _, _, rfl, rfl, h_i, rfl, _, rfl, _, _, _, _, rfl, gv_i, (FB.mono dv_i (by decide)), g_s, (FB.mono d_s (by decide)), fun p_r20 H20 s20 g_r20 => ?_⟩
  have d_r20 : FB 1801 (v_i - s) := (FB.mono (FB.sub dv_i d_s) (by decide))
  replace h_i := (Kw.Same.tup s20 h_i)
  try with_reducible refine g_go ?_
  try with_reducible refine nil_go ?_
  try with_reducible refine hN2 _ _ ?_
  try with_reducible refine seq_go fun N2 hN2 => ?_
  refine ⟨_, rfl, p_i, _, _, _, rfl, rfl, h_i, rfl, by show 3 ≤ sizeLine; decide, ?_⟩
  intro p21 n21
  obtain ⟨H21, q21, s21, e21⟩ := newO n21 (.tup [.ref a_i, .ref p_r20, .int (m_i)])
  rw [q21]
  clear q21
  have h21 := SqT.of (K := K) e21
  replace gx_i := (Kw.Same.tup s21 (Kw.Same.tup s20 gx_i))
  replace g_r20 := (Kw.Same.tup s21 g_r20)
  try with_reducible refine g_go ?_
  try with_reducible refine nil_go ?_
  try with_reducible refine hN2 _ _ ?_
  try with_reducible refine seq_go fun N2 hN2 => ?_
  exact k0 _ _ _ _ (s20.trans s21) h21 gx_i g_r20
noncomputable def sp_turned_about (K : PySem.W.Frag) : Sp := fun vs H Q _ => ∃ (p_x : Addr) (x : Rat), vs = [.ref p_x] ∧ FQ K H p_x x ∧ FB 900 x ∧ (∀ (p_r : Addr) (H1 : Hp), Same H H1 → FQ K H1 p_r (-x) → Q (.ref p_r) H1)
theorem sc_turned_about : FnScope ["number"] ["number"] (defScope (top 39)) := ⟨rfl, rfl, rfl, by decide +kernel, rfl, by decide +kernel, by decide +kernel⟩
theorem ok_turned_about (D : Df K mg "turned_about" (top 39) ["number"]) (T : Tx K mg) (F_minus : Fn P w K mg base 3 "minus" ["one", "other"] (sp_minus K)) : Fn P w K mg base 4 "turned_about" ["number"] (sp_turned_about K) := by
  try with_reducible refine g_go ?_
  try with_reducible refine nil_go ?_
  try with_reducible refine hN2 _ _ ?_
  try with_reducible refine seq_go fun N2 hN2 => ?_
  refine D.ok0 sc_turned_about (fun vs H Q E h => ?_) (fun f cdv A outer s H vs Q E hr h => ?_)
  · obtain ⟨p_x, x, rfl, _⟩ := h
    rfl
  obtain ⟨p_x, x, rfl, g_x, d_x, k0⟩ := h
  refine ⟨_, (pss_one (ps_ret (pe_fn F_minus (by decide) hr (by rfl) passE0 (pa_cons (pe_globT (K := K) rfl (by rfl) T.k_NOUGHT) (pa_cons (pv 0) pa_nil))))), ?_⟩
  try dsimp only [cxK, cxK0]
  try with_reducible refine g_go ?_
  try with_reducible refine nil_go ?_
  try with_reducible refine hN2 _ _ ?_
  try with_reducible refine seq_go fun N2 hN2 => ?_
  refine fun N22 hN22 => ?_
  have g22 : FQ K H N22 (((0 : Int)) : Rat) := hN22 _
  try with_reducible refine g_go ?_
  try with_reducible refine nil_go ?_
  try with_reducible refine hN2 _ _ ?_
  try with_reducible refine seq_go fun N2 hN2 => ?_
  refine ⟨_, rfl, _, _, _, _, rfl, g22, (FB.mono (FB.ofInt (Bd.small (i := 0) (by decide) (by decide)) (by decide)) (by decide)), g_x, (FB.mono d_x (by decide)), fun p_r23 H23 s23 g_r23 => ?_⟩
  have d_r23 : FB 965 (((((0 : Int) : Rat))) - x) := (FB.mono (FB.sub (FB.ofInt (Bd.small (i := 0) (by decide) (by decide)) (by decide)) d_x) (by decide))
  have e24 : ((((((0 : Int) : Rat))) - x) : Rat) = -x := by grind
  try with_reducible refine g_go ?_
  try with_reducible refine nil_go ?_
  try with_reducible refine hN2 _ _ ?_
  try with_reducible refine seq_go fun N2 hN2 => ?_
  exact k0 _ _ s23 (FQ.cast g_r23 e24)
noncomputable def sp_mirrored (K : PySem.W.Frag) : Sp := fun vs H Q _ => ∃ (p : Addr) (xs : List V) (bs : List (Rat × Rat × Int)) (n : Nat), vs = [.ref p] ∧ SqL K H p xs ∧ Al2 (BdQ K H n) xs bs ∧ (n ≤ 900 ∧ bs.length ≤ 100) ∧ ∀ (r : Addr) (ys : List V) (H1 : Hp), Same H H1 → H r = none → H1 r = some (.lst ys) → Al2 (BdQ K H1 n) ys (mirQ bs) → Q (.ref r) H1
theorem sc_mirrored : FnScope ["world"] ["world"] (defScope (top 40)) := ⟨rfl, rfl, rfl, by decide +kernel, rfl, by decide +kernel, by decide +kernel⟩
theorem ok_mirrored (D : Df K mg "mirrored" (top 40) ["world"]) (T : Tx K mg) (F_turned_about : Fn P w K mg base 4 "turned_about" ["number"] (sp_turned_about K)) : Fn P w K mg base 5 "mirrored" ["world"] (sp_mirrored K) := by
  try with_reducible refine g_go ?_
  try with_reducible refine nil_go ?_
  try with_reducible refine hN2 _ _ ?_
  try with_reducible refine seq_go fun N2 hN2 => ?_
  refine D.ok0 sc_mirrored (fun vs H Q E h => ?_) (fun f cdv A outer s H vs Q E hr h => ?_)
  · obtain ⟨p, xs, bs, n, rfl, _⟩ := h
    rfl
  obtain ⟨p, xs, bs, n, rfl, hp, hf, ⟨hn, h1⟩, k⟩ := h
  refine ⟨_, (pss_one (ps_ret (@pe_lc _ _ _ _ _ _ _ _ _ _ [] [] rfl (pi_rev (by rfl) T.b_reversed (pa_cons (pv 0) pa_nil)) rfl (by decide) rfl (by decide) rfl (by decide) cap_none (fun _ _ h => nomatch h) (no_free rfl) (fun C z Hc fp => (pe_tup (pa_cons (pe_fn F_turned_about (by decide) hr (by rfl) passE0 (pa_cons (pe_ix (ixT (K := K) rfl) (pv 0) pe_int (fun _ _ => rfl)) pa_nil)) (pa_cons (pe_fn F_turned_about (by decide) hr (by rfl) passE0 (pa_cons (pe_ix (ixT (K := K) rfl) (pv 0) pe_int (fun _ _ => rfl)) pa_nil)) (pa_cons (pe_ix (ixT (K := K) rfl) (pv 0) pe_int (fun _ _ => rfl)) pa_nil))))) (fun _ => rfl)))), ?_⟩
  try dsimp only [cxK, cxK0]
  have hz := Al2.len hf
  try with_reducible refine g_go ?_
  try with_reducible refine nil_go ?_
  try with_reducible refine hN2 _ _ ?_
  try with_reducible refine seq_go fun N2 hN2 => ?_
  refine ⟨_, rfl, p, xs, rfl, hp, lc_rev (K := K) (a := p) (xs := xs) (fun i ys H1 => i ≤ xs.length ∧ Same H H1 ∧ Al2 (BdQ K H1 n) ys ((bs.reverse.take i).map mir1)) ⟨Nat.zero_le _, Same.refl H, trivial⟩ (by rw [hz]; exact Nat.le_trans h1 (by decide)) (fun i ys H1 ⟨l, _, e⟩ => by have := Al2.len e; simp at this; omega) (fun i ys H1 ⟨_, g, _⟩ => g.seq hp) ?_ ?_⟩
  · rintro i x ys H1 Q1 hx ⟨hl, sm, hy⟩ kq
    obtain ⟨b, hb, p2, a2, c2, rfl, e1, e2, e3, d1, d2, w1, w2⟩ := Al2.get (Al2.rev hf) hx
    have hi : i < xs.length := by have := (List.getElem?_eq_some_iff.mp hx).1; simpa using this
    try with_reducible refine g_go ?_
    try with_reducible refine nil_go ?_
    try with_reducible first | refine hN4 _ _ ?_ | refine hN2 _ _ ?_
    try with_reducible refine seq_go fun N4 hN4 => ?_
    refine ⟨_, rfl, p2, _, _, _, rfl, rfl, Kw.Same.tup sm e1, rfl, _, _, rfl, Kw.Same.tup sm e2, d1.mono hn, fun r2 H2 s2 g2 => ?_⟩
    have s12 := sm.trans s2
    try with_reducible refine g_go ?_
    try with_reducible refine nil_go ?_
    try with_reducible first | refine hN4 _ _ ?_ | refine hN2 _ _ ?_
    try with_reducible refine seq_go fun N4 hN4 => ?_
    refine ⟨_, rfl, p2, _, _, _, rfl, rfl, Kw.Same.tup s12 e1, rfl, _, _, rfl, Kw.Same.tup s12 e3, d2.mono hn, fun r3 H3 s3 g3 => ?_⟩
    have s13 := s12.trans s3
    try with_reducible refine g_go ?_
    try with_reducible refine nil_go ?_
    try with_reducible first | refine hN4 _ _ ?_ | refine hN2 _ _ ?_
    try with_reducible refine seq_go fun N4 hN4 => ?_
    refine ⟨_, rfl, p2, _, _, _, rfl, rfl, Kw.Same.tup s13 e1, rfl, by show 3 ≤ sizeLine; decide, fun p4 n4 => ?_⟩
    have s4 := same_new n4 (.tup [.ref r2, .ref r3, .int b.2.2])
    try with_reducible refine g_go ?_
    try with_reducible refine nil_go ?_
    try with_reducible first | refine hN4 _ _ ?_ | refine hN2 _ _ ?_
    try with_reducible refine seq_go fun N4 hN4 => ?_
    refine kq _ _ ⟨by omega, s13.trans s4, ?_⟩
    rw [take_snoc hb, List.map_append]
    try with_reducible refine g_go ?_
    try with_reducible refine nil_go ?_
    try with_reducible first | refine hN4 _ _ ?_ | refine hN2 _ _ ?_
    try with_reducible refine seq_go fun N4 hN4 => ?_
    exact Al2.snoc (bds_same hy (s2.trans (s3.trans s4))) ⟨p4, r2, r3, rfl, SqT.of upd_same, Kw.Same.tup (s3.trans s4) g2, Kw.Same.tup s4 g3, FB.neg d1, FB.neg d2, w1, w2⟩
  · rintro ys H1 ⟨_, sm, hy⟩ pl hpl
    have s2 := same_new hpl (.lst ys)
    have en : bs.reverse.take xs.length = bs.reverse := by rw [hz, ← List.length_reverse, List.take_length]
    rw [en] at hy
    have hn0 : H pl = none := by
      cases e : H pl with
      | none => rfl
      | some o => have := sm _ _ e; rw [hpl] at this; cases this
    try with_reducible refine g_go ?_
    try with_reducible refine nil_go ?_
    try with_reducible first | refine hN4 _ _ ?_ | refine hN2 _ _ ?_
    try with_reducible refine seq_go fun N4 hN4 => ?_
    exact k pl ys _ (sm.trans s2) hn0 upd_same (bds_same hy s2)
theorem sc_law_cell : FnScope ["_law_script", "_law_k"] ["_law_script", "_law_k"] (defScope (top 42)) := ⟨rfl, rfl, rfl, by decide +kernel, rfl, by decide +kernel, by decide +kernel⟩
theorem ok_law_cell (D : Df K mg "_law_cell" (top 42) ["_law_script", "_law_k"]) (T : Tx K mg) : Fn P w K mg base 1 "_law_cell" ["_law_script", "_law_k"] (spCell K) := by
  try with_reducible refine g_go ?_
  try with_reducible refine nil_go ?_
  try with_reducible refine hN2 _ _ ?_
  try with_reducible refine seq_go fun N2 hN2 => ?_
  refine D.ok0 sc_law_cell (fun vs H Q E h => ?_) (fun f cdv A outer s H vs Q E hr h => ?_)
  · obtain ⟨a, k, rfl, _⟩ := h
    rfl
  obtain ⟨a, k, rfl, ⟨ns, hS, h63, hbd⟩, k0, k1, q⟩ := h
  refine ⟨_, (pss_cons (ps_if (pt_cmpR op_lt (pv 1) (pe_callB call_len (by rfl) T.b_len PyProof.Rows.Boot.«len» (pa_cons (pv 0) pa_nil)) (nomark _)) (pss_one (ps_ret (pe_ix ix_list (pv 0) (pv 1) (fun _ _ => rfl)))) pss_nil)
      (pss_one (ps_ret (pe_op op_add (pe_op op_mulB pe_int (pv 1)) pe_int)))), ?_⟩
  try dsimp only [cxK, cxK0]
  try with_reducible refine g_go ?_
  try with_reducible refine nil_go ?_
  try with_reducible refine hN2 _ _ ?_
  try with_reducible refine seq_go fun N2 hN2 => ?_
  refine ⟨_, rfl, _, rfl, _, _, rfl, .inl ⟨_, hS, rfl⟩, _, _, rfl, rfl, _, rfl, ?_⟩
  try with_reducible refine g_go ?_
  try with_reducible refine nil_go ?_
  try with_reducible refine hN2 _ _ ?_
  try with_reducible refine seq_go fun N2 hN2 => ?_
  refine if_dec (fun c => ?_) (fun c => ?_)
  · rw [List.length_map] at c
    have hk : k.toNat < ns.length := by omega
    have ek : k = ((k.toNat : Nat) : Int) := by omega
    have z : atI (ns.map V.int) ((k.toNat : Nat) : Int) = some (.int ns[k.toNat]) := atI_nat (by rw [List.getElem?_map, List.getElem?_eq_getElem hk] <;> rfl)
    rw [← ek] at z
    try with_reducible refine g_go ?_
    try with_reducible refine nil_go ?_
    try with_reducible first | refine hN4 _ _ ?_ | refine hN2 _ _ ?_
    try with_reducible refine seq_go fun N4 hN4 => ?_
    exact ⟨_, rfl, _, rfl, a, _, _, _, rfl, rfl, hS, z, q _ (hbd _ (List.getElem_mem hk))⟩
  · try with_reducible refine g_go ?_
    try with_reducible refine nil_go ?_
    try with_reducible first | refine hN4 _ _ ?_ | refine hN2 _ _ ?_
    try with_reducible refine seq_go fun N4 hN4 => ?_
    refine ⟨_, rfl, _, _, rfl, rfl, mulOk_smallL (by decide) (by decide), _, _, rfl, rfl, q _ ?_⟩
    try with_reducible refine g_go ?_
    try with_reducible refine nil_go ?_
    try with_reducible first | refine hN4 _ _ ?_ | refine hN2 _ _ ?_
    try with_reducible refine seq_go fun N4 hN4 => ?_
    exact (Bd.small (by omega) (by omega)).mono (by decide)
theorem sc_law_mix : FnScope ["_law_cell_here", "_law_k", "_law_number"] ["_law_cell_here", "_law_k"] (defScope (top 43)) := ⟨rfl, rfl, rfl, by decide +kernel, rfl, by decide +kernel, by decide +kernel⟩
theorem ok_law_mix (D : Df K mg "_law_mix" (top 43) ["_law_cell_here", "_law_k"]) (T : Tx K mg) : Fn P w K mg base 1 "_law_mix" ["_law_cell_here", "_law_k"] spMix := by
  try with_reducible refine g_go ?_
  try with_reducible refine nil_go ?_
  try with_reducible refine hN2 _ _ ?_
  try with_reducible refine seq_go fun N2 hN2 => ?_
  refine D.ok0 sc_law_mix (fun vs H Q E h => ?_) (fun f cdv A outer s H vs Q E hr h => ?_)
  · obtain ⟨c, k, rfl, _⟩ := h
    rfl
  obtain ⟨c, k, rfl, hc, k0, k1, q⟩ := h
  refine ⟨_, (pss_cons (ps_set (i := 2) sc_law_mix.nd rfl (Or.inl rfl) (pe_op op_add (pe_op op_mulB (pe_op op_add (pv 0) pe_int) pe_int) (pe_op op_mulB pe_int (pv 1))))
      (pss_cons (ps_set (i := 2) sc_law_mix.nd rfl (Or.inl rfl) (pe_op op_add (pe_op op_mod (pe_op op_mulB (pv 2) (pv 2)) pe_int) (pv 1)))
      (pss_one (ps_ret (pe_op op_mod (pe_op op_mulB (pv 2) (pe_op op_add (pv 2) pe_int)) pe_int))))), ?_⟩
  try dsimp only [cxK, cxK0]
  have s1 : ∀ i : Int, -(2 ^ 64) < i → i < 2 ^ 64 → Bd 1048576 i := fun i h1 h2 => (Bd.small h1 h2).mono (by decide)
  have b1 : Bd 1048641 ((c + 1) * 40692) := ((hc.add (s1 1 (by decide) (by decide))).mul (Bd.small (i := 40692) (by decide) (by decide))).mono (by decide)
  have b2 : Bd 1048642 ((c + 1) * 40692 + 104729 * k) := (b1.add ((Bd.small (by omega) (by omega)).mono (by decide))).mono (by decide)
  try with_reducible refine g_go ?_
  try with_reducible refine nil_go ?_
  try with_reducible refine hN2 _ _ ?_
  try with_reducible refine seq_go fun N2 hN2 => ?_
  refine ⟨_, rfl, _, _, rfl, rfl, _, _, rfl, rfl, mulOk_small (by decide) (by decide), _, rfl, _, _, rfl, rfl, mulOk_smallL (by decide) (by decide), _, _, rfl, rfl, ?_⟩
  try with_reducible refine g_go ?_
  try with_reducible refine nil_go ?_
  try with_reducible refine hN2 _ _ ?_
  try with_reducible refine seq_go fun N2 hN2 => ?_
  refine ⟨_, rfl, _, rfl, _, _, rfl, rfl, b2.ok b2 (by decide), _, _, rfl, rfl, (by show (0 : Int) < 2147483399; decide), _, rfl, _, _, rfl, rfl, ?_⟩
  have e0 := Int.emod_nonneg (((c + 1) * 40692 + 104729 * k) * ((c + 1) * 40692 + 104729 * k)) (show (2147483399 : Int) ≠ 0 by decide)
  have e1 := Int.emod_lt_of_pos (((c + 1) * 40692 + 104729 * k) * ((c + 1) * 40692 + 104729 * k)) (show (0 : Int) < 2147483399 by decide)
  try with_reducible refine g_go ?_
  try with_reducible refine nil_go ?_
  try with_reducible refine hN2 _ _ ?_
  try with_reducible refine seq_go fun N2 hN2 => ?_
  exact ⟨_, rfl, _, rfl, _, _, rfl, rfl, _, _, rfl, rfl, mulOk_smallL (by omega) (by omega), _, _, rfl, rfl, (by show (0 : Int) < 2147483563; decide), q _⟩
theorem sc_law_box : FnScope ["_law_script", "_law_k", "_law_here", "_law_number", "_law_j"] ["_law_script", "_law_k"] (defScope (top 44)) := ⟨rfl, rfl, rfl, by decide +kernel, rfl, by decide +kernel, by decide +kernel⟩
theorem ok_law_box (D : Df K mg "_law_box" (top 44) ["_law_script", "_law_k"]) (T : Tx K mg) (F_law_cell : Fn P w K mg base 1 "_law_cell" ["_law_script", "_law_k"] (spCell K)) (F_law_mix : Fn P w K mg base 1 "_law_mix" ["_law_cell_here", "_law_k"] spMix) :
    Fn P w K mg base 2 "_law_box" ["_law_script", "_law_k"] (spBox K) := by
  try with_reducible refine g_go ?_
  try with_reducible refine nil_go ?_
  try with_reducible refine hN2 _ _ ?_
  try with_reducible refine seq_go fun N2 hN2 => ?_
  refine D.ok0 sc_law_box (fun vs H Q E h => ?_) (fun f cdv A outer s H vs Q E hr h => ?_)
  · obtain ⟨a, k, rfl, _⟩ := h
    rfl
  obtain ⟨a, k, rfl, hS, k0, k1, q⟩ := h
  refine ⟨_, (pss_cons (ps_set (i := 2) sc_law_box.nd rfl (Or.inl rfl) (pe_fn F_law_cell (by decide) hr (by rfl) passE0 (pa_cons (pv 0) (pa_cons (pv 1) pa_nil))))
      (pss_cons (ps_if (pt_cmpR op_eq (pe_op op_mod (pv 2) pe_int) pe_int (nomark _)) (pss_one (ps_ret (pe_lst (pa_cons (pe_op op_fdivB (pv 2) pe_int) pa_nil)))) pss_nil)
      (pss_cons (ps_set (i := 3) sc_law_box.nd rfl (Or.inl rfl) pe_int)
      (pss_cons (ps_for PassesOwn.never rfl (pi_range1 (by rfl) T.b_range (pa_cons pe_int pa_nil)) (pg_name (i := 4) sc_law_box.nd rfl (Or.inl rfl)) (pss_one (ps_set (i := 3) sc_law_box.nd rfl (Or.inl rfl) (pe_op op_add (pe_op op_mulB (pv 3) pe_int) (pe_fn F_law_mix (by decide) hr (by rfl) passE0 (pa_cons (pv 2) (pa_cons (pv 4) pa_nil)))))))
      (pss_one (ps_ret (pe_lst (pa_cons (pv 3) pa_nil)))))))), ?_⟩
  try dsimp only [cxK, cxK0]
  try with_reducible refine g_go ?_
  try with_reducible refine nil_go ?_
  try with_reducible refine hN2 _ _ ?_
  try with_reducible refine seq_go fun N2 hN2 => ?_
  refine ⟨_, rfl, _, rfl, a, k, rfl, hS, k0, k1, fun c hc => ?_⟩
  try with_reducible refine g_go ?_
  try with_reducible refine nil_go ?_
  try with_reducible refine hN2 _ _ ?_
  try with_reducible refine seq_go fun N2 hN2 => ?_
  refine ⟨_, rfl, _, _, rfl, rfl, (by show (0 : Int) < 2; decide), rfl, _, rfl, ?_⟩
  try with_reducible refine g_go ?_
  try with_reducible refine nil_go ?_
  try with_reducible refine hN2 _ _ ?_
  try with_reducible refine seq_go fun N2 hN2 => ?_
  refine if_decI (fun z => ?_) (fun z => ?_)
  · try with_reducible refine g_go ?_
    try with_reducible refine nil_go ?_
    try with_reducible first | refine hN4 _ _ ?_ | refine hN2 _ _ ?_
    try with_reducible refine seq_go fun N4 hN4 => ?_
    refine ⟨_, rfl, _, _, rfl, rfl, ⟨by decide, by decide +kernel⟩, (by show 1 ≤ sizeLine; decide), fun p hp => ?_⟩
    try with_reducible refine g_go ?_
    try with_reducible refine nil_go ?_
    try with_reducible first | refine hN4 _ _ ?_ | refine hN2 _ _ ?_
    try with_reducible refine seq_go fun N4 hN4 => ?_
    exact q p _ _ hp (same_new hp _) upd_same
  try with_reducible refine g_go ?_
  try with_reducible refine nil_go ?_
  try with_reducible refine hN2 _ _ ?_
  refine ⟨_, rfl, by decide, by decide, for_range (n := 16) (fun i σ' H' => ∃ (n : Int) (r : Option V), σ' = [some (.ref a), some (.int k), some (.int c), some (.int n), r] ∧ H' = H) ⟨_, _, rfl, rfl⟩ ?_ ?_⟩
  · rintro i σ' H' hi ⟨n, r, rfl, rfl⟩
    try with_reducible refine g_go ?_
    try with_reducible refine nil_go ?_
    try with_reducible first | refine hN4 _ _ ?_ | refine hN2 _ _ ?_
    try with_reducible refine seq_go fun N4 hN4 => ?_
    refine ⟨_, rfl, _, _, rfl, rfl, mulOk_small (by decide) (by decide), _, rfl, _, rfl, c, _, rfl, hc, by omega, by omega, fun m => ?_⟩
    try with_reducible refine g_go ?_
    try with_reducible refine nil_go ?_
    try with_reducible first | refine hN4 _ _ ?_ | refine hN2 _ _ ?_
    try with_reducible refine seq_go fun N4 hN4 => ?_
    exact ⟨_, _, rfl, rfl, _, _, rfl, rfl⟩
  · rintro σ' H' ⟨n, r, rfl, rfl⟩
    try with_reducible refine g_go ?_
    try with_reducible refine nil_go ?_
    try with_reducible first | refine hN4 _ _ ?_ | refine hN2 _ _ ?_
    try with_reducible refine seq_go fun N4 hN4 => ?_
    refine ⟨_, rfl, (by show 1 ≤ sizeLine; decide), fun p hp => ?_⟩
    try with_reducible refine g_go ?_
    try with_reducible refine nil_go ?_
    try with_reducible first | refine hN4 _ _ ?_ | refine hN2 _ _ ?_
    try with_reducible refine seq_go fun N4 hN4 => ?_
    exact q p _ _ hp (same_new hp _) upd_same
theorem sc_law_take : FnScope ["_law_box_here", "_law_many", "_law_left", "_law_digit"] ["_law_box_here", "_law_many"] (defScope (top 45)) := ⟨rfl, rfl, rfl, by decide +kernel, rfl, by decide +kernel, by decide +kernel⟩
theorem ok_law_take (D : Df K mg "_law_take" (top 45) ["_law_box_here", "_law_many"]) (T : Tx K mg) : Fn P w K mg base 1 "_law_take" ["_law_box_here", "_law_many"] spTake := by
  try with_reducible refine g_go ?_
  try with_reducible refine nil_go ?_
  try with_reducible refine hN2 _ _ ?_
  try with_reducible refine seq_go fun N2 hN2 => ?_
  refine D.ok0 sc_law_take (fun vs H Q E h => ?_) (fun f cdv A outer s H vs Q E hr h => ?_)
  · obtain ⟨b, m, n, rfl, _⟩ := h
    rfl
  obtain ⟨b, m, n, rfl, hb, m0, hm, q⟩ := h
  refine ⟨_, (pss_cons (ps_asg (pe_callB call_divmodB (by rfl) T.b_divmod PyProof.Rows.Boot.«divmod» (pa_cons (pe_ix ix_list (pv 0) pe_int (fun _ _ => rfl)) (pa_cons (pv 1) pa_nil))) (pg_tup rfl (pgs_cons (pg_name (i := 2) sc_law_take.nd rfl (Or.inl rfl)) (pgs_cons (pg_name (i := 3) sc_law_take.nd rfl (Or.inl rfl)) pgs_nil))))
      (pss_cons (ps_asg (pv 2) (pg_sub (pv 0) pe_int set_list))
      (pss_one (ps_ret (pv 3))))), ?_⟩
  try dsimp only [cxK, cxK0]
  try with_reducible refine g_go ?_
  try with_reducible refine nil_go ?_
  try with_reducible refine hN2 _ _ ?_
  try with_reducible refine seq_go fun N2 hN2 => ?_
  refine ⟨_, rfl, b, _, _, _, rfl, rfl, SqL.of hb, rfl, _, rfl, n, m, rfl, ⟨m0, hm.log⟩, ?_⟩
  intro p hp0
  have sm := same_new hp0 (.tup [.int (n / m), .int (n % m)])
  have hp : upd H p (.tup [.int (n / m), .int (n % m)]) p = some (.tup [.int (n / m), .int (n % m)]) := upd_same
  try with_reducible refine g_go ?_
  try with_reducible refine nil_go ?_
  try with_reducible refine hN2 _ _ ?_
  try with_reducible refine seq_go fun N2 hN2 => ?_
  refine ⟨p, _, rfl, SqT.of hp, rfl, _, _, rfl, _, _, rfl, rfl, ?_⟩
  try with_reducible refine g_go ?_
  try with_reducible refine nil_go ?_
  try with_reducible refine hN2 _ _ ?_
  refine ⟨_, rfl, _, rfl, b, _, _, 0, rfl, rfl, sm _ _ hb, rfl, _, rfl, ?_⟩
  have d0 := Int.emod_nonneg n (show m ≠ 0 by omega)
  have d1 := Int.emod_lt_of_pos n m0
  try with_reducible refine g_go ?_
  try with_reducible refine nil_go ?_
  try with_reducible refine hN2 _ _ ?_
  try with_reducible refine seq_go fun N2 hN2 => ?_
  exact q (n % m) (n / m) _ d0 d1 ((But.of sm).trans (but_upd _)) upd_same
theorem sc_law_fit : FnScope ["_law_top", "_law_bottom", "_law_one", "_law_other"] ["_law_top", "_law_bottom"] (defScope (top 46)) := ⟨rfl, rfl, rfl, by decide +kernel, rfl, by decide +kernel, by decide +kernel⟩
theorem ok_law_fit0 (D : Df K mg "_law_fit" (top 46) ["_law_top", "_law_bottom"]) (T : Tx K mg) : Fn P w K mg base 1 "_law_fit" ["_law_top", "_law_bottom"] spFit := by
  try with_reducible refine g_go ?_
  try with_reducible refine nil_go ?_
  try with_reducible refine hN2 _ _ ?_
  try with_reducible refine seq_go fun N2 hN2 => ?_
  refine D.ok0 sc_law_fit (fun vs H Q E h => ?_) (fun f cdv A outer s H vs Q E hr h => ?_)
  · obtain ⟨a, b, rfl, _⟩ := h
    rfl
  obtain ⟨a, b, rfl, c, hb, hq⟩ := h
  refine ⟨_, (pss_cons (ps_par (i := 2) (j := 3) rfl sc_law_fit.nd rfl rfl (by decide) rfl rfl (pa_cons (pe_callB call_abs (by rfl) T.b_abs PyProof.Rows.Boot.«abs» (pa_cons (pv 0) pa_nil)) (pa_cons (pe_callB call_abs (by rfl) T.b_abs PyProof.Rows.Boot.«abs» (pa_cons (pv 1) pa_nil)) pa_nil)) rfl)
      (pss_cons (ps_while PassesOwn.never (pt_cmpR op_gt (pv 3) pe_int (nomark _)) (pss_one (ps_par (i := 2) (j := 3) rfl sc_law_fit.nd rfl rfl (by decide) rfl rfl (pa_cons (pv 3) (pa_cons (pe_op op_mod (pv 2) (pv 3)) pa_nil)) rfl)))
      (pss_cons (ps_if (pt_cmpR op_lt (pv 1) pe_int (nomark _)) (pss_one (ps_set (i := 2) sc_law_fit.nd rfl (Or.inl rfl) (pe_op op_sub pe_int (pv 2)))) pss_nil)
      (pss_one (ps_ret (pe_tup (pa_cons (pe_op op_fdivB (pv 0) (pv 2)) (pa_cons (pe_op op_fdivB (pv 1) (pv 2)) pa_nil)))))))), ?_⟩
  try dsimp only [cxK, cxK0]
  try with_reducible refine g_go ?_
  try with_reducible refine nil_go ?_
  try with_reducible refine hN2 _ _ ?_
  try with_reducible refine seq_go fun N2 hN2 => ?_
  refine ⟨_, rfl, _, rfl, _, rfl, _, rfl, _, _, rfl, ?_⟩
  try with_reducible refine g_go ?_
  try with_reducible refine nil_go ?_
  try with_reducible refine hN2 _ _ ?_
  try with_reducible refine seq_go fun N2 hN2 => ?_
  refine ⟨fun m σ' H' => ∃ g s : Int, σ' = [some (.int a), some (.int b), some (.int g), some (.int s)] ∧ H' = H ∧ 0 ≤ g ∧ 0 ≤ s ∧ m = s.toNat ∧ Int.gcd g s = Int.gcd a b, ⟨_, _, _, rfl, rfl, abs_nn a, abs_nn b, rfl, gcd_abs a b⟩, ?_⟩
  rintro m σ' H' ⟨g, s, rfl, rfl, hg, hs, rfl, e⟩
  try with_reducible refine g_go ?_
  try with_reducible refine nil_go ?_
  try with_reducible refine hN2 _ _ ?_
  try with_reducible refine seq_go fun N2 hN2 => ?_
  refine ⟨_, rfl, _, _, rfl, rfl, _, rfl, ?_⟩
  try with_reducible refine g_go ?_
  try with_reducible refine nil_go ?_
  try with_reducible refine hN2 _ _ ?_
  try with_reducible refine seq_go fun N2 hN2 => ?_
  refine if_dec (fun c => ?_) (fun z => ?_)
  · try with_reducible refine g_go ?_
    try with_reducible refine nil_go ?_
    try with_reducible first | refine hN4 _ _ ?_ | refine hN2 _ _ ?_
    try with_reducible refine seq_go fun N4 hN4 => ?_
    refine ⟨_, fun _ _ n => n, ?_⟩
    try with_reducible refine g_go ?_
    try with_reducible refine nil_go ?_
    try with_reducible first | refine hN4 _ _ ?_ | refine hN2 _ _ ?_
    try with_reducible refine seq_go fun N4 hN4 => ?_
    refine ⟨_, rfl, _, rfl, _, rfl, _, _, rfl, rfl, c, _, _, rfl, ?_⟩
    have l := Int.emod_lt_of_pos g c
    have l0 := Int.emod_nonneg g (show s ≠ 0 by omega)
    try with_reducible refine g_go ?_
    try with_reducible refine nil_go ?_
    try with_reducible first | refine hN4 _ _ ?_ | refine hN2 _ _ ?_
    try with_reducible refine seq_go fun N4 hN4 => ?_
    exact ⟨_, by omega, s, g % s, rfl, rfl, by omega, l0, rfl, (gcd_step g s hg c).trans e⟩
  · have s0 : s = 0 := by omega
    subst s0
    have z := gcd_end g hg
    rw [e] at z
    subst z
    have hd : (if b < 0 then -((Int.gcd a b : Nat) : Int) else ((Int.gcd a b : Nat) : Int)) = dv a b := rfl
    have lg := (bd_dv (t := a) c hb).log
    try with_reducible refine g_go ?_
    try with_reducible refine nil_go ?_
    try with_reducible first | refine hN4 _ _ ?_ | refine hN2 _ _ ?_
    try with_reducible refine seq_go fun N4 hN4 => ?_
    refine ⟨_, rfl, _, _, rfl, rfl, _, rfl, ?_⟩
    try with_reducible refine g_go ?_
    try with_reducible refine nil_go ?_
    try with_reducible first | refine hN4 _ _ ?_ | refine hN2 _ _ ?_
    try with_reducible refine seq_go fun N4 hN4 => ?_
    refine if_dec (fun n => ?_) (fun n => ?_)
    · rw [if_pos n] at hd
      try with_reducible refine g_go ?_
      try with_reducible refine nil_go ?_
      try with_reducible first | refine hN6 _ _ ?_ | refine hN4 _ _ ?_ | refine hN2 _ _ ?_
      try with_reducible refine seq_go fun N6 hN6 => ?_
      refine ⟨_, rfl, _, _, rfl, rfl, ?_⟩
      dsimp only
      rw [show (0 : Int) - ((Int.gcd a b : Nat) : Int) = dv a b by rw [← hd]; omega]
      try with_reducible refine g_go ?_
      try with_reducible refine nil_go ?_
      try with_reducible first | refine hN6 _ _ ?_ | refine hN4 _ _ ?_ | refine hN2 _ _ ?_
      try with_reducible refine seq_go fun N6 hN6 => ?_
      refine ⟨_, rfl, _, rfl, _, _, rfl, rfl, ⟨dv_ne c, lg⟩, _, rfl, _, rfl, _, _, rfl, rfl, ⟨dv_ne c, lg⟩, by show 2 ≤ sizeLine; decide, ?_⟩
      try with_reducible refine g_go ?_
      try with_reducible refine nil_go ?_
      try with_reducible first | refine hN6 _ _ ?_ | refine hN4 _ _ ?_ | refine hN2 _ _ ?_
      try with_reducible refine seq_go fun N6 hN6 => ?_
      exact rd_new fun p H' sm hp => hq p H' sm hp
    · rw [if_neg n] at hd
      rw [hd]
      try with_reducible refine g_go ?_
      try with_reducible refine nil_go ?_
      try with_reducible first | refine hN6 _ _ ?_ | refine hN4 _ _ ?_ | refine hN2 _ _ ?_
      try with_reducible refine seq_go fun N6 hN6 => ?_
      refine ⟨_, rfl, _, rfl, _, _, rfl, rfl, ⟨dv_ne c, lg⟩, _, rfl, _, rfl, _, _, rfl, rfl, ⟨dv_ne c, lg⟩, by show 2 ≤ sizeLine; decide, ?_⟩
      try with_reducible refine g_go ?_
      try with_reducible refine nil_go ?_
      try with_reducible first | refine hN6 _ _ ?_ | refine hN4 _ _ ?_ | refine hN2 _ _ ?_
      try with_reducible refine seq_go fun N6 hN6 => ?_
      exact rd_new fun p H' sm hp => hq p H' sm hp
noncomputable def sp_law_fit (K : PySem.W.Frag) : Sp := fun vs H Q _ => ∃ (a : Int) (b : Int), vs = [.int a, .int b] ∧ Bd 9000 b ∧ b ≠ 0 ∧ (∀ (p_r : Addr) (H1 : Hp), Same H H1 → FQ K H1 p_r (Rat.divInt a b) → Q (.ref p_r) H1)
theorem ok_law_fit (D : Df K mg "_law_fit" (top 46) ["_law_top", "_law_bottom"]) (T : Tx K mg) : Fn P w K mg base 1 "_law_fit" ["_law_top", "_law_bottom"] (sp_law_fit K) :=
  (ok_law_fit0 D T).imp fun vs H Q E h => by
    obtain ⟨a, b, rfl, hb, b0, k⟩ := h
    try with_reducible refine g_go ?_
    try with_reducible refine nil_go ?_
    try with_reducible first | refine hN4 _ _ ?_ | refine hN2 _ _ ?_
    try with_reducible refine seq_go fun N4 hN4 => ?_
    exact ⟨a, b, rfl, b0, hb, fun p H' s e => k p H' s (FQ.fit b0 (SqT.of e))⟩
noncomputable def sp_law_plus (K : PySem.W.Frag) : Sp := fun vs H Q _ => ∃ (p_x : Addr) (x : Rat) (n_x : Nat) (p_y : Addr) (y : Rat) (n_y : Nat), vs = [.ref p_x, .ref p_y] ∧ FQ K H p_x x ∧ FB n_x x ∧ FQ K H p_y y ∧ FB n_y y ∧ n_x + n_y ≤ 8950 ∧ (∀ (p_r : Addr) (H1 : Hp), Same H H1 → FQ K H1 p_r (x + y) → Q (.ref p_r) H1)
theorem sc_law_plus : FnScope ["_law_one", "_law_other"] ["_law_one", "_law_other"] (defScope (top 47)) := ⟨rfl, rfl, rfl, by decide +kernel, rfl, by decide +kernel, by decide +kernel⟩
theorem ok_law_plus (D : Df K mg "_law_plus" (top 47) ["_law_one", "_law_other"]) (T : Tx K mg) (F_law_fit : Fn P w K mg base 1 "_law_fit" ["_law_top", "_law_bottom"] (sp_law_fit K)) : Fn P w K mg base 2 "_law_plus" ["_law_one", "_law_other"] (sp_law_plus K) := by
  try with_reducible refine g_go ?_
  try with_reducible refine nil_go ?_
  try with_reducible refine hN2 _ _ ?_
  try with_reducible refine seq_go fun N2 hN2 => ?_
  refine D.ok0 sc_law_plus (fun vs H Q E h => ?_) (fun f cdv A outer s H vs Q E hr h => ?_)
  · obtain ⟨p, x, n, q, y, m, rfl, _⟩ := h
    rfl
  obtain ⟨p, x, n, q, y, m, rfl, hp, dx, hq, dy, hn, k⟩ := h
  refine ⟨_, (pss_one (ps_ret (pe_fn F_law_fit (by decide) hr (by rfl) passE0 (pa_cons (pe_op op_add (pe_op op_mulB (pe_ix ix_tup (pv 0) pe_int (fun _ _ => rfl)) (pe_ix ix_tup (pv 1) pe_int (fun _ _ => rfl))) (pe_op op_mulB (pe_ix ix_tup (pv 1) pe_int (fun _ _ => rfl)) (pe_ix ix_tup (pv 0) pe_int (fun _ _ => rfl)))) (pa_cons (pe_op op_mulB (pe_ix ix_tup (pv 0) pe_int (fun _ _ => rfl)) (pe_ix ix_tup (pv 1) pe_int (fun _ _ => rfl))) pa_nil))))), ?_⟩
  try dsimp only [cxK, cxK0]
  try with_reducible refine g_go ?_
  try with_reducible refine nil_go ?_
  try with_reducible refine hN2 _ _ ?_
  try with_reducible refine seq_go fun N2 hN2 => ?_
  refine ⟨_, rfl, p, _, _, _, rfl, rfl, hp, rfl, _, rfl, q, _, _, _, rfl, rfl, hq, rfl, _, _, rfl, rfl, dx.1.ok dy.2 (by omega), _, rfl, q, _, _, _, rfl, rfl, hq, rfl, _, rfl, p, _, _, _, rfl, rfl, hp, rfl, _, _, rfl, rfl, dy.1.ok dx.2 (by omega), _, _, rfl, rfl, _, rfl, p, _, _, _, rfl, rfl, hp, rfl, _, rfl, q, _, _, _, rfl, rfl, hq, rfl, _, _, rfl, rfl, dx.2.ok dy.2 (by omega), _, _, rfl, (dx.2.mul dy.2).mono (by omega), Int.mul_ne_zero (q_ne _) (q_ne _), fun r H1 s1 g1 => k r H1 s1 (FQ.cast g1 (q_add x y))⟩
noncomputable def sp_law_minus (K : PySem.W.Frag) : Sp := fun vs H Q _ => ∃ (p_x : Addr) (x : Rat) (n_x : Nat) (p_y : Addr) (y : Rat) (n_y : Nat), vs = [.ref p_x, .ref p_y] ∧ FQ K H p_x x ∧ FB n_x x ∧ FQ K H p_y y ∧ FB n_y y ∧ n_x + n_y ≤ 8950 ∧ (∀ (p_r : Addr) (H1 : Hp), Same H H1 → FQ K H1 p_r (x - y) → Q (.ref p_r) H1)
theorem sc_law_minus : FnScope ["_law_one", "_law_other"] ["_law_one", "_law_other"] (defScope (top 48)) := ⟨rfl, rfl, rfl, by decide +kernel, rfl, by decide +kernel, by decide +kernel⟩
theorem ok_law_minus (D : Df K mg "_law_minus" (top 48) ["_law_one", "_law_other"]) (T : Tx K mg) (F_law_fit : Fn P w K mg base 1 "_law_fit" ["_law_top", "_law_bottom"] (sp_law_fit K)) : Fn P w K mg base 2 "_law_minus" ["_law_one", "_law_other"] (sp_law_minus K) := by
  try with_reducible refine g_go ?_
  try with_reducible refine nil_go ?_
  try with_reducible refine hN2 _ _ ?_
  try with_reducible refine seq_go fun N2 hN2 => ?_
  refine D.ok0 sc_law_minus (fun vs H Q E h => ?_) (fun f cdv A outer s H vs Q E hr h => ?_)
  · obtain ⟨p, x, n, q, y, m, rfl, _⟩ := h
    rfl
  obtain ⟨p, x, n, q, y, m, rfl, hp, dx, hq, dy, hn, k⟩ := h
  refine ⟨_, (pss_one (ps_ret (pe_fn F_law_fit (by decide) hr (by rfl) passE0 (pa_cons (pe_op op_sub (pe_op op_mulB (pe_ix ix_tup (pv 0) pe_int (fun _ _ => rfl)) (pe_ix ix_tup (pv 1) pe_int (fun _ _ => rfl))) (pe_op op_mulB (pe_ix ix_tup (pv 1) pe_int (fun _ _ => rfl)) (pe_ix ix_tup (pv 0) pe_int (fun _ _ => rfl)))) (pa_cons (pe_op op_mulB (pe_ix ix_tup (pv 0) pe_int (fun _ _ => rfl)) (pe_ix ix_tup (pv 1) pe_int (fun _ _ => rfl))) pa_nil))))), ?_⟩
  try dsimp only [cxK, cxK0]
  try with_reducible refine g_go ?_
  try with_reducible refine nil_go ?_
  try with_reducible refine hN2 _ _ ?_
  try with_reducible refine seq_go fun N2 hN2 => ?_
  refine ⟨_, rfl, p, _, _, _, rfl, rfl, hp, rfl, _, rfl, q, _, _, _, rfl, rfl, hq, rfl, _, _, rfl, rfl, dx.1.ok dy.2 (by omega), _, rfl, q, _, _, _, rfl, rfl, hq, rfl, _, rfl, p, _, _, _, rfl, rfl, hp, rfl, _, _, rfl, rfl, dy.1.ok dx.2 (by omega), _, _, rfl, rfl, _, rfl, p, _, _, _, rfl, rfl, hp, rfl, _, rfl, q, _, _, _, rfl, rfl, hq, rfl, _, _, rfl, rfl, dx.2.ok dy.2 (by omega), _, _, rfl, (dx.2.mul dy.2).mono (by omega), Int.mul_ne_zero (q_ne _) (q_ne _), fun r H1 s1 g1 => k r H1 s1 (FQ.cast g1 (q_sub x y))⟩
noncomputable def sp_law_times (K : PySem.W.Frag) : Sp := fun vs H Q _ => ∃ (p_x : Addr) (x : Rat) (n_x : Nat) (p_y : Addr) (y : Rat) (n_y : Nat), vs = [.ref p_x, .ref p_y] ∧ FQ K H p_x x ∧ FB n_x x ∧ FQ K H p_y y ∧ FB n_y y ∧ n_x + n_y ≤ 8950 ∧ (∀ (p_r : Addr) (H1 : Hp), Same H H1 → FQ K H1 p_r (x * y) → Q (.ref p_r) H1)
theorem sc_law_times : FnScope ["_law_one", "_law_other"] ["_law_one", "_law_other"] (defScope (top 49)) := ⟨rfl, rfl, rfl, by decide +kernel, rfl, by decide +kernel, by decide +kernel⟩
theorem ok_law_times (D : Df K mg "_law_times" (top 49) ["_law_one", "_law_other"]) (T : Tx K mg) (F_law_fit : Fn P w K mg base 1 "_law_fit" ["_law_top", "_law_bottom"] (sp_law_fit K)) : Fn P w K mg base 2 "_law_times" ["_law_one", "_law_other"] (sp_law_times K) := by
  try with_reducible refine g_go ?_
  try with_reducible refine nil_go ?_
  try with_reducible refine hN2 _ _ ?_
  try with_reducible refine seq_go fun N2 hN2 => ?_
  refine D.ok0 sc_law_times (fun vs H Q E h => ?_) (fun f cdv A outer s H vs Q E hr h => ?_)
  · obtain ⟨p, x, n, q, y, m, rfl, _⟩ := h
    rfl
  obtain ⟨p, x, n, q, y, m, rfl, hp, dx, hq, dy, hn, k⟩ := h
  refine ⟨_, (pss_one (ps_ret (pe_fn F_law_fit (by decide) hr (by rfl) passE0 (pa_cons (pe_op op_mulB (pe_ix ix_tup (pv 0) pe_int (fun _ _ => rfl)) (pe_ix ix_tup (pv 1) pe_int (fun _ _ => rfl))) (pa_cons (pe_op op_mulB (pe_ix ix_tup (pv 0) pe_int (fun _ _ => rfl)) (pe_ix ix_tup (pv 1) pe_int (fun _ _ => rfl))) pa_nil))))), ?_⟩
  try dsimp only [cxK, cxK0]
  try with_reducible refine g_go ?_
  try with_reducible refine nil_go ?_
  try with_reducible refine hN2 _ _ ?_
  try with_reducible refine seq_go fun N2 hN2 => ?_
  refine ⟨_, rfl, p, _, _, _, rfl, rfl, hp, rfl, _, rfl, q, _, _, _, rfl, rfl, hq, rfl, _, _, rfl, rfl, dx.1.ok dy.1 (by omega), _, rfl, p, _, _, _, rfl, rfl, hp, rfl, _, rfl, q, _, _, _, rfl, rfl, hq, rfl, _, _, rfl, rfl, dx.2.ok dy.2 (by omega), _, _, rfl, (dx.2.mul dy.2).mono (by omega), Int.mul_ne_zero (q_ne _) (q_ne _), fun r H1 s1 g1 => k r H1 s1 (FQ.cast g1 (q_mul x y))⟩
noncomputable def sp_law_over (K : PySem.W.Frag) : Sp := fun vs H Q _ => ∃ (p_x : Addr) (x : Rat) (n_x : Nat) (p_y : Addr) (y : Rat) (n_y : Nat), vs = [.ref p_x, .ref p_y] ∧ FQ K H p_x x ∧ FB n_x x ∧ FQ K H p_y y ∧ FB n_y y ∧ n_x + n_y ≤ 8950 ∧ y ≠ 0 ∧ (∀ (p_r : Addr) (H1 : Hp), Same H H1 → FQ K H1 p_r (x / y) → Q (.ref p_r) H1)
theorem sc_law_over : FnScope ["_law_one", "_law_other"] ["_law_one", "_law_other"] (defScope (top 50)) := ⟨rfl, rfl, rfl, by decide +kernel, rfl, by decide +kernel, by decide +kernel⟩
theorem ok_law_over (D : Df K mg "_law_over" (top 50) ["_law_one", "_law_other"]) (T : Tx K mg) (F_law_fit : Fn P w K mg base 1 "_law_fit" ["_law_top", "_law_bottom"] (sp_law_fit K)) : Fn P w K mg base 2 "_law_over" ["_law_one", "_law_other"] (sp_law_over K) := by
  try with_reducible refine g_go ?_
  try with_reducible refine nil_go ?_
  try with_reducible refine hN2 _ _ ?_
  try with_reducible refine seq_go fun N2 hN2 => ?_
  refine D.ok0 sc_law_over (fun vs H Q E h => ?_) (fun f cdv A outer s H vs Q E hr h => ?_)
  · obtain ⟨p, x, n, q, y, m, rfl, _⟩ := h
    rfl
  obtain ⟨p, x, n, q, y, m, rfl, hp, dx, hq, dy, hn, y0, k⟩ := h
  refine ⟨_, (pss_one (ps_ret (pe_fn F_law_fit (by decide) hr (by rfl) passE0 (pa_cons (pe_op op_mulB (pe_ix ix_tup (pv 0) pe_int (fun _ _ => rfl)) (pe_ix ix_tup (pv 1) pe_int (fun _ _ => rfl))) (pa_cons (pe_op op_mulB (pe_ix ix_tup (pv 0) pe_int (fun _ _ => rfl)) (pe_ix ix_tup (pv 1) pe_int (fun _ _ => rfl))) pa_nil))))), ?_⟩
  try dsimp only [cxK, cxK0]
  try with_reducible refine g_go ?_
  try with_reducible refine nil_go ?_
  try with_reducible refine hN2 _ _ ?_
  try with_reducible refine seq_go fun N2 hN2 => ?_
  refine ⟨_, rfl, p, _, _, _, rfl, rfl, hp, rfl, _, rfl, q, _, _, _, rfl, rfl, hq, rfl, _, _, rfl, rfl, dx.1.ok dy.2 (by omega), _, rfl, p, _, _, _, rfl, rfl, hp, rfl, _, rfl, q, _, _, _, rfl, rfl, hq, rfl, _, _, rfl, rfl, dx.2.ok dy.1 (by omega), _, _, rfl, (dx.2.mul dy.1).mono (by omega), Int.mul_ne_zero (q_ne _) (q_num_ne y0), fun r H1 s1 g1 => k r H1 s1 (FQ.cast g1 (q_div x y))⟩
noncomputable def sp_law_less (K : PySem.W.Frag) : Sp := fun vs H Q _ => ∃ (p_x : Addr) (x : Rat) (p_y : Addr) (y : Rat), vs = [.ref p_x, .ref p_y] ∧ FQ K H p_x x ∧ FB 60000 x ∧ FQ K H p_y y ∧ FB 60000 y ∧ (∀  (H1 : Hp), Same H H1 → Q (.bl (decide (x < y))) H1)
theorem sc_law_less : FnScope ["_law_one", "_law_other"] ["_law_one", "_law_other"] (defScope (top 51)) := ⟨rfl, rfl, rfl, by decide +kernel, rfl, by decide +kernel, by decide +kernel⟩
theorem ok_law_less (D : Df K mg "_law_less" (top 51) ["_law_one", "_law_other"]) (T : Tx K mg) : Fn P w K mg base 1 "_law_less" ["_law_one", "_law_other"] (sp_law_less K) := by
  try with_reducible refine g_go ?_
  try with_reducible refine nil_go ?_
  try with_reducible refine hN2 _ _ ?_
  try with_reducible refine seq_go fun N2 hN2 => ?_
  refine D.ok0 sc_law_less (fun vs H Q E h => ?_) (fun f cdv A outer s H vs Q E hr h => ?_)
  · obtain ⟨p_x, x, p_y, y, rfl, _⟩ := h
    rfl
  obtain ⟨p_x, x, p_y, y, rfl, g_x, d_x, g_y, d_y, k0⟩ := h
  refine ⟨_, (pss_one (ps_ret (pe_cmpR op_lt (pe_op op_mulB (pe_ix ix_tup (pv 0) pe_int (fun _ _ => rfl)) (pe_ix ix_tup (pv 1) pe_int (fun _ _ => rfl))) (pe_op op_mulB (pe_ix ix_tup (pv 1) pe_int (fun _ _ => rfl)) (pe_ix ix_tup (pv 0) pe_int (fun _ _ => rfl))) (nomark _)))), ?_⟩
  try dsimp only [cxK, cxK0]
  try with_reducible refine g_go ?_
  try with_reducible refine nil_go ?_
  try with_reducible refine hN2 _ _ ?_
  try with_reducible refine seq_go fun N2 hN2 => ?_
  refine ⟨_, rfl, p_x, _, _, _, rfl, rfl, g_x, rfl, _, rfl, p_y, _, _, _, rfl, rfl, g_y, rfl, _, _, rfl, rfl, (d_x.1.ok d_y.2 (by decide)), _, rfl, p_y, _, _, _, rfl, rfl, g_y, rfl, _, rfl, p_x, _, _, _, rfl, rfl, g_x, rfl, _, _, rfl, rfl, (d_y.1.ok d_x.2 (by decide)), _, _, rfl, rfl, ?_⟩
  try dsimp only
  rw [show decide (((x).num * (((y).den : Nat) : Int)) < ((y).num * (((x).den : Nat) : Int))) = decide (x < y) from decide_eq_decide.mpr (by exact (q_lt x y).symm)]
  try with_reducible refine g_go ?_
  try with_reducible refine nil_go ?_
  try with_reducible refine hN2 _ _ ?_
  try with_reducible refine seq_go fun N2 hN2 => ?_
  exact k0 _ (Same.refl _)
noncomputable def sp_law_small (K : PySem.W.Frag) : Sp := fun vs H Q _ => ∃ (bx : Addr) (n_bx : Int), vs = [.ref bx] ∧ H bx = some (.lst [.int n_bx]) ∧ (∀ (p_r : Addr) (r : Rat) (H1 : Hp) (n1 : Int), But bx H H1 → H1 bx = some (.lst [.int n1]) → FQ K H1 p_r (r) → FB 70 r → Six 72 r → Q (.ref p_r) H1)
theorem sc_law_small : FnScope ["_law_box_here"] ["_law_box_here"] (defScope (top 52)) := ⟨rfl, rfl, rfl, by decide +kernel, rfl, by decide +kernel, by decide +kernel⟩
theorem ok_law_small (D : Df K mg "_law_small" (top 52) ["_law_box_here"]) (T : Tx K mg) (F_law_take : Fn P w K mg base 1 "_law_take" ["_law_box_here", "_law_many"] spTake) (F_law_fit : Fn P w K mg base 1 "_law_fit" ["_law_top", "_law_bottom"] (sp_law_fit K)) : Fn P w K mg base 2 "_law_small" ["_law_box_here"] (sp_law_small K) := by
  try with_reducible refine g_go ?_
  try with_reducible refine nil_go ?_
  try with_reducible refine hN2 _ _ ?_
  try with_reducible refine seq_go fun N2 hN2 => ?_
  refine D.ok0 sc_law_small (fun vs H Q E h => ?_) (fun f cdv A outer s H vs Q E hr h => ?_)
  · obtain ⟨bx, n_bx, rfl, _⟩ := h
    rfl
  obtain ⟨bx, n_bx, rfl, hb_bx, k0⟩ := h
  refine ⟨_, (pss_one (ps_ret (pe_fn F_law_fit (by decide) hr (by rfl) passE0 (pa_cons (pe_op op_sub (pe_fn F_law_take (by decide) hr (by rfl) passE0 (pa_cons (pv 0) (pa_cons pe_int pa_nil))) pe_int) (pa_cons (pe_ix ix_list (pe_lst (pa_cons pe_int (pa_cons pe_int (pa_cons pe_int (pa_cons pe_int pa_nil))))) (pe_fn F_law_take (by decide) hr (by rfl) passE0 (pa_cons (pv 0) (pa_cons pe_int pa_nil))) (fun _ _ => rfl)) pa_nil))))), ?_⟩
  try dsimp only [cxK, cxK0]
  try with_reducible refine g_go ?_
  try with_reducible refine nil_go ?_
  try with_reducible refine hN2 _ _ ?_
  try with_reducible refine seq_go fun N2 hN2 => ?_
  refine ⟨_, rfl, _, _, _, rfl, hb_bx, (by decide +kernel), ((Bd.small (i := (25 : Int)) (by decide) (by decide)).mono (by decide)), fun d25 n25 H25 lo25 hi25 s25 hb25 => ?_⟩
  try with_reducible refine g_go ?_
  try with_reducible refine nil_go ?_
  try with_reducible refine hN2 _ _ ?_
  try with_reducible refine seq_go fun N2 hN2 => ?_
  refine ⟨_, _, rfl, rfl, by show 4 ≤ sizeLine; decide, ?_⟩
  intro p26 n26
  obtain ⟨H26, q26, s26, e26⟩ := newO n26 (.lst [.int ((1 : Int)), .int ((1 : Int)), .int ((2 : Int)), .int ((3 : Int))])
  rw [q26]
  clear q26
  have hB27 := s26 _ _ hb25
  have h26 := SqL.of (K := K) e26
  have ap26 : p26 ≠ bx := fun z => by rw [z, hb25] at n26; cases n26
  try with_reducible refine g_go ?_
  try with_reducible refine nil_go ?_
  try with_reducible refine hN2 _ _ ?_
  try with_reducible refine seq_go fun N2 hN2 => ?_
  refine ⟨_, rfl, _, _, _, rfl, hB27, (by decide +kernel), ((Bd.small (i := (4 : Int)) (by decide) (by decide)).mono (by decide)), fun d28 n28 H28 lo28 hi28 s28 hb28 => ?_⟩
  obtain ⟨v29, ev29, m30⟩ := atI_mem ([(1 : Int), (1 : Int), (2 : Int), (3 : Int)] : List Int) d28 (by omega) (by show _ < (4 : Int); omega)
  have bv29 : 1 ≤ v29 ∧ v29 ≤ 3 := (show ∀ z ∈ ([(1 : Int), (1 : Int), (2 : Int), (3 : Int)] : List Int), 1 ≤ z ∧ z ≤ 3 by decide +kernel) v29 m30
  replace h26 := (But.seq s28 ap26 h26)
  try with_reducible refine g_go ?_
  try with_reducible refine nil_go ?_
  try with_reducible refine hN2 _ _ ?_
  try with_reducible refine seq_go fun N2 hN2 => ?_
  refine ⟨p26, _, _, _, rfl, rfl, h26, ev29, _, _, rfl, ((Bd.small (i := v29) (by omega) (by omega)).mono (by decide)), (by omega), fun p_r31 H31 s31 g_r31 => ?_⟩
  have hB32 := s31 _ _ hb28
  have d_r31 : FB 65 (Rat.divInt ((d25 - (12 : Int))) v29) := (FB.mono (FB.fit (by omega) ((Bd.sub ((Bd.small (i := d25) (by omega) (by omega)).mono (n := 64) (by decide)) ((Bd.small (i := (12 : Int)) (by decide) (by decide)).mono (n := 64) (by decide))).mono (n := 65) (by decide)) ((Bd.small (i := v29) (by omega) (by omega)).mono (n := 65) (by decide))) (by decide))
  try with_reducible refine g_go ?_
  try with_reducible refine nil_go ?_
  try with_reducible refine hN2 _ _ ?_
  try with_reducible refine seq_go fun N2 hN2 => ?_
  exact k0 _ _ _ _ (s25.trans ((But.of s26).trans (s28.trans (But.of s31)))) hB32 g_r31 (FB.mono d_r31 (by decide)) (by exact (six_fit (N := 12) (by omega) (by omega) (by omega) (by omega)).mono (by decide))
noncomputable def sp_law_led_together (K : PySem.W.Frag) : Sp := fun vs H Q _ => ∃ (b : Addr) (n : Int) (f : Addr) (xs : List V) (bs : List Bod) (W : Int), vs = [.ref b, .ref f] ∧ H b = some (.lst [.int n]) ∧ f ≠ b ∧ H f = some (.lst xs) ∧ Al2 (BdQ K H 64) xs bs ∧ 1 ≤ bs.length ∧ bs.length ≤ 12 ∧ Asc bs ∧ (∀ a ∈ bs, a.2.2 = W) ∧ (∀ a ∈ bs, Six 720 a.1) ∧
  ∀ (f1 : Addr) (xs1 : List V) (bs1 : List Bod) (n1 : Int) (H1 : Hp), But b H H1 → H f1 = none → f1 ≠ b → H1 b = some (.lst [.int n1]) → H1 f1 = some (.lst xs1) → Al2 (BdQ K H1 64) xs1 bs1 → bs1.length = bs.length → Asc bs1 → (∀ a ∈ bs1, a.2.2 = W) → (∀ a ∈ bs1, Six 720 a.1) → Q (.ref f1) H1
theorem sc_law_led_together : FnScope ["_law_box_here", "_law_world_here", "_law_at", "_law_many", "_law_moment", "_law_meet", "_law_found", "_law_number", "_law_body", "_law_way"] ["_law_box_here", "_law_world_here"] (defScope (top 54)) := ⟨rfl, rfl, rfl, by decide +kernel, rfl, by decide +kernel, by decide +kernel⟩
theorem ok_law_led_together (D : Df K mg "_law_led_together" (top 54) ["_law_box_here", "_law_world_here"]) (T : Tx K mg) (F_law_take : Fn P w K mg base 1 "_law_take" ["_law_box_here", "_law_many"] spTake) (F_law_fit : Fn P w K mg base 1 "_law_fit" ["_law_top", "_law_bottom"] (sp_law_fit K)) (F_law_small : Fn P w K mg base 2 "_law_small" ["_law_box_here"] (sp_law_small K)) (F_law_plus : Fn P w K mg base 2 "_law_plus" ["_law_one", "_law_other"] (sp_law_plus K)) (F_law_minus : Fn P w K mg base 2 "_law_minus" ["_law_one", "_law_other"] (sp_law_minus K)) (F_law_over : Fn P w K mg base 2 "_law_over" ["_law_one", "_law_other"] (sp_law_over K)) : Fn P w K mg base 3 "_law_led_together" ["_law_box_here", "_law_world_here"] (sp_law_led_together K) := by
  try with_reducible refine g_go ?_
  try with_reducible refine nil_go ?_
  try with_reducible refine hN2 _ _ ?_
  try with_reducible refine seq_go fun N2 hN2 => ?_
  refine D.ok0 sc_law_led_together (fun vs H Q E h => ?_) (fun f cdv A outer s H vs Q E hr h => ?_)
  · obtain ⟨b, n, f, xs, bs, W, rfl, _⟩ := h
    rfl
  obtain ⟨b, n, f, xs, bs, W, rfl, hb, nfb, hf, al, l1, l12, asc, hw, six, k⟩ := h
  refine ⟨_, (pss_cons (ps_set (i := 2) sc_law_led_together.nd rfl (Or.inl rfl) (pe_fn F_law_take (by decide) hr (by rfl) passE0 (pa_cons (pv 0) (pa_cons (pe_callB call_len (by rfl) T.b_len PyProof.Rows.Boot.«len» (pa_cons (pv 1) pa_nil)) pa_nil))))
      (pss_cons (ps_set (i := 3) sc_law_led_together.nd rfl (Or.inl rfl) (pe_op op_add pe_int (pe_fn F_law_take (by decide) hr (by rfl) passE0 (pa_cons (pv 0) (pa_cons pe_int pa_nil)))))
      (pss_cons (ps_set (i := 4) sc_law_led_together.nd rfl (Or.inl rfl) (pe_fn F_law_fit (by decide) hr (by rfl) passE0 (pa_cons (pe_op op_add pe_int (pe_fn F_law_take (by decide) hr (by rfl) passE0 (pa_cons (pv 0) (pa_cons pe_int pa_nil)))) (pa_cons (pe_op op_add pe_int (pe_fn F_law_take (by decide) hr (by rfl) passE0 (pa_cons (pv 0) (pa_cons pe_int pa_nil)))) pa_nil))))
      (pss_cons (ps_set (i := 5) sc_law_led_together.nd rfl (Or.inl rfl) (pe_fn F_law_plus (by decide) hr (by rfl) passE0 (pa_cons (pe_ix ix_tup (pe_ix ix_list (pv 1) (pv 2) (fun _ _ => rfl)) pe_int (fun _ _ => rfl)) (pa_cons (pe_fn F_law_small (by decide) hr (by rfl) passE0 (pa_cons (pv 0) pa_nil)) pa_nil))))
      (pss_cons (ps_set (i := 6) sc_law_led_together.nd rfl (Or.inl rfl) (pe_lst pa_nil))
      (pss_cons (ps_for PassesOwn.never rfl (pi_enum (by rfl) T.b_enumerate (pa_cons (pv 1) pa_nil)) (pg_tup rfl (pgs_cons (pg_name (i := 7) sc_law_led_together.nd rfl (Or.inl rfl)) (pgs_cons (pg_name (i := 8) sc_law_led_together.nd rfl (Or.inl rfl)) pgs_nil))) (pss_cons (ps_if (pt_chain op_le op_lt (pv 2) (pv 7) (pe_op op_add (pv 2) (pv 3))) (pss_cons (ps_set (i := 9) sc_law_led_together.nd rfl (Or.inl rfl) (pe_fn F_law_minus (by decide) hr (by rfl) passE0 (pa_cons (pv 5) (pa_cons (pe_ix ix_tup (pv 8) pe_int (fun _ _ => rfl)) pa_nil))))
      (pss_one (ps_set (i := 8) sc_law_led_together.nd rfl (Or.inl rfl) (pe_tup (pa_cons (pe_ix ix_tup (pv 8) pe_int (fun _ _ => rfl)) (pa_cons (pe_fn F_law_over (by decide) hr (by rfl) passE0 (pa_cons (pv 9) (pa_cons (pv 4) pa_nil))) (pa_cons (pe_ix ix_tup (pv 8) pe_int (fun _ _ => rfl)) pa_nil))))))) pss_nil)
      (pss_one (ps_expr (pe_bm PySem.F.plainAttrs_list PySem.F.slot_list_append PySem.F.type_list_append mt_append (pv 6) (pa_cons (pv 8) pa_nil))))))
      (pss_one (ps_ret (pv 6))))))))), ?_⟩
  try dsimp only [cxK, cxK0]
  have sm9 : ∀ i : Int, -(2 ^ 64) < i → i < 2 ^ 64 → Bd 9000 i := fun i h1 h2 => (Bd.small h1 h2).mono (by decide)
  have hz := Al2.len al
  try with_reducible refine g_go ?_
  try with_reducible refine nil_go ?_
  try with_reducible refine hN2 _ _ ?_
  try with_reducible refine seq_go fun N2 hN2 => ?_
  refine ⟨_, rfl, _, rfl, _, _, rfl, .inl ⟨_, SqL.of hf, rfl⟩, b, _, _, rfl, hb, by omega, sm9 _ (by omega) (by omega), fun d1 n1 H1 lo1 hi1 s1 hb1 => ?_⟩
  try with_reducible refine g_go ?_
  try with_reducible refine nil_go ?_
  try with_reducible refine hN2 _ _ ?_
  try with_reducible refine seq_go fun N2 hN2 => ?_
  refine ⟨_, rfl, b, 5, _, rfl, hb1, by decide, sm9 _ (by decide) (by decide), fun d2 n2 H2 lo2 hi2 s2 hb2 => ?_⟩
  try with_reducible refine g_go ?_
  try with_reducible refine nil_go ?_
  try with_reducible refine hN2 _ _ ?_
  try with_reducible refine seq_go fun N2 hN2 => ?_
  refine ⟨_, _, rfl, rfl, ?_⟩
  try with_reducible refine g_go ?_
  try with_reducible refine nil_go ?_
  try with_reducible refine hN2 _ _ ?_
  try with_reducible refine seq_go fun N2 hN2 => ?_
  refine ⟨_, rfl, b, 4, _, rfl, hb2, by decide, sm9 _ (by decide) (by decide), fun d3 n3 H3 lo3 hi3 s3 hb3 => ?_⟩
  try with_reducible refine g_go ?_
  try with_reducible refine nil_go ?_
  try with_reducible refine hN2 _ _ ?_
  try with_reducible refine seq_go fun N2 hN2 => ?_
  refine ⟨_, _, rfl, rfl, _, rfl, b, 3, _, rfl, hb3, by decide, sm9 _ (by decide) (by decide), fun d4 n4 H4 lo4 hi4 s4 hb4 => ?_⟩
  try with_reducible refine g_go ?_
  try with_reducible refine nil_go ?_
  try with_reducible refine hN2 _ _ ?_
  try with_reducible refine seq_go fun N2 hN2 => ?_
  refine ⟨_, _, rfl, rfl, _, _, rfl, sm9 _ (by omega) (by omega), by omega, fun pm H5 s5 gm => ?_⟩
  have dm : FB 64 (Rat.divInt (1 + d3) (1 + d4)) := FB.fit (by omega) (Bd.small (by omega) (by omega)) (Bd.small (by omega) (by omega))
  have mpos : (0 : Rat) < Rat.divInt (1 + d3) (1 + d4) := q_divpos (by omega) (by omega)
  have hb5 := s5 _ _ hb4
  have s05 := s1.trans (s2.trans (s3.trans (s4.trans (But.of s5))))
  have hf5 := s05 _ _ nfb hf
  have al5 := bds_but al s05 hb
  obtain ⟨y, hy⟩ : ∃ y, xs[d1.toNat]? = some y := ⟨_, List.getElem?_eq_getElem (by omega)⟩
  obtain ⟨by', hby, py, ay, cy, rfl, y1, y2, _, y4, _⟩ := Al2.get al5 hy
  have aty : atI xs d1 = some (.ref py) := by
    have z := atI_nat hy
    rwa [show ((d1.toNat : Nat) : Int) = d1 by omega] at z
  try with_reducible refine g_go ?_
  try with_reducible refine nil_go ?_
  try with_reducible refine hN2 _ _ ?_
  try with_reducible refine seq_go fun N2 hN2 => ?_
  refine ⟨_, rfl, _, rfl, f, _, _, _, rfl, rfl, SqL.of hf5, aty, py, _, _, _, rfl, rfl, y1, rfl, _, rfl, b, n4, rfl, hb5, fun ps xs' H6 n6 s6 hb6 gs ds ss => ?_⟩
  try with_reducible refine g_go ?_
  try with_reducible refine nil_go ?_
  try with_reducible refine hN2 _ _ ?_
  try with_reducible refine seq_go fun N2 hN2 => ?_
  refine ⟨_, _, 64, _, _, 70, rfl, s6.tup hb5 y2, y4, gs, ds, by decide, fun pe H7 s7 ge => ?_⟩
  have sixm : Six 792 (by'.1 + xs') := ((six by' (List.mem_of_getElem? hby)).add ss).mono (by decide)
  have de : FB 64 (by'.1 + xs') := sixm.fb (by decide)
  generalize by'.1 + xs' = meet at ge de sixm
  have ovr : ∀ x : Rat, Six 1512 x → FB 64 (x / Rat.divInt (1 + d3) (1 + d4)) := fun x h => six_over h (by decide) (by omega) (by omega) (by omega) (by omega)
  generalize Rat.divInt (1 + d3) (1 + d4) = tm at gm dm mpos ovr
  try with_reducible refine g_go ?_
  try with_reducible refine nil_go ?_
  try with_reducible refine hN2 _ _ ?_
  try with_reducible refine seq_go fun N2 hN2 => ?_
  refine ⟨by show 0 ≤ sizeLine; decide, ?_⟩
  intro p8 n8
  obtain ⟨H8, q8, s8, e8⟩ := newO n8 (.lst [])
  rw [q8]
  clear q8
  have hb7 := s7 _ _ hb6
  have s07 := s05.trans (s6.trans (But.of s7))
  have nf0 : H p8 = none := by
    by_cases z : p8 = b
    · rw [z, hb7] at n8; cases n8
    · try with_reducible refine g_go ?_
      try with_reducible refine nil_go ?_
      try with_reducible first | refine hN6 _ _ ?_ | refine hN4 _ _ ?_ | refine hN2 _ _ ?_
      try with_reducible refine seq_go fun N6 hN6 => ?_
      exact none_of_but s07 n8 z
  have nfb8 : p8 ≠ b := fun z => by rw [z, hb7] at n8; cases n8
  have s08 := s07.trans (But.of s8)
  have hf8 := s08 _ _ nfb hf
  have nf8 : f ≠ p8 := ne_of_none hf nf0
  have gm8 := Kw.Same.tup s8 (Kw.Same.tup s7 (s6.tup hb5 gm))
  have ge8 := Kw.Same.tup s8 ge
  have al8 := bds_but al s08 hb
  have hb8 := s8 _ _ hb7
  try with_reducible refine g_go ?_
  try with_reducible refine nil_go ?_
  try with_reducible refine hN2 _ _ ?_
  try with_reducible refine seq_go fun N2 hN2 => ?_
  refine ⟨_, rfl, f, xs, rfl, SqL.of hf8, for_enum (K := K) (a := f) (xs := xs) (fun i σ1 H' => ∃ (u7 u8 u9 : Option V) (ys : List V) (cs : List Bod), σ1 = [some (.ref b), some (.ref f), some (.int d1), some (.int (2 + d2)), some (.ref pm), some (.ref pe), some (.ref p8), u7, u8, u9] ∧ But p8 H8 H' ∧ H' p8 = some (.lst ys) ∧ Al2 (BdQ K H' 64) ys cs ∧ cs.map (·.1) = (bs.take i).map (·.1) ∧ cs.map (·.2.2) = (bs.take i).map (·.2.2)) ⟨_, _, _, [], [], rfl, But.refl _, e8, trivial, rfl, rfl⟩ (fun _ _ _ ⟨_, _, _, _, _, _, g, _⟩ => SqL.of (g _ _ nf8 hf8)) ?_ ?_⟩
  · rintro i x σ1 H9 hx ⟨u7, u8, u9, ys, cs, rfl, s9, hl9, ac9, pc9, wc9⟩ pp H10 s10 npp epp
    obtain ⟨bd, hbd, p, pa, pc, rfl, x1, x2, x3, x4, x5, x6, x7⟩ := Al2.get (bds_same (bds_but al8 s9 e8) s10) hx
    have hi : i < xs.length := (List.getElem?_eq_some_iff.mp hx).1
    have ly : ys.length < sizeLine := by
      have q1 := Al2.len ac9
      have q2 := congrArg List.length pc9
      simp at q2
      try with_reducible refine g_go ?_
      try with_reducible refine nil_go ?_
      try with_reducible first | refine hN6 _ _ ?_ | refine hN4 _ _ ?_ | refine hN2 _ _ ?_
      try with_reducible refine seq_go fun N6 hN6 => ?_
      exact Nat.lt_of_le_of_lt (show ys.length ≤ 12 by omega) (by decide)
    have tk := take_snoc hbd
    have ext : ∀ (v : Rat) (cb : Bod), cb = (bd.1, v, bd.2.2) → (cs ++ [cb]).map (·.1) = (bs.take (i + 1)).map (·.1) ∧ (cs ++ [cb]).map (·.2.2) = (bs.take (i + 1)).map (·.2.2) := fun v cb e => by
      subst e
      rw [tk, List.map_append, List.map_append, List.map_append, List.map_append, pc9, wc9]
      try with_reducible refine g_go ?_
      try with_reducible refine nil_go ?_
      try with_reducible first | refine hN6 _ _ ?_ | refine hN4 _ _ ?_ | refine hN2 _ _ ?_
      try with_reducible refine seq_go fun N6 hN6 => ?_
      exact ⟨rfl, rfl⟩
    try with_reducible refine g_go ?_
    try with_reducible refine nil_go ?_
    try with_reducible first | refine hN4 _ _ ?_ | refine hN2 _ _ ?_
    try with_reducible refine seq_go fun N4 hN4 => ?_
    refine ⟨pp, _, rfl, SqT.of epp, rfl, _, _, rfl, _, _, rfl, rfl, ?_⟩
    try with_reducible refine g_go ?_
    try with_reducible refine nil_go ?_
    try with_reducible first | refine hN4 _ _ ?_ | refine hN2 _ _ ?_
    try with_reducible refine seq_go fun N4 hN4 => ?_
    refine ⟨_, rfl, _, rfl, _, _, rfl, rfl, _, rfl, ?_⟩
    try with_reducible refine g_go ?_
    try with_reducible refine nil_go ?_
    try with_reducible first | refine hN4 _ _ ?_ | refine hN2 _ _ ?_
    try with_reducible refine seq_go fun N4 hN4 => ?_
    refine if_dec (fun c1 => ?_) (fun c1 => ?_)
    · try with_reducible refine g_go ?_
      try with_reducible refine nil_go ?_
      try with_reducible first | refine hN6 _ _ ?_ | refine hN4 _ _ ?_ | refine hN2 _ _ ?_
      try with_reducible refine seq_go fun N6 hN6 => ?_
      refine ⟨_, rfl, _, rfl, _, _, rfl, rfl, _, _, rfl, rfl, _, rfl, ?_⟩
      try with_reducible refine g_go ?_
      try with_reducible refine nil_go ?_
      try with_reducible first | refine hN6 _ _ ?_ | refine hN4 _ _ ?_ | refine hN2 _ _ ?_
      try with_reducible refine seq_go fun N6 hN6 => ?_
      refine if_dec (fun c2 => ?_) (fun c2 => ?_)
      · have gm10 := Kw.Same.tup s10 (s9.tup e8 gm8)
        have ge10 := Kw.Same.tup s10 (s9.tup e8 ge8)
        try with_reducible refine g_go ?_
        try with_reducible refine nil_go ?_
        try with_reducible first | refine hN8 _ _ ?_ | refine hN6 _ _ ?_ | refine hN4 _ _ ?_ | refine hN2 _ _ ?_
        try with_reducible refine seq_go fun N8 hN8 => ?_
        refine ⟨_, rfl, _, rfl, p, _, _, _, rfl, rfl, x1, rfl, _, _, 64, _, _, 64, rfl, ge10, de, x2, x4, by decide, fun pw H11 s11 gw => ?_⟩
        have sixw : Six 1512 (meet - bd.1) := (sixm.sub (six bd (List.mem_of_getElem? hbd))).mono (by decide)
        have dw : FB 64 (meet - bd.1) := sixw.fb (by decide)
        have x1' := Kw.Same.tup s11 x1
        try with_reducible refine g_go ?_
        try with_reducible refine nil_go ?_
        try with_reducible first | refine hN8 _ _ ?_ | refine hN6 _ _ ?_ | refine hN4 _ _ ?_ | refine hN2 _ _ ?_
        try with_reducible refine seq_go fun N8 hN8 => ?_
        refine ⟨_, rfl, p, _, _, _, rfl, rfl, x1', rfl, _, rfl, _, rfl, _, _, 64, _, _, 64, rfl, gw, dw, Kw.Same.tup s11 gm10, dm, by decide, by grind, fun pv H12 s12 gv => ?_⟩
        have dv : FB 64 ((meet - bd.1) / tm) := ovr _ sixw
        have s1012 := s11.trans s12
        try with_reducible refine g_go ?_
        try with_reducible refine nil_go ?_
        try with_reducible first | refine hN8 _ _ ?_ | refine hN6 _ _ ?_ | refine hN4 _ _ ?_ | refine hN2 _ _ ?_
        try with_reducible refine seq_go fun N8 hN8 => ?_
        refine ⟨_, rfl, p, _, _, _, rfl, rfl, Kw.Same.tup s12 x1', rfl, by show 3 ≤ sizeLine; decide, ?_⟩
        intro p13 n13
        obtain ⟨H13, q13, s13, e13⟩ := newO n13 (.tup [.ref pa, .ref pv, .int bd.2.2])
        rw [q13]
        clear q13
        have s1013 := s1012.trans s13
        have s913 := s10.trans s1013
        have hl13 := s913 _ _ hl9
        have one : BdQ K H13 64 (.ref p13) (bd.1, (meet - bd.1) / tm, bd.2.2) := ⟨p13, pa, pv, rfl, SqT.of e13, Kw.Same.tup s1013 x2, Kw.Same.tup s13 gv, x4, dv, x6, x7⟩
        try with_reducible refine g_go ?_
        try with_reducible refine nil_go ?_
        try with_reducible first | refine hN8 _ _ ?_ | refine hN6 _ _ ?_ | refine hN4 _ _ ?_ | refine hN2 _ _ ?_
        refine ⟨_, rfl, .inl ⟨rfl, _, SqL.of hl13⟩, _, rfl, p8, _, _, rfl, rfl, hl13, ly, ?_⟩
        obtain ⟨H14, q14, s14, e14⟩ := newB (H := H13) (p := p8) (.lst (ys ++ [.ref p13]))
        dsimp only
        rw [q14]
        clear q14
        try with_reducible refine g_go ?_
        try with_reducible refine nil_go ?_
        try with_reducible first | refine hN8 _ _ ?_ | refine hN6 _ _ ?_ | refine hN4 _ _ ?_ | refine hN2 _ _ ?_
        try with_reducible refine seq_go fun N8 hN8 => ?_
        exact ⟨_, _, _, ys ++ [.ref p13], cs ++ [_], rfl, s9.trans ((But.of s913).trans s14), e14, bds_but (Al2.snoc (bds_same ac9 s913) one) s14 hl13, ext _ _ rfl⟩
      · skip
        have hl10 := s10 _ _ hl9
        have one : BdQ K H10 64 (.ref p) bd := ⟨p, pa, pc, rfl, x1, x2, x3, x4, x5, x6, x7⟩
        try with_reducible refine g_go ?_
        try with_reducible refine nil_go ?_
        try with_reducible first | refine hN8 _ _ ?_ | refine hN6 _ _ ?_ | refine hN4 _ _ ?_ | refine hN2 _ _ ?_
        try with_reducible refine seq_go fun N8 hN8 => ?_
        refine ⟨_, rfl, .inl ⟨rfl, _, SqL.of hl10⟩, _, rfl, p8, _, _, rfl, rfl, hl10, ly, ?_⟩
        obtain ⟨H14, q14, s14, e14⟩ := newB (H := H10) (p := p8) (.lst (ys ++ [.ref p]))
        dsimp only
        rw [q14]
        clear q14
        try with_reducible refine g_go ?_
        try with_reducible refine nil_go ?_
        try with_reducible first | refine hN8 _ _ ?_ | refine hN6 _ _ ?_ | refine hN4 _ _ ?_ | refine hN2 _ _ ?_
        try with_reducible refine seq_go fun N8 hN8 => ?_
        exact ⟨_, _, _, ys ++ [.ref p], cs ++ [bd], rfl, s9.trans ((But.of s10).trans s14), e14, bds_but (Al2.snoc (bds_same ac9 s10) one) s14 hl10, ext bd.2.1 bd rfl⟩
    · try with_reducible refine g_go ?_
      try with_reducible refine nil_go ?_
      try with_reducible first | refine hN6 _ _ ?_ | refine hN4 _ _ ?_ | refine hN2 _ _ ?_
      try with_reducible refine seq_go fun N6 hN6 => ?_
      refine ⟨_, rfl, iteF ?_⟩
      have hl10 := s10 _ _ hl9
      have one : BdQ K H10 64 (.ref p) bd := ⟨p, pa, pc, rfl, x1, x2, x3, x4, x5, x6, x7⟩
      try with_reducible refine g_go ?_
      try with_reducible refine nil_go ?_
      try with_reducible first | refine hN6 _ _ ?_ | refine hN4 _ _ ?_ | refine hN2 _ _ ?_
      try with_reducible refine seq_go fun N6 hN6 => ?_
      refine ⟨_, rfl, .inl ⟨rfl, _, SqL.of hl10⟩, _, rfl, p8, _, _, rfl, rfl, hl10, ly, ?_⟩
      obtain ⟨H14, q14, s14, e14⟩ := newB (H := H10) (p := p8) (.lst (ys ++ [.ref p]))
      dsimp only
      rw [q14]
      clear q14
      try with_reducible refine g_go ?_
      try with_reducible refine nil_go ?_
      try with_reducible first | refine hN6 _ _ ?_ | refine hN4 _ _ ?_ | refine hN2 _ _ ?_
      try with_reducible refine seq_go fun N6 hN6 => ?_
      exact ⟨_, _, _, ys ++ [.ref p], cs ++ [bd], rfl, s9.trans ((But.of s10).trans s14), e14, bds_but (Al2.snoc (bds_same ac9 s10) one) s14 hl10, ext bd.2.1 bd rfl⟩
  · rintro σ1 H9 ⟨u7, u8, u9, ys, cs, rfl, s9, hl9, ac9, pc9, wc9⟩
    rw [hz, List.take_length] at pc9 wc9
    have lc := congrArg List.length pc9
    simp at lc
    try with_reducible refine g_go ?_
    try with_reducible refine nil_go ?_
    try with_reducible first | refine hN4 _ _ ?_ | refine hN2 _ _ ?_
    try with_reducible refine seq_go fun N4 hN4 => ?_
    refine ⟨_, rfl, k p8 ys cs n6 H9 ?_ nf0 nfb8 (s9 _ _ (Ne.symm nfb8) hb8) hl9 ac9 lc (asc.of_places pc9) (fun a ha => ?_) fun a ha => ?_⟩
    · intro a o na ho
      try with_reducible refine g_go ?_
      try with_reducible refine nil_go ?_
      try with_reducible first | refine hN6 _ _ ?_ | refine hN4 _ _ ?_ | refine hN2 _ _ ?_
      try with_reducible refine seq_go fun N6 hN6 => ?_
      exact s9 a o (ne_of_none ho nf0) (s08 a o na ho)
    · have z : a.2.2 ∈ cs.map (·.2.2) := List.mem_map_of_mem ha
      rw [wc9] at z
      obtain ⟨a', ha', e'⟩ := List.mem_map.mp z
      rw [← e']
      try with_reducible refine g_go ?_
      try with_reducible refine nil_go ?_
      try with_reducible first | refine hN6 _ _ ?_ | refine hN4 _ _ ?_ | refine hN2 _ _ ?_
      try with_reducible refine seq_go fun N6 hN6 => ?_
      exact hw a' ha'
    · have z : a.1 ∈ cs.map (·.1) := List.mem_map_of_mem ha
      rw [pc9] at z
      obtain ⟨a', ha', e'⟩ := List.mem_map.mp z
      rw [← e']
      try with_reducible refine g_go ?_
      try with_reducible refine nil_go ?_
      try with_reducible first | refine hN6 _ _ ?_ | refine hN4 _ _ ?_ | refine hN2 _ _ ?_
      try with_reducible refine seq_go fun N6 hN6 => ?_
      exact six a' ha'
noncomputable def sp_law_likes (K : PySem.W.Frag) : Sp := fun vs H Q _ => ∃ (b : Addr) (n : Int), vs = [.ref b] ∧ H b = some (.lst [.int n]) ∧ ∀ (f : Addr) (xs : List V) (bs : List Bod) (W : Int) (n1 : Int) (H1 : Hp), But b H H1 → H f = none → f ≠ b → H1 b = some (.lst [.int n1]) → H1 f = some (.lst xs) → Al2 (BdQ K H1 64) xs bs → 1 ≤ bs.length → bs.length ≤ 12 → Asc bs → 1 ≤ W → W ≤ 1000 → (∀ a ∈ bs, a.2.2 = W) → (∀ a ∈ bs, Six 720 a.1) → Q (.ref f) H1
theorem sc_law_likes : FnScope ["_law_box_here", "_law_weight", "_law_place", "_law_found", "_law_k"] ["_law_box_here"] (defScope (top 53)) := ⟨rfl, rfl, rfl, by decide +kernel, rfl, by decide +kernel, by decide +kernel⟩
theorem ok_law_likes (D : Df K mg "_law_likes" (top 53) ["_law_box_here"]) (T : Tx K mg) (F_law_take : Fn P w K mg base 1 "_law_take" ["_law_box_here", "_law_many"] spTake) (F_law_small : Fn P w K mg base 2 "_law_small" ["_law_box_here"] (sp_law_small K)) (F_law_plus : Fn P w K mg base 2 "_law_plus" ["_law_one", "_law_other"] (sp_law_plus K)) (F_law_led_together : Fn P w K mg base 3 "_law_led_together" ["_law_box_here", "_law_world_here"] (sp_law_led_together K)) (F_law_fit : Fn P w K mg base 1 "_law_fit" ["_law_top", "_law_bottom"] (sp_law_fit K)) : Fn P w K mg base 4 "_law_likes" ["_law_box_here"] (sp_law_likes K) := by
  try with_reducible refine g_go ?_
  try with_reducible refine nil_go ?_
  try with_reducible refine hN2 _ _ ?_
  try with_reducible refine seq_go fun N2 hN2 => ?_
  refine D.ok0 sc_law_likes (fun vs H Q E h => ?_) (fun f cdv A outer s H vs Q E hr h => ?_)
  · obtain ⟨bx, n, rfl, _⟩ := h
    rfl
  obtain ⟨bx, n, rfl, hb_bx, k⟩ := h
  refine ⟨_, (pss_cons (ps_set (i := 1) sc_law_likes.nd rfl (Or.inl rfl) (pe_op op_add pe_int (pe_fn F_law_take (by decide) hr (by rfl) passE0 (pa_cons (pv 0) (pa_cons (pe_ix ix_list (pe_lst (pa_cons pe_int (pa_cons pe_int pa_nil))) (pe_fn F_law_take (by decide) hr (by rfl) passE0 (pa_cons (pv 0) (pa_cons pe_int pa_nil))) (fun _ _ => rfl)) pa_nil)))))
      (pss_cons (ps_set (i := 2) sc_law_likes.nd rfl (Or.inl rfl) (pe_fn F_law_small (by decide) hr (by rfl) passE0 (pa_cons (pv 0) pa_nil)))
      (pss_cons (ps_set (i := 3) sc_law_likes.nd rfl (Or.inl rfl) (pe_lst pa_nil))
      (pss_cons (ps_for PassesOwn.never rfl (pi_range1 (by rfl) T.b_range (pa_cons (pe_op op_add pe_int (pe_fn F_law_take (by decide) hr (by rfl) passE0 (pa_cons (pv 0) (pa_cons (pe_ix ix_list (pe_lst (pa_cons pe_int (pa_cons pe_int (pa_cons pe_int pa_nil)))) (pe_fn F_law_take (by decide) hr (by rfl) passE0 (pa_cons (pv 0) (pa_cons pe_int pa_nil))) (fun _ _ => rfl)) pa_nil)))) pa_nil)) (pg_name (i := 4) sc_law_likes.nd rfl (Or.inl rfl)) (pss_cons (ps_expr (pe_bm PySem.F.plainAttrs_list PySem.F.slot_list_append PySem.F.type_list_append mt_append (pv 3) (pa_cons (pe_tup (pa_cons (pv 2) (pa_cons (pe_fn F_law_small (by decide) hr (by rfl) passE0 (pa_cons (pv 0) pa_nil)) (pa_cons (pv 1) pa_nil)))) pa_nil)))
      (pss_one (ps_set (i := 2) sc_law_likes.nd rfl (Or.inl rfl) (pe_fn F_law_plus (by decide) hr (by rfl) passE0 (pa_cons (pv 2) (pa_cons (pe_fn F_law_fit (by decide) hr (by rfl) passE0 (pa_cons (pe_op op_add pe_int (pe_fn F_law_take (by decide) hr (by rfl) passE0 (pa_cons (pv 0) (pa_cons pe_int pa_nil)))) (pa_cons (pe_op op_add pe_int (pe_fn F_law_take (by decide) hr (by rfl) passE0 (pa_cons (pv 0) (pa_cons pe_int pa_nil)))) pa_nil))) pa_nil)))))))
      (pss_cons (ps_if (pt_cmpR op_eq (pe_fn F_law_take (by decide) hr (by rfl) passE0 (pa_cons (pv 0) (pa_cons pe_int pa_nil))) pe_int (nomark _)) (pss_one (ps_set (i := 3) sc_law_likes.nd rfl (Or.inl rfl) (pe_fn F_law_led_together (by decide) hr (by rfl) passE0 (pa_cons (pv 0) (pa_cons (pv 3) pa_nil))))) pss_nil)
      (pss_one (ps_ret (pv 3)))))))), ?_⟩
  try dsimp only [cxK, cxK0]
  have sm9 : ∀ i : Int, -(2 ^ 64) < i → i < 2 ^ 64 → Bd 9000 i := fun i h1 h2 => (Bd.small h1 h2).mono (by decide)
  try with_reducible refine g_go ?_
  try with_reducible refine nil_go ?_
  try with_reducible refine hN2 _ _ ?_
  try with_reducible refine seq_go fun N2 hN2 => ?_
  refine ⟨_, rfl, by show 2 ≤ sizeLine; decide, ?_⟩
  intro p33 n33
  obtain ⟨H33, q33, s33, e33⟩ := newO n33 (.lst [.int ((3 : Int)), .int ((1000 : Int))])
  rw [q33]
  clear q33
  have hB34 := s33 _ _ hb_bx
  have h33 := SqL.of (K := K) e33
  have ap33 : p33 ≠ bx := fun z => by rw [z, hb_bx] at n33; cases n33
  try with_reducible refine g_go ?_
  try with_reducible refine nil_go ?_
  try with_reducible refine hN2 _ _ ?_
  try with_reducible refine seq_go fun N2 hN2 => ?_
  refine ⟨_, rfl, _, _, _, rfl, hB34, (by decide +kernel), ((Bd.small (i := (2 : Int)) (by decide) (by decide)).mono (by decide)), fun d35 n35 H35 lo35 hi35 s35 hb35 => ?_⟩
  obtain ⟨v36, ev36, m37⟩ := atI_mem ([(3 : Int), (1000 : Int)] : List Int) d35 (by omega) (by show _ < (2 : Int); omega)
  have bv36 : 3 ≤ v36 ∧ v36 ≤ 1000 := (show ∀ z ∈ ([(3 : Int), (1000 : Int)] : List Int), 3 ≤ z ∧ z ≤ 1000 by decide +kernel) v36 m37
  replace h33 := (But.seq s35 ap33 h33)
  try with_reducible refine g_go ?_
  try with_reducible refine nil_go ?_
  try with_reducible refine hN2 _ _ ?_
  try with_reducible refine seq_go fun N2 hN2 => ?_
  refine ⟨p33, _, _, _, rfl, rfl, h33, ev36, _, _, _, rfl, hb35, (by first | omega | exact Int.mul_pos (by omega) (by omega)), ((Bd.small (i := v36) (by omega) (by omega)).mono (by decide)), fun d38 n38 H38 lo38 hi38 s38 hb38 => ?_⟩
  try with_reducible refine g_go ?_
  try with_reducible refine nil_go ?_
  try with_reducible refine hN2 _ _ ?_
  try with_reducible refine seq_go fun N2 hN2 => ?_
  refine ⟨_, _, rfl, rfl, ?_⟩
  try with_reducible refine g_go ?_
  try with_reducible refine nil_go ?_
  try with_reducible refine hN2 _ _ ?_
  try with_reducible refine seq_go fun N2 hN2 => ?_
  refine ⟨_, rfl, _, _, rfl, hb38, fun p_r39 r39 H39 n39 s39 hb39 g_r39 d_r39 t0_r39 => ?_⟩
  try with_reducible refine g_go ?_
  try with_reducible refine nil_go ?_
  try with_reducible refine hN2 _ _ ?_
  try with_reducible refine seq_go fun N2 hN2 => ?_
  refine ⟨by show 0 ≤ sizeLine; decide, ?_⟩
  intro p40 n40
  obtain ⟨H40, q40, s40, e40⟩ := newO n40 (.lst [])
  rw [q40]
  clear q40
  have hB41 := s40 _ _ hb39
  have h40 := SqL.of (K := K) e40
  have ap40 : p40 ≠ bx := fun z => by rw [z, hb39] at n40; cases n40
  try with_reducible refine g_go ?_
  try with_reducible refine nil_go ?_
  try with_reducible refine hN2 _ _ ?_
  try with_reducible refine seq_go fun N2 hN2 => ?_
  refine ⟨_, rfl, by show 3 ≤ sizeLine; decide, ?_⟩
  intro p42 n42
  obtain ⟨H42, q42, s42, e42⟩ := newO n42 (.lst [.int ((4 : Int)), .int ((6 : Int)), .int ((12 : Int))])
  rw [q42]
  clear q42
  have hB43 := s42 _ _ hB41
  have h42 := SqL.of (K := K) e42
  have ap42 : p42 ≠ bx := fun z => by rw [z, hB41] at n42; cases n42
  try with_reducible refine g_go ?_
  try with_reducible refine nil_go ?_
  try with_reducible refine hN2 _ _ ?_
  try with_reducible refine seq_go fun N2 hN2 => ?_
  refine ⟨_, rfl, _, _, _, rfl, hB43, (by decide +kernel), ((Bd.small (i := (3 : Int)) (by decide) (by decide)).mono (by decide)), fun d44 n44 H44 lo44 hi44 s44 hb44 => ?_⟩
  obtain ⟨v45, ev45, m46⟩ := atI_mem ([(4 : Int), (6 : Int), (12 : Int)] : List Int) d44 (by omega) (by show _ < (3 : Int); omega)
  have bv45 : 4 ≤ v45 ∧ v45 ≤ 12 := (show ∀ z ∈ ([(4 : Int), (6 : Int), (12 : Int)] : List Int), 4 ≤ z ∧ z ≤ 12 by decide +kernel) v45 m46
  replace h42 := (But.seq s44 ap42 h42)
  try with_reducible refine g_go ?_
  try with_reducible refine nil_go ?_
  try with_reducible refine hN2 _ _ ?_
  try with_reducible refine seq_go fun N2 hN2 => ?_
  refine ⟨p42, _, _, _, rfl, rfl, h42, ev45, _, _, _, rfl, hb44, (by first | omega | exact Int.mul_pos (by omega) (by omega)), ((Bd.small (i := v45) (by omega) (by omega)).mono (by decide)), fun d47 n47 H47 lo47 hi47 s47 hb47 => ?_⟩
  try with_reducible refine g_go ?_
  try with_reducible refine nil_go ?_
  try with_reducible refine hN2 _ _ ?_
  try with_reducible refine seq_go fun N2 hN2 => ?_
  refine ⟨_, _, rfl, rfl, ?_⟩
  replace g_r39 := (But.tup s47 hb44 (But.tup s44 hB43 (Kw.Same.tup s42 (Kw.Same.tup s40 g_r39))))
  have nf0 : H p40 = none := none_of_but ((But.of s33).trans (s35.trans (s38.trans s39))) n40 ap40
  try with_reducible refine g_go ?_
  try with_reducible refine nil_go ?_
  try with_reducible refine hN2 _ _ ?_
  try with_reducible refine seq_go fun N2 hN2 => ?_
  refine ⟨_, rfl, by omega, by omega, for_range (n := (((1 : Int) + d47)).toNat) (fun i σ1 H' => ∃ (p : Addr) (x : Rat) (rk : Option V) (xs : List V) (bs : List Bod) (nb : Int), σ1 = [some (.ref bx), some (.int (((1 : Int) + d38))), some (.ref p), some (.ref p40), rk] ∧ But bx H H' ∧ H' bx = some (.lst [.int nb]) ∧ H' p40 = some (.lst xs) ∧ Al2 (BdQ K H' 64) xs bs ∧ FQ K H' p x ∧ Six (72 + 54 * (i : Int)) x ∧ bs.length = i ∧ Asc bs ∧ (∀ a ∈ bs, a.1 < x) ∧ (∀ a ∈ bs, a.2.2 = ((1 : Int) + d38)) ∧ ∀ a ∈ bs, Six 720 a.1)
    ⟨p_r39, r39, _, [], [], _, rfl, ((But.of s33).trans (s35.trans (s38.trans (s39.trans ((But.of s40).trans ((But.of s42).trans (s44.trans s47))))))), hb47, (s47 _ _ ap40 (s44 _ _ ap40 (s42 _ _ e40))), trivial, g_r39, Six.mono t0_r39 (by omega), rfl, List.Pairwise.nil, (fun _ z => nomatch z), (fun _ z => nomatch z), fun _ z => nomatch z⟩ ?_ ?_⟩
  · rintro i σ1 H4 hi4 ⟨p, x, rk, xs, bs, nb, rfl, s4, hb4, hf4, al, g, x4, len, asc, below, hw, six⟩
    have hi12 : i < 12 := by omega
    try with_reducible refine g_go ?_
    try with_reducible refine nil_go ?_
    try with_reducible first | refine hN4 _ _ ?_ | refine hN2 _ _ ?_
    try with_reducible refine seq_go fun N4 hN4 => ?_
    refine ⟨_, rfl, .inl ⟨rfl, _, SqL.of hf4⟩, _, rfl, _, rfl, bx, nb, rfl, hb4, fun p5 x5 H5 n5 s5 hb5 g5 d5 ss5 => ?_⟩
    have d4 : FB 64 x := x4.fb (by omega)
    have x720 : Six 720 x := x4.mono (by omega)
    try with_reducible refine g_go ?_
    try with_reducible refine nil_go ?_
    try with_reducible first | refine hN4 _ _ ?_ | refine hN2 _ _ ?_
    try with_reducible refine seq_go fun N4 hN4 => ?_
    refine ⟨_, rfl, by show 3 ≤ sizeLine; decide, ?_⟩
    intro p907 n907
    obtain ⟨H907, q907, s907, e907⟩ := newO n907 (.tup [.ref p, .ref p5, .int (((1 : Int) + d38))])
    rw [q907]
    clear q907
    have hf5 := s5 _ _ ap40 hf4
    have hf7 := s907 _ _ hf5
    have hb7 := s907 _ _ hb5
    have lx := Al2.len al
    try with_reducible refine g_go ?_
    try with_reducible refine nil_go ?_
    try with_reducible first | refine hN4 _ _ ?_ | refine hN2 _ _ ?_
    try with_reducible refine seq_go fun N4 hN4 => ?_
    refine ⟨p40, _, _, rfl, rfl, hf7, by rw [lx, len]; exact Nat.lt_of_lt_of_le hi12 (by decide), ?_⟩
    have al7 := bds_same (bds_but al s5 hb4) s907
    have g7 := Kw.Same.tup s907 (s5.tup hb4 g)
    have g57 := Kw.Same.tup s907 g5
    have one7 : BdQ K H907 64 (.ref p907) (x, x5, ((1 : Int) + d38)) := ⟨p907, p, p5, rfl, SqT.of e907, g7, g57, d4, ss5.fb (by decide), (by show (1 : Int) ≤ ((1 : Int) + d38); omega), (by show ((1 : Int) + d38) ≤ (10000 : Int); omega)⟩
    obtain ⟨H8, q8, s8, e8⟩ := newB (H := H907) (p := p40) (.lst (xs ++ [.ref p907]))
    dsimp only
    rw [q8]
    clear q8
    have hb8 := s8 _ _ (Ne.symm ap40) hb7
    have al8 : Al2 (BdQ K H8 64) (xs ++ [.ref p907]) (bs ++ [(x, x5, ((1 : Int) + d38))]) := bds_but (Al2.snoc al7 one7) s8 hf7
    have g8 := s8.tup hf7 g7
    have all8 : But bx H H8 := fun a o na ho => s8 a o (ne_of_none ho nf0) ((s4.trans (s5.trans (But.of s907))) a o na ho)
    try with_reducible refine g_go ?_
    try with_reducible refine nil_go ?_
    try with_reducible first | refine hN4 _ _ ?_ | refine hN2 _ _ ?_
    try with_reducible refine seq_go fun N4 hN4 => ?_
    refine ⟨_, rfl, _, rfl, bx, 9, _, rfl, hb8, by decide, sm9 _ (by decide) (by decide), fun d9 n9 H9 lo9 hi9 s9 hb9 => ?_⟩
    try with_reducible refine g_go ?_
    try with_reducible refine nil_go ?_
    try with_reducible first | refine hN4 _ _ ?_ | refine hN2 _ _ ?_
    try with_reducible refine seq_go fun N4 hN4 => ?_
    refine ⟨_, _, rfl, rfl, _, rfl, bx, 3, _, rfl, hb9, by decide, sm9 _ (by decide) (by decide), fun d10 n10 H10 lo10 hi10 s10 hb10 => ?_⟩
    try with_reducible refine g_go ?_
    try with_reducible refine nil_go ?_
    try with_reducible first | refine hN4 _ _ ?_ | refine hN2 _ _ ?_
    try with_reducible refine seq_go fun N4 hN4 => ?_
    refine ⟨_, _, rfl, rfl, _, _, rfl, sm9 _ (by omega) (by omega), by omega, fun p11 H11 s11 g11 => ?_⟩
    have s810 := s9.trans s10
    have s811 := s810.trans (But.of s11)
    have sf : Six 54 (Rat.divInt (1 + d9) (1 + d10)) := (six_fit (N := 9) (by omega) (by omega) (by omega) (by omega)).mono (by decide)
    have df : FB 64 (Rat.divInt (1 + d9) (1 + d10)) := sf.fb (by decide)
    have pos : (0 : Rat) < Rat.divInt (1 + d9) (1 + d10) := q_divpos (by omega) (by omega)
    try with_reducible refine g_go ?_
    try with_reducible refine nil_go ?_
    try with_reducible first | refine hN4 _ _ ?_ | refine hN2 _ _ ?_
    try with_reducible refine seq_go fun N4 hN4 => ?_
    refine ⟨p, x, 64, p11, _, 64, rfl, s811.tup hb8 g8, d4, g11, df, by decide, fun p12 H12 s12 g12 => ?_⟩
    have s812 := s811.trans (But.of s12)
    try with_reducible refine g_go ?_
    try with_reducible refine nil_go ?_
    try with_reducible first | refine hN4 _ _ ?_ | refine hN2 _ _ ?_
    try with_reducible refine seq_go fun N4 hN4 => ?_
    refine ⟨p12, _, _, _, _, n10, rfl, all8.trans s812, s12 _ _ (s11 _ _ hb10), s812 _ _ ap40 e8, bds_but al8 s812 hb8, g12, (x4.add sf).mono (by omega), by simp [len], asc.snoc below, (fun a ha => ?_), (fun a ha => ?_), fun a ha => ?_⟩
    · rcases List.mem_append.mp ha with z | z
      · have := below a z
        grind
      · rw [List.mem_singleton.mp z]
        grind
    · rcases List.mem_append.mp ha with z | z
      · try with_reducible refine g_go ?_
        try with_reducible refine nil_go ?_
        try with_reducible first | refine hN8 _ _ ?_ | refine hN6 _ _ ?_ | refine hN4 _ _ ?_ | refine hN2 _ _ ?_
        try with_reducible refine seq_go fun N8 hN8 => ?_
        exact hw a z
      · rw [List.mem_singleton.mp z]
    · rcases List.mem_append.mp ha with z | z
      · try with_reducible refine g_go ?_
        try with_reducible refine nil_go ?_
        try with_reducible first | refine hN8 _ _ ?_ | refine hN6 _ _ ?_ | refine hN4 _ _ ?_ | refine hN2 _ _ ?_
        try with_reducible refine seq_go fun N8 hN8 => ?_
        exact six a z
      · rw [List.mem_singleton.mp z]
        try with_reducible refine g_go ?_
        try with_reducible refine nil_go ?_
        try with_reducible first | refine hN8 _ _ ?_ | refine hN6 _ _ ?_ | refine hN4 _ _ ?_ | refine hN2 _ _ ?_
        try with_reducible refine seq_go fun N8 hN8 => ?_
        exact x720
  · rintro σ1 H4 ⟨p, x, rk, xs, bs, nb, rfl, s4, hb4, hf4, al, g, x4, len, asc, below, hw, six⟩
    have l1 : 1 ≤ bs.length := by omega
    have l12 : bs.length ≤ 12 := by omega
    try with_reducible refine g_go ?_
    try with_reducible refine nil_go ?_
    try with_reducible first | refine hN4 _ _ ?_ | refine hN2 _ _ ?_
    try with_reducible refine seq_go fun N4 hN4 => ?_
    refine ⟨_, rfl, bx, 3, _, rfl, hb4, by decide, sm9 _ (by decide) (by decide), fun d6 n6 H6 lo6 hi6 s6 hb6 => ?_⟩
    have hf6 := s6 _ _ ap40 hf4
    have al6 := bds_but al s6 hb4
    have s46 := s4.trans s6
    try with_reducible refine g_go ?_
    try with_reducible refine nil_go ?_
    try with_reducible first | refine hN4 _ _ ?_ | refine hN2 _ _ ?_
    try with_reducible refine seq_go fun N4 hN4 => ?_
    refine ⟨rfl, _, rfl, ?_⟩
    try with_reducible refine g_go ?_
    try with_reducible refine nil_go ?_
    try with_reducible first | refine hN4 _ _ ?_ | refine hN2 _ _ ?_
    try with_reducible refine seq_go fun N4 hN4 => ?_
    refine if_decI (fun z => ?_) (fun z => ?_)
    · try with_reducible refine g_go ?_
      try with_reducible refine nil_go ?_
      try with_reducible first | refine hN6 _ _ ?_ | refine hN4 _ _ ?_ | refine hN2 _ _ ?_
      try with_reducible refine seq_go fun N6 hN6 => ?_
      refine ⟨_, rfl, _, rfl, bx, n6, p40, xs, bs, _, rfl, hb6, ap40, hf6, al6, l1, l12, asc, hw, six, fun f1 xs1 bs1 n7 H7 s7 nf7 nfb7 hb7 hf7 al7 len7 asc7 hw7 six7 => ?_⟩
      try with_reducible refine g_go ?_
      try with_reducible refine nil_go ?_
      try with_reducible first | refine hN6 _ _ ?_ | refine hN4 _ _ ?_ | refine hN2 _ _ ?_
      try with_reducible refine seq_go fun N6 hN6 => ?_
      exact ⟨_, rfl, k f1 xs1 bs1 _ n7 H7 (s46.trans s7) (none_of_but s46 nf7 nfb7) nfb7 hb7 hf7 al7 (by omega) (by omega) asc7 (by omega) (by omega) hw7 six7⟩
    · try with_reducible refine g_go ?_
      try with_reducible refine nil_go ?_
      try with_reducible first | refine hN6 _ _ ?_ | refine hN4 _ _ ?_ | refine hN2 _ _ ?_
      try with_reducible refine seq_go fun N6 hN6 => ?_
      exact ⟨_, rfl, k p40 xs bs _ n6 H6 s46 nf0 ap40 hb6 hf6 al6 l1 l12 asc (by omega) (by omega) hw six⟩
noncomputable def sp_law_moment_of (K : PySem.W.Frag) : Sp := fun vs H Q _ => ∃ (b : Addr) (n : Int) (f : Addr) (xs : List V) (bs : List Bod), vs = [.ref b, .ref f] ∧ H b = some (.lst [.int n]) ∧ f ≠ b ∧ H f = some (.lst xs) ∧ Al2 (BdQ K H 64) xs bs ∧ 1 ≤ bs.length ∧ bs.length ≤ 12 ∧ Asc bs ∧
  ∀ (p : Addr) (t : Rat) (n1 : Int) (H1 : Hp), But b H H1 → H1 b = some (.lst [.int n1]) → FQ K H1 p t → FB 258 t → 0 ≤ t → Q (.ref p) H1
theorem sc_law_moment_of : FnScope ["_law_box_here", "_law_world_here", "_law_later", "_law_number", "_law_one", "_law_other"] ["_law_box_here", "_law_world_here"] (defScope (top 55)) := ⟨rfl, rfl, rfl, by decide +kernel, rfl, by decide +kernel, by decide +kernel⟩
theorem ok_law_moment_of (D : Df K mg "_law_moment_of" (top 55) ["_law_box_here", "_law_world_here"]) (T : Tx K mg) (F_law_take : Fn P w K mg base 1 "_law_take" ["_law_box_here", "_law_many"] spTake) (F_law_less : Fn P w K mg base 1 "_law_less" ["_law_one", "_law_other"] (sp_law_less K)) (F_law_minus : Fn P w K mg base 2 "_law_minus" ["_law_one", "_law_other"] (sp_law_minus K)) (F_law_over : Fn P w K mg base 2 "_law_over" ["_law_one", "_law_other"] (sp_law_over K)) (F_law_fit : Fn P w K mg base 1 "_law_fit" ["_law_top", "_law_bottom"] (sp_law_fit K)) : Fn P w K mg base 3 "_law_moment_of" ["_law_box_here", "_law_world_here"] (sp_law_moment_of K) := by
  try with_reducible refine g_go ?_
  try with_reducible refine nil_go ?_
  try with_reducible refine hN2 _ _ ?_
  try with_reducible refine seq_go fun N2 hN2 => ?_
  refine D.ok0 sc_law_moment_of (fun vs H Q E h => ?_) (fun f cdv A outer s H vs Q E hr h => ?_)
  · obtain ⟨b, n, f, xs, bs, rfl, _⟩ := h
    rfl
  obtain ⟨b, n, f, xs, bs, rfl, hb, nfb, hf, al, l1, l12, asc, k⟩ := h
  refine ⟨_, (pss_cons (ps_set (i := 2) sc_law_moment_of.nd rfl (Or.inl rfl) (pe_fn F_law_take (by decide) hr (by rfl) passE0 (pa_cons (pv 0) (pa_cons (pe_callB call_len (by rfl) T.b_len PyProof.Rows.Boot.«len» (pa_cons (pv 1) pa_nil)) pa_nil))))
      (pss_cons (ps_set (i := 3) sc_law_moment_of.nd rfl (Or.inl rfl) (pe_fn F_law_take (by decide) hr (by rfl) passE0 (pa_cons (pv 0) (pa_cons (pe_callB call_len (by rfl) T.b_len PyProof.Rows.Boot.«len» (pa_cons (pv 1) pa_nil)) pa_nil))))
      (pss_cons (ps_set (i := 4) sc_law_moment_of.nd rfl (Or.inl rfl) (pe_ix ix_list (pv 1) (pe_callB (call_min2 rfl) (by rfl) T.b_min PyProof.Rows.Boot.«min» (pa_cons (pv 3) (pa_cons (pv 2) pa_nil))) (fun _ _ => rfl)))
      (pss_cons (ps_set (i := 5) sc_law_moment_of.nd rfl (Or.inl rfl) (pe_ix ix_list (pv 1) (pe_callB (call_max2 rfl) (by rfl) T.b_max PyProof.Rows.Boot.«max» (pa_cons (pv 3) (pa_cons (pv 2) pa_nil))) (fun _ _ => rfl)))
      (pss_cons (ps_if (pw_and (pt_cmpR op_eq (pe_fn F_law_take (by decide) hr (by rfl) passE0 (pa_cons (pv 0) (pa_cons pe_int pa_nil))) pe_int (nomark _)) (pw_and1 (pt_val (pe_fn F_law_less (by decide) hr (by rfl) passE0 (pa_cons (pe_ix ix_tup (pv 5) pe_int (fun _ _ => rfl)) (pa_cons (pe_ix ix_tup (pv 4) pe_int (fun _ _ => rfl)) pa_nil))) (fun _ => rfl)))).pt (pss_one (ps_ret (pe_fn F_law_over (by decide) hr (by rfl) passE0 (pa_cons (pe_fn F_law_minus (by decide) hr (by rfl) passE0 (pa_cons (pe_ix ix_tup (pv 5) pe_int (fun _ _ => rfl)) (pa_cons (pe_ix ix_tup (pv 4) pe_int (fun _ _ => rfl)) pa_nil))) (pa_cons (pe_fn F_law_minus (by decide) hr (by rfl) passE0 (pa_cons (pe_ix ix_tup (pv 4) pe_int (fun _ _ => rfl)) (pa_cons (pe_ix ix_tup (pv 5) pe_int (fun _ _ => rfl)) pa_nil))) pa_nil))))) pss_nil)
      (pss_one (ps_ret (pe_fn F_law_fit (by decide) hr (by rfl) passE0 (pa_cons (pe_fn F_law_take (by decide) hr (by rfl) passE0 (pa_cons (pv 0) (pa_cons pe_int pa_nil))) (pa_cons (pe_op op_add pe_int (pe_fn F_law_take (by decide) hr (by rfl) passE0 (pa_cons (pv 0) (pa_cons pe_int pa_nil)))) pa_nil)))))))))), ?_⟩
  try dsimp only [cxK, cxK0]
  have sm9 : ∀ i : Int, -(2 ^ 64) < i → i < 2 ^ 64 → Bd 9000 i := fun i h1 h2 => (Bd.small h1 h2).mono (by decide)
  have hz := Al2.len al
  try with_reducible refine g_go ?_
  try with_reducible refine nil_go ?_
  try with_reducible refine hN2 _ _ ?_
  try with_reducible refine seq_go fun N2 hN2 => ?_
  refine ⟨_, rfl, _, rfl, _, _, rfl, .inl ⟨_, SqL.of hf, rfl⟩, b, _, _, rfl, hb, by omega, sm9 _ (by omega) (by omega), fun d1 n1 H1 lo1 hi1 s1 hb1 => ?_⟩
  have hf1 := s1 _ _ nfb hf
  try with_reducible refine g_go ?_
  try with_reducible refine nil_go ?_
  try with_reducible refine hN2 _ _ ?_
  try with_reducible refine seq_go fun N2 hN2 => ?_
  refine ⟨_, rfl, _, rfl, _, _, rfl, .inl ⟨_, SqL.of hf1, rfl⟩, b, _, _, rfl, hb1, by omega, sm9 _ (by omega) (by omega), fun d2 n2 H2 lo2 hi2 s2 hb2 => ?_⟩
  have s12 := s1.trans s2
  have hf2 := s12 _ _ nfb hf
  have al2 := bds_but al s12 hb
  obtain ⟨i, j, hij, hjx, ei, ej⟩ : ∃ i j : Nat, i ≤ j ∧ j < xs.length ∧ (if d1 < d2 then d1 else d2) = (i : Int) ∧ (if d1 > d2 then d1 else d2) = (j : Int) := by
    by_cases c : d1 < d2
    · try with_reducible refine g_go ?_
      try with_reducible refine nil_go ?_
      try with_reducible first | refine hN6 _ _ ?_ | refine hN4 _ _ ?_ | refine hN2 _ _ ?_
      try with_reducible refine seq_go fun N6 hN6 => ?_
      exact ⟨d1.toNat, d2.toNat, by omega, by omega, by rw [if_pos c]; omega, by rw [if_neg (by omega)]; omega⟩
    · try with_reducible refine g_go ?_
      try with_reducible refine nil_go ?_
      try with_reducible first | refine hN6 _ _ ?_ | refine hN4 _ _ ?_ | refine hN2 _ _ ?_
      try with_reducible refine seq_go fun N6 hN6 => ?_
      exact ⟨d2.toNat, d1.toNat, by omega, by omega, by rw [if_neg c]; omega, by split <;> omega⟩
  obtain ⟨x, hx⟩ : ∃ x, xs[i]? = some x := ⟨_, List.getElem?_eq_getElem (by omega)⟩
  obtain ⟨y, hy⟩ : ∃ y, xs[j]? = some y := ⟨_, List.getElem?_eq_getElem hjx⟩
  obtain ⟨bi, hbi, p1, a1, c1, rfl, x1, x2, x3, x4, x5, _⟩ := Al2.get al2 hx
  obtain ⟨bj, hbj, p2, a2, c2, rfl, y1, y2, y3, y4, y5, _⟩ := Al2.get al2 hy
  have le := asc.le hbi hbj hij
  have at1 : atI xs (if d1 < d2 then d1 else d2) = some (.ref p1) := by rw [ei]; exact atI_nat hx
  have at2 : atI xs (if d1 > d2 then d1 else d2) = some (.ref p2) := by rw [ej]; exact atI_nat hy
  try with_reducible refine g_go ?_
  try with_reducible refine nil_go ?_
  try with_reducible refine hN2 _ _ ?_
  try with_reducible refine seq_go fun N2 hN2 => ?_
  refine ⟨_, rfl, _, rfl, _, rfl, _, _, rfl, f, _, _, _, rfl, rfl, SqL.of hf2, at1, ?_⟩
  try with_reducible refine g_go ?_
  try with_reducible refine nil_go ?_
  try with_reducible refine hN2 _ _ ?_
  try with_reducible refine seq_go fun N2 hN2 => ?_
  refine ⟨_, rfl, _, rfl, _, rfl, _, _, rfl, f, _, _, _, rfl, rfl, SqL.of hf2, at2, ?_⟩
  try with_reducible refine g_go ?_
  try with_reducible refine nil_go ?_
  try with_reducible refine hN2 _ _ ?_
  try with_reducible refine seq_go fun N2 hN2 => ?_
  refine ⟨_, rfl, b, 2, _, rfl, hb2, by decide, sm9 _ (by decide) (by decide), fun d3 n3 H3 lo3 hi3 s3 hb3 => ?_⟩
  have s13 := s12.trans s3
  try with_reducible refine g_go ?_
  try with_reducible refine nil_go ?_
  try with_reducible refine hN2 _ _ ?_
  try with_reducible refine seq_go fun N2 hN2 => ?_
  refine ⟨rfl, _, rfl, ?_⟩
  try with_reducible refine g_go ?_
  try with_reducible refine nil_go ?_
  try with_reducible refine hN2 _ _ ?_
  try with_reducible refine seq_go fun N2 hN2 => ?_
  refine if_decI (fun z => ?_) (fun z => ?_)
  · have x1' := s3.tup hb2 x1
    have y1' := s3.tup hb2 y1
    try with_reducible refine g_go ?_
    try with_reducible refine nil_go ?_
    try with_reducible first | refine hN4 _ _ ?_ | refine hN2 _ _ ?_
    try with_reducible refine seq_go fun N4 hN4 => ?_
    refine ⟨_, rfl, p2, _, _, _, rfl, rfl, y1', rfl, _, rfl, p1, _, _, _, rfl, rfl, x1', rfl, _, _, _, _, rfl, s3.tup hb2 y3, y5.mono (by decide), s3.tup hb2 x3, x5.mono (by decide), fun H4 s4 => ⟨_, rfl, ?_⟩⟩
    try with_reducible refine g_go ?_
    try with_reducible refine nil_go ?_
    try with_reducible first | refine hN4 _ _ ?_ | refine hN2 _ _ ?_
    try with_reducible refine seq_go fun N4 hN4 => ?_
    refine if_dec (fun c => ?_) (fun c => ?_)
    · have yt : ∀ {p : Addr} {zs : List V}, SqT K H2 p zs → SqT K H4 p zs := fun h => Kw.Same.tup s4 (s3.tup hb2 h)
      try with_reducible refine g_go ?_
      try with_reducible refine nil_go ?_
      try with_reducible first | refine hN6 _ _ ?_ | refine hN4 _ _ ?_ | refine hN2 _ _ ?_
      try with_reducible refine seq_go fun N6 hN6 => ?_
      refine ⟨_, rfl, p2, _, _, _, rfl, rfl, yt y1, rfl, _, rfl, p1, _, _, _, rfl, rfl, yt x1, rfl, _, _, 64, _, _, 64, rfl, yt y2, y4, yt x2, x4, by decide, fun r5 H5 s5 g5 => ?_⟩
      try with_reducible refine g_go ?_
      try with_reducible refine nil_go ?_
      try with_reducible first | refine hN6 _ _ ?_ | refine hN4 _ _ ?_ | refine hN2 _ _ ?_
      try with_reducible refine seq_go fun N6 hN6 => ?_
      refine ⟨_, rfl, p1, _, _, _, rfl, rfl, Kw.Same.tup s5 (yt x1), rfl, _, rfl, p2, _, _, _, rfl, rfl, Kw.Same.tup s5 (yt y1), rfl, _, _, 64, _, _, 64, rfl, Kw.Same.tup s5 (yt x3), x5, Kw.Same.tup s5 (yt y3), y5, by decide, fun r6 H6 s6 g6 => ?_⟩
      try with_reducible refine g_go ?_
      try with_reducible refine nil_go ?_
      try with_reducible first | refine hN6 _ _ ?_ | refine hN4 _ _ ?_ | refine hN2 _ _ ?_
      try with_reducible refine seq_go fun N6 hN6 => ?_
      refine ⟨_, _, 129, _, _, 129, rfl, Kw.Same.tup s6 g5, FB.sub y4 x4, g6, FB.sub x5 y5, by decide, by grind, fun r7 H7 s7 g7 => ?_⟩
      have s47 := s4.trans (s5.trans (s6.trans s7))
      try with_reducible refine g_go ?_
      try with_reducible refine nil_go ?_
      try with_reducible first | refine hN6 _ _ ?_ | refine hN4 _ _ ?_ | refine hN2 _ _ ?_
      try with_reducible refine seq_go fun N6 hN6 => ?_
      refine k r7 _ n3 H7 (s13.trans (But.of s47)) (s47 _ _ hb3) g7 ((FB.div (FB.sub y4 x4) (FB.sub x5 y5) (by grind)).mono (by decide)) ?_
      try with_reducible refine g_go ?_
      try with_reducible refine nil_go ?_
      try with_reducible first | refine hN6 _ _ ?_ | refine hN4 _ _ ?_ | refine hN2 _ _ ?_
      try with_reducible refine seq_go fun N6 hN6 => ?_
      exact q_div_le (by grind) (by grind)
    · have hb4 := s4 _ _ hb3
      try with_reducible refine g_go ?_
      try with_reducible refine nil_go ?_
      try with_reducible first | refine hN6 _ _ ?_ | refine hN4 _ _ ?_ | refine hN2 _ _ ?_
      try with_reducible refine seq_go fun N6 hN6 => ?_
      refine ⟨_, rfl, b, 40, _, rfl, hb4, by decide, sm9 _ (by decide) (by decide), fun d8 n8 H8 lo8 hi8 s8 hb8 => ?_⟩
      try with_reducible refine g_go ?_
      try with_reducible refine nil_go ?_
      try with_reducible first | refine hN6 _ _ ?_ | refine hN4 _ _ ?_ | refine hN2 _ _ ?_
      try with_reducible refine seq_go fun N6 hN6 => ?_
      refine ⟨_, rfl, b, 5, _, rfl, hb8, by decide, sm9 _ (by decide) (by decide), fun d9 n9 H9 lo9 hi9 s9 hb9 => ?_⟩
      try with_reducible refine g_go ?_
      try with_reducible refine nil_go ?_
      try with_reducible first | refine hN6 _ _ ?_ | refine hN4 _ _ ?_ | refine hN2 _ _ ?_
      try with_reducible refine seq_go fun N6 hN6 => ?_
      refine ⟨_, _, rfl, rfl, _, _, rfl, sm9 _ (by omega) (by omega), by omega, fun p10 H10 s10 g10 => ?_⟩
      try with_reducible refine g_go ?_
      try with_reducible refine nil_go ?_
      try with_reducible first | refine hN6 _ _ ?_ | refine hN4 _ _ ?_ | refine hN2 _ _ ?_
      try with_reducible refine seq_go fun N6 hN6 => ?_
      refine k p10 _ n9 H10 ((s13.trans (But.of s4)).trans (s8.trans (s9.trans (But.of s10)))) (s10 _ _ hb9) g10 ((FB.fit (n := 64) (by omega) (Bd.small (by omega) (by omega)) (Bd.small (by omega) (by omega))).mono (by decide)) ?_
      rw [q_dv]
      try with_reducible refine g_go ?_
      try with_reducible refine nil_go ?_
      try with_reducible first | refine hN6 _ _ ?_ | refine hN4 _ _ ?_ | refine hN2 _ _ ?_
      try with_reducible refine seq_go fun N6 hN6 => ?_
      exact q_div_nn (by omega) (by omega)
  · try with_reducible refine g_go ?_
    try with_reducible refine nil_go ?_
    try with_reducible first | refine hN4 _ _ ?_ | refine hN2 _ _ ?_
    try with_reducible refine seq_go fun N4 hN4 => ?_
    refine iteF ?_
    try with_reducible refine g_go ?_
    try with_reducible refine nil_go ?_
    try with_reducible first | refine hN4 _ _ ?_ | refine hN2 _ _ ?_
    try with_reducible refine seq_go fun N4 hN4 => ?_
    refine ⟨_, rfl, b, 40, _, rfl, hb3, by decide, sm9 _ (by decide) (by decide), fun d8 n8 H8 lo8 hi8 s8 hb8 => ?_⟩
    try with_reducible refine g_go ?_
    try with_reducible refine nil_go ?_
    try with_reducible first | refine hN4 _ _ ?_ | refine hN2 _ _ ?_
    try with_reducible refine seq_go fun N4 hN4 => ?_
    refine ⟨_, rfl, b, 5, _, rfl, hb8, by decide, sm9 _ (by decide) (by decide), fun d9 n9 H9 lo9 hi9 s9 hb9 => ?_⟩
    try with_reducible refine g_go ?_
    try with_reducible refine nil_go ?_
    try with_reducible first | refine hN4 _ _ ?_ | refine hN2 _ _ ?_
    try with_reducible refine seq_go fun N4 hN4 => ?_
    refine ⟨_, _, rfl, rfl, _, _, rfl, sm9 _ (by omega) (by omega), by omega, fun p10 H10 s10 g10 => ?_⟩
    try with_reducible refine g_go ?_
    try with_reducible refine nil_go ?_
    try with_reducible first | refine hN4 _ _ ?_ | refine hN2 _ _ ?_
    try with_reducible refine seq_go fun N4 hN4 => ?_
    refine k p10 _ n9 H10 (s13.trans (s8.trans (s9.trans (But.of s10)))) (s10 _ _ hb9) g10 ((FB.fit (n := 64) (by omega) (Bd.small (by omega) (by omega)) (Bd.small (by omega) (by omega))).mono (by decide)) ?_
    rw [q_dv]
    try with_reducible refine g_go ?_
    try with_reducible refine nil_go ?_
    try with_reducible first | refine hN4 _ _ ?_ | refine hN2 _ _ ?_
    try with_reducible refine seq_go fun N4 hN4 => ?_
    exact q_div_nn (by omega) (by omega)
noncomputable def sp_law_apart (K : PySem.W.Frag) : Sp := fun vs H Q _ => ∃ (p : Addr) (xs : List V) (bs : List Bod), vs = [.ref p] ∧ H p = some (.lst xs) ∧ Al2 (BdQ K H 2010) xs bs ∧ 1 ≤ bs.length ∧ bs.length ≤ 12 ∧ ∀ v : Bool, Q (.bl v) H
theorem sc_law_apart : FnScope ["_law_bodies", "_law_k"] ["_law_bodies"] (defScope (top 56)) := ⟨rfl, rfl, rfl, by decide +kernel, rfl, by decide +kernel, by decide +kernel⟩
theorem ok_law_apart (D : Df K mg "_law_apart" (top 56) ["_law_bodies"]) (T : Tx K mg) : Fn P w K mg base 1 "_law_apart" ["_law_bodies"] (sp_law_apart K) := by
  try with_reducible refine g_go ?_
  try with_reducible refine nil_go ?_
  try with_reducible refine hN2 _ _ ?_
  try with_reducible refine seq_go fun N2 hN2 => ?_
  refine D.ok0 sc_law_apart (fun vs H Q E h => ?_) (fun f cdv A outer s H vs Q E hr h => ?_)
  · obtain ⟨p, xs, bs, rfl, _⟩ := h
    rfl
  obtain ⟨p, xs, bs, rfl, hp, al, l1, l12, k⟩ := h
  refine ⟨_, (pss_cons (ps_for PassesOwn.never rfl (pi_range2 (by rfl) T.b_range (pa_cons pe_int (pa_cons (pe_callB call_len (by rfl) T.b_len PyProof.Rows.Boot.«len» (pa_cons (pv 0) pa_nil)) pa_nil))) (pg_name (i := 1) sc_law_apart.nd rfl (Or.inl rfl)) (pss_one (ps_if (pt_cmpR (op_eqQ (K := K) rfl (u100 hr)) (pe_ix ix_tup (pe_ix ix_list (pv 0) (pe_op op_sub (pv 1) pe_int) (fun _ _ => rfl)) pe_int (fun _ _ => rfl)) (pe_ix ix_tup (pe_ix ix_list (pv 0) (pv 1) (fun _ _ => rfl)) pe_int (fun _ _ => rfl)) (nomark _)) (pss_one (ps_ret pe_bl)) pss_nil)))
      (pss_one (ps_ret pe_bl))), ?_⟩
  try dsimp only [cxK, cxK0]
  have hz := Al2.len al
  try with_reducible refine g_go ?_
  try with_reducible refine nil_go ?_
  try with_reducible refine hN2 _ _ ?_
  try with_reducible refine seq_go fun N2 hN2 => ?_
  refine ⟨_, rfl, _, _, rfl, .inl ⟨_, SqL.of hp, rfl⟩, _, _, rfl, ⟨by decide, by decide, by omega, by omega⟩, for_range (lo := 1) (fun i σ1 H1 => ∃ r : Option V, σ1 = [some (.ref p), r] ∧ H1 = H) ⟨_, rfl, rfl⟩ ?_ ?_⟩
  · rintro i σ1 H1 hi ⟨r, rfl, eH⟩
    subst eH
    have hi' : 1 + i < xs.length := by omega
    obtain ⟨x, hx⟩ : ∃ x, xs[1 + i]? = some x := ⟨_, List.getElem?_eq_getElem hi'⟩
    obtain ⟨y, hy⟩ : ∃ y, xs[i]? = some y := ⟨_, List.getElem?_eq_getElem (by omega)⟩
    obtain ⟨b, hb, p1, a1, c1, rfl, e1, g1, _⟩ := Al2.get al hx
    obtain ⟨b0, hb0, p0, a0, c0, rfl, e0, g0, _⟩ := Al2.get al hy
    have atx : atI xs (1 + (i : Int)) = some (.ref p1) := by
      have z := atI_nat hx
      rwa [show (((1 + i : Nat)) : Int) = 1 + (i : Int) by omega] at z
    have at0 : atI xs (1 + (i : Int) - 1) = some (.ref p0) := by
      have z := atI_nat hy
      rwa [show ((i : Nat) : Int) = 1 + (i : Int) - 1 by omega] at z
    try with_reducible refine g_go ?_
    try with_reducible refine nil_go ?_
    try with_reducible first | refine hN4 _ _ ?_ | refine hN2 _ _ ?_
    try with_reducible refine seq_go fun N4 hN4 => ?_
    refine ⟨_, rfl, _, rfl, _, _, rfl, rfl, p, _, _, _, rfl, rfl, SqL.of hp, at0, p0, _, _, _, rfl, rfl, e0, rfl, _, rfl, _, rfl, p, _, _, _, rfl, rfl, SqL.of hp, atx, p1, _, _, _, rfl, rfl, e1, rfl, _, _, _, _, rfl, rfl, g0, g1, _, rfl, ?_⟩
    try with_reducible refine g_go ?_
    try with_reducible refine nil_go ?_
    try with_reducible first | refine hN4 _ _ ?_ | refine hN2 _ _ ?_
    try with_reducible refine seq_go fun N4 hN4 => ?_
    refine if_dec (fun c => ?_) (fun c => ?_)
    · try with_reducible refine g_go ?_
      try with_reducible refine nil_go ?_
      try with_reducible first | refine hN6 _ _ ?_ | refine hN4 _ _ ?_ | refine hN2 _ _ ?_
      try with_reducible refine seq_go fun N6 hN6 => ?_
      exact k false
    · try with_reducible refine g_go ?_
      try with_reducible refine nil_go ?_
      try with_reducible first | refine hN6 _ _ ?_ | refine hN4 _ _ ?_ | refine hN2 _ _ ?_
      try with_reducible refine seq_go fun N6 hN6 => ?_
      exact ⟨_, rfl, rfl⟩
  · rintro σ1 H1 ⟨r, rfl, rfl⟩
    try with_reducible refine g_go ?_
    try with_reducible refine nil_go ?_
    try with_reducible first | refine hN4 _ _ ?_ | refine hN2 _ _ ?_
    try with_reducible refine seq_go fun N4 hN4 => ?_
    exact k true
noncomputable def sp_law_on (K : PySem.W.Frag) : Sp := fun vs H Q _ => ∃ (f : Addr) (xs : List V) (bs : List Bod) (W : Int) (pa : Addr) (t : Rat) (pb : Addr) (u : Rat), vs = [.ref f, .ref pa, .ref pb] ∧ H f = some (.lst xs) ∧ Al2 (BdQ K H 64) xs bs ∧ 1 ≤ bs.length ∧ bs.length ≤ 12 ∧ Asc bs ∧ (∀ b ∈ bs, b.2.2 = W) ∧ FQ K H pa t ∧ FB 258 t ∧ 0 ≤ t ∧ FQ K H pb u ∧ FB 258 u ∧ 0 ≤ u ∧ ∀ H1, Same H H1 → Q (.bl true) H1
theorem sc_law_on : FnScope ["_law_world_here", "_law_first", "_law_second", "_law_there", "_law_both", "_law_k", "_law_then"] ["_law_world_here", "_law_first", "_law_second"] (defScope (top 57)) := ⟨rfl, rfl, rfl, by decide +kernel, rfl, by decide +kernel, by decide +kernel⟩
theorem ok_law_on (D : Df K mg "_law_on" (top 57) ["_law_world_here", "_law_first", "_law_second"]) (T : Tx K mg) (F_passed : Fn P w K mg base 6 "passed" ["world", "moment"] (sp_passed K)) (F_law_plus : Fn P w K mg base 2 "_law_plus" ["_law_one", "_law_other"] (sp_law_plus K)) (F_law_apart : Fn P w K mg base 1 "_law_apart" ["_law_bodies"] (sp_law_apart K)) (F_wearer : Fn P w K mg base 6 "wearer" ["world", "number", "moment"] (sp_wearer K)) (F_crossings : Fn P w K mg base 6 "crossings" ["world", "moment"] (sp_crossings K)) : Fn P w K mg base 7 "_law_on" ["_law_world_here", "_law_first", "_law_second"] (sp_law_on K) := by
  try with_reducible refine g_go ?_
  try with_reducible refine nil_go ?_
  try with_reducible refine hN2 _ _ ?_
  try with_reducible refine seq_go fun N2 hN2 => ?_
  refine D.ok0 sc_law_on (fun vs H Q E h => ?_) (fun f cdv A outer s H vs Q E hr h => ?_)
  · obtain ⟨f, xs, bs, W, pa, t, pb, u, rfl, _⟩ := h
    rfl
  obtain ⟨f, xs, bs, W, pa, t, pb, u, rfl, hf, al, l1, l12, asc, hw, ga, da, t0, gb, db, u0, k⟩ := h
  refine ⟨_, (pss_cons (ps_set (i := 3) sc_law_on.nd rfl (Or.inl rfl) (pe_fn F_passed (by decide) hr (by rfl) passE0 (pa_cons (pv 0) (pa_cons (pv 1) pa_nil))))
      (pss_cons (ps_set (i := 4) sc_law_on.nd rfl (Or.inl rfl) (pe_fn F_law_plus (by decide) hr (by rfl) passE0 (pa_cons (pv 1) (pa_cons (pv 2) pa_nil))))
      (pss_cons (ps_if (pt_not (pt_val (pe_fn F_law_apart (by decide) hr (by rfl) passE0 (pa_cons (pv 3) pa_nil)) (fun _ => rfl))) (pss_one (ps_ret pe_bl)) pss_nil)
      (pss_cons (ps_if (pt_cmpR (op_neA (K := K) rfl (u100 hr)) (pe_fn F_passed (by decide) hr (by rfl) passE0 (pa_cons (pv 3) (pa_cons (pv 2) pa_nil))) (pe_fn F_passed (by decide) hr (by rfl) passE0 (pa_cons (pv 0) (pa_cons (pv 4) pa_nil))) (nomark _)) (pss_one (ps_ret pe_bl)) pss_nil)
      (pss_cons (ps_for PassesOwn.never rfl (pi_range1 (by rfl) T.b_range (pa_cons (pe_callB call_len (by rfl) T.b_len PyProof.Rows.Boot.«len» (pa_cons (pv 0) pa_nil)) pa_nil)) (pg_name (i := 5) sc_law_on.nd rfl (Or.inl rfl)) (pss_cons (ps_set (i := 6) sc_law_on.nd rfl (Or.inl rfl) (pe_fn F_wearer (by decide) hr (by rfl) passE0 (pa_cons (pv 3) (pa_cons (pv 5) (pa_cons (pv 2) pa_nil)))))
      (pss_one (ps_if (pt_cmpR op_ne (pe_fn F_wearer (by decide) hr (by rfl) passE0 (pa_cons (pv 0) (pa_cons (pv 5) (pa_cons (pv 4) pa_nil)))) (pe_fn F_wearer (by decide) hr (by rfl) passE0 (pa_cons (pv 0) (pa_cons (pv 6) (pa_cons (pv 1) pa_nil)))) (nomark _)) (pss_one (ps_ret pe_bl)) pss_nil))))
      (pss_one (ps_ret (pe_cmpR op_ge (pe_fn F_crossings (by decide) hr (by rfl) passE0 (pa_cons (pv 0) (pa_cons (pv 4) pa_nil))) (pe_fn F_crossings (by decide) hr (by rfl) passE0 (pa_cons (pv 0) (pa_cons (pv 1) pa_nil))) (nomark _))))))))), ?_⟩
  try dsimp only [cxK, cxK0]
  have hz := Al2.len al
  have fb := bds_fb al
  have al7 := bds_mono al (show 64 ≤ 700 by decide)
  try with_reducible refine g_go ?_
  try with_reducible refine nil_go ?_
  try with_reducible refine hN2 _ _ ?_
  try with_reducible refine seq_go fun N2 hN2 => ?_
  refine ⟨_, rfl, _, rfl, f, xs, bs, W, pa, t, rfl, hf, al7, l1, l12, hw, ga, da.mono (by decide), t0, fun r ys H1 s1 nr hr1 ay1 => ?_⟩
  have ay7 : Al2 (BdQ K H1 700) ys (sortQ (strQ bs t)) := bds_fit ay1 fun b hb => by have z := pass_fb fb da b hb; exact ⟨z.1.mono (by decide), z.2.mono (by decide)⟩
  have lr := sort_len bs t
  have hwr := sortQ_all (strQ_all (t := t) hw)
  try with_reducible refine g_go ?_
  try with_reducible refine nil_go ?_
  try with_reducible refine hN2 _ _ ?_
  try with_reducible refine seq_go fun N2 hN2 => ?_
  refine ⟨_, rfl, _, rfl, _, _, 258, _, _, 258, rfl, Kw.Same.tup s1 ga, da, Kw.Same.tup s1 gb, db, by decide, fun pc H2 s2 gc => ?_⟩
  have dc : FB 600 (t + u) := (FB.add da db).mono (by decide)
  have c0 : 0 ≤ t + u := by grind
  have hr2 := s2 _ _ hr1
  try with_reducible refine g_go ?_
  try with_reducible refine nil_go ?_
  try with_reducible refine hN2 _ _ ?_
  try with_reducible refine seq_go fun N2 hN2 => ?_
  refine ⟨_, rfl, r, ys, _, rfl, hr2, bds_same ay1 s2, by omega, by omega, fun v => ⟨_, rfl, ?_⟩⟩
  have s12 := s1.trans s2
  have hf2 := s12 _ _ hf
  have al2 := bds_same al7 s12
  cases v with
  | false =>
    try with_reducible refine g_go ?_
    try with_reducible refine nil_go ?_
    try with_reducible first | refine hN4 _ _ ?_ | refine hN2 _ _ ?_
    try with_reducible refine seq_go fun N4 hN4 => ?_
    refine iteT ?_
    try with_reducible refine g_go ?_
    try with_reducible refine nil_go ?_
    try with_reducible first | refine hN4 _ _ ?_ | refine hN2 _ _ ?_
    try with_reducible refine seq_go fun N4 hN4 => ?_
    exact k H2 s12
  | true =>
    try with_reducible refine g_go ?_
    try with_reducible refine nil_go ?_
    try with_reducible first | refine hN4 _ _ ?_ | refine hN2 _ _ ?_
    try with_reducible refine seq_go fun N4 hN4 => ?_
    refine iteF ?_
    try with_reducible refine g_go ?_
    try with_reducible refine nil_go ?_
    try with_reducible first | refine hN4 _ _ ?_ | refine hN2 _ _ ?_
    try with_reducible refine seq_go fun N4 hN4 => ?_
    refine ⟨_, rfl, _, rfl, r, ys, _, W, pb, u, rfl, hr2, bds_same ay7 s2, by omega, by omega, hwr, Kw.Same.tup s12 gb, db.mono (by decide), u0, fun r3 ys3 H3 s3 n3 e3 a3 => ?_⟩
    have s13 := s12.trans s3
    try with_reducible refine g_go ?_
    try with_reducible refine nil_go ?_
    try with_reducible first | refine hN4 _ _ ?_ | refine hN2 _ _ ?_
    try with_reducible refine seq_go fun N4 hN4 => ?_
    refine ⟨_, rfl, _, rfl, f, xs, bs, W, pc, t + u, rfl, s3 _ _ hf2, bds_same al2 s3, l1, l12, hw, Kw.Same.tup s3 gc, dc, c0, fun r4 ys4 H4 s4 n4 e4 a4 => ?_⟩
    have d3 : Dp K H4 (.ref r3) (.list ((sortQ (strQ bs (t + u))).map bdD)) := by
      rw [← passed_two hw]
      try with_reducible refine g_go ?_
      try with_reducible refine nil_go ?_
      try with_reducible first | refine hN6 _ _ ?_ | refine hN4 _ _ ?_ | refine hN2 _ _ ?_
      try with_reducible refine seq_go fun N6 hN6 => ?_
      exact .lst (SqL.of (s4 _ _ e3)) (bds_dp (bds_same a3 s4))
    have d4 : Dp K H4 (.ref r4) (.list ((sortQ (strQ bs (t + u))).map bdD)) := .lst (SqL.of e4) (bds_dp a4)
    try with_reducible refine g_go ?_
    try with_reducible refine nil_go ?_
    try with_reducible first | refine hN4 _ _ ?_ | refine hN2 _ _ ?_
    try with_reducible refine seq_go fun N4 hN4 => ?_
    refine ⟨_, d3, d4, (bds_ok _).1, (bds_ok _).2, _, rfl, iteF ?_⟩
    have s14 := s13.trans s4
    have s24 := s3.trans s4
    have hf4 := s14 _ _ hf
    have hr4 := s24 _ _ hr2
    try with_reducible refine g_go ?_
    try with_reducible refine nil_go ?_
    try with_reducible first | refine hN4 _ _ ?_ | refine hN2 _ _ ?_
    try with_reducible refine seq_go fun N4 hN4 => ?_
    refine ⟨_, rfl, _, _, rfl, .inl ⟨_, SqL.of hf4, rfl⟩, _, rfl, by omega, by omega, for_range (n := xs.length) (fun i σ1 H5 => ∃ u5 u6 : Option V, σ1 = [some (.ref f), some (.ref pa), some (.ref pb), some (.ref r), some (.ref pc), u5, u6] ∧ Same H4 H5) ⟨_, _, rfl, Same.refl _⟩ ?_ ?_⟩
    · rintro i σ1 H5 hi ⟨u5, u6, rfl, s5⟩
      have s25 := s24.trans s5
      have s15 := s12.trans s25
      try with_reducible refine g_go ?_
      try with_reducible refine nil_go ?_
      try with_reducible first | refine hN6 _ _ ?_ | refine hN4 _ _ ?_ | refine hN2 _ _ ?_
      try with_reducible refine seq_go fun N6 hN6 => ?_
      refine ⟨_, rfl, _, rfl, _, rfl, r, ys, _, W, pb, u, i, by show [V.ref r, V.int (0 + (i : Int)), V.ref pb] = _; rw [Int.zero_add], s25 _ _ hr2, bds_same ay7 (s2.trans s25), by omega, by omega, hwr, Kw.Same.tup s15 gb, db.mono (by decide), u0, fun y H6 s6 hy => ?_⟩
      have yl : y < bs.length := by
        have := ordN_lt _ _ y (List.mem_of_getElem? hy)
        omega
      have s26 := s25.trans s6
      have s16 := s12.trans s26
      try with_reducible refine g_go ?_
      try with_reducible refine nil_go ?_
      try with_reducible first | refine hN6 _ _ ?_ | refine hN4 _ _ ?_ | refine hN2 _ _ ?_
      try with_reducible refine seq_go fun N6 hN6 => ?_
      refine ⟨_, rfl, _, rfl, _, rfl, f, xs, bs, W, pc, t + u, i, by show [V.ref f, V.int (0 + (i : Int)), V.ref pc] = _; rw [Int.zero_add], s16 _ _ hf, bds_same al7 s16, by omega, l12, hw, Kw.Same.tup s26 gc, dc, c0, fun y7 H7 s7 hy7 => ?_⟩
      have s17 := s16.trans s7
      try with_reducible refine g_go ?_
      try with_reducible refine nil_go ?_
      try with_reducible first | refine hN6 _ _ ?_ | refine hN4 _ _ ?_ | refine hN2 _ _ ?_
      try with_reducible refine seq_go fun N6 hN6 => ?_
      refine ⟨_, rfl, _, rfl, _, rfl, f, xs, bs, W, pa, t, y, rfl, s17 _ _ hf, bds_same al7 s17, yl, l12, hw, Kw.Same.tup s17 ga, da.mono (by decide), t0, fun y8 H8 s8 hy8 => ?_⟩
      have e78 : y7 = y8 := by
        have z := wear_two (Asc.noTwin asc) t u
        rw [z, List.getElem?_map] at hy7
        rw [lr] at hy
        rw [hy] at hy7
        have q : (ordN (ltI (strQ bs t)) bs.length).getD y 0 = y7 := Option.some.inj hy7
        rw [← q, List.getD_eq_getElem?_getD, hy8]
        rfl
      subst e78
      try with_reducible refine g_go ?_
      try with_reducible refine nil_go ?_
      try with_reducible first | refine hN6 _ _ ?_ | refine hN4 _ _ ?_ | refine hN2 _ _ ?_
      try with_reducible refine seq_go fun N6 hN6 => ?_
      refine ⟨rfl, _, rfl, ?_⟩
      try with_reducible refine g_go ?_
      try with_reducible refine nil_go ?_
      try with_reducible first | refine hN6 _ _ ?_ | refine hN4 _ _ ?_ | refine hN2 _ _ ?_
      try with_reducible refine seq_go fun N6 hN6 => ?_
      refine if_neI (fun c => absurd rfl c) (fun _ => ?_)
      try with_reducible refine g_go ?_
      try with_reducible refine nil_go ?_
      try with_reducible first | refine hN6 _ _ ?_ | refine hN4 _ _ ?_ | refine hN2 _ _ ?_
      try with_reducible refine seq_go fun N6 hN6 => ?_
      exact ⟨_, _, rfl, s5.trans (s6.trans (s7.trans s8))⟩
    · rintro σ1 H5 ⟨u5, u6, rfl, s5⟩
      have s15 := s14.trans s5
      try with_reducible refine g_go ?_
      try with_reducible refine nil_go ?_
      try with_reducible first | refine hN6 _ _ ?_ | refine hN4 _ _ ?_ | refine hN2 _ _ ?_
      try with_reducible refine seq_go fun N6 hN6 => ?_
      refine ⟨_, rfl, _, rfl, f, xs, bs, W, pc, t + u, rfl, s15 _ _ hf, bds_mono (bds_same al7 s15) (by decide), l1, l12, hw, Kw.Same.tup (s24.trans s5) gc, dc.mono (by decide), c0, fun H6 s6 => ?_⟩
      have s16 := s15.trans s6
      try with_reducible refine g_go ?_
      try with_reducible refine nil_go ?_
      try with_reducible first | refine hN6 _ _ ?_ | refine hN4 _ _ ?_ | refine hN2 _ _ ?_
      try with_reducible refine seq_go fun N6 hN6 => ?_
      refine ⟨_, rfl, _, rfl, f, xs, bs, W, pa, t, rfl, s16 _ _ hf, bds_mono (bds_same al7 s16) (by decide), l1, l12, hw, Kw.Same.tup s16 ga, da.mono (by decide), t0, fun H7 s7 => ?_⟩
      have mono := until_mono (passN bs bs.length) (show t ≤ t + u by grind)
      have e : decide (((untilQ (passN bs bs.length) t).length : Int) ≤ ((untilQ (passN bs bs.length) (t + u)).length : Int)) = true := decide_eq_true (by omega)
      try with_reducible refine g_go ?_
      try with_reducible refine nil_go ?_
      try with_reducible first | refine hN6 _ _ ?_ | refine hN4 _ _ ?_ | refine hN2 _ _ ?_
      try with_reducible refine seq_go fun N6 hN6 => ?_
      refine ⟨_, _, rfl, rfl, ?_⟩
      have z := k H7 (s16.trans s7)
      rw [← e] at z
      try with_reducible refine g_go ?_
      try with_reducible refine nil_go ?_
      try with_reducible first | refine hN6 _ _ ?_ | refine hN4 _ _ ?_ | refine hN2 _ _ ?_
      try with_reducible refine seq_go fun N6 hN6 => ?_
      exact z
theorem sc_law : FnScope ["_law_script", "_law_k", "_law_box_here", "_law_world_here", "_law_first", "_law_second", "_law_there", "_law_turned", "_law_speed", "_law_way", "_law_seen"] ["_law_script"] (defScope (top 58)) := ⟨rfl, rfl, rfl, by decide +kernel, rfl, by decide +kernel, by decide +kernel⟩
theorem ok_law (D : Df K mg "law" (top 58) ["_law_script"]) (T : Tx K mg) (F_law_box : Fn P w K mg base 2 "_law_box" ["_law_script", "_law_k"] (spBox K)) (F_law_likes : Fn P w K mg base 4 "_law_likes" ["_law_box_here"] (sp_law_likes K)) (F_law_moment_of : Fn P w K mg base 3 "_law_moment_of" ["_law_box_here", "_law_world_here"] (sp_law_moment_of K)) (F_law_on : Fn P w K mg base 7 "_law_on" ["_law_world_here", "_law_first", "_law_second"] (sp_law_on K)) (F_passed : Fn P w K mg base 6 "passed" ["world", "moment"] (sp_passed K)) (F_push : Fn P w K mg base 4 "push" ["bodies"] (sp_push K)) (F_might : Fn P w K mg base 4 "might" ["bodies"] (sp_might K)) (F_mirrored : Fn P w K mg base 5 "mirrored" ["world"] (sp_mirrored K)) (F_law_small : Fn P w K mg base 2 "_law_small" ["_law_box_here"] (sp_law_small K)) (F_law_times : Fn P w K mg base 2 "_law_times" ["_law_one", "_law_other"] (sp_law_times K)) (F_law_minus : Fn P w K mg base 2 "_law_minus" ["_law_one", "_law_other"] (sp_law_minus K)) (F_seen_from : Fn P w K mg base 4 "seen_from" ["body", "speed"] (sp_seen_from K)) : Fn P w K mg base 8 "law" ["_law_script"] (spLaw K) := by
  try with_reducible refine g_go ?_
  try with_reducible refine nil_go ?_
  try with_reducible refine hN2 _ _ ?_
  try with_reducible refine seq_go fun N2 hN2 => ?_
  refine D.ok0 sc_law (fun vs H Q E h => ?_) (fun f cdv A outer s H vs Q E hr h => ?_)
  · obtain ⟨a, rfl, _⟩ := h
    rfl
  obtain ⟨a, rfl, hS, fin⟩ := h
  refine ⟨_, (pss_cons (ps_for PassesOwn.never rfl (pi_range1 (by rfl) T.b_range (pa_cons (pe_callB (call_max2 rfl) (by rfl) T.b_max PyProof.Rows.Boot.«max» (pa_cons pe_int (pa_cons (pe_callB (call_min2 rfl) (by rfl) T.b_min PyProof.Rows.Boot.«min» (pa_cons (pe_callB call_len (by rfl) T.b_len PyProof.Rows.Boot.«len» (pa_cons (pv 0) pa_nil)) (pa_cons pe_int pa_nil))) pa_nil))) pa_nil)) (pg_name (i := 1) sc_law.nd rfl (Or.inl rfl)) (pss_cons (ps_set (i := 2) sc_law.nd rfl (Or.inl rfl) (pe_fn F_law_box (by decide) hr (by rfl) passE0 (pa_cons (pv 0) (pa_cons (pv 1) pa_nil))))
      (pss_cons (ps_set (i := 3) sc_law.nd rfl (Or.inl rfl) (pe_fn F_law_likes (by decide) hr (by rfl) passE0 (pa_cons (pv 2) pa_nil)))
      (pss_cons (ps_set (i := 4) sc_law.nd rfl (Or.inl rfl) (pe_fn F_law_moment_of (by decide) hr (by rfl) passE0 (pa_cons (pv 2) (pa_cons (pv 3) pa_nil))))
      (pss_cons (ps_set (i := 5) sc_law.nd rfl (Or.inl rfl) (pe_fn F_law_moment_of (by decide) hr (by rfl) passE0 (pa_cons (pv 2) (pa_cons (pv 3) pa_nil))))
      (pss_cons (ps_if (pt_not (pt_val (pe_fn F_law_on (by decide) hr (by rfl) passE0 (pa_cons (pv 3) (pa_cons (pv 4) (pa_cons (pv 5) pa_nil)))) (fun _ => rfl))) (pss_one (ps_ret pe_bl)) pss_nil)
      (pss_cons (ps_set (i := 6) sc_law.nd rfl (Or.inl rfl) (pe_fn F_passed (by decide) hr (by rfl) passE0 (pa_cons (pv 3) (pa_cons (pv 5) pa_nil))))
      (pss_cons (ps_if (pw_or (pt_cmpR (op_neA (K := K) rfl (u100 hr)) (pe_fn F_push (by decide) hr (by rfl) passE0 (pa_cons (pv 6) pa_nil)) (pe_fn F_push (by decide) hr (by rfl) passE0 (pa_cons (pv 3) pa_nil)) (nomark _)) (pw_or1 (pt_cmpR (op_neA (K := K) rfl (u100 hr)) (pe_fn F_might (by decide) hr (by rfl) passE0 (pa_cons (pv 6) pa_nil)) (pe_fn F_might (by decide) hr (by rfl) passE0 (pa_cons (pv 3) pa_nil)) (nomark _)))).pt (pss_one (ps_ret pe_bl)) pss_nil)
      (pss_cons (@ps_lc _ _ _ _ _ _ _ _ _ _ [] [] 7 _ _ _ sc_law.nd rfl rfl rfl rfl (pi_rev (by rfl) T.b_reversed (pa_cons (pv 6) pa_nil)) rfl (by decide) rfl (by decide) rfl (by decide) cap_none (fun _ _ h => nomatch h) (no_free rfl) (fun C z Hc fp => (pe_tup (pa_cons (pe_tup (pa_cons (pe_op op_sub pe_int (pe_ix (ixT (K := K) rfl) (pe_ix (ixT (K := K) rfl) (pv 0) pe_int (fun _ _ => rfl)) pe_int (fun _ _ => rfl))) (pa_cons (pe_ix (ixT (K := K) rfl) (pe_ix (ixT (K := K) rfl) (pv 0) pe_int (fun _ _ => rfl)) pe_int (fun _ _ => rfl)) pa_nil))) (pa_cons (pe_tup (pa_cons (pe_op op_sub pe_int (pe_ix (ixT (K := K) rfl) (pe_ix (ixT (K := K) rfl) (pv 0) pe_int (fun _ _ => rfl)) pe_int (fun _ _ => rfl))) (pa_cons (pe_ix (ixT (K := K) rfl) (pe_ix (ixT (K := K) rfl) (pv 0) pe_int (fun _ _ => rfl)) pe_int (fun _ _ => rfl)) pa_nil))) (pa_cons (pe_ix (ixT (K := K) rfl) (pv 0) pe_int (fun _ _ => rfl)) pa_nil))))) (fun _ => rfl))
      (pss_cons (ps_if (pt_cmpR (op_neA (K := K) rfl (u100 hr)) (pe_fn F_passed (by decide) hr (by rfl) passE0 (pa_cons (pe_fn F_mirrored (by decide) hr (by rfl) passE0 (pa_cons (pv 3) pa_nil)) (pa_cons (pv 5) pa_nil))) (pv 7) (nomark _)) (pss_one (ps_ret pe_bl)) pss_nil)
      (pss_cons (ps_set (i := 8) sc_law.nd rfl (Or.inr rfl) (pe_fn F_law_small (by decide) hr (by rfl) passE0 (pa_cons (pv 2) pa_nil)))
      (pss_cons (ps_set (i := 9) sc_law.nd rfl (Or.inr rfl) (pe_fn F_law_times (by decide) hr (by rfl) passE0 (pa_cons (pv 8) (pa_cons (pv 5) pa_nil))))
      (pss_cons (@ps_lc _ _ _ _ _ _ _ _ _ _ ["_law_way", "_law_speed"] [9, 8] 10 _ _ _ sc_law.nd rfl rfl rfl rfl (pi_list (pv 6)) rfl (by decide) rfl (by decide) rfl (by decide) (cap_two (j := 9) (j' := 8) rfl rfl rfl rfl (.inl rfl) rfl rfl rfl rfl (.inl rfl)) (cl_two rfl rfl) (cap_fr rfl) (fun C z Hc fp => (pe_tup (pa_cons (pe_fn F_law_minus (by decide) hr (by rfl) passE0 (pa_cons (pe_ix (ixT (K := K) rfl) (pv 0) pe_int (fun _ _ => rfl)) (pa_cons (pv 1) pa_nil))) (pa_cons (pe_fn F_law_minus (by decide) hr (by rfl) passE0 (pa_cons (pe_ix (ixT (K := K) rfl) (pv 0) pe_int (fun _ _ => rfl)) (pa_cons (pv 2) pa_nil))) (pa_cons (pe_ix (ixT (K := K) rfl) (pv 0) pe_int (fun _ _ => rfl)) pa_nil))))) (fun _ => rfl))
      (pss_one (ps_if (pt_cmpR (op_neA (K := K) rfl (u100 hr)) (pe_fn F_passed (by decide) hr (by rfl) passE0 (pa_cons (@pe_lc _ _ _ _ _ _ _ _ _ _ ["_law_speed"] [8] rfl (pi_list (pv 3)) rfl (by decide) rfl (by decide) rfl (by decide) (cap_one (j := 8) rfl rfl rfl rfl (.inl rfl)) (cl_one rfl) (cap_fr rfl) (fun C z Hc fp => (pe_fn F_seen_from (by decide) hr (by rfl) passE0 (pa_cons (pv 0) (pa_cons (pv 1) pa_nil)))) (fun _ => rfl)) (pa_cons (pv 5) pa_nil))) (pv 10) (nomark _)) (pss_one (ps_ret pe_bl)) pss_nil)))))))))))))))
      (pss_one (ps_ret pe_bl))), ?_⟩
  try dsimp only [cxK, cxK0]
  obtain ⟨ns, hL, h63, _⟩ := id hS
  try with_reducible refine g_go ?_
  try with_reducible refine nil_go ?_
  try with_reducible refine hN2 _ _ ?_
  try with_reducible refine seq_go fun N2 hN2 => ?_
  refine ⟨_, rfl, _, _, rfl, .inl ⟨_, hL, rfl⟩, _, _, rfl, _, _, rfl, _, rfl, ?_⟩
  obtain ⟨m, hme, m1, m8⟩ := most_of ns 3 (by decide)
  rw [hme]
  try with_reducible refine g_go ?_
  try with_reducible refine nil_go ?_
  try with_reducible refine hN2 _ _ ?_
  try with_reducible refine seq_go fun N2 hN2 => ?_
  refine ⟨by omega, by omega, for_range (n := m.toNat) (fun i σ' H' => ∃ r1 r2 r3 r4 r5 r6 r7 r8 r9 r10 : Option V, σ' = [some (.ref a), r1, r2, r3, r4, r5, r6, r7, r8, r9, r10] ∧ Same H H') ⟨_, _, _, _, _, _, _, _, _, _, rfl, Same.refl H⟩ ?_ ?_⟩
  · rintro i σ0 H0 hi ⟨r1, r2, r3, r4, r5, r6, r7, r8, r9, r10, rfl, sm⟩
    try with_reducible refine g_go ?_
    try with_reducible refine nil_go ?_
    try with_reducible first | refine hN4 _ _ ?_ | refine hN2 _ _ ?_
    try with_reducible refine seq_go fun N4 hN4 => ?_
    refine ⟨_, rfl, _, rfl, a, _, rfl, Scr.same hS sm, by omega, by omega, fun b nb Hb hb0 sb hb => ?_⟩
    try with_reducible refine g_go ?_
    try with_reducible refine nil_go ?_
    try with_reducible first | refine hN4 _ _ ?_ | refine hN2 _ _ ?_
    try with_reducible refine seq_go fun N4 hN4 => ?_
    refine ⟨_, rfl, b, nb, rfl, hb, fun f xs bs W n1 H1 s1 nf nfb hb1 hf1 al1 l1 l12 asc w1 w2 hw six => ?_⟩
    have hz := Al2.len al1
    have fb := bds_fb al1
    try with_reducible refine g_go ?_
    try with_reducible refine nil_go ?_
    try with_reducible first | refine hN4 _ _ ?_ | refine hN2 _ _ ?_
    try with_reducible refine seq_go fun N4 hN4 => ?_
    refine ⟨_, rfl, _, rfl, b, n1, f, xs, bs, rfl, hb1, nfb, hf1, al1, l1, l12, asc, fun pa t n2 H2 s2 hb2 ga da t0 => ?_⟩
    have hf2 := s2 _ _ nfb hf1
    have al2 := bds_but al1 s2 hb1
    try with_reducible refine g_go ?_
    try with_reducible refine nil_go ?_
    try with_reducible first | refine hN4 _ _ ?_ | refine hN2 _ _ ?_
    try with_reducible refine seq_go fun N4 hN4 => ?_
    refine ⟨_, rfl, _, rfl, b, n2, f, xs, bs, rfl, hb2, nfb, hf2, al2, l1, l12, asc, fun pb u n3 H3 s3 hb3 gb3 db u0 => ?_⟩
    have hf3 := s3 _ _ nfb hf2
    have al3 := bds_but al2 s3 hb2
    have ga3 := s3.tup hb2 ga
    try with_reducible refine g_go ?_
    try with_reducible refine nil_go ?_
    try with_reducible first | refine hN4 _ _ ?_ | refine hN2 _ _ ?_
    try with_reducible refine seq_go fun N4 hN4 => ?_
    refine ⟨_, rfl, _, rfl, _, rfl, f, xs, bs, W, pa, t, pb, u, rfl, hf3, al3, l1, l12, asc, hw, ga3, da, t0, gb3, db, u0, fun H4 s4 => ?_⟩
    try with_reducible refine g_go ?_
    try with_reducible refine nil_go ?_
    try with_reducible first | refine hN4 _ _ ?_ | refine hN2 _ _ ?_
    try with_reducible refine seq_go fun N4 hN4 => ?_
    refine ⟨_, rfl, iteF ?_⟩
    have hf4 := s4 _ _ hf3
    have al4 := bds_same al3 s4
    have gb4 := Kw.Same.tup s4 gb3
    have db6 : FB 600 u := db.mono (by decide)
    try with_reducible refine g_go ?_
    try with_reducible refine nil_go ?_
    try with_reducible first | refine hN4 _ _ ?_ | refine hN2 _ _ ?_
    try with_reducible refine seq_go fun N4 hN4 => ?_
    refine ⟨_, rfl, _, rfl, f, xs, bs, W, pb, u, rfl, hf4, bds_mono al4 (by decide), l1, l12, hw, gb4, db6, u0, fun r ys H5 s5 nr hr5 ay5 => ?_⟩
    have lr := sort_len bs u
    have pf := pass_fb fb db
    have hf5 := s5 _ _ hf4
    have al5 := bds_same al4 s5
    have gb5 := Kw.Same.tup s5 gb4
    try with_reducible refine g_go ?_
    try with_reducible refine nil_go ?_
    try with_reducible first | refine hN4 _ _ ?_ | refine hN2 _ _ ?_
    try with_reducible refine seq_go fun N4 hN4 => ?_
    refine ⟨_, rfl, r, ys, _, 64, rfl, SqL.of hr5, ay5, fun b hb => (pf b hb).2, ⟨by decide, by omega, by omega⟩, fun p6 H6 s6 g6 => ?_⟩
    try with_reducible refine g_go ?_
    try with_reducible refine nil_go ?_
    try with_reducible first | refine hN4 _ _ ?_ | refine hN2 _ _ ?_
    try with_reducible refine seq_go fun N4 hN4 => ?_
    refine ⟨_, rfl, f, xs, bs, 64, rfl, SqL.of (s6 _ _ hf5), bds_mono (bds_same al5 s6) (by decide), fun b hb => (fb b hb).2, ⟨by decide, by omega, by omega⟩, fun p7 H7 s7 g7 => ?_⟩
    rw [push_passed] at g6
    try with_reducible refine g_go ?_
    try with_reducible refine nil_go ?_
    try with_reducible first | refine hN4 _ _ ?_ | refine hN2 _ _ ?_
    try with_reducible refine seq_go fun N4 hN4 => ?_
    refine ⟨_, FQ.dp (Kw.Same.tup s7 g6), FQ.dp g7, rfl, rfl, _, rfl, iteF ?_⟩
    have s57 := s6.trans s7
    try with_reducible refine g_go ?_
    try with_reducible refine nil_go ?_
    try with_reducible first | refine hN4 _ _ ?_ | refine hN2 _ _ ?_
    try with_reducible refine seq_go fun N4 hN4 => ?_
    refine ⟨_, rfl, r, ys, _, 64, rfl, SqL.of (s57 _ _ hr5), bds_same ay5 s57, fun b hb => (pf b hb).2, ⟨by decide, by omega, by omega⟩, fun p8 H8 s8 g8 => ?_⟩
    have s58 := s57.trans s8
    try with_reducible refine g_go ?_
    try with_reducible refine nil_go ?_
    try with_reducible first | refine hN4 _ _ ?_ | refine hN2 _ _ ?_
    try with_reducible refine seq_go fun N4 hN4 => ?_
    refine ⟨_, rfl, f, xs, bs, 64, rfl, SqL.of (s58 _ _ hf5), bds_mono (bds_same al5 s58) (by decide), fun b hb => (fb b hb).2, ⟨by decide, by omega, by omega⟩, fun p9 H9 s9 g9 => ?_⟩
    rw [might_passed] at g8
    try with_reducible refine g_go ?_
    try with_reducible refine nil_go ?_
    try with_reducible first | refine hN4 _ _ ?_ | refine hN2 _ _ ?_
    try with_reducible refine seq_go fun N4 hN4 => ?_
    refine ⟨_, FQ.dp (Kw.Same.tup s9 g8), FQ.dp g9, rfl, rfl, _, rfl, iteF ?_⟩
    have s59 := s58.trans s9
    have hr9 := s59 _ _ hr5
    have ay9 := bds_same ay5 s59
    have hy := Al2.len ay9
    have hyl : ys.length ≤ sizeLine := Nat.le_trans (show ys.length ≤ 12 by omega) (by decide)
    try with_reducible refine g_go ?_
    try with_reducible refine nil_go ?_
    try with_reducible first | refine hN4 _ _ ?_ | refine hN2 _ _ ?_
    try with_reducible refine seq_go fun N4 hN4 => ?_
    refine ⟨_, rfl, r, ys, rfl, SqL.of hr9, lc_rev (K := K) (a := r) (xs := ys) (fun i zs H' => i ≤ ys.length ∧ Same H9 H' ∧ Al2 (BdQ K H' 2010) zs (((sortQ (strQ bs u)).reverse.take i).map mir1)) ⟨Nat.zero_le _, Same.refl H9, trivial⟩ hyl (fun i zs H' ⟨l, _, e⟩ => by have := Al2.len e; simp at this; omega) (fun i zs H' ⟨_, g, _⟩ => g.seq (SqL.of hr9)) ?_ ?_⟩
    · rintro i9 x zs H10 Q10 hx ⟨hl, s10, hzs⟩ kq
      obtain ⟨c, hc, p2, a2, c2, rfl, e1, e2, e3, d1, d2, v1, v2⟩ := Al2.get (Al2.rev ay9) hx
      have hi9 : i9 < ys.length := by have := (List.getElem?_eq_some_iff.mp hx).1; simpa using this
      have e1a := Kw.Same.tup s10 e1
      have e2a := Kw.Same.tup s10 e2
      try with_reducible refine g_go ?_
      try with_reducible refine nil_go ?_
      try with_reducible first | refine hN6 _ _ ?_ | refine hN4 _ _ ?_ | refine hN2 _ _ ?_
      try with_reducible refine seq_go fun N6 hN6 => ?_
      refine ⟨_, rfl, p2, _, _, _, rfl, rfl, e1a, rfl, a2, _, _, _, rfl, rfl, e2a, rfl, _, _, rfl, rfl, _, rfl, p2, _, _, _, rfl, rfl, e1a, rfl, a2, _, _, _, rfl, rfl, e2a, rfl, by show 2 ≤ sizeLine; decide, ?_⟩
      intro p11 n11
      obtain ⟨H11, q11, s11, e11⟩ := newO n11 (.tup [.int (0 - c.1.num), .int ((c.1.den : Nat) : Int)])
      rw [q11]
      clear q11
      have e1b := Kw.Same.tup s11 e1a
      have e3b := Kw.Same.tup (s10.trans s11) e3
      try with_reducible refine g_go ?_
      try with_reducible refine nil_go ?_
      try with_reducible first | refine hN6 _ _ ?_ | refine hN4 _ _ ?_ | refine hN2 _ _ ?_
      try with_reducible refine seq_go fun N6 hN6 => ?_
      refine ⟨_, rfl, p2, _, _, _, rfl, rfl, e1b, rfl, c2, _, _, _, rfl, rfl, e3b, rfl, _, _, rfl, rfl, _, rfl, p2, _, _, _, rfl, rfl, e1b, rfl, c2, _, _, _, rfl, rfl, e3b, rfl, by show 2 ≤ sizeLine; decide, ?_⟩
      intro p12 n12
      obtain ⟨H12, q12, s12, e12⟩ := newO n12 (.tup [.int (0 - c.2.1.num), .int ((c.2.1.den : Nat) : Int)])
      rw [q12]
      clear q12
      have e1c := Kw.Same.tup s12 e1b
      try with_reducible refine g_go ?_
      try with_reducible refine nil_go ?_
      try with_reducible first | refine hN6 _ _ ?_ | refine hN4 _ _ ?_ | refine hN2 _ _ ?_
      try with_reducible refine seq_go fun N6 hN6 => ?_
      refine ⟨_, rfl, p2, _, _, _, rfl, rfl, e1c, rfl, by show 3 ≤ sizeLine; decide, ?_⟩
      intro p13 n13
      obtain ⟨H13, q13, s13, e13⟩ := newO n13 (.tup [.ref p11, .ref p12, .int c.2.2])
      rw [q13]
      clear q13
      try with_reducible refine g_go ?_
      try with_reducible refine nil_go ?_
      try with_reducible first | refine hN6 _ _ ?_ | refine hN4 _ _ ?_ | refine hN2 _ _ ?_
      try with_reducible refine seq_go fun N6 hN6 => ?_
      refine kq _ _ ⟨by omega, s10.trans (s11.trans (s12.trans s13)), ?_⟩
      rw [take_snoc hc, List.map_append]
      try with_reducible refine g_go ?_
      try with_reducible refine nil_go ?_
      try with_reducible first | refine hN6 _ _ ?_ | refine hN4 _ _ ?_ | refine hN2 _ _ ?_
      try with_reducible refine seq_go fun N6 hN6 => ?_
      exact Al2.snoc (bds_same hzs (s11.trans (s12.trans s13))) ⟨p13, p11, p12, rfl, SqT.of e13, Kw.Same.tup (s12.trans s13) (FQ.ofNeg (SqT.of e11) (Int.zero_sub _)), Kw.Same.tup s13 (FQ.ofNeg (SqT.of e12) (Int.zero_sub _)), FB.neg d1, FB.neg d2, v1, v2⟩
    · rintro zs H10 ⟨_, s10, hzs⟩ pl hpl
      have en : (sortQ (strQ bs u)).reverse.take ys.length = (sortQ (strQ bs u)).reverse := by rw [hy, ← List.length_reverse, List.take_length]
      rw [en] at hzs
      obtain ⟨H11, q11, s11, e11⟩ := newO hpl (.lst zs)
      rw [q11]
      clear q11
      refine g_go ?_
      dsimp only
      have s511 := s59.trans (s10.trans s11)
      have hf11 := s511 _ _ hf5
      have al11 := bds_same al5 s511
      have gb11 := Kw.Same.tup s511 gb5
      try with_reducible refine g_go ?_
      try with_reducible refine nil_go ?_
      try with_reducible first | refine hN6 _ _ ?_ | refine hN4 _ _ ?_ | refine hN2 _ _ ?_
      try with_reducible refine seq_go fun N6 hN6 => ?_
      refine ⟨_, rfl, f, xs, bs, 64, rfl, SqL.of hf11, al11, ⟨by decide, by omega⟩, fun r12 ys12 H12 s12 n12 e12 al12 => ?_⟩
      have lm : (mirQ bs).length = bs.length := by unfold mirQ; simp
      try with_reducible refine g_go ?_
      try with_reducible refine nil_go ?_
      try with_reducible first | refine hN6 _ _ ?_ | refine hN4 _ _ ?_ | refine hN2 _ _ ?_
      try with_reducible refine seq_go fun N6 hN6 => ?_
      refine ⟨_, rfl, r12, ys12, mirQ bs, W, pb, u, rfl, e12, bds_mono al12 (by decide), by omega, by omega, mir_all hw, Kw.Same.tup s12 gb11, db6, u0, fun r13 ys13 H13 s13 n13 e13 al13 => ?_⟩
      rw [passed_mir hw] at al13
      have s1013 := s11.trans (s12.trans s13)
      have hzs' : Al2 (BdQ K H13 2010) zs (mirQ (sortQ (strQ bs u))) := bds_same hzs s1013
      try with_reducible refine g_go ?_
      try with_reducible refine nil_go ?_
      try with_reducible first | refine hN6 _ _ ?_ | refine hN4 _ _ ?_ | refine hN2 _ _ ?_
      try with_reducible refine seq_go fun N6 hN6 => ?_
      refine ⟨_, rfl, _, .lst (SqL.of e13) (bds_dp al13), .lst (SqL.of ((s12.trans s13) _ _ e11)) (bds_dp hzs'), (bds_ok _).1, (bds_ok _).2, _, rfl, iteF ?_⟩
      have s513 : Same H5 H13 := s511.trans (s12.trans s13)
      have s313 : Same H3 H13 := s4.trans (s5.trans s513)
      have hb13 := s313 _ _ hb3
      try with_reducible refine g_go ?_
      try with_reducible refine nil_go ?_
      try with_reducible first | refine hN6 _ _ ?_ | refine hN4 _ _ ?_ | refine hN2 _ _ ?_
      try with_reducible refine seq_go fun N6 hN6 => ?_
      refine ⟨_, rfl, b, n3, rfl, hb13, fun ps sp n14 H14 s14 hb14 gs ds _ => ?_⟩
      have hf14 := s14 _ _ nfb (s313 _ _ hf3)
      have al14 := bds_but (bds_same al3 s313) s14 hb13
      have gb14 := s14.tup hb13 (Kw.Same.tup s313 gb3)
      have nrb : r ≠ b := fun z => by rw [z, s4 _ _ hb3] at nr; cases nr
      have hr14 := s14 _ _ nrb (s513 _ _ hr5)
      have ay14 := bds_but (bds_same ay5 s513) s14 hb13
      try with_reducible refine g_go ?_
      try with_reducible refine nil_go ?_
      try with_reducible first | refine hN6 _ _ ?_ | refine hN4 _ _ ?_ | refine hN2 _ _ ?_
      try with_reducible refine seq_go fun N6 hN6 => ?_
      refine ⟨_, rfl, _, rfl, ps, sp, 70, pb, u, 258, rfl, gs, ds, gb14, db, by decide, fun pw H15 s15 gw => ?_⟩
      have dw : FB (70 + 258) (sp * u) := FB.mul ds db
      have hr15 := s15 _ _ hr14
      have ay15 := bds_same ay14 s15
      have gs15 := Kw.Same.tup s15 gs
      try with_reducible refine g_go ?_
      try with_reducible refine nil_go ?_
      try with_reducible first | refine hN6 _ _ ?_ | refine hN4 _ _ ?_ | refine hN2 _ _ ?_
      try with_reducible refine seq_go fun N6 hN6 => ?_
      refine ⟨_, rfl, r, rfl, ⟨_, SqL.of hr15⟩, lc_list (K := K) (a := r) (xs := ys) (fun i zs H' => i ≤ ys.length ∧ Same H15 H' ∧ Al2 (BdQ K H' 2010) zs (seeQ ((sortQ (strQ bs u)).take i) sp (sp * u))) ⟨Nat.zero_le _, Same.refl H15, trivial⟩ hyl (fun i zs H' ⟨l, _, e⟩ => by have := Al2.len e; unfold seeQ at this; simp at this; omega) (fun i zs H' ⟨_, g, _⟩ => g.seq (SqL.of hr15)) ?_ ?_⟩
      · rintro i9 x zs9 H16 Q16 hx ⟨hl, s16, hzs9⟩ kq
        obtain ⟨c, hc, p2, a2, c2, rfl, e1, e2, e3, d1, d2, v1, v2⟩ := Al2.get ay15 hx
        have hi9 : i9 < ys.length := (List.getElem?_eq_some_iff.mp hx).1
        have fc := pf c (List.mem_of_getElem? hc)
        have e1a := Kw.Same.tup s16 e1
        try with_reducible refine g_go ?_
        try with_reducible refine nil_go ?_
        try with_reducible first | refine hN8 _ _ ?_ | refine hN6 _ _ ?_ | refine hN4 _ _ ?_ | refine hN2 _ _ ?_
        try with_reducible refine seq_go fun N8 hN8 => ?_
        refine ⟨_, rfl, p2, _, _, _, rfl, rfl, e1a, rfl, _, rfl, a2, c.1, _, pw, _, _, rfl, Kw.Same.tup s16 e2, fc.1, Kw.Same.tup s16 gw, dw, by decide, fun p17 H17 s17 g17 => ?_⟩
        have s167 := s16.trans s17
        have e1b := Kw.Same.tup s17 e1a
        try with_reducible refine g_go ?_
        try with_reducible refine nil_go ?_
        try with_reducible first | refine hN8 _ _ ?_ | refine hN6 _ _ ?_ | refine hN4 _ _ ?_ | refine hN2 _ _ ?_
        try with_reducible refine seq_go fun N8 hN8 => ?_
        refine ⟨_, rfl, p2, _, _, _, rfl, rfl, e1b, rfl, _, rfl, c2, c.2.1, _, ps, _, _, rfl, Kw.Same.tup s167 e3, fc.2, Kw.Same.tup s167 gs15, ds, by decide, fun p18 H18 s18 g18 => ?_⟩
        have e1c := Kw.Same.tup s18 e1b
        try with_reducible refine g_go ?_
        try with_reducible refine nil_go ?_
        try with_reducible first | refine hN8 _ _ ?_ | refine hN6 _ _ ?_ | refine hN4 _ _ ?_ | refine hN2 _ _ ?_
        try with_reducible refine seq_go fun N8 hN8 => ?_
        refine ⟨_, rfl, p2, _, _, _, rfl, rfl, e1c, rfl, by show 3 ≤ sizeLine; decide, ?_⟩
        intro p19 n19
        obtain ⟨H19, q19, s19, e19⟩ := newO n19 (.tup [.ref p17, .ref p18, .int c.2.2])
        rw [q19]
        clear q19
        have s1719 := s18.trans s19
        try with_reducible refine g_go ?_
        try with_reducible refine nil_go ?_
        try with_reducible first | refine hN8 _ _ ?_ | refine hN6 _ _ ?_ | refine hN4 _ _ ?_ | refine hN2 _ _ ?_
        try with_reducible refine seq_go fun N8 hN8 => ?_
        refine kq _ _ ⟨by omega, s167.trans s1719, ?_⟩
        rw [take_snoc hc]
        unfold seeQ
        rw [List.map_append]
        try with_reducible refine g_go ?_
        try with_reducible refine nil_go ?_
        try with_reducible first | refine hN8 _ _ ?_ | refine hN6 _ _ ?_ | refine hN4 _ _ ?_ | refine hN2 _ _ ?_
        try with_reducible refine seq_go fun N8 hN8 => ?_
        exact Al2.snoc (bds_same hzs9 (s17.trans s1719)) ⟨p19, p17, p18, rfl, SqT.of e19, Kw.Same.tup s1719 g17, Kw.Same.tup s19 g18, (FB.sub fc.1 dw).mono (by decide), (FB.sub fc.2 ds).mono (by decide), v1, v2⟩
      · rintro zs9 H16 ⟨_, s16, hzs9⟩ pl9 hpl9
        rw [hy, List.take_length] at hzs9
        obtain ⟨H17, q17, s17, e17⟩ := newO hpl9 (.lst zs9)
        rw [q17]
        clear q17
        refine g_go ?_
        dsimp only
        have s1417 := s15.trans (s16.trans s17)
        have hf17 := s1417 _ _ hf14
        have al17 := bds_same al14 s1417
        have gs17 := Kw.Same.tup s1417 gs
        have hxl : xs.length ≤ sizeLine := Nat.le_trans (show xs.length ≤ 12 by omega) (by decide)
        try with_reducible refine g_go ?_
        try with_reducible refine nil_go ?_
        try with_reducible first | refine hN8 _ _ ?_ | refine hN6 _ _ ?_ | refine hN4 _ _ ?_ | refine hN2 _ _ ?_
        try with_reducible refine seq_go fun N8 hN8 => ?_
        refine ⟨_, rfl, f, rfl, ⟨_, SqL.of hf17⟩, lc_list (K := K) (a := f) (xs := xs) (fun i zs H' => i ≤ xs.length ∧ Same H17 H' ∧ Al2 (BdQ K H' 700) zs (seeQ (bs.take i) sp 0)) ⟨Nat.zero_le _, Same.refl H17, trivial⟩ hxl (fun i zs H' ⟨l, _, e⟩ => by have := Al2.len e; unfold seeQ at this; simp at this; omega) (fun i zs H' ⟨_, g, _⟩ => g.seq (SqL.of hf17)) ?_ ?_⟩
        · rintro i9 x zs0 H18 Q18 hx ⟨hl, s18, hzs0⟩ kq
          obtain ⟨c, hc, p2, a2, c2, rfl, e1, e2, e3, d1, d2, v1, v2⟩ := Al2.get al17 hx
          have hi9 : i9 < xs.length := (List.getElem?_eq_some_iff.mp hx).1
          try with_reducible refine g_go ?_
          try with_reducible refine nil_go ?_
          try with_reducible first | refine hN10 _ _ ?_ | refine hN8 _ _ ?_ | refine hN6 _ _ ?_ | refine hN4 _ _ ?_ | refine hN2 _ _ ?_
          try with_reducible refine seq_go fun N10 hN10 => ?_
          refine ⟨_, rfl, _, rfl, p2, a2, c2, c.1, c.2.1, c.2.2, ps, sp, rfl, Kw.Same.tup s18 e1, Kw.Same.tup s18 e2, Kw.Same.tup s18 e3, d1.mono (by decide), d2.mono (by decide), v1, v2, Kw.Same.tup s18 gs17, ds.mono (by decide), fun p19 px pv H19 s19 g19 gx gv => ?_⟩
          try with_reducible refine g_go ?_
          try with_reducible refine nil_go ?_
          try with_reducible first | refine hN10 _ _ ?_ | refine hN8 _ _ ?_ | refine hN6 _ _ ?_ | refine hN4 _ _ ?_ | refine hN2 _ _ ?_
          try with_reducible refine seq_go fun N10 hN10 => ?_
          refine kq _ _ ⟨by omega, s18.trans s19, ?_⟩
          rw [take_snoc hc]
          unfold seeQ
          rw [List.map_append]
          have z0 : c.1 - 0 = c.1 := by grind
          have d0 : FB 700 (c.1 - 0) := by rw [z0]; exact d1.mono (by decide)
          try with_reducible refine g_go ?_
          try with_reducible refine nil_go ?_
          try with_reducible first | refine hN10 _ _ ?_ | refine hN8 _ _ ?_ | refine hN6 _ _ ?_ | refine hN4 _ _ ?_ | refine hN2 _ _ ?_
          try with_reducible refine seq_go fun N10 hN10 => ?_
          exact Al2.snoc (bds_same hzs0 s19) ⟨p19, px, pv, rfl, g19, FQ.cast gx (by grind), gv, d0, (FB.sub d2 ds).mono (by decide), v1, v2⟩
        · rintro zs0 H18 ⟨_, s18, hzs0⟩ pl0 hpl0
          rw [hz, List.take_length] at hzs0
          obtain ⟨H19, q19, s19, e19⟩ := newO hpl0 (.lst zs0)
          rw [q19]
          clear q19
          have ls : (seeQ bs sp 0).length = bs.length := by unfold seeQ; simp
          have s1419 := s1417.trans (s18.trans s19)
          try with_reducible refine g_go ?_
          try with_reducible refine nil_go ?_
          try with_reducible first | refine hN10 _ _ ?_ | refine hN8 _ _ ?_ | refine hN6 _ _ ?_ | refine hN4 _ _ ?_ | refine hN2 _ _ ?_
          try with_reducible refine seq_go fun N10 hN10 => ?_
          refine ⟨_, rfl, pl0, zs0, seeQ bs sp 0, W, pb, u, rfl, e19, bds_same hzs0 s19, by omega, by omega, ?_, Kw.Same.tup s1419 gb14, db6, u0, fun r20 ys20 H20 s20 n20 e20 al20 => ?_⟩
          · intro c hc
            unfold seeQ at hc
            obtain ⟨c', hc', rfl⟩ := List.mem_map.mp hc
            try with_reducible refine g_go ?_
            try with_reducible refine nil_go ?_
            try with_reducible first | refine hN12 _ _ ?_ | refine hN10 _ _ ?_ | refine hN8 _ _ ?_ | refine hN6 _ _ ?_ | refine hN4 _ _ ?_ | refine hN2 _ _ ?_
            try with_reducible refine seq_go fun N12 hN12 => ?_
            exact hw c' hc'
          rw [passed_see hw] at al20
          have s1720 := s18.trans (s19.trans s20)
          try with_reducible refine g_go ?_
          try with_reducible refine nil_go ?_
          try with_reducible first | refine hN10 _ _ ?_ | refine hN8 _ _ ?_ | refine hN6 _ _ ?_ | refine hN4 _ _ ?_ | refine hN2 _ _ ?_
          try with_reducible refine seq_go fun N10 hN10 => ?_
          refine ⟨_, rfl, _, .lst (SqL.of e20) (bds_dp al20), .lst (SqL.of (s1720 _ _ e17)) (bds_dp (bds_same hzs9 (s17.trans s1720))), (bds_ok _).1, (bds_ok _).2, _, rfl, iteF ?_⟩
          try with_reducible refine g_go ?_
          try with_reducible refine nil_go ?_
          try with_reducible first | refine hN10 _ _ ?_ | refine hN8 _ _ ?_ | refine hN6 _ _ ?_ | refine hN4 _ _ ?_ | refine hN2 _ _ ?_
          try with_reducible refine seq_go fun N10 hN10 => ?_
          exact ⟨_, _, _, _, _, _, _, _, _, _, rfl, sm.trans (But.fresh hb0 ((But.of sb).trans (s1.trans (s2.trans (s3.trans ((But.of s313).trans (s14.trans (But.of (s1417.trans s1720)))))))))⟩
  · rintro σ0 H0 ⟨r1, r2, r3, r4, r5, r6, r7, r8, r9, r10, rfl, sm⟩
    try with_reducible refine g_go ?_
    try with_reducible refine nil_go ?_
    try with_reducible first | refine hN4 _ _ ?_ | refine hN2 _ _ ?_
    try with_reducible refine seq_go fun N4 hN4 => ?_
    exact fin _
end
theorem len1 {p : List Value → Prop} (h : ∀ x0, p [x0]) : ∀ us : List Value, us.length = 1 → p us
  | [x0], _ => h x0
theorem len2 {p : List Value → Prop} (h : ∀ x0 x1, p [x0, x1]) : ∀ us : List Value, us.length = 2 → p us
  | [x0, x1], _ => h x0 x1
theorem len3 {p : List Value → Prop} (h : ∀ x0 x1 x2, p [x0, x1, x2]) : ∀ us : List Value, us.length = 3 → p us
  | [x0, x1, x2], _ => h x0 x1 x2
set_option maxHeartbeats 0 in
theorem all_mk {P : Program} {w : World} {K : PySem.W.Frag} {h : Heap} {mg : Str → Option Value} (X : K.In h) (G : h.Ns mainGlobals mg)
    {f0 f1 f2 f3 f4 f5 f6 f7 f8 f9 f10 f11 f12 f13 f14 f15 f16 f17 f18 f19 f20 f21 f22 f23 f24 f25 f26 f27 f28 f29 f30 f31 f32 f33 f34 f35 f36 f37 f38 f39 f40 f41 f42 f43 : Addr}
    {oc0 kV0 dc0 pm0 cd0 ct0 oc1 kV1 dc1 pm1 cd1 ct1 oc2 kV2 dc2 pm2 cd2 ct2 oc3 kV3 dc3 pm3 cd3 ct3 oc4 kV4 dc4 pm4 cd4 ct4 oc5 kV5 dc5 pm5 cd5 ct5 oc6 kV6 dc6 pm6 cd6 ct6 oc7 kV7 dc7 pm7 cd7 ct7 oc8 kV8 dc8 pm8 cd8 ct8 oc9 kV9 dc9 pm9 cd9 ct9 oc10 kV10 dc10 pm10 cd10 ct10 oc11 kV11 dc11 pm11 cd11 ct11 oc12 kV12 dc12 pm12 cd12 ct12 oc13 kV13 dc13 pm13 cd13 ct13 oc14 kV14 dc14 pm14 cd14 ct14 oc15 kV15 dc15 pm15 cd15 ct15 oc16 kV16 dc16 pm16 cd16 ct16 oc17 kV17 dc17 pm17 cd17 ct17 oc18 kV18 dc18 pm18 cd18 ct18 oc19 kV19 dc19 pm19 cd19 ct19 oc20 kV20 dc20 pm20 cd20 ct20 oc21 kV21 dc21 pm21 cd21 ct21 oc22 kV22 dc22 pm22 cd22 ct22 oc23 kV23 dc23 pm23 cd23 ct23 oc24 kV24 dc24 pm24 cd24 ct24 oc25 kV25 dc25 pm25 cd25 ct25 oc26 kV26 dc26 pm26 cd26 ct26 oc27 kV27 dc27 pm27 cd27 ct27 oc28 kV28 dc28 pm28 cd28 ct28 oc29 kV29 dc29 pm29 cd29 ct29 oc30 kV30 dc30 pm30 cd30 ct30 oc31 kV31 dc31 pm31 cd31 ct31 oc32 kV32 dc32 pm32 cd32 ct32 oc33 kV33 dc33 pm33 cd33 ct33 oc34 kV34 dc34 pm34 cd34 ct34 oc35 kV35 dc35 pm35 cd35 ct35 oc36 kV36 dc36 pm36 cd36 ct36 oc37 kV37 dc37 pm37 cd37 ct37 oc38 kV38 dc38 pm38 cd38 ct38 oc39 kV39 dc39 pm39 cd39 ct39 oc40 kV40 dc40 pm40 cd40 ct40 oc41 kV41 dc41 pm41 cd41 ct41 oc42 kV42 dc42 pm42 cd42 ct42 oc43 kV43 dc43 pm43 cd43 ct43 : Value}
    {od0 an0 od1 an1 od2 an2 od3 an3 od4 an4 od5 an5 od6 an6 od7 an7 od8 an8 od9 an9 od10 an10 od11 an11 od12 an12 od13 an13 od14 an14 od15 an15 od16 an16 od17 an17 od18 an18 od19 an19 od20 an20 od21 an21 od22 an22 od23 an23 od24 an24 od25 an25 od26 an26 od27 an27 od28 an28 od29 an29 od30 an30 od31 an31 od32 an32 od33 an33 od34 an34 od35 an35 od36 an36 od37 an37 od38 an38 od39 an39 od40 an40 od41 an41 od42 an42 od43 an43 : Option Addr}
    {sl0 sl1 sl2 sl3 sl4 sl5 sl6 sl7 sl8 sl9 sl10 sl11 sl12 sl13 sl14 sl15 sl16 sl17 sl18 sl19 sl20 sl21 sl22 sl23 sl24 sl25 sl26 sl27 sl28 sl29 sl30 sl31 sl32 sl33 sl34 sl35 sl36 sl37 sl38 sl39 sl40 sl41 sl42 sl43 : Array (Option Value)}
    {tk_LONG_BITS : Tok}
    {A_NOUGHT : Addr} {oG_NOUGHT : Option Addr} {k1_NOUGHT k2_NOUGHT : Tok} {nG_NOUGHT : Nat} {slG_NOUGHT : Array (Option Value)}
    (b_isinstance : PySem.W.nsIn K mainGlobals "isinstance" = some none)
    (b_int : PySem.W.nsIn K mainGlobals "int" = some none)
    (b_bool : PySem.W.nsIn K mainGlobals "bool" = some none)
    (b_abs : PySem.W.nsIn K mainGlobals "abs" = some none)
    (b_len : PySem.W.nsIn K mainGlobals "len" = some none)
    (b_divmod : PySem.W.nsIn K mainGlobals "divmod" = some none)
    (b_range : PySem.W.nsIn K mainGlobals "range" = some none)
    (b_max : PySem.W.nsIn K mainGlobals "max" = some none)
    (b_min : PySem.W.nsIn K mainGlobals "min" = some none)
    (b_reversed : PySem.W.nsIn K mainGlobals "reversed" = some none)
    (b_enumerate : PySem.W.nsIn K mainGlobals "enumerate" = some none)
    (i_LONG_BITS : PySem.W.nsIn K mainGlobals "LONG_BITS" = some (some (.int 4000 tk_LONG_BITS)))
    (c_NOUGHT : PySem.W.nsIn K mainGlobals "NOUGHT" = some (some (.ref A_NOUGHT)))
    (z_NOUGHT : K.lookup A_NOUGHT = some ⟨.type "tuple", oG_NOUGHT, .seq #[.int 0 k1_NOUGHT, .int 1 k2_NOUGHT] nG_NOUGHT, slG_NOUGHT⟩)
    (a0 : PySem.W.nsIn K mainGlobals "is_whole" = some (some (.ref f0)))
    (l0 : K.lookup f0 = some ⟨oc0, od0, .func (PySem.W.fnOf "is_whole" "is_whole" (defArgs (top 9)) (defBody (top 9)) (defScope (top 9)) .none kV0 dc0 pm0 an0 cd0 ct0), sl0⟩)
    (q0 : PySem.W.codeIn K cd0 "is_whole" = true)
    (k0 : PySem.W.keepIn K (.ref f0) = true)
    (a1 : PySem.W.nsIn K mainGlobals "common_divisor" = some (some (.ref f1)))
    (l1 : K.lookup f1 = some ⟨oc1, od1, .func (PySem.W.fnOf "common_divisor" "common_divisor" (defArgs (top 11)) (defBody (top 11)) (defScope (top 11)) .none kV1 dc1 pm1 an1 cd1 ct1), sl1⟩)
    (q1 : PySem.W.codeIn K cd1 "common_divisor" = true)
    (k1 : PySem.W.keepIn K (.ref f1) = true)
    (a2 : PySem.W.nsIn K mainGlobals "plus" = some (some (.ref f2)))
    (l2 : K.lookup f2 = some ⟨oc2, od2, .func (PySem.W.fnOf "plus" "plus" (defArgs (top 12)) (defBody (top 12)) (defScope (top 12)) .none kV2 dc2 pm2 an2 cd2 ct2), sl2⟩)
    (q2 : PySem.W.codeIn K cd2 "plus" = true)
    (k2 : PySem.W.keepIn K (.ref f2) = true)
    (a3 : PySem.W.nsIn K mainGlobals "minus" = some (some (.ref f3)))
    (l3 : K.lookup f3 = some ⟨oc3, od3, .func (PySem.W.fnOf "minus" "minus" (defArgs (top 13)) (defBody (top 13)) (defScope (top 13)) .none kV3 dc3 pm3 an3 cd3 ct3), sl3⟩)
    (q3 : PySem.W.codeIn K cd3 "minus" = true)
    (k3 : PySem.W.keepIn K (.ref f3) = true)
    (a4 : PySem.W.nsIn K mainGlobals "times" = some (some (.ref f4)))
    (l4 : K.lookup f4 = some ⟨oc4, od4, .func (PySem.W.fnOf "times" "times" (defArgs (top 14)) (defBody (top 14)) (defScope (top 14)) .none kV4 dc4 pm4 an4 cd4 ct4), sl4⟩)
    (q4 : PySem.W.codeIn K cd4 "times" = true)
    (k4 : PySem.W.keepIn K (.ref f4) = true)
    (a5 : PySem.W.nsIn K mainGlobals "over" = some (some (.ref f5)))
    (l5 : K.lookup f5 = some ⟨oc5, od5, .func (PySem.W.fnOf "over" "over" (defArgs (top 15)) (defBody (top 15)) (defScope (top 15)) .none kV5 dc5 pm5 an5 cd5 ct5), sl5⟩)
    (q5 : PySem.W.codeIn K cd5 "over" = true)
    (k5 : PySem.W.keepIn K (.ref f5) = true)
    (a6 : PySem.W.nsIn K mainGlobals "under" = some (some (.ref f6)))
    (l6 : K.lookup f6 = some ⟨oc6, od6, .func (PySem.W.fnOf "under" "under" (defArgs (top 16)) (defBody (top 16)) (defScope (top 16)) .none kV6 dc6 pm6 an6 cd6 ct6), sl6⟩)
    (q6 : PySem.W.codeIn K cd6 "under" = true)
    (k6 : PySem.W.keepIn K (.ref f6) = true)
    (a7 : PySem.W.nsIn K mainGlobals "refuse_below_nought" = some (some (.ref f7)))
    (l7 : K.lookup f7 = some ⟨oc7, od7, .func (PySem.W.fnOf "refuse_below_nought" "refuse_below_nought" (defArgs (top 19)) (defBody (top 19)) (defScope (top 19)) .none kV7 dc7 pm7 an7 cd7 ct7), sl7⟩)
    (q7 : PySem.W.codeIn K cd7 "refuse_below_nought" = true)
    (k7 : PySem.W.keepIn K (.ref f7) = true)
    (a8 : PySem.W.nsIn K mainGlobals "joint_moment" = some (some (.ref f8)))
    (l8 : K.lookup f8 = some ⟨oc8, od8, .func (PySem.W.fnOf "joint_moment" "joint_moment" (defArgs (top 22)) (defBody (top 22)) (defScope (top 22)) .none kV8 dc8 pm8 an8 cd8 ct8), sl8⟩)
    (q8 : PySem.W.codeIn K cd8 "joint_moment" = true)
    (k8 : PySem.W.keepIn K (.ref f8) = true)
    (a9 : PySem.W.nsIn K mainGlobals "refuse_unlike" = some (some (.ref f9)))
    (l9 : K.lookup f9 = some ⟨oc9, od9, .func (PySem.W.fnOf "refuse_unlike" "refuse_unlike" (defArgs (top 24)) (defBody (top 24)) (defScope (top 24)) .none kV9 dc9 pm9 an9 cd9 ct9), sl9⟩)
    (q9 : PySem.W.codeIn K cd9 "refuse_unlike" = true)
    (k9 : PySem.W.keepIn K (.ref f9) = true)
    (a10 : PySem.W.nsIn K mainGlobals "passings" = some (some (.ref f10)))
    (l10 : K.lookup f10 = some ⟨oc10, od10, .func (PySem.W.fnOf "passings" "passings" (defArgs (top 30)) (defBody (top 30)) (defScope (top 30)) .none kV10 dc10 pm10 an10 cd10 ct10), sl10⟩)
    (q10 : PySem.W.codeIn K cd10 "passings" = true)
    (k10 : PySem.W.keepIn K (.ref f10) = true)
    (a11 : PySem.W.nsIn K mainGlobals "place_at" = some (some (.ref f11)))
    (l11 : K.lookup f11 = some ⟨oc11, od11, .func (PySem.W.fnOf "place_at" "place_at" (defArgs (top 20)) (defBody (top 20)) (defScope (top 20)) .none kV11 dc11 pm11 an11 cd11 ct11), sl11⟩)
    (q11 : PySem.W.codeIn K cd11 "place_at" = true)
    (k11 : PySem.W.keepIn K (.ref f11) = true)
    (a12 : PySem.W.nsIn K mainGlobals "led" = some (some (.ref f12)))
    (l12 : K.lookup f12 = some ⟨oc12, od12, .func (PySem.W.fnOf "led" "led" (defArgs (top 21)) (defBody (top 21)) (defScope (top 21)) .none kV12 dc12 pm12 an12 cd12 ct12), sl12⟩)
    (q12 : PySem.W.codeIn K cd12 "led" = true)
    (k12 : PySem.W.keepIn K (.ref f12) = true)
    (a13 : PySem.W.nsIn K mainGlobals "is_ahead" = some (some (.ref f13)))
    (l13 : K.lookup f13 = some ⟨oc13, od13, .func (PySem.W.fnOf "is_ahead" "is_ahead" (defArgs (top 25)) (defBody (top 25)) (defScope (top 25)) .none kV13 dc13 pm13 an13 cd13 ct13), sl13⟩)
    (q13 : PySem.W.codeIn K cd13 "is_ahead" = true)
    (k13 : PySem.W.keepIn K (.ref f13) = true)
    (a14 : PySem.W.nsIn K mainGlobals "order_of" = some (some (.ref f14)))
    (l14 : K.lookup f14 = some ⟨oc14, od14, .func (PySem.W.fnOf "order_of" "order_of" (defArgs (top 26)) (defBody (top 26)) (defScope (top 26)) .none kV14 dc14 pm14 an14 cd14 ct14), sl14⟩)
    (q14 : PySem.W.codeIn K cd14 "order_of" = true)
    (k14 : PySem.W.keepIn K (.ref f14) = true)
    (a15 : PySem.W.nsIn K mainGlobals "straight" = some (some (.ref f15)))
    (l15 : K.lookup f15 = some ⟨oc15, od15, .func (PySem.W.fnOf "straight" "straight" (defArgs (top 28)) (defBody (top 28)) (defScope (top 28)) .none kV15 dc15 pm15 an15 cd15 ct15), sl15⟩)
    (q15 : PySem.W.codeIn K cd15 "straight" = true)
    (k15 : PySem.W.keepIn K (.ref f15) = true)
    (a16 : PySem.W.nsIn K mainGlobals "in_order" = some (some (.ref f16)))
    (l16 : K.lookup f16 = some ⟨oc16, od16, .func (PySem.W.fnOf "in_order" "in_order" (defArgs (top 27)) (defBody (top 27)) (defScope (top 27)) .none kV16 dc16 pm16 an16 cd16 ct16), sl16⟩)
    (q16 : PySem.W.codeIn K cd16 "in_order" = true)
    (k16 : PySem.W.keepIn K (.ref f16) = true)
    (a17 : PySem.W.nsIn K mainGlobals "passed" = some (some (.ref f17)))
    (l17 : K.lookup f17 = some ⟨oc17, od17, .func (PySem.W.fnOf "passed" "passed" (defArgs (top 29)) (defBody (top 29)) (defScope (top 29)) .none kV17 dc17 pm17 an17 cd17 ct17), sl17⟩)
    (q17 : PySem.W.codeIn K cd17 "passed" = true)
    (k17 : PySem.W.keepIn K (.ref f17) = true)
    (a18 : PySem.W.nsIn K mainGlobals "wearer" = some (some (.ref f18)))
    (l18 : K.lookup f18 = some ⟨oc18, od18, .func (PySem.W.fnOf "wearer" "wearer" (defArgs (top 32)) (defBody (top 32)) (defScope (top 32)) .none kV18 dc18 pm18 an18 cd18 ct18), sl18⟩)
    (q18 : PySem.W.codeIn K cd18 "wearer" = true)
    (k18 : PySem.W.keepIn K (.ref f18) = true)
    (a19 : PySem.W.nsIn K mainGlobals "crossings" = some (some (.ref f19)))
    (l19 : K.lookup f19 = some ⟨oc19, od19, .func (PySem.W.fnOf "crossings" "crossings" (defArgs (top 31)) (defBody (top 31)) (defScope (top 31)) .none kV19 dc19 pm19 an19 cd19 ct19), sl19⟩)
    (q19 : PySem.W.codeIn K cd19 "crossings" = true)
    (k19 : PySem.W.keepIn K (.ref f19) = true)
    (a20 : PySem.W.nsIn K mainGlobals "push_of" = some (some (.ref f20)))
    (l20 : K.lookup f20 = some ⟨oc20, od20, .func (PySem.W.fnOf "push_of" "push_of" (defArgs (top 34)) (defBody (top 34)) (defScope (top 34)) .none kV20 dc20 pm20 an20 cd20 ct20), sl20⟩)
    (q20 : PySem.W.codeIn K cd20 "push_of" = true)
    (k20 : PySem.W.keepIn K (.ref f20) = true)
    (a21 : PySem.W.nsIn K mainGlobals "total" = some (some (.ref f21)))
    (l21 : K.lookup f21 = some ⟨oc21, od21, .func (PySem.W.fnOf "total" "total" (defArgs (top 35)) (defBody (top 35)) (defScope (top 35)) .none kV21 dc21 pm21 an21 cd21 ct21), sl21⟩)
    (q21 : PySem.W.codeIn K cd21 "total" = true)
    (k21 : PySem.W.keepIn K (.ref f21) = true)
    (a22 : PySem.W.nsIn K mainGlobals "push" = some (some (.ref f22)))
    (l22 : K.lookup f22 = some ⟨oc22, od22, .func (PySem.W.fnOf "push" "push" (defArgs (top 36)) (defBody (top 36)) (defScope (top 36)) .none kV22 dc22 pm22 an22 cd22 ct22), sl22⟩)
    (q22 : PySem.W.codeIn K cd22 "push" = true)
    (k22 : PySem.W.keepIn K (.ref f22) = true)
    (a23 : PySem.W.nsIn K mainGlobals "might" = some (some (.ref f23)))
    (l23 : K.lookup f23 = some ⟨oc23, od23, .func (PySem.W.fnOf "might" "might" (defArgs (top 37)) (defBody (top 37)) (defScope (top 37)) .none kV23 dc23 pm23 an23 cd23 ct23), sl23⟩)
    (q23 : PySem.W.codeIn K cd23 "might" = true)
    (k23 : PySem.W.keepIn K (.ref f23) = true)
    (a24 : PySem.W.nsIn K mainGlobals "seen_from" = some (some (.ref f24)))
    (l24 : K.lookup f24 = some ⟨oc24, od24, .func (PySem.W.fnOf "seen_from" "seen_from" (defArgs (top 38)) (defBody (top 38)) (defScope (top 38)) .none kV24 dc24 pm24 an24 cd24 ct24), sl24⟩)
    (q24 : PySem.W.codeIn K cd24 "seen_from" = true)
    (k24 : PySem.W.keepIn K (.ref f24) = true)
    (a25 : PySem.W.nsIn K mainGlobals "turned_about" = some (some (.ref f25)))
    (l25 : K.lookup f25 = some ⟨oc25, od25, .func (PySem.W.fnOf "turned_about" "turned_about" (defArgs (top 39)) (defBody (top 39)) (defScope (top 39)) .none kV25 dc25 pm25 an25 cd25 ct25), sl25⟩)
    (q25 : PySem.W.codeIn K cd25 "turned_about" = true)
    (k25 : PySem.W.keepIn K (.ref f25) = true)
    (a26 : PySem.W.nsIn K mainGlobals "mirrored" = some (some (.ref f26)))
    (l26 : K.lookup f26 = some ⟨oc26, od26, .func (PySem.W.fnOf "mirrored" "mirrored" (defArgs (top 40)) (defBody (top 40)) (defScope (top 40)) .none kV26 dc26 pm26 an26 cd26 ct26), sl26⟩)
    (q26 : PySem.W.codeIn K cd26 "mirrored" = true)
    (k26 : PySem.W.keepIn K (.ref f26) = true)
    (a27 : PySem.W.nsIn K mainGlobals "_law_cell" = some (some (.ref f27)))
    (l27 : K.lookup f27 = some ⟨oc27, od27, .func (PySem.W.fnOf "_law_cell" "_law_cell" (defArgs (top 42)) (defBody (top 42)) (defScope (top 42)) .none kV27 dc27 pm27 an27 cd27 ct27), sl27⟩)
    (q27 : PySem.W.codeIn K cd27 "_law_cell" = true)
    (k27 : PySem.W.keepIn K (.ref f27) = true)
    (a28 : PySem.W.nsIn K mainGlobals "_law_mix" = some (some (.ref f28)))
    (l28 : K.lookup f28 = some ⟨oc28, od28, .func (PySem.W.fnOf "_law_mix" "_law_mix" (defArgs (top 43)) (defBody (top 43)) (defScope (top 43)) .none kV28 dc28 pm28 an28 cd28 ct28), sl28⟩)
    (q28 : PySem.W.codeIn K cd28 "_law_mix" = true)
    (k28 : PySem.W.keepIn K (.ref f28) = true)
    (a29 : PySem.W.nsIn K mainGlobals "_law_box" = some (some (.ref f29)))
    (l29 : K.lookup f29 = some ⟨oc29, od29, .func (PySem.W.fnOf "_law_box" "_law_box" (defArgs (top 44)) (defBody (top 44)) (defScope (top 44)) .none kV29 dc29 pm29 an29 cd29 ct29), sl29⟩)
    (q29 : PySem.W.codeIn K cd29 "_law_box" = true)
    (k29 : PySem.W.keepIn K (.ref f29) = true)
    (a30 : PySem.W.nsIn K mainGlobals "_law_take" = some (some (.ref f30)))
    (l30 : K.lookup f30 = some ⟨oc30, od30, .func (PySem.W.fnOf "_law_take" "_law_take" (defArgs (top 45)) (defBody (top 45)) (defScope (top 45)) .none kV30 dc30 pm30 an30 cd30 ct30), sl30⟩)
    (q30 : PySem.W.codeIn K cd30 "_law_take" = true)
    (k30 : PySem.W.keepIn K (.ref f30) = true)
    (a31 : PySem.W.nsIn K mainGlobals "_law_fit" = some (some (.ref f31)))
    (l31 : K.lookup f31 = some ⟨oc31, od31, .func (PySem.W.fnOf "_law_fit" "_law_fit" (defArgs (top 46)) (defBody (top 46)) (defScope (top 46)) .none kV31 dc31 pm31 an31 cd31 ct31), sl31⟩)
    (q31 : PySem.W.codeIn K cd31 "_law_fit" = true)
    (k31 : PySem.W.keepIn K (.ref f31) = true)
    (a32 : PySem.W.nsIn K mainGlobals "_law_plus" = some (some (.ref f32)))
    (l32 : K.lookup f32 = some ⟨oc32, od32, .func (PySem.W.fnOf "_law_plus" "_law_plus" (defArgs (top 47)) (defBody (top 47)) (defScope (top 47)) .none kV32 dc32 pm32 an32 cd32 ct32), sl32⟩)
    (q32 : PySem.W.codeIn K cd32 "_law_plus" = true)
    (k32 : PySem.W.keepIn K (.ref f32) = true)
    (a33 : PySem.W.nsIn K mainGlobals "_law_minus" = some (some (.ref f33)))
    (l33 : K.lookup f33 = some ⟨oc33, od33, .func (PySem.W.fnOf "_law_minus" "_law_minus" (defArgs (top 48)) (defBody (top 48)) (defScope (top 48)) .none kV33 dc33 pm33 an33 cd33 ct33), sl33⟩)
    (q33 : PySem.W.codeIn K cd33 "_law_minus" = true)
    (k33 : PySem.W.keepIn K (.ref f33) = true)
    (a34 : PySem.W.nsIn K mainGlobals "_law_times" = some (some (.ref f34)))
    (l34 : K.lookup f34 = some ⟨oc34, od34, .func (PySem.W.fnOf "_law_times" "_law_times" (defArgs (top 49)) (defBody (top 49)) (defScope (top 49)) .none kV34 dc34 pm34 an34 cd34 ct34), sl34⟩)
    (q34 : PySem.W.codeIn K cd34 "_law_times" = true)
    (k34 : PySem.W.keepIn K (.ref f34) = true)
    (a35 : PySem.W.nsIn K mainGlobals "_law_over" = some (some (.ref f35)))
    (l35 : K.lookup f35 = some ⟨oc35, od35, .func (PySem.W.fnOf "_law_over" "_law_over" (defArgs (top 50)) (defBody (top 50)) (defScope (top 50)) .none kV35 dc35 pm35 an35 cd35 ct35), sl35⟩)
    (q35 : PySem.W.codeIn K cd35 "_law_over" = true)
    (k35 : PySem.W.keepIn K (.ref f35) = true)
    (a36 : PySem.W.nsIn K mainGlobals "_law_less" = some (some (.ref f36)))
    (l36 : K.lookup f36 = some ⟨oc36, od36, .func (PySem.W.fnOf "_law_less" "_law_less" (defArgs (top 51)) (defBody (top 51)) (defScope (top 51)) .none kV36 dc36 pm36 an36 cd36 ct36), sl36⟩)
    (q36 : PySem.W.codeIn K cd36 "_law_less" = true)
    (k36 : PySem.W.keepIn K (.ref f36) = true)
    (a37 : PySem.W.nsIn K mainGlobals "_law_small" = some (some (.ref f37)))
    (l37 : K.lookup f37 = some ⟨oc37, od37, .func (PySem.W.fnOf "_law_small" "_law_small" (defArgs (top 52)) (defBody (top 52)) (defScope (top 52)) .none kV37 dc37 pm37 an37 cd37 ct37), sl37⟩)
    (q37 : PySem.W.codeIn K cd37 "_law_small" = true)
    (k37 : PySem.W.keepIn K (.ref f37) = true)
    (a38 : PySem.W.nsIn K mainGlobals "_law_led_together" = some (some (.ref f38)))
    (l38 : K.lookup f38 = some ⟨oc38, od38, .func (PySem.W.fnOf "_law_led_together" "_law_led_together" (defArgs (top 54)) (defBody (top 54)) (defScope (top 54)) .none kV38 dc38 pm38 an38 cd38 ct38), sl38⟩)
    (q38 : PySem.W.codeIn K cd38 "_law_led_together" = true)
    (k38 : PySem.W.keepIn K (.ref f38) = true)
    (a39 : PySem.W.nsIn K mainGlobals "_law_likes" = some (some (.ref f39)))
    (l39 : K.lookup f39 = some ⟨oc39, od39, .func (PySem.W.fnOf "_law_likes" "_law_likes" (defArgs (top 53)) (defBody (top 53)) (defScope (top 53)) .none kV39 dc39 pm39 an39 cd39 ct39), sl39⟩)
    (q39 : PySem.W.codeIn K cd39 "_law_likes" = true)
    (k39 : PySem.W.keepIn K (.ref f39) = true)
    (a40 : PySem.W.nsIn K mainGlobals "_law_moment_of" = some (some (.ref f40)))
    (l40 : K.lookup f40 = some ⟨oc40, od40, .func (PySem.W.fnOf "_law_moment_of" "_law_moment_of" (defArgs (top 55)) (defBody (top 55)) (defScope (top 55)) .none kV40 dc40 pm40 an40 cd40 ct40), sl40⟩)
    (q40 : PySem.W.codeIn K cd40 "_law_moment_of" = true)
    (k40 : PySem.W.keepIn K (.ref f40) = true)
    (a41 : PySem.W.nsIn K mainGlobals "_law_apart" = some (some (.ref f41)))
    (l41 : K.lookup f41 = some ⟨oc41, od41, .func (PySem.W.fnOf "_law_apart" "_law_apart" (defArgs (top 56)) (defBody (top 56)) (defScope (top 56)) .none kV41 dc41 pm41 an41 cd41 ct41), sl41⟩)
    (q41 : PySem.W.codeIn K cd41 "_law_apart" = true)
    (k41 : PySem.W.keepIn K (.ref f41) = true)
    (a42 : PySem.W.nsIn K mainGlobals "_law_on" = some (some (.ref f42)))
    (l42 : K.lookup f42 = some ⟨oc42, od42, .func (PySem.W.fnOf "_law_on" "_law_on" (defArgs (top 57)) (defBody (top 57)) (defScope (top 57)) .none kV42 dc42 pm42 an42 cd42 ct42), sl42⟩)
    (q42 : PySem.W.codeIn K cd42 "_law_on" = true)
    (k42 : PySem.W.keepIn K (.ref f42) = true)
    (a43 : PySem.W.nsIn K mainGlobals "law" = some (some (.ref f43)))
    (l43 : K.lookup f43 = some ⟨oc43, od43, .func (PySem.W.fnOf "law" "law" (defArgs (top 58)) (defBody (top 58)) (defScope (top 58)) .none kV43 dc43 pm43 an43 cd43 ct43), sl43⟩)
    (q43 : PySem.W.codeIn K cd43 "law" = true)
    (k43 : PySem.W.keepIn K (.ref f43) = true) :
    ∃ fa, mg "law" = some (.ref fa) ∧ ∃ fd : FuncData, (∀ (s : Shared) (u : Value), BindsTo s fd ⟨[u], []⟩ [("_law_script", u)]) ∧ ∀ base : Heap, K.In base → base.Ns mainGlobals mg → FnOk P w K mg base (CXE P w) 8 fa fd ["_law_script"] (spLaw K) := by
  have T : Tx K mg  := ⟨PySem.W.mg_none_of X G b_isinstance, PySem.W.mg_none_of X G b_int, PySem.W.mg_none_of X G b_bool, PySem.W.mg_none_of X G b_abs, PySem.W.mg_none_of X G b_len, PySem.W.mg_none_of X G b_divmod, PySem.W.mg_none_of X G b_range, PySem.W.mg_none_of X G b_max, PySem.W.mg_none_of X G b_min, PySem.W.mg_none_of X G b_reversed, PySem.W.mg_none_of X G b_enumerate, ⟨_, PySem.W.mg_of X G i_LONG_BITS⟩, ⟨_, PySem.W.mg_of X G c_NOUGHT, sqt_const z_NOUGHT⟩⟩
  have D0 := df_mk (ps := ["thing"]) X G a0 l0 q0 k0 (len1 fun _ => rfl)
  have D1 := df_mk (ps := ["one", "other"]) X G a1 l1 q1 k1 (len2 fun _ _ => rfl)
  have D2 := df_mk (ps := ["one", "other"]) X G a2 l2 q2 k2 (len2 fun _ _ => rfl)
  have D3 := df_mk (ps := ["one", "other"]) X G a3 l3 q3 k3 (len2 fun _ _ => rfl)
  have D4 := df_mk (ps := ["one", "other"]) X G a4 l4 q4 k4 (len2 fun _ _ => rfl)
  have D5 := df_mk (ps := ["one", "other"]) X G a5 l5 q5 k5 (len2 fun _ _ => rfl)
  have D6 := df_mk (ps := ["one", "other"]) X G a6 l6 q6 k6 (len2 fun _ _ => rfl)
  have D7 := df_mk (ps := ["moment"]) X G a7 l7 q7 k7 (len1 fun _ => rfl)
  have D8 := df_mk (ps := ["one", "other"]) X G a8 l8 q8 k8 (len2 fun _ _ => rfl)
  have D9 := df_mk (ps := ["world"]) X G a9 l9 q9 k9 (len1 fun _ => rfl)
  have D10 := df_mk (ps := ["world"]) X G a10 l10 q10 k10 (len1 fun _ => rfl)
  have D11 := df_mk (ps := ["body", "moment"]) X G a11 l11 q11 k11 (len2 fun _ _ => rfl)
  have D12 := df_mk (ps := ["body", "moment"]) X G a12 l12 q12 k12 (len2 fun _ _ => rfl)
  have D13 := df_mk (ps := ["one", "other"]) X G a13 l13 q13 k13 (len2 fun _ _ => rfl)
  have D14 := df_mk (ps := ["bodies"]) X G a14 l14 q14 k14 (len1 fun _ => rfl)
  have D15 := df_mk (ps := ["world", "moment"]) X G a15 l15 q15 k15 (len2 fun _ _ => rfl)
  have D16 := df_mk (ps := ["bodies"]) X G a16 l16 q16 k16 (len1 fun _ => rfl)
  have D17 := df_mk (ps := ["world", "moment"]) X G a17 l17 q17 k17 (len2 fun _ _ => rfl)
  have D18 := df_mk (ps := ["world", "number", "moment"]) X G a18 l18 q18 k18 (len3 fun _ _ _ => rfl)
  have D19 := df_mk (ps := ["world", "moment"]) X G a19 l19 q19 k19 (len2 fun _ _ => rfl)
  have D20 := df_mk (ps := ["body"]) X G a20 l20 q20 k20 (len1 fun _ => rfl)
  have D21 := df_mk (ps := ["numbers"]) X G a21 l21 q21 k21 (len1 fun _ => rfl)
  have D22 := df_mk (ps := ["bodies"]) X G a22 l22 q22 k22 (len1 fun _ => rfl)
  have D23 := df_mk (ps := ["bodies"]) X G a23 l23 q23 k23 (len1 fun _ => rfl)
  have D24 := df_mk (ps := ["body", "speed"]) X G a24 l24 q24 k24 (len2 fun _ _ => rfl)
  have D25 := df_mk (ps := ["number"]) X G a25 l25 q25 k25 (len1 fun _ => rfl)
  have D26 := df_mk (ps := ["world"]) X G a26 l26 q26 k26 (len1 fun _ => rfl)
  have D27 := df_mk (ps := ["_law_script", "_law_k"]) X G a27 l27 q27 k27 (len2 fun _ _ => rfl)
  have D28 := df_mk (ps := ["_law_cell_here", "_law_k"]) X G a28 l28 q28 k28 (len2 fun _ _ => rfl)
  have D29 := df_mk (ps := ["_law_script", "_law_k"]) X G a29 l29 q29 k29 (len2 fun _ _ => rfl)
  have D30 := df_mk (ps := ["_law_box_here", "_law_many"]) X G a30 l30 q30 k30 (len2 fun _ _ => rfl)
  have D31 := df_mk (ps := ["_law_top", "_law_bottom"]) X G a31 l31 q31 k31 (len2 fun _ _ => rfl)
  have D32 := df_mk (ps := ["_law_one", "_law_other"]) X G a32 l32 q32 k32 (len2 fun _ _ => rfl)
  have D33 := df_mk (ps := ["_law_one", "_law_other"]) X G a33 l33 q33 k33 (len2 fun _ _ => rfl)
  have D34 := df_mk (ps := ["_law_one", "_law_other"]) X G a34 l34 q34 k34 (len2 fun _ _ => rfl)
  have D35 := df_mk (ps := ["_law_one", "_law_other"]) X G a35 l35 q35 k35 (len2 fun _ _ => rfl)
  have D36 := df_mk (ps := ["_law_one", "_law_other"]) X G a36 l36 q36 k36 (len2 fun _ _ => rfl)
  have D37 := df_mk (ps := ["_law_box_here"]) X G a37 l37 q37 k37 (len1 fun _ => rfl)
  have D38 := df_mk (ps := ["_law_box_here", "_law_world_here"]) X G a38 l38 q38 k38 (len2 fun _ _ => rfl)
  have D39 := df_mk (ps := ["_law_box_here"]) X G a39 l39 q39 k39 (len1 fun _ => rfl)
  have D40 := df_mk (ps := ["_law_box_here", "_law_world_here"]) X G a40 l40 q40 k40 (len2 fun _ _ => rfl)
  have D41 := df_mk (ps := ["_law_bodies"]) X G a41 l41 q41 k41 (len1 fun _ => rfl)
  have D42 := df_mk (ps := ["_law_world_here", "_law_first", "_law_second"]) X G a42 l42 q42 k42 (len3 fun _ _ _ => rfl)
  have D43 := df_mk (ps := ["_law_script"]) X G a43 l43 q43 k43 (len1 fun _ => rfl)
  refine law_end X G a43 l43 (fun _ => rfl) fun base kb nb => ?_
  have F0 := ok_is_whole (P := P) (w := w) (base := base) D0 T
  have F1 := ok_common_divisor (P := P) (w := w) (base := base) D1 T
  have F2 := ok_plus (P := P) (w := w) (base := base) D2 T F1
  have F3 := ok_minus (P := P) (w := w) (base := base) D3 T F2
  have F4 := ok_times (P := P) (w := w) (base := base) D4 T F1
  have F5 := ok_over (P := P) (w := w) (base := base) D5 T F4
  have F6 := ok_under (P := P) (w := w) (base := base) D6 T
  have F7 := ok_refuse_below_nought (P := P) (w := w) (base := base) D7 T F6
  have F8 := ok_joint_moment (P := P) (w := w) (base := base) D8 T F3 F5
  have F9 := ok_refuse_unlike (P := P) (w := w) (base := base) D9 T
  have F10 := ok_passings (P := P) (w := w) (base := base) D10 T F8
  have F11 := ok_place_at (P := P) (w := w) (base := base) D11 T F4 F2
  have F12 := ok_led (P := P) (w := w) (base := base) D12 T F11
  have F13 := ok_is_ahead (P := P) (w := w) (base := base) D13 T F6
  have F14 := ok_order_of (P := P) (w := w) (base := base) D14 T F13
  have F15 := ok_straight (P := P) (w := w) (base := base) D15 T F12
  have F16 := ok_in_order (P := P) (w := w) (base := base) D16 T F14
  have F17 := ok_passed (P := P) (w := w) (base := base) D17 T F9 F7 F15 F16
  have F18 := ok_wearer (P := P) (w := w) (base := base) D18 T F9 F7 F0 F15 F14
  have F19 := ok_crossings (P := P) (w := w) (base := base) D19 T F9 F7 F10 F6
  have F20 := ok_push_of (P := P) (w := w) (base := base) D20 T F4
  have F21 := ok_total (P := P) (w := w) (base := base) D21 T F2
  have F22 := ok_push (P := P) (w := w) (base := base) D22 T F20 F21
  have F23 := ok_might (P := P) (w := w) (base := base) D23 T F20 F4 F21
  have F24 := ok_seen_from (P := P) (w := w) (base := base) D24 T F3
  have F25 := ok_turned_about (P := P) (w := w) (base := base) D25 T F3
  have F26 := ok_mirrored (P := P) (w := w) (base := base) D26 T F25
  have F27 := ok_law_cell (P := P) (w := w) (base := base) D27 T
  have F28 := ok_law_mix (P := P) (w := w) (base := base) D28 T
  have F29 := ok_law_box (P := P) (w := w) (base := base) D29 T F27 F28
  have F30 := ok_law_take (P := P) (w := w) (base := base) D30 T
  have F31 := ok_law_fit (P := P) (w := w) (base := base) D31 T
  have F32 := ok_law_plus (P := P) (w := w) (base := base) D32 T F31
  have F33 := ok_law_minus (P := P) (w := w) (base := base) D33 T F31
  have F34 := ok_law_times (P := P) (w := w) (base := base) D34 T F31
  have F35 := ok_law_over (P := P) (w := w) (base := base) D35 T F31
  have F36 := ok_law_less (P := P) (w := w) (base := base) D36 T
  have F37 := ok_law_small (P := P) (w := w) (base := base) D37 T F30 F31
  have F38 := ok_law_led_together (P := P) (w := w) (base := base) D38 T F30 F31 F37 F32 F33 F35
  have F39 := ok_law_likes (P := P) (w := w) (base := base) D39 T F30 F37 F32 F38 F31
  have F40 := ok_law_moment_of (P := P) (w := w) (base := base) D40 T F30 F36 F33 F35 F31
  have F41 := ok_law_apart (P := P) (w := w) (base := base) D41 T
  have F42 := ok_law_on (P := P) (w := w) (base := base) D42 T F17 F32 F41 F18 F19
  have F43 := ok_law (P := P) (w := w) (base := base) D43 T F29 F39 F40 F42 F17 F22 F23 F26 F37 F34 F33 F24
  exact F43
end Prf
namespace Kw
open PySem PySem.Spec PyProof.Rows L2
theorem walk_kwX {pn : Str} {l : PySem.W.OpenLaw} {k : Nat} {q : Program} {loose : List Str} {XP : (Str → Option Value) → Heap → Prop} {as0 : List Addr} {n0 t0 : Nat} {d : DefRec} {K : Params → PySem.W.Frag}
    (hn : l.most = some 63) (hdf : d.params.defaults = []) (hr : Room k callerA) (hK : ∀ P, as0 = (K P).map (·.1)) (hnm : d.name = "law")
    (F : ∀ (w : World) (mg : Str → Option Value) (h : Heap), (K w.params).In h → h.Ns mainGlobals mg → ∃ fa, mg "law" = some (.ref fa) ∧ ∃ fd : FuncData, (∀ (s : Shared) (u : Value), BindsTo s fd ⟨[u], []⟩ [(pn, u)]) ∧
      ∀ base : Heap, (K w.params).In base → base.Ns mainGlobals mg → FnOk l.prog w (K w.params) mg base (CXE l.prog w) k fa fd [pn] (spLaw (K w.params))) :
    PySem.W.WalkX q loose XP (PySem.W.X.obsZ as0) (PySem.W.X.valZ K n0 t0) l.row.toRowW d [] (fun f vs => PySem.call f vs) := by
  intro w s₀ s₁ mg mb G Y fa o pm cd doc dV kV ho hd hcd hD hmg hg args vals as L hpre hlay hrd hwl hlo
  exact walk_kw (YP := fun w h => (K w.params).In h) hn hdf hr (fun _ _ z => z) hnm F w s₀ s₁ mg mb G (PySem.W.InK.keeps w _ _ (PySem.W.X.z_facts hK Y).2.1 L.keeps) fa o pm cd doc dV kV ho hd hcd hD hmg hg args vals as hpre hlay hrd hwl hlo
end Kw
noncomputable def PySem.W.Fast.tw8218340652413870725 : PySem.Program := PySem.Challenge.pw_knockwright_k55_whole_gone_on_through_cr
theorem PySem.W.Fast.te8218340652413870725 : PySem.Challenge.pw_knockwright_k55_whole_gone_on_through_cr = PySem.W.Fast.tw8218340652413870725 := rfl
open PySem PySem.W PyProof.Rows
set_option maxRecDepth 100000 in
set_option maxHeartbeats 0 in
theorem PySem.Challenge.cw_knockwright_k55_whole_gone_on_through_cr_holds : PySem.Challenge.rw_knockwright_k55_whole_gone_on_through_cr.Holds := by
  w_on; o_law; z_head; (case hw => w_witness2)
  refine Kw.walk_kwX (pn := "_law_script") (l := PySem.Challenge.rw_knockwright_k55_whole_gone_on_through_cr) (k := 8) rfl rfl ⟨rfl, by decide, by decide⟩ (fun _ => by kernel_rfl) rfl ?F
  case F =>
    intro w mg h KX G
    refine' Prf.all_mk KX G ?b_isinstance ?b_int ?b_bool ?b_abs ?b_len ?b_divmod ?b_range ?b_max ?b_min ?b_reversed ?b_enumerate ?i_LONG_BITS ?c_NOUGHT ?z_NOUGHT ?a0 ?l0 ?q0 ?k0 ?a1 ?l1 ?q1 ?k1 ?a2 ?l2 ?q2 ?k2 ?a3 ?l3 ?q3 ?k3 ?a4 ?l4 ?q4 ?k4 ?a5 ?l5 ?q5 ?k5 ?a6 ?l6 ?q6 ?k6 ?a7 ?l7 ?q7 ?k7 ?a8 ?l8 ?q8 ?k8 ?a9 ?l9 ?q9 ?k9 ?a10 ?l10 ?q10 ?k10 ?a11 ?l11 ?q11 ?k11 ?a12 ?l12 ?q12 ?k12 ?a13 ?l13 ?q13 ?k13 ?a14 ?l14 ?q14 ?k14 ?a15 ?l15 ?q15 ?k15 ?a16 ?l16 ?q16 ?k16 ?a17 ?l17 ?q17 ?k17 ?a18 ?l18 ?q18 ?k18 ?a19 ?l19 ?q19 ?k19 ?a20 ?l20 ?q20 ?k20 ?a21 ?l21 ?q21 ?k21 ?a22 ?l22 ?q22 ?k22 ?a23 ?l23 ?q23 ?k23 ?a24 ?l24 ?q24 ?k24 ?a25 ?l25 ?q25 ?k25 ?a26 ?l26 ?q26 ?k26 ?a27 ?l27 ?q27 ?k27 ?a28 ?l28 ?q28 ?k28 ?a29 ?l29 ?q29 ?k29 ?a30 ?l30 ?q30 ?k30 ?a31 ?l31 ?q31 ?k31 ?a32 ?l32 ?q32 ?k32 ?a33 ?l33 ?q33 ?k33 ?a34 ?l34 ?q34 ?k34 ?a35 ?l35 ?q35 ?k35 ?a36 ?l36 ?q36 ?k36 ?a37 ?l37 ?q37 ?k37 ?a38 ?l38 ?q38 ?k38 ?a39 ?l39 ?q39 ?k39 ?a40 ?l40 ?q40 ?k40 ?a41 ?l41 ?q41 ?k41 ?a42 ?l42 ?q42 ?k42 ?a43 ?l43 ?q43 ?k43
    (case b_isinstance => k_is)
    (case b_int => k_is)
    (case b_bool => k_is)
    (case b_abs => k_is)
    (case b_len => k_is)
    (case b_divmod => k_is)
    (case b_range => k_is)
    (case b_max => k_is)
    (case b_min => k_is)
    (case b_reversed => k_is)
    (case b_enumerate => k_is)
    (case i_LONG_BITS => k_is)
    (case c_NOUGHT => k_is)
    (case z_NOUGHT => k_is)
    (case a0 => k_is)
    (case l0 => k_is)
    (case q0 => k_is)
    (case k0 => k_is)
    (case a1 => k_is)
    (case l1 => k_is)
    (case q1 => k_is)
    (case k1 => k_is)
    (case a2 => k_is)
    (case l2 => k_is)
    (case q2 => k_is)
    (case k2 => k_is)
    (case a3 => k_is)
    (case l3 => k_is)
    (case q3 => k_is)
    (case k3 => k_is)
    (case a4 => k_is)
    (case l4 => k_is)
    (case q4 => k_is)
    (case k4 => k_is)
    (case a5 => k_is)
    (case l5 => k_is)
    (case q5 => k_is)
    (case k5 => k_is)
    (case a6 => k_is)
    (case l6 => k_is)
    (case q6 => k_is)
    (case k6 => k_is)
    (case a7 => k_is)
    (case l7 => k_is)
    (case q7 => k_is)
    (case k7 => k_is)
    (case a8 => k_is)
    (case l8 => k_is)
    (case q8 => k_is)
    (case k8 => k_is)
    (case a9 => k_is)
    (case l9 => k_is)
    (case q9 => k_is)
    (case k9 => k_is)
    (case a10 => k_is)
    (case l10 => k_is)
    (case q10 => k_is)
    (case k10 => k_is)
    (case a11 => k_is)
    (case l11 => k_is)
    (case q11 => k_is)
    (case k11 => k_is)
    (case a12 => k_is)
    (case l12 => k_is)
    (case q12 => k_is)
    (case k12 => k_is)
    (case a13 => k_is)
    (case l13 => k_is)
    (case q13 => k_is)
    (case k13 => k_is)
    (case a14 => k_is)
    (case l14 => k_is)
    (case q14 => k_is)
    (case k14 => k_is)
    (case a15 => k_is)
    (case l15 => k_is)
    (case q15 => k_is)
    (case k15 => k_is)
    (case a16 => k_is)
    (case l16 => k_is)
    (case q16 => k_is)
    (case k16 => k_is)
    (case a17 => k_is)
    (case l17 => k_is)
    (case q17 => k_is)
    (case k17 => k_is)
    (case a18 => k_is)
    (case l18 => k_is)
    (case q18 => k_is)
    (case k18 => k_is)
    (case a19 => k_is)
    (case l19 => k_is)
    (case q19 => k_is)
    (case k19 => k_is)
    (case a20 => k_is)
    (case l20 => k_is)
    (case q20 => k_is)
    (case k20 => k_is)
    (case a21 => k_is)
    (case l21 => k_is)
    (case q21 => k_is)
    (case k21 => k_is)
    (case a22 => k_is)
    (case l22 => k_is)
    (case q22 => k_is)
    (case k22 => k_is)
    (case a23 => k_is)
    (case l23 => k_is)
    (case q23 => k_is)
    (case k23 => k_is)
    (case a24 => k_is)
    (case l24 => k_is)
    (case q24 => k_is)
    (case k24 => k_is)
    (case a25 => k_is)
    (case l25 => k_is)
    (case q25 => k_is)
    (case k25 => k_is)
    (case a26 => k_is)
    (case l26 => k_is)
    (case q26 => k_is)
    (case k26 => k_is)
    (case a27 => k_is)
    (case l27 => k_is)
    (case q27 => k_is)
    (case k27 => k_is)
    (case a28 => k_is)
    (case l28 => k_is)
    (case q28 => k_is)
    (case k28 => k_is)
    (case a29 => k_is)
    (case l29 => k_is)
    (case q29 => k_is)
    (case k29 => k_is)
    (case a30 => k_is)
    (case l30 => k_is)
    (case q30 => k_is)
    (case k30 => k_is)
    (case a31 => k_is)
    (case l31 => k_is)
    (case q31 => k_is)
    (case k31 => k_is)
    (case a32 => k_is)
    (case l32 => k_is)
    (case q32 => k_is)
    (case k32 => k_is)
    (case a33 => k_is)
    (case l33 => k_is)
    (case q33 => k_is)
    (case k33 => k_is)
    (case a34 => k_is)
    (case l34 => k_is)
    (case q34 => k_is)
    (case k34 => k_is)
    (case a35 => k_is)
    (case l35 => k_is)
    (case q35 => k_is)
    (case k35 => k_is)
    (case a36 => k_is)
    (case l36 => k_is)
    (case q36 => k_is)
    (case k36 => k_is)
    (case a37 => k_is)
    (case l37 => k_is)
    (case q37 => k_is)
    (case k37 => k_is)
    (case a38 => k_is)
    (case l38 => k_is)
    (case q38 => k_is)
    (case k38 => k_is)
    (case a39 => k_is)
    (case l39 => k_is)
    (case q39 => k_is)
    (case k39 => k_is)
    (case a40 => k_is)
    (case l40 => k_is)
    (case q40 => k_is)
    (case k40 => k_is)
    (case a41 => k_is)
    (case l41 => k_is)
    (case q41 => k_is)
    (case k41 => k_is)
    (case a42 => k_is)
    (case l42 => k_is)
    (case q42 => k_is)
    (case k42 => k_is)
    (case a43 => k_is)
    (case l43 => k_is)
    (case q43 => k_is)
    (case k43 => k_is)
