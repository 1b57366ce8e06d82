import PyProof.Rows.All
import Wide.All
import OpenK.AllK
import Wide.FinOn
import Lean
import PyProof.EqAt
import PyProof.EqKinds
import PyProof.TupleCall
import PyProof.ExcBaseAll.ValueError
import PyProof.P3Eq
import PyProof.NeData
import PyProof.DictTable
import KE.KEqDict
import PyProof.EnumFor
import PyProof.EnumMake
import PyProof.EnumStmt
import PyProof.NsDelKeeps
import KE.KListMore
import PyProof.Rows.SortWalk
import PyProof.ListRange
import PyProof.CollectIter
import PyProof.TupleOfStr
import PyProof.P3In
import PyProof.Rows.SumAny
import PyProof.SeqI3
import PySem.Challenge.RW_knockwright_k61_walled_runs
set_option Elab.async false
set_option linter.all false
set_option maxRecDepth 100000
namespace L2
open PySem PySem.Spec PyProof.Rows
noncomputable abbrev Key := Sum Int Str
noncomputable def keyIs : Key → Value → Bool
  | .inl k, v => Value.isInt k v
  | .inr x, v => Value.isStrOf x v
noncomputable def keyH (w : World) : Key → Int
  | .inl k => hashInt k
  | .inr x => hashStr w x
theorem keyIs_shape : ∀ {k : Key} {v : Value}, keyIs k v = true → (∃ i t, k = Sum.inl i ∧ v = Value.int i t) ∨ (∃ x t, k = Sum.inr x ∧ v = Value.str x t)
  | .inl i, v, h => by
    obtain ⟨t, e⟩ := Value.isInt_shape (k := i) (v := v) h
    exact .inl ⟨i, t, rfl, e⟩
  | .inr x, v, h => by
    obtain ⟨t, e⟩ := Value.isStrOf_shape (x := x) (v := v) h
    exact .inr ⟨x, t, rfl, e⟩
theorem key_ll (a b : Int) : decide ((Sum.inl a : Key) = Sum.inl b) = (a == b) := by
  by_cases e : a = b
  · subst e; simp
  · have h : ¬ (Sum.inl a : Key) = Sum.inl b := fun q => e (Sum.inl.inj q)
    rw [decide_eq_false h]
    exact (beq_eq_false_iff_ne.mpr e).symm
theorem key_rr (a b : Str) : decide ((Sum.inr a : Key) = Sum.inr b) = decide (a = b) := by
  by_cases e : a = b
  · subst e; simp
  · have h : ¬ (Sum.inr a : Key) = Sum.inr b := fun q => e (Sum.inr.inj q)
    rw [decide_eq_false h, decide_eq_false e]
theorem key_lr (a : Int) (b : Str) : decide ((Sum.inl a : Key) = Sum.inr b) = false := decide_eq_false (fun q => nomatch q)
theorem key_rl (a : Str) (b : Int) : decide ((Sum.inr a : Key) = Sum.inl b) = false := decide_eq_false (fun q => nomatch q)
noncomputable def mixKind (prog : Program) (w : World) : PySem.KeyKind prog w Key where
  is := keyIs
  hash := keyH w
  inj := fun v a b ha hb => by
    rcases keyIs_shape ha with ⟨i, t, rfl, rfl⟩ | ⟨x, t, rfl, rfl⟩
    · rcases keyIs_shape hb with ⟨j, u, rfl, e⟩ | ⟨y, u, rfl, e⟩
      · injection e with e1 _; rw [e1]
      · exact nomatch e
    · rcases keyIs_shape hb with ⟨j, u, rfl, e⟩ | ⟨y, u, rfl, e⟩
      · exact nomatch e
      · injection e with e1 _; rw [e1]
  byValue := fun k v h => by
    rcases keyIs_shape h with ⟨i, t, rfl, rfl⟩ | ⟨x, t, rfl, rfl⟩ <;> rfl
  pyHash := fun hv h => by
    rcases keyIs_shape hv with ⟨i, t, rfl, rfl⟩ | ⟨x, t, rfl, rfl⟩
    · exact wpAny_pyHash_int h
    · exact wpAny_pyHash_str h
  eqBool := fun hu hv h => by
    rcases keyIs_shape hu with ⟨i, t, rfl, rfl⟩ | ⟨x, t, rfl, rfl⟩
    · rcases keyIs_shape hv with ⟨j, u, rfl, rfl⟩ | ⟨y, u, rfl, rfl⟩
      · rw [key_ll] at h; exact wpAny_eqBool_int h
      · rw [key_lr] at h; exact SeqAt.EqAt.int_str i t y u _ _ _ _ h
    · rcases keyIs_shape hv with ⟨j, u, rfl, rfl⟩ | ⟨y, u, rfl, rfl⟩
      · rw [key_rl] at h; exact SeqAt.EqAt.str_int x t j u _ _ _ _ h
      · rw [key_rr] at h; exact wpAny_eqBool_str h
  «strs» := fun k x t v h => by
    rcases keyIs_shape h with ⟨i, u, rfl, e⟩ | ⟨y, u, rfl, e⟩
    · exact nomatch e
    · injection e with e1 _
      subst e1
      cases v <;> rfl
end L2
namespace L2
open PySem PySem.Spec PyProof.Rows
inductive V where
  | non | bl (b : Bool) | int (i : Int) | str (x : Str) | byt (b : Array UInt8) | flt (b : UInt64) | ref (a : Addr) | ty (n : String)
  deriving DecidableEq
noncomputable def RelV : V → Value → Prop
  | .non, u => u = Value.none
  | .bl b, u => u = Value.bool b
  | .int i, u => ∃ t, u = Value.int i t
  | .str x, u => ∃ t, u = Value.str x t
  | .byt b, u => ∃ t, u = Value.bytes b t
  | .flt b, u => ∃ t, u = Value.float b t
  | .ref a, u => u = Value.ref a
  | .ty n, u => u = Value.type n
noncomputable abbrev Vals : List V → List Value → Prop := Paired RelV
theorem Vals.length {xs : List V} {us : List Value} (r : Vals xs us) : xs.length = us.length := Paired.length r
theorem Vals.get : ∀ {xs : List V} {us : List Value} {i : Nat} {x : V}, Vals xs us → xs[i]? = some x → ∃ u, us[i]? = some u ∧ RelV x u
  | _, _, _, _, .nil, e => by simp at e
  | _, _, 0, _, .cons r _, e => by simp at e; subst e; exact ⟨_, rfl, r⟩
  | _, _, i + 1, x, .cons _ t, e => by
    obtain ⟨u, h1, h2⟩ := Vals.get (i := i) (x := x) t (by simpa using e)
    exact ⟨u, by simpa using h1, h2⟩
theorem Vals.set {x : V} {u : Value} (r : RelV x u) : ∀ {xs : List V} {us : List Value} (i : Nat), Vals xs us → Vals (xs.set i x) (us.set i u)
  | _, _, _, .nil => .nil
  | _, _, 0, .cons _ t => .cons r t
  | _, _, i + 1, .cons q t => .cons q (Vals.set r i t)
theorem Vals.append : ∀ {xs ys : List V} {us ws : List Value}, Vals xs us → Vals ys ws → Vals (xs ++ ys) (us ++ ws)
  | _, _, _, _, .nil, s => s
  | _, _, _, _, .cons r t, s => .cons r (Vals.append t s)
theorem Vals.take : ∀ {xs : List V} {us : List Value} (n : Nat), Vals xs us → Vals (xs.take n) (us.take n)
  | _, _, 0, _ => .nil
  | _, _, _ + 1, .nil => .nil
  | _, _, n + 1, .cons r t => .cons r (Vals.take n t)
theorem Vals.drop : ∀ {xs : List V} {us : List Value} (n : Nat), Vals xs us → Vals (xs.drop n) (us.drop n)
  | _, _, 0, r => r
  | _, _, _ + 1, .nil => .nil
  | _, _, n + 1, .cons _ t => Vals.drop n t
noncomputable def RelO : Option V → Option Value → Prop
  | some v, some u => RelV v u
  | none, none => True
  | _, _ => False
noncomputable def KV {κ : Type} : List (κ × V) → List (κ × Value) → Prop := Paired fun (p : κ × V) (q : κ × Value) => p.1 = q.1 ∧ RelV p.2 q.2
noncomputable def kV : Key → V
  | .inl i => .int i
  | .inr x => .str x
inductive HO where
  | lst (xs : List V)
  | tup (xs : List V)
  | dK (kvs : List (Key × V)) | dT (kvs : List (List Key × V))
  | set (S : Int → Bool) (n : Nat)
  | ins (C dx : Addr) (fs : List (Str × V))
  | own (x : Addr)
  | xd (fs : List (Str × V))
  | met (f x : Addr)
  | rng (lo hi : Int)
  | frz (o : Obj) (u : HO)
  | tbl (ps : Array Value)
  | ext (φ : Heap → Prop)
noncomputable abbrev Hp := Addr → Option HO
noncomputable def upd (H : Hp) (a : Addr) (o : HO) : Hp := fun b => if b = a then some o else H b
theorem upd_same {H : Hp} {a : Addr} {o : HO} : upd H a o a = some o := by unfold upd; rw [if_pos rfl]
theorem upd_ne {H : Hp} {a b : Addr} {o : HO} (h : b ≠ a) : upd H a o b = H b := by unfold upd; rw [if_neg h]
theorem ne_of {H : Hp} {a b : Addr} {o u : HO} (h : H a = some o) (h' : H b = some u) (d : o ≠ u) : a ≠ b := by
  intro e; subst e; rw [h] at h'; exact d (Option.some.inj h')
theorem ne_of_none {H : Hp} {a b : Addr} {o : HO} (h : H a = some o) (h' : H b = none) : a ≠ b := by
  intro e; subst e; rw [h] at h'; cases h'
section
variable (P : Program) (w : World)
noncomputable def ObjOk (H : Hp) (h : Heap) (a : Addr) : HO → Prop
  | .lst xs => xs.length ≤ sizeLine ∧ ∃ (its : List Value) (n : Nat), Vals xs its ∧ h.get? a = some { cls := .type "list", data := .seq its.toArray n }
  | .tup xs => xs.length ≤ sizeLine ∧ ∃ its : List Value, Vals xs its ∧ IsTup h a its.toArray
  | .dK kvs => kvs.length ≤ sizeLine ∧ (a == sysModules) = false ∧ ∃ vs, KV kvs vs ∧ h.DictOf (mixKind P w) a vs
  | .dT kvs => kvs.length ≤ sizeLine ∧ (a == sysModules) = false ∧ ∃ xs : List (List Key × Addr × Value),
      Paired (fun (p : List Key × V) (q : List Key × Addr × Value) => p.1 = q.1 ∧ H q.2.1 = some (.tup (p.1.map kV)) ∧ RelV p.2 q.2.2) kvs xs ∧
      ∃ o es ep, h.get? a = some o ∧ o.ExactDict ∧ o.data = .dict es ep ∧ es.toList = xs.map (entryOfKey (tupleKind (mixKind P w))) ∧ (xs.map (·.1)).Nodup
  | .set S n => h.SetOf (intKind P w) a S n
  | .ins C dx fs => H dx = some (.own a) ∧ fs.length ≤ 1000 ∧ dx ≠ a ∧ h.get? a = some (PySem.W.instObj C dx) ∧
      ∃ mA, h.Ns1 dx mA ∧ (∀ f, RelO (fs.lookup f) (mA f)) ∧ PySem.Within mA (fs.map (·.1))
  | .own _ => ∃ o, h.get? a = some o
  | .xd fs => ∃ mA, h.Ns1 a mA ∧ ∀ f, RelO (fs.lookup f) (mA f)
  | .rng lo hi => ∃ t u v, h.get? a = some { cls := .type "range", data := .fields #[.int lo t, .int hi u, .int 1 v] }
  | .frz o u => h.get? a = some o ∧ ObjOk H h a u
  | .tbl ps => h.get? a = some { cls := .none, data := .fields ps }
  | .met f x => h.get? a = some (PySem.W.methodObj (.ref f) (.ref x))
  | .ext φ => φ h ∧ (∃ o, h.get? a = some o) ∧ ∀ h1 h2 : Heap, φ h1 → (∀ o, h1.get? a = some o → h2.get? a = some o) → φ h2
noncomputable def HOk (H : Hp) (h : Heap) : Prop := ∀ a o, H a = some o → ObjOk P w H h a o
end
section
variable {P : Program} {w : World} {H H' : Hp} {h h' : Heap} {a : Addr} {o : HO}
theorem ObjOk.lt (x : ObjOk P w H h a o) : a < h.objs.size := by
  cases o with
  | lst xs => obtain ⟨_, _, _, _, e⟩ := x; exact Heap.lt_size e
  | tup xs => obtain ⟨_, _, _, p⟩ := x; exact p.lt
  | dK kvs => obtain ⟨_, _, _, _, o, _, _, e, _⟩ := x; exact Heap.lt_size e
  | dT kvs => obtain ⟨_, _, _, _, o, _, _, e, _⟩ := x; exact Heap.lt_size e
  | set S n => obtain ⟨o, _, _, _, e, _⟩ := x; exact Heap.lt_size e
  | ins C dx fs => obtain ⟨_, _, _, e, _⟩ := x; exact Heap.lt_size e
  | own y => obtain ⟨_, e⟩ := x; exact Heap.lt_size e
  | xd fs => obtain ⟨_, ⟨_, _, _, e, _⟩, _⟩ := x; exact Heap.lt_size e
  | rng lo hi => obtain ⟨_, _, _, e⟩ := x; exact Heap.lt_size e
  | frz ob u => obtain ⟨e, _⟩ := x; exact Heap.lt_size e
  | tbl ps => exact Heap.lt_size (show h.get? a = some _ from x)
  | met f y => exact Heap.lt_size (show h.get? a = some _ from x)
  | ext φ => obtain ⟨_, ⟨_, e⟩, _⟩ := x; exact Heap.lt_size e
theorem Paired.mapP {α β : Type} {F G : α → β → Prop} : ∀ {l₁ : List α} {l₂ : List β}, Paired F l₁ l₂ → (∀ a b, F a b → G a b) → Paired G l₁ l₂
  | _, _, .nil, _ => .nil
  | _, _, .cons r t, f => .cons (f _ _ r) (Paired.mapP t f)
theorem ObjOk.stay (x : ObjOk P w H h a o) (k : ∀ b u, (b = a ∨ H b = some (.own a)) → h.get? b = some u → h'.get? b = some u)
    (ho : ∀ b, H b = some (.own a) → H' b = some (.own a)) (ht : ∀ b xs, H b = some (.tup xs) → H' b = some (.tup xs)) : ObjOk P w H' h' a o := by
  induction o with
  | lst xs => obtain ⟨z, its, n, r, e⟩ := x; exact ⟨z, its, n, r, k _ _ (.inl rfl) e⟩
  | tup xs => obtain ⟨z, its, r, ob, e, c⟩ := x; exact ⟨z, its, r, ob, k _ _ (.inl rfl) e, c⟩
  | dK kvs => obtain ⟨z, y, vs, r, ob, es, ep, e, c⟩ := x; exact ⟨z, y, vs, r, ob, es, ep, k _ _ (.inl rfl) e, c⟩
  | dT kvs =>
    obtain ⟨z, y, xs, r, ob, es, ep, e, c⟩ := x
    exact ⟨z, y, xs, Paired.mapP r fun p q z => ⟨z.1, ht _ _ z.2.1, z.2.2⟩, ob, es, ep, k _ _ (.inl rfl) e, c⟩
  | set S n => obtain ⟨ob, es, ep, t, e, c⟩ := x; exact ⟨ob, es, ep, t, k _ _ (.inl rfl) e, c⟩
  | ins C dx fs =>
    obtain ⟨d, z, ne, e, mA, ⟨od, es, ep, e2, c⟩, r⟩ := x
    exact ⟨ho _ d, z, ne, k _ _ (.inl rfl) e, mA, ⟨od, es, ep, k _ _ (.inr d) e2, c⟩, r⟩
  | own y => obtain ⟨ob, e⟩ := x; exact ⟨ob, k _ _ (.inl rfl) e⟩
  | xd fs => obtain ⟨mA, ⟨od, es, ep, e, c⟩, r⟩ := x; exact ⟨mA, ⟨od, es, ep, k _ _ (.inl rfl) e, c⟩, r⟩
  | rng lo hi => obtain ⟨t, u, v, e⟩ := x; exact ⟨t, u, v, k _ _ (.inl rfl) e⟩
  | frz ob u ih => obtain ⟨e, q⟩ := x; exact ⟨k _ _ (.inl rfl) e, ih q⟩
  | tbl ps =>
    have e : h.get? a = some { cls := .none, data := .fields ps } := x
    show h'.get? a = some { cls := .none, data := .fields ps }
    exact k a _ (.inl rfl) e
  | met f y =>
    have e : h.get? a = some (PySem.W.methodObj (.ref f) (.ref y)) := x
    show h'.get? a = some (PySem.W.methodObj (.ref f) (.ref y))
    exact k a _ (.inl rfl) e
  | ext φ => obtain ⟨p, ⟨o, e⟩, st⟩ := x; exact ⟨st _ _ p fun o q => k _ _ (.inl rfl) q, ⟨o, k _ _ (.inl rfl) e⟩, st⟩
theorem HOk.lt (x : HOk P w H h) (e : H a = some o) : a < h.objs.size := (x a o e).lt
theorem HOk.fresh (x : HOk P w H h) (e : h.objs.size ≤ a) : H a = none := by
  cases q : H a with
  | none => rfl
  | some u => exact absurd (Nat.lt_of_lt_of_le (x.lt q) e) (Nat.lt_irrefl _)
theorem HOk.kept (x : HOk P w H h) (k : ∀ b u, h.get? b = some u → h'.get? b = some u) : HOk P w H h' := fun a o e =>
  (x a o e).stay (fun b u _ q => k b u q) (fun _ q => q) fun _ _ q => q
theorem HOk.laid (x : HOk P w H h) (k : ∀ b u, h.get? b = some u → h'.get? b = some u) (hp : h.objs.size ≤ a) (new : ObjOk P w (upd H a o) h' a o) : HOk P w (upd H a o) h' := fun b u e => by
  have hn := x.fresh hp
  by_cases hb : b = a
  · subst hb; rw [upd_same] at e; cases e; exact new
  · rw [upd_ne hb] at e
    exact (x b u e).stay (fun c v _ q => k c v q) (fun c q => by rw [upd_ne (ne_of_none q hn)]; exact q) fun c xs q => by rw [upd_ne (ne_of_none q hn)]; exact q
end
noncomputable def Rd (H : Hp) (a : Addr) (u : HO) : Prop := H a = some u ∨ ∃ o, H a = some (.frz o u)
theorem Rd.ok {P : Program} {w : World} {H : Hp} {h : Heap} {a : Addr} {u : HO} (r : Rd H a u) (x : HOk P w H h) : ObjOk P w H h a u := by
  rcases r with r | ⟨o, r⟩
  · exact x a u r
  · obtain ⟨_, q⟩ := x a _ r
    exact q
noncomputable def Mut : Option HO → Prop
  | some (.lst _) => True
  | some (.dK _) => True
  | some (.dT _) => True
  | some (.set _ _) => True
  | some (.ins _ _ _) => True
  | some (.ext _) => True
  | _ => False
section
variable {P : Program} {w : World} {H : Hp} {h h' : Heap} {x e : Addr} {o' : HO}
theorem HOk.write (ok : HOk P w H h) (mu : Mut (H x)) (he : e = x ∨ H e = some (.own x)) (k : ∀ b u, b ≠ e → h.get? b = some u → h'.get? b = some u) (heo : ∃ u, h'.get? e = some u)
    (new : ObjOk P w (upd H x o') h' x o') : HOk P w (upd H x o') h' := fun b u q => by
  have nown : ∀ c y, H c = some (.own y) → c ≠ x := fun c y r z => by subst z; rw [r] at mu; exact mu
  have ntup : ∀ c xs, H c = some (.tup xs) → c ≠ x := fun c xs r z => by subst z; rw [r] at mu; exact mu
  by_cases hb : b = x
  · subst hb; rw [upd_same] at q; cases q; exact new
  · rw [upd_ne hb] at q
    by_cases hbe : b = e
    · have q' : H b = some (.own x) := by
        rcases he with z | z
        · exact absurd (hbe.trans z) hb
        · rw [hbe]; exact z
      rw [q] at q'; cases q'
      obtain ⟨v, hv⟩ := heo
      exact ⟨v, by rw [hbe]; exact hv⟩
    · refine (ok b u q).stay (fun c v hc r => k c v ?_ r) (fun c r => by rw [upd_ne (nown c b r)]; exact r) fun c xs r => by rw [upd_ne (ntup c xs r)]; exact r
      rcases hc with rfl | hc
      · exact hbe
      · rintro rfl
        rcases he with z | z
        · exact nown c b hc z
        · rw [hc] at z; cases z; exact hb rfl
end
structure Un (fs ex : List Addr) (H H' : Hp) (h h' : Heap) : Prop where
  keep : ∀ b o, h.get? b = some o → H b = none → b ∉ fs → b ∉ ex → h'.get? b = some o
  slot : ∀ b o, h.get? b = some o → H b = none → b ∈ fs → b ∉ ex → ∃ sl, h'.get? b = some { o with slots := sl }
  free : ∀ b o, h.get? b = some o → H b = none → b ∉ ex → H' b = none
  there : ∀ b o, h.get? b = some o → b ∉ ex → ∃ o', h'.get? b = some o'
  tups : ∀ b xs, H b = some (.tup xs) → H' b = some (.tup xs)
  frzs : ∀ b o u, H b = some (.frz o u) → H' b = some (.frz o u)
  tbls : ∀ b ps, H b = some (.tbl ps) → ∃ more, H' b = some (.tbl (ps ++ more))
section
variable {fs fs' ex ex' : List Addr} {H H1 H2 : Hp} {h h1 h2 h' : Heap} {a x e : Addr} {o : HO}
theorem Un.any (u : Un fs ex H H1 h h1) {b : Addr} {ob : Obj} (q : h.get? b = some ob) (n : H b = none) (hx : b ∉ ex) : ∃ sl, h1.get? b = some { ob with slots := sl } := by
  by_cases hb : b ∈ fs
  · exact u.slot b ob q n hb hx
  · exact ⟨ob.slots, u.keep b ob q n hb hx⟩
theorem Un.kept (k : ∀ b u, h.get? b = some u → h'.get? b = some u) : Un fs ex H H h h' :=
  ⟨fun b ob q _ _ _ => k b ob q, fun b ob q _ _ _ => ⟨ob.slots, k b ob q⟩, fun _ _ _ n _ => n, fun b ob q _ => ⟨ob, k b ob q⟩, fun _ _ q => q, fun _ _ _ q => q, fun _ ps q => ⟨#[], by rw [q]; simp⟩⟩
theorem Un.refl : Un fs ex H H h h := Un.kept fun _ _ q => q
theorem Un.laid (k : ∀ b u, h.get? b = some u → h'.get? b = some u) (hp : h.objs.size ≤ a) (hn : H a = none) : Un fs ex H (upd H a o) h h' where
  keep := fun b u q _ _ _ => k b u q
  slot := fun b u q _ _ _ => ⟨u.slots, k b u q⟩
  free := fun b u q n _ => by rw [upd_ne (Nat.ne_of_lt (Nat.lt_of_lt_of_le (Heap.lt_size q) hp))]; exact n
  there := fun b u q _ => ⟨u, k b u q⟩
  tups := fun b xs q => by rw [upd_ne (ne_of_none q hn)]; exact q
  frzs := fun b u xs q => by rw [upd_ne (ne_of_none q hn)]; exact q
  tbls := fun b ps q => ⟨#[], by rw [upd_ne (ne_of_none q hn), q]; simp⟩
theorem Un.write (mu : Mut (H x)) (he : e = x ∨ H e = some (.own x)) (k : ∀ b u, b ≠ e → h.get? b = some u → h'.get? b = some u) (heo : ∃ u, h'.get? e = some u) : Un fs ex H (upd H x o) h h' := by
  have hx : ∀ b, H b = none → b ≠ x := fun b n z => by subst z; rw [n] at mu; exact mu
  have hb : ∀ b, H b = none → b ≠ e := fun b n z => by
    subst z
    rcases he with r | r
    · exact hx b n r
    · rw [n] at r; cases r
  have hm : ∀ b u, H b = some u → ¬ Mut (some u) → b ≠ x := fun b u q nm z => by subst z; rw [q] at mu; exact nm mu
  refine ⟨fun b u q n _ _ => k b u (hb b n) q, fun b u q n _ _ => ⟨u.slots, k b u (hb b n) q⟩, fun b u q n _ => by rw [upd_ne (hx b n)]; exact n, fun b u q _ => ?_,
    fun b xs q => by rw [upd_ne (hm b _ q fun z => z)]; exact q, fun b u xs q => by rw [upd_ne (hm b _ q fun z => z)]; exact q, fun b ps q => ⟨#[], by rw [upd_ne (hm b _ q fun z => z), q]; simp⟩⟩
  by_cases hbe : b = e
  · subst hbe; exact heo
  · exact ⟨u, k b u hbe q⟩
end
noncomputable def trk (h : Heap) (H : Hp) : List Addr := (List.range h.objs.size).filter fun a => (H a).isSome
noncomputable def hidT (h : Heap) (H : Hp) : Heap := PySem.W.hideAll h (trk h H)
theorem hidT_size (h : Heap) (H : Hp) : (hidT h H).objs.size = h.objs.size := PySem.W.hideAll_size _ _
theorem hidT_get {h : Heap} {H : Hp} {b : Addr} {o : Obj} (e : h.get? b = some o) (n : H b = none) : (hidT h H).get? b = some o :=
  PySem.W.hideAll_get _ e fun hm => by
    have q : (H b).isSome = true := (List.mem_filter.mp hm).2
    rw [n] at q; simp at q
theorem of_hidT {h : Heap} {H : Hp} {b : Addr} {o : Obj} (e : (hidT h H).get? b = some o) : h.get? b = some o ∧ H b = none := by
  have e' : h.get? b = some o := PySem.W.of_hideAll (trk h H) e
  refine ⟨e', ?_⟩
  cases q : H b with
  | none => rfl
  | some x =>
    have hm : b ∈ trk h H := List.mem_filter.mpr ⟨List.mem_range.mpr (Heap.lt_size e'), by simp [q]⟩
    have z : (hidT h H).get? b = none := PySem.W.hideAll_none (trk h H) hm
    rw [z] at e; cases e
end L2
namespace L2
open PySem PySem.Spec PyProof.Rows
structure Mod (K : PySem.W.Frag) (mg : Str → Option Value) (base : Heap) : Prop where
  kin : K.In base
  glob : base.Ns mainGlobals mg
  blt : ∃ mb, base.Ns builtinsNs mb ∧ ∀ x : Str, x ≠ "__name__" → mb x = bootBuiltins x
  nolimit : base.NoLimit
structure Cx where
  prog : Program
  w : World
  K : PySem.W.Frag
  mg : Str → Option Value
  base : Heap
  A : Around
  N : List Str
  s₀ : Shared
  H₀ : Hp
  env : Env
  outer : List Env
  stack : List Env
  ex : List Addr
  fn : Str → Bool
  calm : Bool
  pn : List (Addr × Obj)
  xe : Value → Shared → Prop
noncomputable def frs (l : List Env) : List Addr := l.filterMap (·.frame)
noncomputable abbrev Cx.fs (X : Cx) : List Addr := frs X.outer
noncomputable def Vis (sc : Scope) (x : Str) : Prop := sc.names.lookup x = some .local ∨ sc.names.lookup x = some .cell ∨ sc.names.lookup x = some .free
noncomputable def Loc (sc : Scope) (x : Str) : Prop := sc.names.lookup x = some .local ∨ sc.names.lookup x = some .cell
noncomputable def Look (env : Env) (h : Heap) (m : Str → Option Value) (x : Str) (u : Value) : Prop :=
  (env.kindOf x = some .local ∧ m x = some u) ∨ ((env.kindOf x = some .cell ∨ env.kindOf x = some .free) ∧ ∃ c, env.cells.lookup x = some c ∧ h.IsCell c (some u))
structure Cx.Ok (X : Cx) : Prop where
  mod : Mod X.K X.mg X.base
  kind : X.env.scope.kind = .function
  glob : X.env.globals = mainGlobals
  blt : X.env.builtins = builtinsNs
  above : X.s₀.heap.objs.size ≤ X.env.locals
  inj : ∀ x y c, X.env.cells.lookup x = some c → X.env.cells.lookup y = some c → x = y
  has : ∀ x, (X.env.kindOf x = some .cell ∨ X.env.kindOf x = some .free) → ∃ c, X.env.cells.lookup x = some c
  cab : ∀ x c, X.fn x = true → X.env.cells.lookup x = some c → X.s₀.heap.objs.size ≤ c
  hd : X.calm = true → X.A.handled = none
  frames : X.A.frames = some X.stack
  stk : X.stack = X.outer ∨ (X.stack = X.env :: X.outer ∧ X.env.frame = some X.env.locals)
  exf : ∀ b ∈ X.ex, b ≠ X.env.locals ∧ ∀ x c, X.env.cells.lookup x = some c → c ≠ b
  bs : ∀ b o, X.base.get? b = some o → X.s₀.heap.get? b = some o ∧ X.H₀ b = none
  bsz : X.base.objs.size ≤ X.s₀.heap.objs.size
  noex : ∀ b o, X.base.get? b = some o → b ∉ X.ex
  exfs : ∀ b ∈ X.ex, b ∉ X.fs
  funs : X.s₀.heap.FunFrames X.base X.outer
  frf : ∀ b ∈ X.fs, X.H₀ b = none
structure Inv (X : Cx) (pins : List (Addr × Obj)) (σ : List (Option V)) (H : Hp) (s : Shared) : Prop where
  ok : X.Ok
  os : s.os = X.s₀.os
  bare : AllBare s.gens
  base : Un X.fs X.ex X.H₀ H X.s₀.heap s.heap
  loc : ∃ m, s.heap.Ns X.env.locals m ∧ ∀ (i : Nat) (x : Str) (v : V), X.N[i]? = some x → σ[i]? = some (some v) → Vis X.env.scope x → ∃ u, RelV v u ∧ Look X.env s.heap m x u
  cell : ∀ x c, X.env.cells.lookup x = some c → ∃ v, s.heap.IsCell c v
  free : H X.env.locals = none
  freeC : ∀ x c, X.env.cells.lookup x = some c → H c = none
  pin : ∀ p ∈ X.pn ++ pins, s.heap.get? p.1 = some p.2 ∧ H p.1 = none ∧ p.1 ≠ X.env.locals ∧ p.1 ∉ X.fs ∧ ∀ v, p.2.data ≠ .cell v
  hok : HOk X.prog X.w H s.heap
  len : σ.length = X.N.length
section
variable {X : Cx} {pins : List (Addr × Obj)} {σ : List (Option V)} {H H' : Hp} {s : Shared} {h' : Heap}
theorem Cx.Ok.nofr (ok : X.Ok) {b : Addr} {o : Obj} (e : X.base.get? b = some o) : b ∉ X.fs := fun hb => by
  have := (ok.funs.mem hb).1
  rw [e] at this; cases this
theorem Inv.bs (I : Inv X pins σ H s) : ∀ b o, X.base.get? b = some o → s.heap.get? b = some o ∧ H b = none := fun b o e =>
  ⟨I.base.keep b o (I.ok.bs b o e).1 (I.ok.bs b o e).2 (I.ok.nofr e) (I.ok.noex b o e), I.base.free b o (I.ok.bs b o e).1 (I.ok.bs b o e).2 (I.ok.noex b o e)⟩
theorem Inv.bk (I : Inv X pins σ H s) : ∀ b o, X.base.get? b = some o → s.heap.get? b = some o := fun b o e => (I.bs b o e).1
theorem Inv.mod (I : Inv X pins σ H s) : Mod X.K X.mg X.base := I.ok.mod
theorem Inv.kIn (I : Inv X pins σ H s) : X.K.In s.heap := I.ok.mod.kin.keeps I.bk
theorem Inv.lt (I : Inv X pins σ H s) : X.env.locals < s.heap.objs.size := let ⟨_, hn, _⟩ := I.loc; hn.lt
theorem Inv.sz (I : Inv X pins σ H s) : X.s₀.heap.objs.size ≤ s.heap.objs.size := Nat.le_trans I.ok.above (Nat.le_of_lt I.lt)
theorem Inv.nofs (I : Inv X pins σ H s) {a : Addr} (h : s.heap.objs.size ≤ a) : a ∉ X.fs := fun hb => by
  obtain ⟨_, o, ho, _⟩ := I.ok.funs.mem hb
  exact absurd (Nat.lt_of_lt_of_le (Heap.lt_size ho) (Nat.le_trans I.sz h)) (Nat.lt_irrefl _)
theorem Inv.cne (I : Inv X pins σ H s) : ∀ x c, X.env.cells.lookup x = some c → c ≠ X.env.locals := fun x c e z => by
  obtain ⟨v, o, ho, hd⟩ := I.cell x c e
  obtain ⟨m, ⟨o', es, ep, ho', hd', _⟩, _⟩ := I.loc
  rw [z, ho'] at ho; cases ho; rw [hd'] at hd; cases hd
theorem Inv.funs (I : Inv X pins σ H s) : s.heap.FunFrames X.base X.outer := by
  have all : ∀ (l : List Env), (∀ b ∈ frs l, b ∈ X.fs) → X.s₀.heap.FunFrames X.base l → s.heap.FunFrames X.base l := by
    intro l
    induction l with
    | nil => intro _ _; trivial
    | cons env r ih =>
      intro hs hl
      obtain ⟨hk, ⟨L, o, hf, hn, ho, hd⟩, hr⟩ := hl
      have hL : L ∈ X.fs := hs L (by unfold frs; rw [List.filterMap_cons, hf]; exact List.mem_cons_self)
      obtain ⟨sl, e⟩ := I.base.slot L o ho (I.ok.frf L hL) hL fun z => I.ok.exfs L z hL
      exact ⟨hk, ⟨L, _, hf, hn, e, hd⟩, ih (fun b hb => hs b (by unfold frs; rw [List.filterMap_cons, hf]; exact List.mem_cons_of_mem _ hb)) hr⟩
  exact all X.outer (fun _ hb => hb) I.ok.funs
theorem Inv.stack (I : Inv X pins σ H s) : s.heap.FunFrames X.base X.stack := by
  rcases I.ok.stk with e | ⟨e, hf⟩
  · rw [e]; exact I.funs
  · rw [e]
    obtain ⟨m, hn, _⟩ := I.loc
    refine .cons (by rw [I.ok.kind]; decide) hf hn ?_ I.funs
    exact Heap.get?_none_of_le (Nat.le_trans I.ok.bsz I.ok.above)
theorem Inv.stkSub (I : Inv X pins σ H s) : ∀ b ∈ frs X.stack, b ∈ X.env.locals :: X.fs := fun b hb => by
  rcases I.ok.stk with e | ⟨e, hf⟩
  · rw [e] at hb; exact List.mem_cons_of_mem _ hb
  · rw [e] at hb
    unfold frs at hb
    rw [List.filterMap_cons, hf] at hb
    exact hb
theorem Inv.stkFree (I : Inv X pins σ H s) : ∀ b ∈ frs X.stack, H b = none := fun b hb => by
  rcases List.mem_cons.mp (I.stkSub b hb) with e | hb
  · rw [e]; exact I.free
  · obtain ⟨_, o, ho, _⟩ := I.ok.funs.mem hb
    exact I.base.free b o ho (I.ok.frf b hb) fun z => I.ok.exfs b z hb
theorem Inv.step {g' : Array GenState} {t' : Nat} {d' : Drawn} {ch : List Addr} (I : Inv X pins σ H s)
    (hch : ∀ b ∈ ch, (b ∈ X.ex ∨ X.s₀.heap.objs.size ≤ b) ∧ b ≠ X.env.locals ∧ (∀ x c, X.env.cells.lookup x = some c → c ≠ b) ∧ ∀ p ∈ X.pn ++ pins, p.1 ≠ b)
    (keep : ∀ b o, b ≠ X.env.locals → b ∉ X.fs → b ∉ ch → s.heap.get? b = some o → H b = none → h'.get? b = some o)
    (slot : ∀ b o, b ≠ X.env.locals → b ∈ X.fs → b ∉ ch → s.heap.get? b = some o → H b = none → ∃ sl, h'.get? b = some { o with slots := sl }) (free : ∀ b o, b ∉ ch → s.heap.get? b = some o → H b = none → H' b = none)
    (there : ∀ b o, b ∉ ch → s.heap.get? b = some o → ∃ o', h'.get? b = some o')
    (tups : ∀ b xs, H b = some (.tup xs) → H' b = some (.tup xs)) (frzs : ∀ b o u, H b = some (.frz o u) → H' b = some (.frz o u)) (tbls : ∀ b ps, H b = some (.tbl ps) → ∃ more, H' b = some (.tbl (ps ++ more)))
    (ns : ∀ m, s.heap.Ns X.env.locals m → h'.Ns X.env.locals m) (hok : HOk X.prog X.w H' h') (hg : AllBare g') :
    Inv X pins σ H' { s with heap := h', gens := g', drawn := d', toks := t' } := by
  have neL : ∀ b o, X.s₀.heap.get? b = some o → b ≠ X.env.locals := fun b o e => Nat.ne_of_lt (Nat.lt_of_lt_of_le (Heap.lt_size e) I.ok.above)
  have neC : ∀ b o, X.s₀.heap.get? b = some o → b ∉ X.ex → b ∉ ch := fun b o e hx hb => by
    rcases (hch b hb).1 with z | z
    · exact hx z
    · exact absurd (Nat.lt_of_lt_of_le (Heap.lt_size e) z) (Nat.lt_irrefl _)
  have cellK : ∀ x c, X.env.cells.lookup x = some c → ∀ v, s.heap.IsCell c v → h'.IsCell c v := fun x c e v ⟨o, ho, hd⟩ => by
    have nch : c ∉ ch := fun z => (hch c z).2.2.1 x c e rfl
    by_cases hc : c ∈ X.fs
    · obtain ⟨sl, q⟩ := slot c o (I.cne x c e) hc nch ho (I.freeC x c e)
      exact ⟨_, q, hd⟩
    · exact ⟨o, keep c o (I.cne x c e) hc nch ho (I.freeC x c e), hd⟩
  refine ⟨I.ok, I.os, hg, ⟨fun b o e n hb hx => ?_, fun b o e n hb hx => ?_, fun b o e n hx => ?_, fun b o e hx => ?_, fun b xs e => tups b xs (I.base.tups b xs e), fun b o xs e => frzs b o xs (I.base.frzs b o xs e), fun b ps e => ?_⟩, ?_, fun x c e => ?_, ?_, fun x c e => ?_, fun p hp => ?_, hok, I.len⟩
  · exact keep b o (neL b o e) hb (neC b o e hx) (I.base.keep b o e n hb hx) (I.base.free b o e n hx)
  · obtain ⟨sl, e1⟩ := I.base.slot b o e n hb hx
    obtain ⟨sl', e2⟩ := slot b _ (neL b o e) hb (neC b o e hx) e1 (I.base.free b o e n hx)
    exact ⟨sl', e2⟩
  · obtain ⟨o', e1⟩ := I.base.there b o e hx
    exact free b o' (neC b o e hx) e1 (I.base.free b o e n hx)
  · obtain ⟨o', e1⟩ := I.base.there b o e hx
    exact there b o' (neC b o e hx) e1
  · obtain ⟨m1, e1⟩ := I.base.tbls b ps e
    obtain ⟨m2, e2⟩ := tbls b _ e1
    exact ⟨m1 ++ m2, by rw [e2, Array.append_assoc]⟩
  · obtain ⟨m, hn, hl⟩ := I.loc
    refine ⟨m, ns m hn, fun i x v e1 e2 e3 => ?_⟩
    obtain ⟨u, r, l⟩ := hl i x v e1 e2 e3
    refine ⟨u, r, ?_⟩
    rcases l with l | ⟨k, c, e, z⟩
    · exact .inl l
    · exact .inr ⟨k, c, e, cellK x c e _ z⟩
  · obtain ⟨v, z⟩ := I.cell x c e
    exact ⟨v, cellK x c e v z⟩
  · obtain ⟨m, ⟨o, _, _, ho, _⟩, _⟩ := I.loc
    exact free _ o (fun z => (hch _ z).2.1 rfl) ho I.free
  · obtain ⟨v, o, ho, hd⟩ := I.cell x c e
    exact free c o (fun z => (hch c z).2.2.1 x c e rfl) ho (I.freeC x c e)
  · obtain ⟨e, n, ne, nf, d⟩ := I.pin p hp
    have nch : p.1 ∉ ch := fun z => (hch p.1 z).2.2.2 p hp rfl
    exact ⟨keep p.1 p.2 ne nf nch e n, free p.1 p.2 nch e n, ne, nf, d⟩
theorem Inv.un {t' : Nat} (I : Inv X pins σ H s) (u : Un X.fs [] H H' s.heap h') (hok : HOk X.prog X.w H' h') : Inv X pins σ H' { s with heap := h', toks := t' } := by
  obtain ⟨m, ⟨o, es, ep, ho, r⟩, _⟩ := id I.loc
  obtain ⟨sl, hL⟩ := u.any ho I.free (by simp)
  exact I.step (g' := s.gens) (d' := s.drawn) (ch := []) (fun _ z => nomatch z) (fun b o _ hb _ e n => u.keep b o e n hb (by simp)) (fun b o _ hb _ e n => u.slot b o e n hb (by simp)) (fun b o _ e n => u.free b o e n (by simp)) (fun b o _ e => u.there b o e (by simp)) u.tups u.frzs u.tbls (fun m' hm => by
    obtain ⟨o', es', ep', ho', r'⟩ := hm
    rw [ho] at ho'; cases ho'
    exact ⟨_, es', ep', hL, r'⟩) hok I.bare
theorem Inv.call {g' : Array GenState} {t' : Nat} {d' : Drawn} {ch : List Addr} (I : Inv X pins σ H s) (u : Un (frs X.stack) ch H H' s.heap h') (hok : HOk X.prog X.w H' h') (hg : AllBare g')
    (hch : ∀ b ∈ ch, (b ∈ X.ex ∨ X.s₀.heap.objs.size ≤ b) ∧ b ≠ X.env.locals ∧ (∀ x c, X.env.cells.lookup x = some c → c ≠ b) ∧ ∀ p ∈ X.pn ++ pins, p.1 ≠ b) :
    Inv X pins σ H' { s with heap := h', gens := g', drawn := d', toks := t' } := by
  obtain ⟨m, ⟨o, es, ep, ho, r⟩, _⟩ := id I.loc
  obtain ⟨sl, hL⟩ := u.any ho I.free fun z => (hch _ z).2.1 rfl
  exact I.step (ch := ch) hch (fun b o hL hb hc e n => u.keep b o e n (fun z => (List.mem_cons.mp (I.stkSub b z)).elim hL hb) hc) (fun b o _ _ hc e n => u.any e n hc) (fun b o hc e n => u.free b o e n hc) (fun b o hc e => u.there b o e hc) u.tups u.frzs u.tbls (fun m' hm => by
    obtain ⟨o', es', ep', ho', r'⟩ := hm
    rw [ho] at ho'; cases ho'
    exact ⟨_, es', ep', hL, r'⟩) hok hg
theorem Inv.turned {t' : Nat} {it : Addr} (I : Inv X pins σ H s) (k : ∀ b o, b ≠ it → s.heap.get? b = some o → h'.get? b = some o) (hn : H it = none) (hL : it ≠ X.env.locals)
    (h1 : it ∈ X.ex ∨ X.s₀.heap.objs.size ≤ it) (h2 : ∀ x c, X.env.cells.lookup x = some c → c ≠ it) (h3 : ∀ p ∈ X.pn ++ pins, p.1 ≠ it) : Inv X pins σ H { s with heap := h', toks := t' } := by
  have nit : ∀ b u, H b = some u → b ≠ it := fun b u e z => by rw [z, hn] at e; cases e
  refine I.step (g' := s.gens) (d' := s.drawn) (ch := [it]) (fun b hb => ?_) (fun b o _ _ hc e _ => k b o (fun z => hc (by simp [z])) e) (fun b o _ _ hc e _ => ⟨o.slots, k b o (fun z => hc (by simp [z])) e⟩) (fun _ _ _ _ n => n)
    (fun b o hc e => ⟨o, k b o (fun z => hc (by simp [z])) e⟩) (fun _ _ e => e) (fun _ _ _ e => e) (fun b ps e => ⟨#[], by rw [e]; simp⟩) (fun m hm => ?_) (fun b u e => ?_) I.bare
  · have e : b = it := by simpa using hb
    subst e
    exact ⟨h1, hL, h2, h3⟩
  · obtain ⟨o, es, ep, ho, r⟩ := hm
    exact ⟨o, es, ep, k _ o (Ne.symm hL) ho, r⟩
  · refine (I.hok b u e).stay (fun c v hc q => k c v ?_ q) (fun _ q => q) fun _ _ q => q
    rcases hc with z | z
    · rw [z]; exact nit b u e
    · exact nit c _ z
theorem Inv.tok (I : Inv X pins σ H s) (t : Nat) : Inv X pins σ H { s with toks := t } := I.un (h' := s.heap) (t' := t) Un.refl I.hok
theorem Inv.kept {t' : Nat} (I : Inv X pins σ H s) (k : ∀ b u, s.heap.get? b = some u → h'.get? b = some u) : Inv X pins σ H { s with heap := h', toks := t' } := I.un (Un.kept k) (I.hok.kept k)
theorem Inv.laid {a : Addr} {o : HO} {t' : Nat} (I : Inv X pins σ H s) (k : ∀ b u, s.heap.get? b = some u → h'.get? b = some u) (hp : s.heap.objs.size ≤ a) (new : ObjOk X.prog X.w (upd H a o) h' a o) :
    Inv X pins σ (upd H a o) { s with heap := h', toks := t' } := I.un (Un.laid k hp (I.hok.fresh hp)) (I.hok.laid k hp new)
theorem Inv.write {x e : Addr} {o : HO} {t' : Nat} (I : Inv X pins σ H s) (mu : Mut (H x)) (he : e = x ∨ H e = some (.own x)) (k : ∀ b u, b ≠ e → s.heap.get? b = some u → h'.get? b = some u) (heo : ∃ u, h'.get? e = some u)
    (new : ObjOk X.prog X.w (upd H x o) h' x o) : Inv X pins σ (upd H x o) { s with heap := h', toks := t' } := I.un (Un.write mu he k heo) (I.hok.write mu he k heo new)
theorem Inv.weak {σ' : List (Option V)} (I : Inv X pins σ H s) (hl : σ'.length = σ.length) (w : ∀ (i : Nat) v, σ'[i]? = some (some v) → σ[i]? = some (some v)) : Inv X pins σ' H s :=
  ⟨I.ok, I.os, I.bare, I.base, let ⟨m, hn, hl'⟩ := I.loc; ⟨m, hn, fun i x v e1 e2 e3 => hl' i x v e1 (w i v e2) e3⟩, I.cell, I.free, I.freeC, I.pin, I.hok, hl.trans I.len⟩
theorem Inv.pins_of {pins' : List (Addr × Obj)} (I : Inv X pins σ H s) (h : ∀ p ∈ pins', s.heap.get? p.1 = some p.2 ∧ H p.1 = none ∧ p.1 ≠ X.env.locals ∧ p.1 ∉ X.fs ∧ ∀ v, p.2.data ≠ .cell v) : Inv X pins' σ H s :=
  ⟨I.ok, I.os, I.bare, I.base, I.loc, I.cell, I.free, I.freeC, fun p hp => (List.mem_append.mp hp).elim (fun z => I.pin p (List.mem_append_left _ z)) (h p), I.hok, I.len⟩
theorem nodup_ix {N : List Str} (hN : N.Nodup) {i j : Nat} {x : Str} (a : N[i]? = some x) (b : N[j]? = some x) : i = j := by
  obtain ⟨h1, e1⟩ := List.getElem?_eq_some_iff.mp a
  obtain ⟨h2, e2⟩ := List.getElem?_eq_some_iff.mp b
  exact (List.getElem_inj hN).mp (e1.trans e2.symm)
theorem store_ok2 {M : Model} {A : Around} {E : Value → Shared → Prop} {i : Nat} {x : Str} {v : V} {u : Value} {Q : Unit → Shared → Prop} (I : Inv X pins σ H s) (hN : X.N.Nodup) (hi : X.N[i]? = some x) (hx : Loc X.env.scope x) (r : RelV v u)
    (h : ∀ s', Inv X pins (σ.set i (some v)) H s' → (∃ a, Heap.SameBut a s.heap s'.heap ∧ (a = X.env.locals ∨ X.env.cells.lookup x = some a)) → Q () s') (hf : X.fn x = true ∨ X.env.scope.names.lookup x = some .local := by first | exact .inl rfl | exact .inr rfl | assumption) : wpAny M A (storeName X.env x u) Q E s := by
  obtain ⟨m, hn, hl⟩ := id I.loc
  have hcls : (X.env.scope.kind == .class || (X.env.scope.kind == .module && X.env.locals != X.env.globals)) = false := by rw [I.ok.kind]; rfl
  have hiσ : i < σ.length := by rw [I.len]; exact (List.getElem?_eq_some_iff.mp hi).1
  have cne := I.cne
  have tracked : ∀ {a : Addr} {h' : Heap}, (∃ o, s.heap.get? a = some o ∧ H a = none) → Heap.SameBut a s.heap h' → HOk X.prog X.w H h' := fun {a h'} ha hs b ob e => by
    obtain ⟨_, _, hfree⟩ := ha
    refine (I.hok b ob e).stay (fun c w' hc q => (hs.2 c ?_).trans q) (fun _ q => q) fun _ _ q => q
    rintro rfl
    rcases hc with rfl | hc
    · rw [hfree] at e; cases e
    · rw [hfree] at hc; cases hc
  rcases hx with hk | hk
  · refine wpAny_storeName_local hk hn (fun h' hn' hs => ?_) hcls
    obtain ⟨oL, _, _, hoL, _⟩ := id hn
    refine h _ ⟨I.ok, I.os, I.bare, ⟨fun b o e n hb hx => ?_, fun b o e n hb hx => ?_, I.base.free, fun b o e hx => ?_, I.base.tups, I.base.frzs, I.base.tbls⟩, ⟨_, hn', fun j y v' e1 e2 e3 => ?_⟩, fun y c e => ?_, I.free, I.freeC, fun p hp => ?_, tracked ⟨oL, hoL, I.free⟩ hs, by simpa using I.len⟩ ⟨_, hs, .inl rfl⟩
    · exact (hs.2 b (Nat.ne_of_lt (Nat.lt_of_lt_of_le (Heap.lt_size e) I.ok.above))).trans (I.base.keep b o e n hb hx)
    · obtain ⟨sl, e1⟩ := I.base.slot b o e n hb hx
      exact ⟨sl, (hs.2 b (Nat.ne_of_lt (Nat.lt_of_lt_of_le (Heap.lt_size e) I.ok.above))).trans e1⟩
    · obtain ⟨o', e1⟩ := I.base.there b o e hx
      exact ⟨o', (hs.2 b (Nat.ne_of_lt (Nat.lt_of_lt_of_le (Heap.lt_size e) I.ok.above))).trans e1⟩
    · by_cases hj : j = i
      · subst hj
        rw [hi] at e1; cases e1
        rw [List.getElem?_set_self hiσ] at e2
        cases e2
        exact ⟨u, r, .inl ⟨hk, by simp⟩⟩
      · rw [List.getElem?_set_ne (Ne.symm hj)] at e2
        obtain ⟨u', r', q⟩ := hl j y v' e1 e2 e3
        refine ⟨u', r', ?_⟩
        rcases q with ⟨k, e⟩ | ⟨k, c, e, z⟩
        · refine .inl ⟨k, ?_⟩
          have : y ≠ x := fun e => hj (nodup_ix hN e1 (e ▸ hi))
          simp [this, e]
        · exact .inr ⟨k, c, e, z.sameBut hs (cne y c e)⟩
    · obtain ⟨w', z⟩ := I.cell y c e
      exact ⟨w', z.sameBut hs (cne y c e)⟩
    · obtain ⟨e, n, ne, nf, d⟩ := I.pin p hp
      exact ⟨(hs.2 p.1 ne).trans e, n, ne, nf, d⟩
  · have hfn : X.fn x = true := by
      rcases hf with z | z
      · exact z
      · rw [z] at hk; cases hk
    obtain ⟨c, hc⟩ := I.ok.has x (.inl hk)
    obtain ⟨w', z⟩ := I.cell x c hc
    refine wpAny_storeName_cell I.ok.kind hk hc z (fun h' hc' hs => ?_)
    obtain ⟨oc, hoc, hocd⟩ := id z
    refine h { s with heap := h' } ⟨I.ok, I.os, I.bare, ⟨fun b o e n hb hx => ?_, fun b o e n hb hx => ?_, I.base.free, fun b o e hx => ?_, I.base.tups, I.base.frzs, I.base.tbls⟩, ⟨m, hn.sameBut hs (Ne.symm (cne x c hc)), fun j y v' e1 e2 e3 => ?_⟩, fun y c' e => ?_, I.free, I.freeC, fun p hp => ?_, tracked ⟨oc, hoc, I.freeC x c hc⟩ hs, by simpa using I.len⟩ ⟨c, hs, .inr hc⟩
    · exact (hs.2 b (Nat.ne_of_lt (Nat.lt_of_lt_of_le (Heap.lt_size e) (I.ok.cab x c hfn hc)))).trans (I.base.keep b o e n hb hx)
    · obtain ⟨sl, e1⟩ := I.base.slot b o e n hb hx
      exact ⟨sl, (hs.2 b (Nat.ne_of_lt (Nat.lt_of_lt_of_le (Heap.lt_size e) (I.ok.cab x c hfn hc)))).trans e1⟩
    · obtain ⟨o', e1⟩ := I.base.there b o e hx
      exact ⟨o', (hs.2 b (Nat.ne_of_lt (Nat.lt_of_lt_of_le (Heap.lt_size e) (I.ok.cab x c hfn hc)))).trans e1⟩
    · by_cases hj : j = i
      · subst hj
        rw [hi] at e1; cases e1
        rw [List.getElem?_set_self hiσ] at e2
        cases e2
        exact ⟨u, r, .inr ⟨.inl hk, c, hc, hc'⟩⟩
      · rw [List.getElem?_set_ne (Ne.symm hj)] at e2
        obtain ⟨u', r', q⟩ := hl j y v' e1 e2 e3
        refine ⟨u', r', ?_⟩
        rcases q with q | ⟨k, c', e, z'⟩
        · exact .inl q
        · refine .inr ⟨k, c', e, z'.sameBut hs ?_⟩
          rintro rfl
          exact hj (nodup_ix hN e1 (I.ok.inj _ _ _ e hc ▸ hi))
    · by_cases hcc : c' = c
      · subst hcc; exact ⟨_, hc'⟩
      · obtain ⟨w2, z2⟩ := I.cell y c' e
        exact ⟨w2, z2.sameBut hs hcc⟩
    · obtain ⟨e, n, ne, nf, d⟩ := I.pin p hp
      refine ⟨(hs.2 p.1 ?_).trans e, n, ne, nf, d⟩
      intro q
      rw [q, hoc] at e
      have q' : oc = p.2 := Option.some.inj e
      exact d w' (by rw [← q']; exact hocd)
theorem store_ok {M : Model} {A : Around} {E : Value → Shared → Prop} {i : Nat} {x : Str} {v : V} {u : Value} {Q : Unit → Shared → Prop} (I : Inv X pins σ H s) (hN : X.N.Nodup) (hi : X.N[i]? = some x) (hx : Loc X.env.scope x) (r : RelV v u)
    (h : ∀ s', Inv X pins (σ.set i (some v)) H s' → Q () s') (hf : X.fn x = true ∨ X.env.scope.names.lookup x = some .local := by first | exact .inl rfl | exact .inr rfl | assumption) : wpAny M A (storeName X.env x u) Q E s :=
  store_ok2 I hN hi hx r (fun s' I' _ => h s' I') hf
theorem Inv.call' {s' : Shared} {ch : List Addr} (I : Inv X pins σ H s) (ho : s'.os = s.os) (u : Un (frs X.stack) ch H H' s.heap s'.heap) (hok : HOk X.prog X.w H' s'.heap) (hg : AllBare s'.gens)
    (hch : ∀ b ∈ ch, (b ∈ X.ex ∨ X.s₀.heap.objs.size ≤ b) ∧ b ≠ X.env.locals ∧ (∀ x c, X.env.cells.lookup x = some c → c ≠ b) ∧ ∀ p ∈ X.pn ++ pins, p.1 ≠ b) : Inv X pins σ H' s' := by
  obtain ⟨h', g', d', t', o'⟩ := s'
  have e : o' = s.os := ho
  subst e
  exact I.call (g' := g') (t' := t') (d' := d') u hok hg hch
end
noncomputable abbrev XK := Value → Option Addr → Hp → Prop
noncomputable abbrev St := List (Option V)
noncomputable abbrev VK := V → Hp → Prop
noncomputable abbrev TE := St → Hp → VK → Prop
noncomputable abbrev TT := St → Hp → (Bool → Hp → Prop) → Prop
noncomputable abbrev TA := St → Hp → (List V → Hp → Prop) → Prop
structure Ends where
  nx : St → Hp → Prop
  rt : VK
  bk : St → Hp → Prop := fun _ _ => False
  ct : St → Hp → Prop := fun _ _ => False
noncomputable abbrev TS := Ends → St → Hp → Prop
noncomputable def EP (X : Cx) (pins : List (Addr × Obj)) (σ : St) (Q : VK) (u : Value) (s' : Shared) : Prop := ∃ v H', Inv X pins σ H' s' ∧ RelV v u ∧ Q v H'
noncomputable def TP (X : Cx) (pins : List (Addr × Obj)) (σ : St) (Q : Bool → Hp → Prop) (b : Bool) (s' : Shared) : Prop := ∃ H', Inv X pins σ H' s' ∧ Q b H'
noncomputable def AP (X : Cx) (pins : List (Addr × Obj)) (σ : St) (Q : List V → Hp → Prop) (us : List Value) (s' : Shared) : Prop := ∃ vs H', Inv X pins σ H' s' ∧ Vals vs us ∧ Q vs H'
noncomputable def SP (X : Cx) (pins : List (Addr × Obj)) (D : Ends) (f : Flow) (s' : Shared) : Prop :=
  match f with
  | .next => ∃ σ' H', Inv X pins σ' H' s' ∧ D.nx σ' H'
  | .brk => ∃ σ' H', Inv X pins σ' H' s' ∧ D.bk σ' H'
  | .cont => ∃ σ' H', Inv X pins σ' H' s' ∧ D.ct σ' H'
  | .ret u => ∃ v σ' H', Inv X pins σ' H' s' ∧ RelV v u ∧ D.rt v H'
noncomputable def PE (X : Cx) (e : Expr) (t : TE) : Prop :=
  ∀ (pins : List (Addr × Obj)) (s : Shared) (σ : St) (H : Hp) (Q : VK), Inv X pins σ H s → t σ H Q → wpAny (model X.prog X.w) X.A (eval e X.env) (EP X pins σ Q) X.xe s
noncomputable def PT (X : Cx) (e : Expr) (t : TT) : Prop :=
  ∀ (pins : List (Addr × Obj)) (s : Shared) (σ : St) (H : Hp) (Q : Bool → Hp → Prop), Inv X pins σ H s → t σ H Q → wpAny (model X.prog X.w) X.A (isTrue e X.env (eval e X.env)) (TP X pins σ Q) X.xe s
noncomputable def PW (X : Cx) (e : Expr) (t : TT) : Prop :=
  ∀ (whole : Sem Value) (pins : List (Addr × Obj)) (s : Shared) (σ : St) (H : Hp) (Q : Bool → Hp → Prop), Inv X pins σ H s → t σ H Q → wpAny (model X.prog X.w) X.A (isTrue e X.env whole) (TP X pins σ Q) X.xe s
theorem PW.pt {X : Cx} {e : Expr} {t : TT} (h : PW X e t) : PT X e t := h _
noncomputable def PA (X : Cx) (es : List Expr) (t : TA) : Prop :=
  ∀ (pos : Pos) (pins : List (Addr × Obj)) (s : Shared) (σ : St) (H : Hp) (Q : List V → Hp → Prop), Inv X pins σ H s → t σ H Q → wpAny (model X.prog X.w) X.A (spliced (backTo pos (starEach es X.env))) (AP X pins σ Q) X.xe s
noncomputable def PS (X : Cx) (st : Stmt) (t : TS) : Prop :=
  ∀ (pins : List (Addr × Obj)) (s : Shared) (σ : St) (H : Hp) (D : Ends), Inv X pins σ H s → t D σ H → wpAny (model X.prog X.w) X.A (exec st X.env) (SP X pins D) X.xe s
noncomputable def PSs (X : Cx) (st : List Stmt) (t : TS) : Prop :=
  ∀ (pins : List (Addr × Obj)) (s : Shared) (σ : St) (H : Hp) (D : Ends), Inv X pins σ H s → t D σ H → wpAny (model X.prog X.w) X.A (execs st X.env) (SP X pins D) X.xe s
theorem thn {α : Type} {t : Sem α} {Q Q' : α → Shared → Prop} {M : Model} {A : Around} {E : Value → Shared → Prop} {s : Shared} (h : wpAny M A t Q E s) (hQ : ∀ a s, Q a s → Q' a s) : wpAny M A t Q' E s := wpAny_mono h hQ fun _ _ x => x
end L2
namespace L2
open PySem PySem.Spec PyProof.Rows
section
variable {X : Cx}
noncomputable def tVar (i : Nat) : TE := fun σ H Q => ∃ v, σ[i]? = some (some v) ∧ Q v H
noncomputable def tC (v : V) : TE := fun _ H Q => Q v H
theorem pe_var {i : Nat} {x : Str} {pos : Pos} (hN : X.N[i]? = some x) (hv : Vis X.env.scope x) (hd : (x == ("__debug__" : Str)) = false := by decide) (hcd : (x == ("__classdict__" : Str)) = false := by decide) : PE X (.Name x pos) (tVar i) := by
  intro pins s σ H Q I h
  obtain ⟨v, e, h⟩ := h
  obtain ⟨m, hn, hl⟩ := I.loc
  obtain ⟨u, r, l⟩ := hl i x v hN e hv
  have fin : EP X pins σ Q u s := ⟨v, H, I, r, h⟩
  rcases l with ⟨hk, hm⟩ | ⟨hk, c, hc, hcell⟩
  · exact wpAny_Name (wpAny_loadName_local I.ok.kind hk hn hm fin) hd
  · rcases hk with hk | hk
    · exact wpAny_Name (wpAny_loadName_cell I.ok.kind hk hc hcell fin) hd
    · exact wpAny_Name (wpAny_loadName_free I.ok.kind hk hc hcell fin hcd) hd
theorem pe_int {i j pos} : PE X (.Constant (.int i) j pos) (tC (.int i)) := fun _ _ _ H _ I h => wpAny_Constant_int ⟨.int i, H, I.tok _, ⟨_, rfl⟩, h⟩
theorem pe_bl {b j pos} : PE X (.Constant (.bool b) j pos) (tC (.bl b)) := fun _ _ _ H _ I h => Constant_bool ⟨.bl b, H, I, rfl, h⟩
theorem pe_non {j pos} : PE X (.Constant .none j pos) (tC .non) := fun _ _ _ H _ I h => Constant_none ⟨.non, H, I, rfl, h⟩
theorem pe_str {x j pos} : PE X (.Constant (.str x) j pos) (tC (.str x)) := fun _ _ _ H _ I h => Calls.Constant_str ⟨.str x, H, I.tok _, ⟨_, rfl⟩, h⟩
noncomputable def Gl (X : Cx) (x : Str) : Prop := X.env.kindOf x = some .globalImplicit
theorem ld_glob {E : Value → Shared → Prop} {pins : List (Addr × Obj)} {s : Shared} {σ : St} {H : Hp} {x : Str} {u : Value} {pos : Pos} {Q : Value → Shared → Prop} (I : Inv X pins σ H s) (hg : Gl X x) (hm : X.mg x = some u) (h : Q u s)
    (hd : (x == ("__debug__" : Str)) = false := by decide) : wpAny (model X.prog X.w) X.A (eval (.Name x pos) X.env) Q E s :=
  Calls.Name_function_global I.ok.kind hg (Calls.loadGlobal_global (by rw [I.ok.glob]; exact I.mod.glob.keeps I.bk) hm h) hd
theorem ld_blt {E : Value → Shared → Prop} {pins : List (Addr × Obj)} {s : Shared} {σ : St} {H : Hp} {x : Str} {u : Value} {pos : Pos} {Q : Value → Shared → Prop} (I : Inv X pins σ H s) (hg : Gl X x) (hm : X.mg x = none) (hv : bootBuiltins x = some u) (h : Q u s)
    (hn : x ≠ "__name__" := by decide) (hd : (x == ("__debug__" : Str)) = false := by decide) : wpAny (model X.prog X.w) X.A (eval (.Name x pos) X.env) Q E s := by
  obtain ⟨mb, h1, h2⟩ := I.mod.blt
  exact Calls.Name_function_global I.ok.kind hg (Calls.loadGlobal_builtin (by rw [I.ok.glob]; exact I.mod.glob.keeps I.bk) hm (by rw [I.ok.blt]; exact h1.keeps I.bk) ((h2 x hn).trans hv) h) hd
theorem pe_glob {x : Str} {v : V} {u : Value} {pos : Pos} (hg : Gl X x) (hm : X.mg x = some u) (r : RelV v u) (hd : (x == ("__debug__" : Str)) = false := by decide) : PE X (.Name x pos) (tC v) :=
  fun _ _ _ H _ I h => ld_glob I hg hm ⟨v, H, I, r, h⟩ hd
theorem pe_bltn {x : Str} {v : V} {u : Value} {pos : Pos} (hg : Gl X x) (hm : X.mg x = none) (hv : bootBuiltins x = some u) (r : RelV v u) (hn : x ≠ "__name__" := by decide) (hd : (x == ("__debug__" : Str)) = false := by decide) : PE X (.Name x pos) (tC v) :=
  fun _ _ _ H _ I h => ld_blt I hg hm hv ⟨v, H, I, r, h⟩ hn hd
variable {a b : Expr} {ta tb : TE} {pos : Pos}
noncomputable def tB (t : TE) : TT := fun σ H Q => t σ H fun x H1 => ∃ c, x = .bl c ∧ Q c H1
theorem pt_val {e : Expr} {t : TE} (h : PE X e t) (he : ∀ whole, isTrue e X.env whole = (do let v ← whole; standAt e.pos; holding [v] (truthy v)) := by intro _; rfl) : PT X e (tB t) := by
  intro pins s σ H Q I hw
  refine isTrue_plain (thn (h pins s σ H _ I hw) fun v s1 ⟨x, H1, I1, r1, q1⟩ => ?_) (he _)
  obtain ⟨d, rfl, q⟩ := q1
  cases r1
  exact wpAny_truthy_bool ⟨H1, I1, q⟩
variable {tA tB' : TT} {rest : List Expr}
noncomputable def tAnd (t u : TT) : TT := fun σ H Q => t σ H fun c H1 => if c = true then u σ H1 Q else Q false H1
noncomputable def tOr (t u : TT) : TT := fun σ H Q => t σ H fun c H1 => if c = true then Q true H1 else u σ H1 Q
noncomputable def tNot (t : TT) : TT := fun σ H Q => t σ H fun c H1 => Q (!c) H1
theorem pw_and1 (ha : PT X a tA) : PW X (.BoolOp .And [a] pos) tA := by
  intro wh pins s σ H Q I h
  refine isTrue_and (thn (ha pins s σ H Q I h) fun c s1 e => ?_)
  cases c with
  | true => exact isTrue_and_nil e
  | false => exact e
theorem pw_or1 (ha : PT X a tA) : PW X (.BoolOp .Or [a] pos) tA := by
  intro wh pins s σ H Q I h
  refine isTrue_or (thn (ha pins s σ H Q I h) fun c s1 e => ?_)
  cases c with
  | false => exact isTrue_or_nil e
  | true => exact e
theorem pw_and (ha : PT X a tA) (hb : PW X (.BoolOp .And (b :: rest) pos) tB') : PW X (.BoolOp .And (a :: b :: rest) pos) (tAnd tA tB') := by
  intro wh pins s σ H Q I h
  refine isTrue_and (thn (ha pins s σ H _ I h) fun c s1 zz => ?_)
  obtain ⟨H1, I1, q1⟩ := zz
  cases c with
  | true => exact hb wh pins s1 σ H1 Q I1 q1
  | false => exact ⟨H1, I1, q1⟩
theorem pw_or (ha : PT X a tA) (hb : PW X (.BoolOp .Or (b :: rest) pos) tB') : PW X (.BoolOp .Or (a :: b :: rest) pos) (tOr tA tB') := by
  intro wh pins s σ H Q I h
  refine isTrue_or (thn (ha pins s σ H _ I h) fun c s1 zz => ?_)
  obtain ⟨H1, I1, q1⟩ := zz
  cases c with
  | true => exact ⟨H1, I1, q1⟩
  | false => exact hb wh pins s1 σ H1 Q I1 q1
theorem pt_not (ha : PT X a tA) : PT X (.UnaryOp .Not a pos) (tNot tA) := by
  intro pins s σ H Q I h
  exact isTrue_not (ha pins s σ H (fun c H1 => Q (!c) H1) I h)
noncomputable def tAndV (ta tb : TE) : TE := fun σ H Q => ta σ H fun x H1 => ∃ c, x = .bl c ∧ if c = true then tb σ H1 Q else Q (.bl false) H1
noncomputable def tOrV (ta tb : TE) : TE := fun σ H Q => ta σ H fun x H1 => ∃ c, x = .bl c ∧ if c = true then Q (.bl true) H1 else tb σ H1 Q
noncomputable def tNotV (ta : TE) : TE := fun σ H Q => ta σ H fun x H1 => ∃ c, x = .bl c ∧ Q (.bl (!c)) H1
theorem pe_one {op} {t : TE} (h : PE X a t) : PE X (.BoolOp op [a] pos) t := fun pins s σ H Q I hw => BoolOp_one (h pins s σ H Q I hw)
theorem pe_and (ha : PE X a ta) (hb : PE X (.BoolOp .And (b :: rest) pos) tb) : PE X (.BoolOp .And (a :: b :: rest) pos) (tAndV ta tb) := by
  intro pins s σ H Q I h
  refine BoolOp_and (thn (ha pins s σ H _ I h) fun v s1 zz => ?_)
  obtain ⟨x, H1, I1, r1, q1⟩ := zz
  obtain ⟨c, rfl, q1⟩ := q1
  cases r1
  refine wpAny_truthy_bool ?_
  cases c with
  | true => exact hb pins s1 σ H1 Q I1 q1
  | false => exact ⟨.bl false, H1, I1, rfl, q1⟩
theorem pe_or (ha : PE X a ta) (hb : PE X (.BoolOp .Or (b :: rest) pos) tb) : PE X (.BoolOp .Or (a :: b :: rest) pos) (tOrV ta tb) := by
  intro pins s σ H Q I h
  refine BoolOp_or (thn (ha pins s σ H _ I h) fun v s1 zz => ?_)
  obtain ⟨x, H1, I1, r1, q1⟩ := zz
  obtain ⟨c, rfl, q1⟩ := q1
  cases r1
  refine wpAny_truthy_bool ?_
  cases c with
  | false => exact hb pins s1 σ H1 Q I1 q1
  | true => exact ⟨.bl true, H1, I1, rfl, q1⟩
theorem pe_not (ha : PE X a ta) : PE X (.UnaryOp .Not a pos) (tNotV ta) := by
  intro pins s σ H Q I h
  refine UnaryOp_ (thn (ha pins s σ H _ I h) fun v s1 zz => ?_)
  obtain ⟨x, H1, I1, r1, q1⟩ := zz
  obtain ⟨c, rfl, q1⟩ := q1
  cases r1
  exact not_of (wpAny_truthy_bool ⟨.bl (!c), H1, I1, rfl, q1⟩)
noncomputable def tIf (t : TT) (ta tb : TE) : TE := fun σ H Q => t σ H fun c H1 => if c = true then ta σ H1 Q else tb σ H1 Q
theorem pe_ifExp {c : Expr} (hc : PT X c tA) (ha : PE X a ta) (hb : PE X b tb) : PE X (.IfExp c a b pos) (tIf tA ta tb) := by
  intro pins s σ H Q I h
  refine wpAny_IfExp (thn (hc pins s σ H _ I h) fun d s1 zz => ?_)
  obtain ⟨H1, I1, q1⟩ := zz
  cases d with
  | true => exact ha pins s1 σ H1 Q I1 q1
  | false => exact hb pins s1 σ H1 Q I1 q1
end
end L2
namespace L2
open PySem PySem.Spec PyProof.Rows
noncomputable def SqL (K : PySem.W.Frag) (H : Hp) (a : Addr) (xs : List V) : Prop :=
  Rd H a (.lst xs) ∨
    ∃ (o : Obj) (its : Array Value) (n : Nat), K.lookup a = some o ∧ o.cls = .type "list" ∧ o.dict = none ∧ o.data = .seq its n ∧ its.size ≤ sizeLine ∧ Vals xs its.toList
noncomputable def SqT (K : PySem.W.Frag) (H : Hp) (a : Addr) (xs : List V) : Prop :=
  Rd H a (.tup xs) ∨
    ∃ (o : Obj) (its : Array Value) (n : Nat), K.lookup a = some o ∧ o.cls = .type "tuple" ∧ o.data = .seq its n ∧ its.size ≤ sizeLine ∧ Vals xs its.toList
noncomputable def absV : Value → Option V
  | .none => some .non
  | .bool b => some (.bl b)
  | .int i _ => some (.int i)
  | .str x _ => some (.str x)
  | .bytes b _ => some (.byt b)
  | .float b _ => some (.flt b)
  | .ref a => some (.ref a)
  | .type n => some (.ty n)
  | _ => none
theorem RelV.abs {x : V} {u : Value} (r : RelV x u) : absV u = some x := by
  cases x with
  | non => cases r; rfl
  | bl _ => cases r; rfl
  | int _ => obtain ⟨t, rfl⟩ := r; rfl
  | str _ => obtain ⟨t, rfl⟩ := r; rfl
  | byt _ => obtain ⟨t, rfl⟩ := r; rfl
  | flt _ => obtain ⟨t, rfl⟩ := r; rfl
  | ref _ => cases r; rfl
  | ty _ => cases r; rfl
theorem RelV.inj {x y : V} {u : Value} (r : RelV x u) (q : RelV y u) : x = y := Option.some.inj (r.abs.symm.trans q.abs)
theorem Vals.inj : ∀ {xs ys : List V} {us : List Value}, Vals xs us → Vals ys us → xs = ys
  | _, _, _, .nil, .nil => rfl
  | _, _, _, .cons r t, .cons r' t' => by rw [r.inj r', Vals.inj t t']
section
variable {X : Cx} {pins : List (Addr × Obj)} {σ : St} {H : Hp} {s : Shared} {a : Addr} {xs ys : List V}
theorem SqL.of {K : PySem.W.Frag} (h : H a = some (.lst xs)) : SqL K H a xs := .inl (.inl h)
theorem SqT.of {K : PySem.W.Frag} (h : H a = some (.tup xs)) : SqT K H a xs := .inl (.inl h)
theorem Inv.list (I : Inv X pins σ H s) (h : SqL X.K H a xs) : ∃ its : List Value, Vals xs its ∧ PlainL s.heap a its.toArray ∧ xs.length ≤ sizeLine := by
  rcases h with h | ⟨o, its, n, hk, hc, hd, hs, hz, r⟩
  · obtain ⟨z, its, n, r, e⟩ := h.ok I.hok
    exact ⟨its, r, ⟨_, n, e, rfl, rfl, rfl⟩, z⟩
  · refine ⟨its.toList, r, ⟨o, n, I.kIn a o hk, hc, hd, by simpa using hs⟩, ?_⟩
    have e := r.length
    simp only [Array.length_toList] at e
    omega
theorem Inv.tuple (I : Inv X pins σ H s) (h : SqT X.K H a xs) : ∃ its : List Value, Vals xs its ∧ IsTup s.heap a its.toArray ∧ xs.length ≤ sizeLine := by
  rcases h with h | ⟨o, its, n, hk, hc, hs, hz, r⟩
  · obtain ⟨z, its, r, p⟩ := h.ok I.hok
    exact ⟨its, r, p, z⟩
  · refine ⟨its.toList, r, ⟨o, I.kIn a o hk, hc, n, by simpa using hs⟩, ?_⟩
    have e := r.length
    simp only [Array.length_toList] at e
    omega
theorem Inv.list_inj (I : Inv X pins σ H s) (h : SqL X.K H a xs) (h' : SqL X.K H a ys) : xs = ys := by
  obtain ⟨its, r, ⟨o, n, e, _, _, d⟩, _⟩ := I.list h
  obtain ⟨its', r', ⟨o', n', e', _, _, d'⟩, _⟩ := I.list h'
  rw [e] at e'; cases e'
  rw [d] at d'
  injection d' with d1 _
  have : its = its' := by simpa using congrArg Array.toList d1
  subst this
  exact r.inj r'
end
noncomputable abbrev Cx.wish (X : Cx) (E : Value → Shared → Prop) : Cx := { X with xe := E }
noncomputable abbrev Cx.nox (X : Cx) : Cx := X.wish fun _ _ => False
theorem Cx.Ok.wish {X : Cx} (ok : X.Ok) (E : Value → Shared → Prop) : (X.wish E).Ok :=
  ⟨ok.mod, ok.kind, ok.glob, ok.blt, ok.above, ok.inj, ok.has, ok.cab, ok.hd, ok.frames, ok.stk, ok.exf, ok.bs, ok.bsz, ok.noex, ok.exfs, ok.funs, ok.frf⟩
theorem Cx.Ok.unwish {X : Cx} {E : Value → Shared → Prop} (ok : (X.wish E).Ok) : X.Ok :=
  ⟨ok.mod, ok.kind, ok.glob, ok.blt, ok.above, ok.inj, ok.has, ok.cab, ok.hd, ok.frames, ok.stk, ok.exf, ok.bs, ok.bsz, ok.noex, ok.exfs, ok.funs, ok.frf⟩
section
variable {X : Cx} {pins : List (Addr × Obj)} {σ : St} {H : Hp} {s : Shared} {E : Value → Shared → Prop}
theorem Inv.wish (I : Inv X pins σ H s) (E : Value → Shared → Prop) : Inv (X.wish E) pins σ H s := ⟨I.ok.wish E, I.os, I.bare, I.base, I.loc, I.cell, I.free, I.freeC, I.pin, I.hok, I.len⟩
theorem Inv.unwish (I : Inv (X.wish E) pins σ H s) : Inv X pins σ H s := ⟨I.ok.unwish, I.os, I.bare, I.base, I.loc, I.cell, I.free, I.freeC, I.pin, I.hok, I.len⟩
theorem SP.unwish {D : Ends} {f : Flow} {s' : Shared} (h : SP (X.wish E) pins D f s') : SP X pins D f s' := by
  cases f with
  | next => obtain ⟨σ', H', I, q⟩ := h; exact ⟨σ', H', I.unwish, q⟩
  | brk => obtain ⟨σ', H', I, q⟩ := h; exact ⟨σ', H', I.unwish, q⟩
  | cont => obtain ⟨σ', H', I, q⟩ := h; exact ⟨σ', H', I.unwish, q⟩
  | ret u => obtain ⟨v, σ', H', I, r, q⟩ := h; exact ⟨v, σ', H', I.unwish, r, q⟩
theorem PSs.nox {st : List Stmt} {t : TS} (h : PSs X.nox st t) : PSs X st t := fun pins s σ H D I hw =>
  wpAny_mono (h pins s σ H D (I.wish _) hw) (fun _ _ q => q.unwish) fun _ _ z => False.elim z
end
section
variable {X : Cx} {st : Stmt} {rest : List Stmt} {t u : TS} {e : Expr} {te : TE} {pos : Pos}
noncomputable def tNext : TS := fun D σ H => D.nx σ H
noncomputable def tSeq (t u : TS) : TS := fun D σ H => t { D with nx := u D } σ H
theorem pss_nil : PSs X [] tNext := fun _ _ σ H _ I h => wpAny_execs_nil ⟨σ, H, I, h⟩
theorem pss_cons (h1 : PS X st t) (h2 : PSs X rest u) : PSs X (st :: rest) (tSeq t u) := by
  intro pins s σ H D I h
  refine wpAny_execs_cons (thn (h1 pins s σ H { D with nx := u D } I h) fun f s1 q => ?_)
  cases f with
  | next =>
    obtain ⟨σ', H', I', q⟩ := q
    exact h2 pins s1 σ' H' D I' q
  | ret v => exact q
  | brk => exact q
  | cont => exact q
theorem pss_one (h1 : PS X st t) : PSs X [st] t := by
  intro pins s σ H D I h
  refine wpAny_execs_cons (thn (h1 pins s σ H D I h) fun f s1 q => ?_)
  cases f with
  | next => exact wpAny_execs_nil q
  | ret v => exact q
  | brk => exact q
  | cont => exact q
theorem Inv.quiet {pins : List (Addr × Obj)} {σ : St} {H : Hp} {s : Shared} (I : Inv X pins σ H s) : interactive X.env = false := by simp [interactive, I.ok.kind]
noncomputable def tDrop (te : TE) : TS := fun D σ H => te σ H fun _ H1 => D.nx σ H1
theorem ps_expr (he : PE X e te) (hs : swapsWith e none pos.line X.env = pure false := by rfl) : PS X (.Expr e pos) (tDrop te) := by
  intro pins s σ H D I h
  exact wpAny_Expr_any (thn (he pins s σ H _ I h) fun v s1 ⟨x, H1, I1, r1, q1⟩ => ⟨σ, H1, I1, q1⟩) I.quiet hs
noncomputable def tRet (te : TE) : TS := fun D σ H => te σ H D.rt
theorem ps_ret (he : PE X e te) : PS X (.Return (some e) pos) (tRet te) := by
  intro pins s σ H D I h
  exact wpAny_Return_some (thn (he pins s σ H _ I h) fun v s1 ⟨x, H1, I1, r1, q1⟩ => ⟨x, σ, H1, I1, r1, q1⟩)
noncomputable def tIfS (c : TT) (t u : TS) : TS := fun D σ H => c σ H fun b H1 => if b = true then t D σ H1 else u D σ H1
theorem ps_if {c : Expr} {a b : List Stmt} {tc : TT} (hc : PT X c tc) (ha : PSs X a t) (hb : PSs X b u) : PS X (.If c a b pos) (tIfS tc t u) := by
  intro pins s σ H D I h
  refine wpAny_If (thn (hc pins s σ H _ I h) fun d s1 zz => ?_)
  obtain ⟨H1, I1, q1⟩ := zz
  cases d with
  | true => exact ha pins s1 σ H1 D I1 q1
  | false => exact hb pins s1 σ H1 D I1 q1
noncomputable def tNever : TS := fun _ _ _ => False
theorem ps_never : PS X st tNever := fun _ _ _ _ _ _ h => h.elim
theorem pss_never {sts : List Stmt} : PSs X sts tNever := fun _ _ _ _ _ _ h => h.elim
end
noncomputable abbrev TG := V → St → Hp → (St → Hp → Prop) → Prop
noncomputable abbrev TGs := List V → St → Hp → (St → Hp → Prop) → Prop
noncomputable def PG (X : Cx) (target : Expr) (t : TG) : Prop :=
  ∀ (pins : List (Addr × Obj)) (s : Shared) (σ : St) (H : Hp) (v : V) (u : Value) (Q : St → Hp → Prop), Inv X pins σ H s → RelV v u → t v σ H Q →
    wpAny (model X.prog X.w) X.A (assign target X.env u) (fun _ s' => ∃ σ' H', Inv X pins σ' H' s' ∧ Q σ' H') X.xe s
noncomputable def PGs (X : Cx) (ts : List Expr) (t : TGs) : Prop :=
  ∀ (pins : List (Addr × Obj)) (s : Shared) (σ : St) (H : Hp) (vs : List V) (us : List Value) (Q : St → Hp → Prop), Inv X pins σ H s → Vals vs us → t vs σ H Q →
    wpAny (model X.prog X.w) X.A (assignInOrder ((assignEach ts X.env).map (·.2)) us) (fun _ s' => ∃ σ' H', Inv X pins σ' H' s' ∧ Q σ' H') X.xe s
noncomputable abbrev TSet := V → V → V → Hp → (Hp → Prop) → Prop
noncomputable def PSet (X : Cx) (t : TSet) : Prop :=
  ∀ (pins : List (Addr × Obj)) (s : Shared) (σ : St) (H : Hp) (o i v : V) (ov iv u : Value) (Q : Hp → Prop), Inv X pins σ H s → RelV o ov → RelV i iv → RelV v u → t o i v H Q →
    wpAny (model X.prog X.w) X.A (setItem ov iv u) (fun _ s' => ∃ H', Inv X pins σ H' s' ∧ Q H') X.xe s
noncomputable abbrev TIp := V → V → Hp → VK → Prop
noncomputable def PIp (X : Cx) (op : Operator) (t : TIp) : Prop :=
  ∀ (pins : List (Addr × Obj)) (s : Shared) (σ : St) (H : Hp) (x y : V) (v u : Value) (Q : VK), Inv X pins σ H s → RelV x v → RelV y u → t x y H Q →
    wpAny (model X.prog X.w) X.A (inplaceOp op v u) (EP X pins σ Q) X.xe s
section
variable {X : Cx} {pos : Pos}
noncomputable def gName (i : Nat) : TG := fun v σ H Q => Q (σ.set i (some v)) H
theorem pg_name {i : Nat} {x : Str} (hN : X.N.Nodup) (hi : X.N[i]? = some x) (hx : Loc X.env.scope x) (hf : X.fn x = true ∨ X.env.scope.names.lookup x = some .local := by first | exact .inl rfl | exact .inr rfl | assumption) : PG X (.Name x pos) (gName i) := by
  intro pins s σ H v u Q I r h
  exact wpAny_assign_Name (store_ok I hN hi hx r (fun s' I' => ⟨_, H, I', h⟩) hf)
noncomputable def gNil : TGs := fun vs σ H Q => vs = [] ∧ Q σ H
noncomputable def gCons (t : TG) (u : TGs) : TGs := fun vs σ H Q => ∃ v r, vs = v :: r ∧ t v σ H fun σ' H' => u r σ' H' Q
theorem pgs_nil : PGs X [] gNil := by
  intro pins s σ H vs us Q I r h
  obtain ⟨e, h⟩ := h
  subst e
  cases r
  exact assignInOrder_nil ⟨σ, H, I, h⟩
theorem pgs_cons {e : Expr} {es : List Expr} {t : TG} {u : TGs} (h1 : PG X e t) (h2 : PGs X es u)
    (hs : (assignEach (e :: es) X.env).map (·.2) = assign e X.env :: (assignEach es X.env).map (·.2) := by rfl) : PGs X (e :: es) (gCons t u) := by
  intro pins s σ H vs us Q I r h
  obtain ⟨v, vr, e1, h⟩ := h
  subst e1
  cases r with
  | cons r rr =>
    rw [hs]
    refine assignInOrder_cons (thn (h1 pins s σ H _ _ _ I r h) fun _ s1 zz => ?_)
    obtain ⟨σ1, H1, I1, q1⟩ := zz
    exact h2 pins s1 σ1 H1 _ _ Q I1 rr q1
noncomputable def gTup (K : PySem.W.Frag) (n : Nat) (t : TGs) : TG := fun v σ H Q => ∃ a xs, v = .ref a ∧ SqT K H a xs ∧ xs.length = n ∧ t xs σ H Q
theorem pg_tup {es : List Expr} {k : Nat} {t : TGs} {n : Nat} (hc : X.calm = true) (h : PGs X es t)
    (hn : (assignEach es X.env).length = n := by rfl) (hst : (assignEach es X.env).findIdx? (·.1) = none := by rfl) : PG X (.Tuple es k pos) (gTup X.K n t) := by
  intro pins s σ H v u Q I r hw
  obtain ⟨a, xs, e1, hq, hl, hw⟩ := hw
  subst e1
  cases r
  obtain ⟨its, rv, ht, hz⟩ := I.tuple hq
  refine assign_Tuple_tuple (I.ok.hd hc) ht (by simp [hn, ← hl, rv.length]) hst fun h' hx => ?_
  have I1 : Inv X pins σ H { s with heap := h' } := I.kept (t' := s.toks) fun b o e => hx b o (Nat.ne_of_lt (Heap.lt_size e)) e
  exact h pins _ σ H xs _ Q I1 (by simpa using rv) hw
noncomputable def gSub (to ti : TE) (t : TSet) : TG := fun v σ H Q => to σ H fun o H1 => ti σ H1 fun i H2 => t o i v H2 fun H3 => Q σ H3
theorem pg_sub {o i : Expr} {to ti : TE} {t : TSet} (ho : PE X o to) (hi : PE X i ti) (hs : PSet X t)
    (ha : ∀ v, assign (.Subscript o i pos) X.env v = (do
      let ov ← holding [v] (eval o X.env)
      let iv ← holding [v, ov] (eval i X.env)
      standAt pos
      holding [v, ov, iv] (setItem ov iv v)
      release [v, ov, iv] []) := by intro _; rfl) : PG X (.Subscript o i pos) (gSub to ti t) := by
  intro pins s σ H v u Q I r h
  rw [ha]
  refine wpAny_bind (wpAny_holding (thn (ho pins s σ H _ I h) fun ov s1 zz => ?_))
  obtain ⟨x, H1, I1, r1, q1⟩ := zz
  refine wpAny_bind (wpAny_holding (thn (hi pins s1 σ H1 _ I1 q1) fun iv s2 zz => ?_))
  obtain ⟨y, H2, I2, r2, q2⟩ := zz
  refine wpAny_bind (wpAny_standAt (wpAny_bind (wpAny_holding (thn (hs pins s2 σ H2 x y v ov iv u _ I2 r1 r2 r q2) fun _ s3 zz => ?_))))
  obtain ⟨H3, I3, q3⟩ := zz
  exact wpAny_release ⟨σ, H3, I3, q3⟩
noncomputable def tAsg (te : TE) (g : TG) : TS := fun D σ H => te σ H fun x H1 => g x σ H1 D.nx
theorem ps_asg {tg e : Expr} {te : TE} {g : TG} (he : PE X e te) (hg : PG X tg g) (hs : swapsWithSole [tg] e pos.line X.env = pure false := by rfl) (hw : swappedStores [tg] e X.env = pure none := by rfl)
    (h1 : (assignEach [tg] X.env).map (·.2) = [assign tg X.env] := by rfl) : PS X (.Assign [tg] e pos) (tAsg te g) := by
  intro pins s σ H D I h
  refine wpAny_Assign_stores (thn (he pins s σ H _ I h) fun v s1 ⟨x, H1, I1, r1, q1⟩ => ?_) hs hw
  rw [h1]
  exact thn (hg pins s1 σ H1 x v _ I1 r1 q1) fun _ s2 q => q
theorem ps_set {i : Nat} {x : Str} {e : Expr} {te : TE} {pos' : Pos} (hN : X.N.Nodup) (hi : X.N[i]? = some x) (hx : Loc X.env.scope x) (he : PE X e te) (hs : swapsWith e (some (.Name x pos')) pos.line X.env = pure false := by rfl) (hf : X.fn x = true ∨ X.env.scope.names.lookup x = some .local := by first | exact .inl rfl | exact .inr rfl | assumption) :
    PS X (.Assign [.Name x pos'] e pos) (tAsg te (gName i)) := by
  intro pins s σ H D I h
  refine wpAny_Assign_Name (thn (he pins s σ H _ I h) fun v s1 ⟨y, H1, I1, r1, q1⟩ => ?_) hs
  exact store_ok I1 hN hi hx r1 (fun s2 I2 => ⟨_, H1, I2, q1⟩) hf
noncomputable def tPar (i j : Nat) (ta : TA) : TS := fun D σ H => ta σ H fun vs H1 => ∃ v w, vs = [v, w] ∧ D.nx ((σ.set i (some v)).set j (some w)) H1
theorem ps_par {i j : Nat} {x y : Str} {a b : Expr} {ta : TA} {px py pt : Pos} {kt k2 pt2} (hc : X.calm = true) (hN : X.N.Nodup) (hi : X.N[i]? = some x) (hj : X.N[j]? = some y) (hij : i ≠ j)
    (hx : X.env.scope.names.lookup x = some .local) (hy : X.env.scope.names.lookup y = some .local) (ha : PA X [a, b] ta)
    (hw : swappedStores [.Tuple [.Name x px, .Name y py] kt pt] (.Tuple [a, b] k2 pt2) X.env = pure (some [x, y]))
    (hs : swapsWithSole [.Tuple [.Name x px, .Name y py] kt pt] (.Tuple [a, b] k2 pt2) pos.line X.env = pure false := by rfl) :
    PS X (.Assign [.Tuple [.Name x px, .Name y py] kt pt] (.Tuple [a, b] k2 pt2) pos) (tPar i j ta) := by
  intro pins s σ H D I h
  rw [exec_Assign_arm]
  refine wpAny_bind (wpAny_standAt ?_)
  rw [hs]
  refine wpAny_bind (wpAny_pure ?_)
  rw [if_neg (by decide)]
  refine wpAny_bind (Tuple_ (thn (ha _ pins s σ H _ I h) fun us s1 zz => ?_))
  obtain ⟨vs, H1, I1, r1, q1⟩ := zz
  obtain ⟨v, w, e1, q1⟩ := q1
  subst e1
  obtain ⟨u1, u2, rfl, rv, rw'⟩ : ∃ u1 u2, us = [u1, u2] ∧ RelV v u1 ∧ RelV w u2 := by
    cases r1 with
    | cons p q =>
      cases q with
      | cons p' q' =>
        cases q'
        exact ⟨_, _, rfl, p, p'⟩
  refine wpAny_newObj_type ?_ (by show 2 ≤ sizeLine; decide)
  have I2 : Inv X pins σ H1 { s1 with heap := s1.heap.push { cls := .type "tuple", data := .seq [u1, u2].toArray } } := I1.kept (t' := s1.toks) fun b o e => Heap.get?_push_of_some _ e
  rw [hw]
  refine wpAny_bind (wpAny_pure ?_)
  show wpAny (model X.prog X.w) X.A (do rule "assign.swapped-stores"; let items ← unpackItems (.ref s1.heap.objs.size) 2 none; assignInOrder [fun v => bindName X.env y v, fun v => bindName X.env x v] items.reverse; pure Flow.next) _ _ _
  refine wpAny_bind (wpAny_rule (wpAny_bind (unpackItems_tuple (items := #[u1, u2]) (I.ok.hd hc) (IsTup.new s1.heap _) fun h' hx' => ?_)))
  have I3 := I2.kept (h' := h') (t' := s1.toks) fun b o e => hx' b o (Nat.ne_of_lt (Heap.lt_size e)) e
  show wpAny _ _ (assignInOrder [fun v => bindName X.env y v, fun v => bindName X.env x v] [u2, u1] >>= fun _ => pure Flow.next) _ _ _
  refine wpAny_bind (assignInOrder_cons (wpAny_bindName (store_ok I3 hN hj (.inl hy) rw' (fun s2 I4 => ?_) (.inr hy))))
  refine assignInOrder_cons (wpAny_bindName (store_ok I4 hN hi (.inl hx) rv (fun s3 I5 => assignInOrder_nil (wpAny_pure ?_)) (.inr hx)))
  rw [List.set_comm _ _ (Ne.symm hij)] at I5
  exact ⟨_, H1, I5, q1⟩
noncomputable def tAug (i : Nat) (te : TE) (ti : TIp) : TS := fun D σ H => ∃ x, σ[i]? = some (some x) ∧ te σ H fun y H1 => ti x y H1 fun z H2 => D.nx (σ.set i (some z)) H2
theorem ps_aug {i : Nat} {x : Str} {e : Expr} {te : TE} {op : Operator} {ti : TIp} {pos' : Pos} (hN : X.N.Nodup) (hi : X.N[i]? = some x) (hx : Loc X.env.scope x) (he : PE X e te) (ho : PIp X op ti) (hf : X.fn x = true ∨ X.env.scope.names.lookup x = some .local := by first | exact .inl rfl | exact .inr rfl | assumption) :
    PS X (.AugAssign (.Name x pos') op e pos) (tAug i te ti) := by
  intro pins s σ H D I h
  obtain ⟨v, e1, h⟩ := h
  obtain ⟨m, hn, hl⟩ := I.loc
  have vis : Vis X.env.scope x := by rcases hx with k | k; exact .inl k; exact .inr (.inl k)
  obtain ⟨u, r, l⟩ := hl i x v hi e1 vis
  refine wpAny_AugAssign_Name ?_
  have go : wpAny (model X.prog X.w) X.A (eval e X.env) (fun w s₂ => wpAny (model X.prog X.w) X.A (inplaceOp op u w) (fun r s₃ => wpAny (model X.prog X.w) X.A (storeName X.env x r) (fun _ => SP X pins D .next) X.xe s₃) X.xe s₂) X.xe s := by
    refine thn (he pins s σ H _ I h) fun w s1 zz => ?_
    obtain ⟨y, H1, I1, r1, q1⟩ := zz
    refine thn (ho pins s1 σ H1 v y u w _ I1 r r1 q1) fun z s2 zz => ?_
    obtain ⟨zv, H2, I2, r2, q2⟩ := zz
    exact store_ok I2 hN hi hx r2 (fun s3 I3 => ⟨_, H2, I3, q2⟩) hf
  rcases l with ⟨hk, hm⟩ | ⟨hk, c, hc, hcell⟩
  · exact wpAny_loadName_local I.ok.kind hk hn hm go
  · rcases hk with hk | hk
    · exact wpAny_loadName_cell I.ok.kind hk hc hcell go
    · rcases hx with k | k
      · have : X.env.scope.names.lookup x = some .free := hk
        rw [k] at this; cases this
      · have : X.env.scope.names.lookup x = some .free := hk
        rw [k] at this; cases this
noncomputable def ipI (f : Int → Int → Int) : TIp := fun x y H Q => ∃ i j, x = .int i ∧ y = .int j ∧ Q (.int (f i j)) H
theorem ip_add : PIp X .Add (ipI fun i j => i + j) := by
  intro pins s σ H x y v u Q I r1 r2 h
  obtain ⟨i, j, e1, e2, q⟩ := h
  subst e1; subst e2
  obtain ⟨t, rfl⟩ := r1
  obtain ⟨t', rfl⟩ := r2
  exact iadd_int ⟨.int _, H, I.tok _, ⟨_, rfl⟩, q⟩
theorem ip_sub : PIp X .Sub (ipI fun i j => i - j) := by
  intro pins s σ H x y v u Q I r1 r2 h
  obtain ⟨i, j, e1, e2, q⟩ := h
  subst e1; subst e2
  obtain ⟨t, rfl⟩ := r1
  obtain ⟨t', rfl⟩ := r2
  exact isub_int ⟨.int _, H, I.tok _, ⟨_, rfl⟩, q⟩
end
section
variable {X : Cx} {pos : Pos}
noncomputable def tWhile (c : TT) (tb : TS) : TS := fun D σ H => ∃ W : Nat → St → Hp → Prop, (∃ m, W m σ H) ∧ ∀ m σ H, W m σ H →
  c σ H fun b H1 => if b = true then ∃ N : St → Hp → Prop, (∀ σ' H', N σ' H' → ∃ m', m' < m ∧ W m' σ' H') ∧ tb { D with nx := N, ct := N, bk := D.nx } σ H1 else D.nx σ H1
theorem ps_while {c : Expr} {body : List Stmt} {tc : TT} {tb : TS} (hp : PassesOwn (model X.prog X.w) X.A X.env X.xe) (hc : PT X c tc) (hb : PSs X body tb) : PS X (.While c body [] pos) (tWhile tc tb) := by
  intro pins s σ H D I h
  obtain ⟨W, ⟨m0, w0⟩, turn⟩ := h
  refine wpAny_While (codeAny_whileLoop (fun n s' => ∃ σ' H', Inv X pins σ' H' s' ∧ W n σ' H') ?_ m0 ⟨σ, H, I, w0⟩)
  rintro n s1 ⟨σ1, H1, I1, w1⟩
  refine wpAny_passesOwn hp (thn (hc pins s1 σ1 H1 _ I1 (turn n σ1 H1 w1)) fun b s2 zz => ?_)
  obtain ⟨H2, I2, q2⟩ := zz
  cases b with
  | true =>
    obtain ⟨N, hN, q2⟩ := q2
    rw [if_pos rfl]
    refine wpAny_passesOwn hp (thn (hb pins s2 σ1 H2 _ I2 q2) fun f s3 q3 => ?_)
    cases f with
    | next =>
      obtain ⟨σ3, H3, I3, n3⟩ := q3
      obtain ⟨m', hm, w3⟩ := hN σ3 H3 n3
      exact ⟨m', hm, σ3, H3, I3, w3⟩
    | cont =>
      obtain ⟨σ3, H3, I3, n3⟩ := q3
      obtain ⟨m', hm, w3⟩ := hN σ3 H3 n3
      exact ⟨m', hm, σ3, H3, I3, w3⟩
    | brk => exact q3
    | ret v => exact q3
  | false =>
    rw [if_neg Bool.false_ne_true]
    exact wpAny_execs_nil ⟨σ1, H2, I2, q2⟩
end
structure It where
  go : Nat → Hp → Prop
  yld : Nat → Hp → V → Hp → Prop
  stop : Nat → Hp → Prop
noncomputable def FpOk (X : Cx) (pins : List (Addr × Obj)) (H : Hp) (b : Addr) : Prop :=
  H b = none ∧ b ≠ X.env.locals ∧ b ∉ X.fs ∧ (b ∈ X.ex ∨ X.s₀.heap.objs.size ≤ b) ∧ (∀ x c, X.env.cells.lookup x = some c → c ≠ b) ∧ ∀ p ∈ X.pn ++ pins, p.1 ≠ b
theorem Inv.fpOk {X : Cx} {pins : List (Addr × Obj)} {σ : St} {H H' : Hp} {s : Shared} {b : Addr} (I : Inv X pins σ H s) (hb : s.heap.objs.size ≤ b) (hn : H' b = none) : FpOk X pins H' b := by
  refine ⟨hn, Nat.ne_of_gt (Nat.lt_of_lt_of_le I.lt hb), I.nofs hb, .inr (Nat.le_trans I.sz hb), fun x c e z => ?_, fun p hp z => ?_⟩
  · obtain ⟨v, q⟩ := I.cell x c e
    exact absurd (Nat.lt_of_lt_of_le q.lt (by rw [z]; exact hb)) (Nat.lt_irrefl _)
  · exact absurd (Nat.lt_of_lt_of_le (Heap.lt_size (I.pin p hp).1) (by rw [z]; exact hb)) (Nat.lt_irrefl _)
structure Turn (P : Program) (w : World) (K : PySem.W.Frag) (tg : Expr) (J : It) (fp : List Addr) (it : Addr) (tn : Nat → Heap → Prop) : Prop where
  mem : it ∈ fp
  obj : ∀ i h, tn i h → ∀ b ∈ fp, ∃ o, h.get? b = some o ∧ ∀ v, o.data ≠ .cell v
  keep : ∀ i h h', tn i h → (∀ b ∈ fp, ∀ o, h.get? b = some o → h'.get? b = some o) → tn i h'
  item : ∀ (X : Cx), X.prog = P → X.w = w → X.K = K → X.calm = true → ∀ (i : Nat) (pins : List (Addr × Obj)) (s : Shared) (σ : St) (H : Hp) (E : Value → Shared → Prop), Inv X pins σ H s → (∀ b ∈ fp, FpOk X pins H b) → tn i s.heap → J.go i H →
    wpAny (model P w) X.A (pyNext (.ref it)) (fun r s1 => ∃ u, r = some u ∧
      wpAny (model P w) X.A (letOwnedTupleGo tg (.ref it) u) (fun _ s2 => ∃ x H', Inv X pins σ H' s2 ∧ RelV x u ∧ J.yld i H x H' ∧ tn (i + 1) s2.heap ∧ ∀ b ∈ fp, H' b = none) E s1) E s
  done : ∀ (X : Cx), X.prog = P → X.w = w → X.K = K → X.calm = true → ∀ (i : Nat) (pins : List (Addr × Obj)) (s : Shared) (σ : St) (H : Hp) (E : Value → Shared → Prop), Inv X pins σ H s → (∀ b ∈ fp, FpOk X pins H b) → tn i s.heap → J.stop i H →
    wpAny (model P w) X.A (pyNext (.ref it)) (fun r s1 => r = none ∧ Inv X pins σ H s1) E s
  self : ∀ (A : Around) (i : Nat) (s : Shared) (Q : Value → Shared → Prop) (E : Value → Shared → Prop), tn i s.heap → Q (.ref it) s → wpAny (model P w) A (pyIter (.ref it)) Q E s
noncomputable abbrev TI := St → Hp → (It → Hp → Prop) → Prop
noncomputable def PIE (X : Cx) (pins : List (Addr × Obj)) (σ : St) (tg : Expr) (R : It → Hp → Prop) (itv : Value) (s2 : Shared) : Prop :=
  ∃ (it : Addr) (fp : List Addr) (tn : Nat → Heap → Prop) (J : It) (H' : Hp), itv = .ref it ∧ Inv X pins σ H' s2 ∧ Turn X.prog X.w X.K tg J fp it tn ∧ tn 0 s2.heap ∧ (∀ b ∈ fp, FpOk X pins H' b) ∧ R J H'
noncomputable def PI (X : Cx) (tg iter : Expr) (wi : TI) : Prop :=
  ∀ (pins : List (Addr × Obj)) (s : Shared) (σ : St) (H : Hp) (R : It → Hp → Prop), Inv X pins σ H s → wi σ H R →
    wpAny (model X.prog X.w) X.A (eval iter X.env) (fun v s1 => wpAny (model X.prog X.w) X.A (pyIter v) (PIE X pins σ tg R) X.xe s1) X.xe s
theorem go_of {M : Model} {A : Around} {E : Value → Shared → Prop} {s : Shared} {tg : Expr} {it : Addr} {u : Value} {o : Obj} {n : String} {vs : Array Value} {Q : Unit → Shared → Prop} (ho : s.heap.get? it = some o) (hc : o.cls = .type n) (hd : o.data = .fields vs)
    (hn : ["enumerate", "zip", "dict_itemiterator", "dict_reverseitemiterator", "odict_iterator", "itertools.zip_longest", "itertools.pairwise"].contains n = false) (hQ : Q () s) : wpAny M A (letOwnedTupleGo tg (.ref it) u) Q E s := by
  unfold letOwnedTupleGo
  cases tg <;> first
    | exact wpAny_pure hQ
    | (cases u <;> first
        | exact wpAny_pure hQ
        | (refine wpAny_bind (wpAny_load ho ?_)
           rw [hc, hd]
           show wpAny M A (if (["enumerate", "zip", "dict_itemiterator", "dict_reverseitemiterator", "odict_iterator", "itertools.zip_longest", "itertools.pairwise"].contains n && vs[0]? == some (rawInt _)) = true then _ else _) Q E s
           rw [if_neg (by intro h; rw [hn, Bool.false_and] at h; cases h)]
           exact wpAny_pure hQ))
noncomputable def Itl (K : PySem.W.Frag) (a : Addr) : It :=
  ⟨fun i H => ∃ xs x, SqL K H a xs ∧ xs[i]? = some x, fun i H x H' => H' = H ∧ ∀ xs, SqL K H a xs → xs[i]? = some x, fun i H => ∃ xs, SqL K H a xs ∧ xs.length ≤ i⟩
noncomputable def Itr (lo : Int) (n : Nat) : It := ⟨fun i _ => i < n, fun i H x H' => H' = H ∧ x = .int (lo + i), fun i _ => n ≤ i⟩
theorem turn_list {P : Program} {w : World} {K : PySem.W.Frag} {tg : Expr} (a it : Addr) : Turn P w K tg (Itl K a) [it] it (fun i h => h.IsListIter it a i) where
  mem := by simp
  obj := fun i h st b hb => by
    have e : b = it := by simpa using hb
    subst e
    obtain ⟨o, e, c, d⟩ := st
    exact ⟨o, e, fun v z => by rw [d] at z; cases z⟩
  keep := fun i h h' st k => st.at fun o e => k it (by simp) o e
  item := by
    intro X hP hw hK hc i pins s σ H E I hf st hg
    subst hP hw hK
    obtain ⟨xs, x, hq, hx⟩ := hg
    obtain ⟨its, rv, p, hz⟩ := I.list hq
    obtain ⟨u, hu, ru⟩ := rv.get hx
    obtain ⟨f0, f1, f2, f3, f4, f5⟩ := hf it (by simp)
    refine wpAny_pyNext_list_item st p.isList (x := u) (by simpa using hu) fun h' st' sb => ?_
    have I1 : Inv X pins σ H { s with heap := h' } := I.turned (t' := s.toks) (fun b o hb e => (sb.2 b hb).trans e) f0 f1 f3 f4 f5
    obtain ⟨o, e, c, d⟩ := id st'
    exact ⟨u, rfl, go_of (s := { s with heap := h' }) e c d (by decide) ⟨x, H, I1, ru, ⟨rfl, fun ys hy => by rw [I.list_inj hy hq]; exact hx⟩, st', fun b hb => (hf b hb).1⟩⟩
  done := by
    intro X hP hw hK hc i pins s σ H E I hf st hg
    subst hP hw hK
    obtain ⟨xs, hq, hx⟩ := hg
    obtain ⟨its, rv, p, hz⟩ := I.list hq
    obtain ⟨f0, f1, f2, f3, f4, f5⟩ := hf it (by simp)
    have hl := rv.length
    exact wpAny_pyNext_list_end (I.ok.hd hc) st p.isList (by simp; omega) fun h' eb => ⟨rfl, I.turned (t' := s.toks) (fun b o hb e => eb b o hb e) f0 f1 f3 f4 f5⟩
  self := fun _ _ _ _ _ st h => wpAny_pyIter_listiter st h
theorem turn_range {P : Program} {w : World} {K : PySem.W.Frag} {tg : Expr} (it : Addr) (lo : Int) (n : Nat) : Turn P w K tg (Itr lo n) [it] it (fun i h => IsRangeIter h it (lo + (i : Nat) * 1) ((n : Int) - (i : Nat)) 1) where
  mem := by simp
  obj := fun i h st b hb => by
    have e : b = it := by simpa using hb
    subst e
    exact ⟨_, st, fun v z => by
      have z' : Data.fields _ = Data.cell v := z
      cases z'⟩
  keep := fun i h h' st k => k it (by simp) _ st
  item := by
    intro X hP hw hK hc i pins s σ H E I hf st hg
    subst hP hw hK
    obtain ⟨f0, f1, f2, f3, f4, f5⟩ := hf it (by simp)
    have W := Walks.range (prog := X.prog) (w := X.w) (I.ok.hd hc) it lo 1 n
    refine W.item i s _ _ hg st fun v h' tk hv st' kk => ?_
    obtain ⟨t, rfl⟩ := hv
    have I1 : Inv X pins σ H { s with heap := h', toks := tk } := I.turned (fun b o hb e => kk b o (by simpa using hb) e) f0 f1 f3 f4 f5
    refine ⟨_, rfl, go_of (s := { s with heap := h', toks := tk }) (n := "range_iterator") st' rfl rfl (by decide) ⟨.int (lo + i), H, I1, ⟨t, ?_⟩, ⟨rfl, rfl⟩, st', fun b hb => (hf b hb).1⟩⟩
    rw [Int.mul_one]
  done := by
    intro X hP hw hK hc i pins s σ H E I hf st hg
    subst hP hw hK
    obtain ⟨f0, f1, f2, f3, f4, f5⟩ := hf it (by simp)
    exact wpAny_pyNext_range_end (I.ok.hd hc) st (by have : n ≤ i := hg; omega) fun h' eb => ⟨rfl, I.turned (t' := s.toks) (fun b o hb e => eb b o hb e) f0 f1 f3 f4 f5⟩
  self := fun _ _ _ _ _ st h => wpAny_pyIter_rangeiter st h
end L2
namespace L2
open PySem PySem.Spec PyProof.Rows
section
variable {X : Cx} {tg : Expr}
noncomputable def iList (K : PySem.W.Frag) (tl : TE) : TI := fun σ H R => tl σ H fun x H1 => ∃ a, x = .ref a ∧ (∃ xs, SqL K H1 a xs) ∧ R (Itl K a) H1
theorem pi_list {l : Expr} {tl : TE} (hl : PE X l tl) : PI X tg l (iList X.K tl) := by
  intro pins s σ H R I h
  refine thn (hl pins s σ H _ I h) fun v s1 zz => ?_
  obtain ⟨x, H1, I1, r1, q1⟩ := zz
  obtain ⟨a, e, ⟨xs, hq⟩, q⟩ := q1
  subst e
  cases r1
  obtain ⟨its, rv, p, hz⟩ := I1.list hq
  refine wpAny_pyIter_list p.isList ?_
  refine ⟨s1.heap.objs.size, [s1.heap.objs.size], _, _, H1, rfl, I1.kept (t' := s1.toks) fun b o e => Heap.get?_push_of_some _ e, turn_list a _, ⟨_, Heap.get?_push_size _ rfl, rfl, rfl⟩, fun b hb => ?_, q⟩
  have e : b = s1.heap.objs.size := by simpa using hb
  subst e
  exact I1.fpOk (Nat.le_refl _) (I1.hok.fresh (Nat.le_refl _))
theorem range_it {pins : List (Addr × Obj)} {σ : St} {H : Hp} {s : Shared} {R : It → Hp → Prop} {E : Value → Shared → Prop} {lo hi : Int} {t u v : Tok} {tk : Nat} (I : Inv X pins σ H s) (h1 : -(2 ^ 62) ≤ lo) (h2 : lo < 2 ^ 62) (h3 : -(2 ^ 62) ≤ hi) (h4 : hi < 2 ^ 62)
    (q : R (Itr lo (hi - lo).toNat) H) : wpAny (model X.prog X.w) X.A (pyIter (.ref s.heap.objs.size)) (PIE X pins σ tg R) E { s with heap := s.heap.push { cls := .type "range", data := .fields #[.int lo t, .int hi u, .int 1 v] }, toks := tk } := by
  refine wpAny_pyIter_range (IsRange.new ..) (small_one h1 h2 h3 h4) ?_
  have I1 : Inv X pins σ H { s with heap := s.heap.push { cls := .type "range", data := .fields #[.int lo t, .int hi u, .int 1 v] }, toks := tk } := I.kept fun b o e => Heap.get?_push_of_some _ e
  refine ⟨(s.heap.push { cls := .type "range", data := .fields #[.int lo t, .int hi u, .int 1 v] }).objs.size, [(s.heap.push { cls := .type "range", data := .fields #[.int lo t, .int hi u, .int 1 v] }).objs.size], _, _, H, rfl,
    I1.kept (t' := tk) fun b o e => Heap.get?_push_of_some _ e, turn_range _ lo (hi - lo).toNat, ?_, fun b hb => ?_, q⟩
  · have e1 : lo + ((0 : Nat) : Int) * 1 = lo := by simp
    have e2 : (((hi - lo).toNat : Nat) : Int) - ((0 : Nat) : Int) = Builtin.Range.rangeSize lo hi 1 := by rw [rangeSize_one]; split <;> omega
    show IsRangeIter _ _ (lo + ((0 : Nat) : Int) * 1) ((((hi - lo).toNat : Nat) : Int) - ((0 : Nat) : Int)) 1
    rw [e1, e2]
    exact Heap.get?_push_size _ rfl
  · have e : b = (s.heap.push { cls := .type "range", data := .fields #[.int lo t, .int hi u, .int 1 v] }).objs.size := by simpa using hb
    subst e
    exact I1.fpOk (Nat.le_refl _) (I1.hok.fresh (Nat.le_refl _))
noncomputable def iRng1 (ta : TA) : TI := fun σ H R => ta σ H fun vs H1 => ∃ j : Int, vs = [.int j] ∧ -(2 ^ 62) ≤ j ∧ j < 2 ^ 62 ∧ R (Itr 0 j.toNat) H1
noncomputable def iRng2 (ta : TA) : TI := fun σ H R => ta σ H fun vs H1 => ∃ i j : Int, vs = [.int i, .int j] ∧ (-(2 ^ 62) ≤ i ∧ i < 2 ^ 62 ∧ -(2 ^ 62) ≤ j ∧ j < 2 ^ 62) ∧ R (Itr i (j - i).toNat) H1
theorem pi_range1 {a : Expr} {ta : TA} {p pos : Pos} (hg : Gl X "range") (hm : X.mg "range" = none) (ha : PA X [a] ta) (hs : starEach [a] X.env = [(false, eval a X.env)] := by rfl) : PI X tg (.Call (.Name "range" p) [a] [] pos) (iRng1 ta) := by
  intro pins s σ H R I h
  refine Call_ (ld_blt I hg hm boot_range (PyProof.Rows.callWith_type1 (thn (ha pos pins s σ H _ I h) fun us s1 ⟨vs, H1, I1, r1, q1⟩ => ?_) hs rfl))
  obtain ⟨j, e, q1, q2, q⟩ := q1
  subst e
  cases r1 with
  | cons r rr =>
    cases rr
    obtain ⟨t, rfl⟩ := r
    exact call_range_1 (range_it I1 (by omega) (by omega) q1 q2 (by simpa using q))
theorem pi_range2 {a b : Expr} {ta : TA} {p pos : Pos} (hg : Gl X "range") (hm : X.mg "range" = none) (ha : PA X [a, b] ta) (hs : starEach [a, b] X.env = [(false, eval a X.env), (false, eval b X.env)] := by rfl) (hs2 : starEach [b] X.env = [(false, eval b X.env)] := by rfl) :
    PI X tg (.Call (.Name "range" p) [a, b] [] pos) (iRng2 ta) := by
  intro pins s σ H R I h
  refine Call_ (ld_blt I hg hm boot_range (PyProof.Rows.callWith_type1 (thn (ha pos pins s σ H _ I h) fun us s1 ⟨vs, H1, I1, r1, q1⟩ => ?_) (by rw [hs, hs2]) (by rw [hs2]; rfl)))
  obtain ⟨i, j, e, ⟨q1, q2, q3, q4⟩, q⟩ := q1
  subst e
  cases r1 with
  | cons r rr =>
    cases rr with
    | cons r' rr =>
      cases rr
      obtain ⟨t, rfl⟩ := r
      obtain ⟨t', rfl⟩ := r'
      exact call_range_2 (range_it I1 q1 q2 q3 q4 q)
noncomputable def tFor (wi : TI) (g : TG) (tb : TS) : TS := fun D σ H => wi σ H fun J H1 => ∃ W : Nat → Nat → St → Hp → Prop, (∃ m, W 0 m σ H1) ∧ ∀ i m σ H, W i m σ H →
  (J.stop i H ∧ D.nx σ H) ∨ (J.go i H ∧ ∃ N : St → Hp → Prop, (∀ σ' H', N σ' H' → ∃ m', m' < m ∧ W (i + 1) m' σ' H') ∧ ∀ x H', J.yld i H x H' → g x σ H' fun σ2 H2 => tb { D with nx := N, ct := N, bk := D.nx } σ2 H2)
noncomputable def pinsAt (fp : List Addr) (h : Heap) : List (Addr × Obj) := fp.filterMap fun b => (h.get? b).map fun o => (b, o)
theorem mem_pinsAt {fp : List Addr} {h : Heap} {b : Addr} {o : Obj} (hb : b ∈ fp) (e : h.get? b = some o) : (b, o) ∈ pinsAt fp h := List.mem_filterMap.mpr ⟨b, hb, by rw [e]; rfl⟩
theorem of_pinsAt {fp : List Addr} {h : Heap} {p : Addr × Obj} (hp : p ∈ pinsAt fp h) : p.1 ∈ fp ∧ h.get? p.1 = some p.2 := by
  obtain ⟨b, hb, e⟩ := List.mem_filterMap.mp hp
  cases q : h.get? b with
  | none => rw [q] at e; cases e
  | some o =>
    rw [q] at e
    have e' : (b, o) = p := Option.some.inj e
    subst e'
    exact ⟨hb, q⟩
theorem Inv.pinned {pins : List (Addr × Obj)} {σ : St} {H : Hp} {s : Shared} {fp : List Addr} (I : Inv X pins σ H s) (hf : ∀ b ∈ fp, FpOk X pins H b) (ho : ∀ b ∈ fp, ∃ o, s.heap.get? b = some o ∧ ∀ v, o.data ≠ .cell v) : Inv X (pins ++ pinsAt fp s.heap) σ H s :=
  I.pins_of fun p hp => (List.mem_append.mp hp).elim (fun z => I.pin p (List.mem_append_right _ z)) fun z => by
    obtain ⟨hb, e⟩ := of_pinsAt z
    obtain ⟨f0, f1, f2, _⟩ := hf p.1 hb
    obtain ⟨o, e', d⟩ := ho p.1 hb
    rw [e] at e'; cases e'
    exact ⟨e, f0, f1, f2, d⟩
theorem Inv.unpinned {pins pl : List (Addr × Obj)} {σ : St} {H : Hp} {s : Shared} (I : Inv X (pins ++ pl) σ H s) : Inv X pins σ H s := I.pins_of fun p hp => I.pin p (List.mem_append_right _ (List.mem_append_left _ hp))
theorem ps_for {iter : Expr} {body : List Stmt} {wi : TI} {g : TG} {tb : TS} {pos : Pos} (hp : PassesOwn (model X.prog X.w) X.A X.env X.xe) (hc : X.calm = true) (hi : PI X tg iter wi) (hg : PG X tg g) (hb : PSs X body tb)
    (hs : ∀ x, foldedSetIterable iter X.env x = pure x := by intro _; rfl) : PS X (.For tg iter body [] pos) (tFor wi g tb) := by
  intro pins s σ H D I h
  refine wpAny_For (thn (hi pins s σ H _ I h) fun v s1 h1 => thn h1 fun itv s2 h2 => ?_) hs
  obtain ⟨it, fp, tn, J, H2, e, I2, T, st2, f2, W, ⟨m0, w0⟩, turn⟩ := h2
  subst e
  have stat : ∀ {H' : Hp}, (∀ b ∈ fp, H' b = none) → ∀ b ∈ fp, FpOk X pins H' b := fun hn b hb => ⟨hn b hb, (f2 b hb).2⟩
  refine codeAny_forLoop_any (fun n s' => ∃ i σ' H', Inv X pins σ' H' s' ∧ tn i s'.heap ∧ (∀ b ∈ fp, H' b = none) ∧ W i n σ' H') ?_ m0 ⟨0, σ, H2, I2, st2, fun b hb => (f2 b hb).1, w0⟩
  rintro n s3 ⟨i, σ3, H3, I3, st3, fr3, w3⟩
  rcases turn i n σ3 H3 w3 with ⟨stop, qn⟩ | ⟨go, N, hN, step⟩
  · refine wpAny_passesOwn hp (thn (T.done X rfl rfl rfl hc i pins s3 σ3 H3 X.xe I3 (stat fr3) st3 stop) fun r s4 zz => ?_)
    obtain ⟨hr, I4⟩ := zz
    subst hr
    exact wpAny_execs_nil ⟨σ3, H3, I4, qn⟩
  · refine wpAny_passesOwn hp (thn (T.item X rfl rfl rfl hc i pins s3 σ3 H3 X.xe I3 (stat fr3) st3 go) fun r s4 zz => ?_)
    obtain ⟨u, hr, h4⟩ := zz
    subst hr
    refine wpAny_passesOwn hp (thn h4 fun _ s5 zz => ?_)
    obtain ⟨x, H5, I5, r5, y5, st5, fr5⟩ := zz
    have I5' := I5.pinned (stat fr5) (T.obj _ _ st5)
    refine wpAny_passesOwn hp (thn (hg _ s5 σ3 H5 x u _ I5' r5 (step x H5 y5)) fun _ s6 zz => ?_)
    obtain ⟨σ6, H6, I6, q6⟩ := zz
    refine wpAny_passesOwn hp (thn (hb _ s6 σ6 H6 _ I6 q6) fun f s7 q7 => ?_)
    have again : ∀ {σ7 : St} {H7 : Hp}, Inv X (pins ++ pinsAt fp s5.heap) σ7 H7 s7 → N σ7 H7 → ∃ m, m < n ∧ ∃ i σ' H', Inv X pins σ' H' s7 ∧ tn i s7.heap ∧ (∀ b ∈ fp, H' b = none) ∧ W i m σ' H' := fun {σ7 H7} I7 n7 => by
      obtain ⟨m', hm, w7⟩ := hN σ7 H7 n7
      refine ⟨m', hm, i + 1, σ7, H7, I7.unpinned, T.keep _ _ _ st5 fun b hb o e => (I7.pin (b, o) (List.mem_append_right _ (List.mem_append_right _ (mem_pinsAt hb e)))).1, fun b hb => ?_, w7⟩
      obtain ⟨o, e, d⟩ := T.obj _ _ st5 b hb
      exact (I7.pin (b, o) (List.mem_append_right _ (List.mem_append_right _ (mem_pinsAt hb e)))).2.1
    cases f with
    | next => obtain ⟨σ7, H7, I7, n7⟩ := q7; exact again I7 n7
    | cont => obtain ⟨σ7, H7, I7, n7⟩ := q7; exact again I7 n7
    | brk => obtain ⟨σ7, H7, I7, q7⟩ := q7; exact ⟨σ7, H7, I7.unpinned, q7⟩
    | ret v => obtain ⟨x7, σ7, H7, I7, r7, q7⟩ := q7; exact ⟨x7, σ7, H7, I7.unpinned, r7, q7⟩
end
theorem for_list {K : PySem.W.Frag} {a : Addr} {xs : List V} {g : TG} {tb : TS} {D : Ends} {σ : St} {H : Hp} (Pv : Nat → St → Hp → Prop) (h0 : Pv 0 σ H) (hl : ∀ i σ H, i ≤ xs.length → Pv i σ H → SqL K H a xs)
    (hs : ∀ i x σ H, xs[i]? = some x → Pv i σ H → g x σ H fun σ2 H2 => tb { D with nx := Pv (i + 1), ct := Pv (i + 1), bk := D.nx } σ2 H2) (hd : ∀ σ H, Pv xs.length σ H → D.nx σ H) :
    ∃ W : Nat → Nat → St → Hp → Prop, (∃ m, W 0 m σ H) ∧ ∀ i m σ H, W i m σ H →
      ((Itl K a).stop i H ∧ D.nx σ H) ∨ ((Itl K a).go i H ∧ ∃ N : St → Hp → Prop, (∀ σ' H', N σ' H' → ∃ m', m' < m ∧ W (i + 1) m' σ' H') ∧ ∀ x H', (Itl K a).yld i H x H' → g x σ H' fun σ2 H2 => tb { D with nx := N, ct := N, bk := D.nx } σ2 H2) := by
  refine ⟨fun i m σ H => m = xs.length - i ∧ i ≤ xs.length ∧ Pv i σ H, ⟨xs.length, by simp, Nat.zero_le _, h0⟩, ?_⟩
  rintro i m σ H ⟨rfl, hi, p⟩
  have q := hl i σ H hi p
  by_cases hlt : i < xs.length
  · refine .inr ⟨⟨xs, xs[i], q, by simp [hlt]⟩, Pv (i + 1), fun σ' H' p' => ⟨xs.length - (i + 1), by omega, rfl, hlt, p'⟩, fun x H' y => ?_⟩
    obtain ⟨e, y⟩ := y
    subst e
    exact hs i x σ _ (y xs q) p
  · have e : i = xs.length := by omega
    subst e
    exact .inl ⟨⟨xs, q, Nat.le_refl _⟩, hd σ H p⟩
theorem for_range {lo : Int} {n : Nat} {g : TG} {tb : TS} {D : Ends} {σ : St} {H : Hp} (Pv : Nat → St → Hp → Prop) (h0 : Pv 0 σ H)
    (hs : ∀ i σ H, i < n → Pv i σ H → g (.int (lo + i)) σ H fun σ2 H2 => tb { D with nx := Pv (i + 1), ct := Pv (i + 1), bk := D.nx } σ2 H2) (hd : ∀ σ H, Pv n σ H → D.nx σ H) :
    ∃ W : Nat → Nat → St → Hp → Prop, (∃ m, W 0 m σ H) ∧ ∀ i m σ H, W i m σ H →
      ((Itr lo n).stop i H ∧ D.nx σ H) ∨ ((Itr lo n).go i H ∧ ∃ N : St → Hp → Prop, (∀ σ' H', N σ' H' → ∃ m', m' < m ∧ W (i + 1) m' σ' H') ∧ ∀ x H', (Itr lo n).yld i H x H' → g x σ H' fun σ2 H2 => tb { D with nx := N, ct := N, bk := D.nx } σ2 H2) := by
  refine ⟨fun i m σ H => m = n - i ∧ i ≤ n ∧ Pv i σ H, ⟨n, by simp, Nat.zero_le _, h0⟩, ?_⟩
  rintro i m σ H ⟨rfl, hi, p⟩
  by_cases hlt : i < n
  · refine .inr ⟨hlt, Pv (i + 1), fun σ' H' p' => ⟨n - (i + 1), by omega, rfl, hlt, p'⟩, fun x H' y => ?_⟩
    obtain ⟨e, y⟩ := y
    subst e y
    exact hs i σ _ hlt p
  · have e : i = n := by omega
    subst e
    exact .inl ⟨Nat.le_refl _, hd σ H p⟩
end L2
namespace L2
open PySem PySem.Spec PyProof.Rows
noncomputable abbrev R2 := V → V → Hp → VK → Prop
noncomputable def OpR (X : Cx) (f : Value → Value → Sem Value) (r : R2) : Prop :=
  ∀ (pins : List (Addr × Obj)) (s : Shared) (σ : St) (H : Hp) (x y : V) (v u : Value) (Q : VK), Inv X pins σ H s → RelV x v → RelV y u → r x y H Q →
    wpAny (model X.prog X.w) X.A (f v u) (EP X pins σ Q) X.xe s
noncomputable def UnR (X : Cx) (f : Value → Sem Value) (r : V → Hp → VK → Prop) : Prop :=
  ∀ (pins : List (Addr × Obj)) (s : Shared) (σ : St) (H : Hp) (x : V) (v : Value) (Q : VK), Inv X pins σ H s → RelV x v → r x H Q →
    wpAny (model X.prog X.w) X.A (f v) (EP X pins σ Q) X.xe s
noncomputable def CallR (X : Cx) (f : Value) (r : List V → Hp → VK → Prop) : Prop :=
  ∀ (pins : List (Addr × Obj)) (s : Shared) (σ : St) (H : Hp) (xs : List V) (us : List Value) (Q : VK), Inv X pins σ H s → Vals xs us → r xs H Q →
    wpAny (model X.prog X.w) X.A (call f us) (EP X pins σ Q) X.xe s
noncomputable def tOp (r : R2) (ta tb : TE) : TE := fun σ H Q => ta σ H fun x H1 => tb σ H1 fun y H2 => r x y H2 Q
noncomputable def tUn (r : V → Hp → VK → Prop) (ta : TE) : TE := fun σ H Q => ta σ H fun x H1 => r x H1 Q
noncomputable def rI (C : Int → Int → Prop) (g : Int → Int → V) : R2 := fun x y H Q => ∃ i j, x = .int i ∧ y = .int j ∧ C i j ∧ Q (g i j) H
noncomputable def rI0 (g : Int → Int → V) : R2 := fun x y H Q => ∃ i j, x = .int i ∧ y = .int j ∧ Q (g i j) H
noncomputable def rU (g : Int → V) : V → Hp → VK → Prop := fun x H Q => ∃ i, x = .int i ∧ Q (g i) H
section
variable {X : Cx} {a b c : Expr} {ta tb tc : TE} {pos : Pos}
theorem binT (ha : PE X a ta) (hb : PE X b tb) {pins : List (Addr × Obj)} {s : Shared} {σ : St} {H : Hp} {R : V → V → Hp → Prop} (I : Inv X pins σ H s)
    (h : ta σ H fun x H1 => tb σ H1 fun y H2 => R x y H2) {Q : Value → Shared → Prop} {f : Value → Value → Sem Value}
    (hf : ∀ v u s2 x y H2, Inv X pins σ H2 s2 → RelV x v → RelV y u → R x y H2 → wpAny (model X.prog X.w) X.A (f v u) Q X.xe s2) :
    wpAny (model X.prog X.w) X.A (eval a X.env) (fun v s₁ => wpAny (model X.prog X.w) X.A (eval b X.env) (fun u s₂ => wpAny (model X.prog X.w) X.A (f v u) Q X.xe s₂) X.xe s₁) X.xe s := by
  refine thn (ha pins s σ H _ I h) fun v s1 zz => ?_
  obtain ⟨x, H1, I1, r1, q1⟩ := zz
  refine thn (hb pins s1 σ H1 _ I1 q1) fun u s2 zz => ?_
  obtain ⟨y, H2, I2, r2, q2⟩ := zz
  exact hf v u s2 x y H2 I2 r1 r2 q2
theorem pe_op {op : Operator} {r : R2} (ho : OpR X (binaryOp op) r) (ha : PE X a ta) (hb : PE X b tb) : PE X (.BinOp a op b pos) (tOp r ta tb) := by
  intro pins s σ H Q I h
  exact wpAny_BinOp (binT ha hb I h fun v u s2 x y H2 I2 rx ry q => ho pins s2 σ H2 x y v u Q I2 rx ry q)
theorem pe_un {op : UnaryOp} {r : V → Hp → VK → Prop} (ho : UnR X (unaryOp op) r) (ha : PE X a ta) : PE X (.UnaryOp op a pos) (tUn r ta) := by
  intro pins s σ H Q I h
  exact UnaryOp_ (thn (ha pins s σ H _ I h) fun v s1 ⟨x, H1, I1, r1, q1⟩ => ho pins s1 σ H1 x v Q I1 r1 q1)
theorem opI {f : Value → Value → Sem Value} {C : Int → Int → Prop} {g : Int → Int → Int}
    (rule : ∀ (i j : Int) (t u : Tok) (s : Shared) (Q : Value → Shared → Prop) (E : Value → Shared → Prop), C i j → Q (.int (g i j) s.toks) { s with toks := s.toks + 1 } → wpAny (model X.prog X.w) X.A (f (.int i t) (.int j u)) Q E s) :
    OpR X f (rI C fun i j => .int (g i j)) := by
  intro pins s σ H x y v u Q I rx ry h
  obtain ⟨i, j, rfl, rfl, hc, q⟩ := h
  obtain ⟨t, rfl⟩ := rx
  obtain ⟨t', rfl⟩ := ry
  exact rule i j t t' s _ _ hc ⟨.int (g i j), H, I.tok _, ⟨_, rfl⟩, q⟩
theorem opI0 {f : Value → Value → Sem Value} {g : Int → Int → Int}
    (rule : ∀ (i j : Int) (t u : Tok) (s : Shared) (Q : Value → Shared → Prop) (E : Value → Shared → Prop), Q (.int (g i j) s.toks) { s with toks := s.toks + 1 } → wpAny (model X.prog X.w) X.A (f (.int i t) (.int j u)) Q E s) :
    OpR X f (rI0 fun i j => .int (g i j)) := by
  intro pins s σ H x y v u Q I rx ry h
  obtain ⟨i, j, rfl, rfl, q⟩ := h
  obtain ⟨t, rfl⟩ := rx
  obtain ⟨t', rfl⟩ := ry
  exact rule i j t t' s _ _ ⟨.int (g i j), H, I.tok _, ⟨_, rfl⟩, q⟩
theorem opB0 {f : Value → Value → Sem Value} {g : Int → Int → Bool}
    (rule : ∀ (i j : Int) (t u : Tok) (s : Shared) (Q : Value → Shared → Prop) (E : Value → Shared → Prop), Q (.bool (g i j)) s → wpAny (model X.prog X.w) X.A (f (.int i t) (.int j u)) Q E s) :
    OpR X f (rI0 fun i j => .bl (g i j)) := by
  intro pins s σ H x y v u Q I rx ry h
  obtain ⟨i, j, rfl, rfl, q⟩ := h
  obtain ⟨t, rfl⟩ := rx
  obtain ⟨t', rfl⟩ := ry
  exact rule i j t t' s _ _ ⟨.bl (g i j), H, I, rfl, q⟩
noncomputable def CPow (i j : Int) : Prop := 0 ≤ j ∧ j ≤ 1000000 ∧ i.natAbs < 2 ^ 64
theorem op_add : OpR X (binaryOp .Add) (rI0 fun i j => .int (i + j)) := opI0 fun _ _ _ _ _ _ _ q => add_int q
theorem op_sub : OpR X (binaryOp .Sub) (rI0 fun i j => .int (i - j)) := opI0 fun _ _ _ _ _ _ _ q => sub_int q
theorem op_mod : OpR X (binaryOp .Mod) (rI (fun _ j => 0 < j) fun i j => .int (i % j)) := opI fun i j _ _ _ _ _ hc q => by
  have h1 : (0 : Int) < j := hc
  exact mod_int' (by omega) (by rw [Int.fmod_eq_emod_of_nonneg i (by omega)]; exact q)
theorem op_pow : OpR X (binaryOp .Pow) (rI CPow fun i j => .int (i ^ j.toNat)) := opI fun _ _ _ _ _ _ _ hc q => pow_int_small hc.1 hc.2.1 hc.2.2 q
theorem unI {f : Value → Sem Value} {g : Int → Int}
    (rule : ∀ (i : Int) (t : Tok) (s : Shared) (Q : Value → Shared → Prop) (E : Value → Shared → Prop), Q (.int (g i) s.toks) { s with toks := s.toks + 1 } → wpAny (model X.prog X.w) X.A (f (.int i t)) Q E s) :
    UnR X f (rU fun i => .int (g i)) := by
  intro pins s σ H x v Q I rx h
  obtain ⟨i, rfl, q⟩ := h
  obtain ⟨t, rfl⟩ := rx
  exact rule i t s _ _ ⟨.int (g i), H, I.tok _, ⟨_, rfl⟩, q⟩
theorem un_neg : UnR X (unaryOp .USub) (rU fun i => .int (-i)) := unI fun _ _ _ _ _ q => neg_int q
end
noncomputable def scal : V → V → Bool
  | .non, .non => true | .non, .int _ => true | .int _, .non => true | .non, .bl _ => true | .bl _, .non => true | .non, .str _ => true | .str _, .non => true
  | .int _, .int _ => true | .bl _, .bl _ => true | .str _, .str _ => true | .byt _, .byt _ => true
  | .int _, .str _ => true | .str _, .int _ => true | .bl _, .str _ => true | .str _, .bl _ => true
  | _, _ => false
noncomputable def rEq : R2 := fun x y H Q => scal x y = true ∧ Q (.bl (decide (x = y))) H
noncomputable def rNe : R2 := fun x y H Q => scal x y = true ∧ Q (.bl (!decide (x = y))) H
theorem dec_int {i j : Int} : decide (V.int i = V.int j) = (i == j) := by
  rw [Bool.eq_iff_iff]
  simp
theorem dec_bl {i j : Bool} : decide (V.bl i = V.bl j) = (i == j) := by
  rw [Bool.eq_iff_iff]
  simp
theorem dec_str {i j : Str} : decide (V.str i = V.str j) = (i == j) := by
  rw [Bool.eq_iff_iff]
  simp
theorem dec_byt {i j : Array UInt8} : decide (V.byt i = V.byt j) = (i.toList == j.toList) := by
  rw [Bool.eq_iff_iff]
  cases i
  cases j
  simp
section
variable {X : Cx} {a b c : Expr} {ta tb tc : TE} {pos : Pos}
theorem fin_bl {pins : List (Addr × Obj)} {σ : St} {H : Hp} {s : Shared} {Q : VK} {k k' : Bool} (I : Inv X pins σ H s) (q : Q (.bl k) H) (e : k = k') : EP X pins σ Q (.bool k') s := by
  subst e
  exact ⟨.bl k, H, I, rfl, q⟩
theorem op_eq : OpR X (compareOp .Eq) rEq := by
  intro pins s σ H x y v u Q I rx ry h
  obtain ⟨hs, q⟩ := h
  cases x with
  | non =>
    cases rx
    cases y with
    | non => cases ry; exact PySem.EqNone.eq_none_none (fin_bl I q (by simp))
    | bl j => cases ry; exact PySem.EqNone.eq_none_bool (fin_bl I q (by simp))
    | int j => obtain ⟨t', rfl⟩ := ry; exact PySem.EqNone.eq_none_int (fin_bl I q (by simp))
    | str j => obtain ⟨t', rfl⟩ := ry; exact PySem.EqNone.eq_none_str (fin_bl I q (by simp))
    | _ => exact absurd (show false = true from hs) Bool.false_ne_true
  | bl i =>
    cases rx
    cases y with
    | non => cases ry; exact PySem.EqNone.eq_bool_none (fin_bl I q (by simp))
    | bl j => cases ry; exact eq_bool (fin_bl I q dec_bl)
    | str j => obtain ⟨t', rfl⟩ := ry; exact PySem.EqMixed.eq_bool_str (fin_bl I q (by simp))
    | _ => exact absurd (show false = true from hs) Bool.false_ne_true
  | int i =>
    obtain ⟨t, rfl⟩ := rx
    cases y with
    | non => cases ry; exact PySem.EqNone.eq_int_none (fin_bl I q (by simp))
    | int j => obtain ⟨t', rfl⟩ := ry; exact eq_int (fin_bl I q dec_int)
    | str j => obtain ⟨t', rfl⟩ := ry; exact PySem.EqMixed.eq_int_str (fin_bl I q (by simp))
    | _ => exact absurd (show false = true from hs) Bool.false_ne_true
  | str i =>
    obtain ⟨t, rfl⟩ := rx
    cases y with
    | non => cases ry; exact PySem.EqNone.eq_str_none (fin_bl I q (by simp))
    | bl j => cases ry; exact PySem.EqMixed.eq_str_bool (fin_bl I q (by simp))
    | int j => obtain ⟨t', rfl⟩ := ry; exact PySem.EqMixed.eq_str_int (fin_bl I q (by simp))
    | str j => obtain ⟨t', rfl⟩ := ry; exact eq_str (fin_bl I q dec_str)
    | _ => exact absurd (show false = true from hs) Bool.false_ne_true
  | byt i =>
    obtain ⟨t, rfl⟩ := rx
    cases y with
    | byt j => obtain ⟨t', rfl⟩ := ry; exact PySem.W.eq_bytes (fin_bl I q dec_byt)
    | _ => exact absurd (show false = true from hs) Bool.false_ne_true
  | _ => cases y <;> exact absurd (show false = true from hs) Bool.false_ne_true
theorem op_ne : OpR X (compareOp .NotEq) rNe := by
  intro pins s σ H x y v u Q I rx ry h
  obtain ⟨hs, q⟩ := h
  cases x with
  | non =>
    cases rx
    cases y with
    | non => cases ry; exact PySem.EqNone.ne_none_none (fin_bl I q (by simp))
    | bl j => cases ry; exact PySem.EqNone.ne_none_bool (fin_bl I q (by simp))
    | int j => obtain ⟨t', rfl⟩ := ry; exact PySem.EqNone.ne_none_int (fin_bl I q (by simp))
    | str j => obtain ⟨t', rfl⟩ := ry; exact PySem.EqNone.ne_none_str (fin_bl I q (by simp))
    | _ => exact absurd (show false = true from hs) Bool.false_ne_true
  | bl i =>
    cases rx
    cases y with
    | non => cases ry; exact PySem.EqNone.ne_bool_none (fin_bl I q (by simp))
    | bl j => cases ry; exact ne_bool (fin_bl I q (congrArg not dec_bl))
    | str j => obtain ⟨t', rfl⟩ := ry; exact PySem.EqMixed.ne_bool_str (fin_bl I q (by simp))
    | _ => exact absurd (show false = true from hs) Bool.false_ne_true
  | int i =>
    obtain ⟨t, rfl⟩ := rx
    cases y with
    | non => cases ry; exact PySem.EqNone.ne_int_none (fin_bl I q (by simp))
    | int j => obtain ⟨t', rfl⟩ := ry; exact ne_int (fin_bl I q (congrArg not dec_int))
    | str j => obtain ⟨t', rfl⟩ := ry; exact PySem.EqMixed.ne_int_str (fin_bl I q (by simp))
    | _ => exact absurd (show false = true from hs) Bool.false_ne_true
  | str i =>
    obtain ⟨t, rfl⟩ := rx
    cases y with
    | non => cases ry; exact PySem.EqNone.ne_str_none (fin_bl I q (by simp))
    | bl j => cases ry; exact PySem.EqMixed.ne_str_bool (fin_bl I q (by simp))
    | int j => obtain ⟨t', rfl⟩ := ry; exact PySem.EqMixed.ne_str_int (fin_bl I q (by simp))
    | str j => obtain ⟨t', rfl⟩ := ry; exact ne_str (fin_bl I q (congrArg not dec_str))
    | _ => exact absurd (show false = true from hs) Bool.false_ne_true
  | byt i =>
    obtain ⟨t, rfl⟩ := rx
    cases y with
    | byt j => obtain ⟨t', rfl⟩ := ry; exact PySem.W.ne_bytes (fin_bl I q (congrArg not dec_byt))
    | _ => exact absurd (show false = true from hs) Bool.false_ne_true
  | _ => cases y <;> exact absurd (show false = true from hs) Bool.false_ne_true
theorem op_lt : OpR X (compareOp .Lt) (rI0 fun i j => .bl (decide (i < j))) := opB0 fun _ _ _ _ _ _ _ q => lt_int q
theorem op_le : OpR X (compareOp .LtE) (rI0 fun i j => .bl (decide (i ≤ j))) := opB0 fun _ _ _ _ _ _ _ q => le_int q
theorem op_gt : OpR X (compareOp .Gt) (rI0 fun i j => .bl (decide (j < i))) := opB0 fun _ _ _ _ _ _ _ q => gt_int q
theorem op_ge : OpR X (compareOp .GtE) (rI0 fun i j => .bl (decide (j ≤ i))) := opB0 fun _ _ _ _ _ _ _ q => ge_int q
theorem op_isN : OpR X (compareOp .Is) (fun x y H Q => y = .non ∧ Q (.bl (decide (x = .non))) H) := by
  intro pins s σ H x y v u Q I rx ry h
  obtain ⟨rfl, q⟩ := h
  cases ry
  refine is_none_gen (fin_bl I q ?_)
  cases x <;> first
    | (cases rx; rfl)
    | (obtain ⟨t, rfl⟩ := rx; rfl)
theorem op_notN : OpR X (compareOp .IsNot) (fun x y H Q => y = .non ∧ Q (.bl (!decide (x = .non))) H) := by
  intro pins s σ H x y v u Q I rx ry h
  obtain ⟨rfl, q⟩ := h
  cases ry
  refine isnot_none_gen (fin_bl I q ?_)
  cases x <;> first
    | (cases rx; rfl)
    | (obtain ⟨t, rfl⟩ := rx; rfl)
theorem nomark (b : Expr) {op : CmpOp} (h : op ≠ .In := by decide) (h2 : op ≠ .NotIn := by decide) : behindInMarks op b = false := by
  have e1 : (op == CmpOp.In) = false := by cases op <;> first | rfl | exact absurd rfl h
  have e2 : (op == CmpOp.NotIn) = false := by cases op <;> first | rfl | exact absurd rfl h2
  cases b <;> simp [behindInMarks, e1, e2]
theorem pe_cmpR {op : CmpOp} {r : R2} (ho : OpR X (compareOp op) r) (ha : PE X a ta) (hb : PE X b tb) (hm : behindInMarks op b = false) : PE X (.Compare a [op] [b] pos) (tOp r ta tb) := by
  intro pins s σ H Q I h
  exact wpAny_Compare1 (binT ha hb I h fun v u s2 x y H2 I2 rx ry q => ho pins s2 σ H2 x y v u Q I2 rx ry q) hm
noncomputable def tTest (t : TE) : TT := fun σ H Q => t σ H fun x H' => ∃ k, x = .bl k ∧ Q k H'
theorem pt_cmpR {op : CmpOp} {r : R2} (ho : OpR X (compareOp op) r) (ha : PE X a ta) (hb : PE X b tb) (hm : behindInMarks op b = false) : PT X (.Compare a [op] [b] pos) (tTest (tOp r ta tb)) := by
  intro pins s σ H Q I h
  refine wpAny_isTrue_Compare1 (thn (ha pins s σ H _ I h) fun v s1 ⟨x, H1, I1, r1, q1⟩ => thn (hb pins s1 σ H1 _ I1 q1) fun u s2 ⟨y, H2, I2, r2, q2⟩ =>
    thn (ho pins s2 σ H2 x y v u _ I2 r1 r2 q2) fun c s3 ⟨z, H3, I3, r3, k, e, q3⟩ => ?_) hm
  subst e
  cases r3
  exact wpAny_truthy_bool ⟨H3, I3, q3⟩
noncomputable def tChain (r r' : R2) (ta tb tc : TE) : TE := fun σ H Q => ta σ H fun x H1 => tb σ H1 fun y H2 => r x y H2 fun z H3 => ∃ k, z = .bl k ∧
  (if k = true then tc σ H3 fun w' H4 => r' y w' H4 Q else Q (.bl false) H3)
theorem pt_chain {op op' : CmpOp} {r r' : R2} (ho : OpR X (compareOp op) r) (ho' : OpR X (compareOp op') r') (ha : PE X a ta) (hb : PE X b tb) (hc : PE X c tc)
    (hm : lastMarks [op, op'] [b, c] = false := by with_unfolding_all rfl) : PT X (.Compare a [op, op'] [b, c] pos) (tTest (tChain r r' ta tb tc)) := by
  intro pins s σ H Q I h
  refine isTrue_chain (thn (ha pins s σ H _ I h) fun v s1 ⟨x, H1, I1, r1, q1⟩ => test_link (thn (hb pins s1 σ H1 _ I1 q1) fun u s2 ⟨y, H2, I2, r2, q2⟩ =>
    thn (ho pins s2 σ H2 x y v u _ I2 r1 r2 q2) fun d s3 ⟨z, H3, I3, r3, k, e, q3⟩ => ?_)) hm
  subst e
  cases r3
  refine wpAny_truthy_bool ?_
  cases k with
  | false =>
    obtain ⟨k', e', q'⟩ := q3
    cases e'
    exact ite_ff ⟨H3, I3, q'⟩
  | true =>
    refine ite_tt (test_last (thn (hc pins s3 σ H3 _ I3 q3) fun w' s4 ⟨z', H4, I4, r4, q4⟩ => thn (ho' pins s4 σ H4 y z' u w' _ I4 r2 r4 q4) fun d' s5 zz => ?_))
    obtain ⟨z2, H5, I5, r5, k2, e2, q5⟩ := zz
    subst e2
    cases r5
    exact wpAny_truthy_bool ⟨H5, I5, q5⟩
theorem line63 : (sizeLine : Nat) < 2 ^ 63 := by rw [sizeLine_eq]; decide
theorem vals1 {x : V} {us : List Value} (r : Vals [x] us) : ∃ u, us = [u] ∧ RelV x u := by
  cases r with
  | cons r1 r2 => cases r2; exact ⟨_, rfl, r1⟩
theorem vals2 {x y : V} {us : List Value} (r : Vals [x, y] us) : ∃ u w', us = [u, w'] ∧ RelV x u ∧ RelV y w' := by
  cases r with
  | cons r1 r2 =>
    cases r2 with
    | cons r3 r4 => cases r4; exact ⟨_, _, rfl, r1, r3⟩
theorem call_abs : CallR X (.builtin "abs") (fun xs H Q => ∃ i, xs = [.int i] ∧ Q (.int (if i < 0 then -i else i)) H) := by
  intro pins s σ H xs us Q I r h
  obtain ⟨i, rfl, q⟩ := h
  obtain ⟨u, rfl, t, rfl⟩ := vals1 r
  exact call_abs_int fun u tk => ⟨.int (if i < 0 then -i else i), H, I.tok _, ⟨_, rfl⟩, q⟩
theorem call_max2 (hc : X.calm = true) : CallR X (.builtin "max") (fun xs H Q => ∃ i j, xs = [.int i, .int j] ∧ Q (.int (if j > i then j else i)) H) := by
  intro pins s σ H xs us Q I r h
  obtain ⟨i, j, rfl, q⟩ := h
  obtain ⟨u, w', rfl, ⟨t, rfl⟩, ⟨t', rfl⟩⟩ := vals2 r
  refine max_two_ints (I.ok.hd hc) fun h' tk k => ⟨_, H, I.kept k, ?_, q⟩
  by_cases hj : j > i
  · rw [if_pos hj, if_pos hj]; exact ⟨_, rfl⟩
  · rw [if_neg hj, if_neg hj]; exact ⟨_, rfl⟩
theorem call_min2 (hc : X.calm = true) : CallR X (.builtin "min") (fun xs H Q => ∃ i j, xs = [.int i, .int j] ∧ Q (.int (if j < i then j else i)) H) := by
  intro pins s σ H xs us Q I r h
  obtain ⟨i, j, rfl, q⟩ := h
  obtain ⟨u, w', rfl, ⟨t, rfl⟩, ⟨t', rfl⟩⟩ := vals2 r
  refine min_two_ints (I.ok.hd hc) fun h' tk k => ⟨_, H, I.kept k, ?_, q⟩
  by_cases hj : j < i
  · rw [if_pos hj, if_pos hj]; exact ⟨_, rfl⟩
  · rw [if_neg hj, if_neg hj]; exact ⟨_, rfl⟩
theorem call_int1 : CallR X (.type "int") (fun xs H Q => (∃ i, xs = [.int i] ∧ Q (.int i) H) ∨ ∃ k, xs = [.bl k] ∧ Q (.int (if k then 1 else 0)) H) := by
  intro pins s σ H xs us Q I r h
  rcases h with ⟨i, rfl, q⟩ | ⟨k, rfl, q⟩
  · obtain ⟨u, rfl, t, rfl⟩ := vals1 r
    exact call_int_int ⟨.int i, H, I, ⟨_, rfl⟩, q⟩
  · obtain ⟨u, rfl, r1⟩ := vals1 r
    cases r1
    exact call_int_bool ⟨.int (if k then 1 else 0), H, I.tok _, ⟨_, rfl⟩, q⟩
noncomputable def LenV (K : PySem.W.Frag) (x : V) (H : Hp) (n : Nat) : Prop :=
  match x with
  | .str y => y.length ≤ sizeLine ∧ n = y.length
  | .byt y => y.size ≤ sizeLine ∧ n = y.size
  | .ref p => (∃ xs, SqL K H p xs ∧ n = xs.length) ∨ ∃ xs, SqT K H p xs ∧ n = xs.length
  | _ => False
theorem call_len : CallR X (.builtin "len") (fun xs H Q => ∃ x n, xs = [x] ∧ LenV X.K x H n ∧ Q (.int n) H) := by
  intro pins s σ H xs us Q I r h
  obtain ⟨x, n, rfl, e, q⟩ := h
  obtain ⟨u, rfl, rx⟩ := vals1 r
  have hl := line63
  have hs : sizeLine = 16777216 := sizeLine_eq
  cases x with
  | str y =>
    obtain ⟨t, rfl⟩ := rx
    obtain ⟨hy, e'⟩ : y.length ≤ sizeLine ∧ n = y.length := e
    subst e'
    exact len_str (by omega) ⟨.int _, H, I.tok _, ⟨_, rfl⟩, q⟩
  | byt y =>
    obtain ⟨t, rfl⟩ := rx
    obtain ⟨hy, e'⟩ : y.size ≤ sizeLine ∧ n = y.size := e
    subst e'
    exact PySem.W.len_bytes (by omega) ⟨.int _, H, I.tok _, ⟨_, rfl⟩, q⟩
  | ref p =>
    cases rx
    have e' : (∃ xs, SqL X.K H p xs ∧ n = xs.length) ∨ ∃ xs, SqT X.K H p xs ∧ n = xs.length := e
    rcases e' with ⟨xs, hx, e'⟩ | ⟨xs, hx, e'⟩
    · subst e'
      obtain ⟨its, r', pl, hz⟩ := I.list hx
      have hlen := r'.length
      exact Calls.call_len_list pl.isList (by simp only [List.size_toArray]; omega) ⟨.int xs.length, H, I.tok _, ⟨_, by simp only [List.size_toArray]; rw [hlen]⟩, q⟩
    · subst e'
      obtain ⟨its, r', pl, hz⟩ := I.tuple hx
      have hlen := r'.length
      exact len_tuple pl (by simp only [List.size_toArray]; omega) ⟨.int xs.length, H, I.tok _, ⟨_, by simp only [List.size_toArray]; rw [hlen]⟩, q⟩
  | _ => exact (show False from e).elim
end
end L2
namespace L2
open PySem PySem.Spec PyProof.Rows
structure ObjM (h : Heap) (x dx C : Addr) (mA : Str → Option Value) : Prop where
  obj : h.get? x = some (PySem.W.instObj C dx)
  ns : h.Ns1 dx mA
  ne : dx ≠ x
theorem lookIn_ns {h : Heap} {dx : Addr} {mA : Str → Option Value} (n : h.Ns1 dx mA) : ∃ od, h.get? dx = some od ∧ ∀ name, PySem.W.lookIn name od = some (mA name) := by
  obtain ⟨o, es, ep, ho, hd, hk, _, hm⟩ := n
  refine ⟨o, ho, fun name => ?_⟩
  have e := hm name
  unfold nsFind findBy at e
  rw [← Array.find?_toList] at e
  unfold PySem.W.lookIn
  rw [hd]
  dsimp only
  split
  · rename_i y q
    rw [q] at e
    exact congrArg some e
  · rename_i q
    rw [q] at e
    have a : es.toList.any (·.refKey) = false := by
      rw [List.any_eq_false]
      intro y hy
      obtain ⟨z, t, hkey⟩ := hk y (Array.mem_toList_iff.mp hy)
      simp [DictEntry.refKey, hkey]
    have a' : ¬ es.toList.any (·.refKey) = true := by rw [a]; exact Bool.false_ne_true
    rw [if_neg a']
    exact congrArg some e
theorem ObjM.look {h : Heap} {x dx C : Addr} {mA : Str → Option Value} (I : ObjM h x dx C mA) : ∃ od, PySem.W.InstAt h x (PySem.W.instObj C dx) C (some od) ∧ ∀ name, PySem.W.lookIn name od = some (mA name) :=
  let ⟨od, ho, hl⟩ := lookIn_ns I.ns
  ⟨od, ⟨I.obj, rfl, rfl, ho⟩, hl⟩
section
variable {prog : Program} {w : World} {A : Around} {E : Value → Shared → Prop} {s : Shared} {K : PySem.W.Frag} {x dx C f : Addr} {mA : Str → Option Value} {name : Str} {v : Value}
theorem get_map {expr : Bool} {Q : Value → Shared → Prop} (X : K.In s.heap) (I : ObjM s.heap x dx C mA) (hg : PySem.W.plainGet K C name = true) (hh : PySem.W.hasDictIn K C = true)
    (ha : PySem.W.findIn K (.ref C) name = some none) (hv : mA name = some v) (hv' : PySem.W.handedIn v = true) (h : Q v { s with toks := s.toks + 1 }) :
    wpAny (model prog w) A (getAttr (.ref x) name expr) Q E s := by
  obtain ⟨od, J, hl⟩ := I.look
  exact PySem.W.get_value X J (PySem.W.plainGet_of hg).1 (PySem.W.findObj_own hh ha rfl (by rw [hl, hv])) hv' h
theorem get_meth {pl : Sem Bool} {Q : Value × List Value → Shared → Prop} (X : K.In s.heap) (I : ObjM s.heap x dx C mA) (hg : PySem.W.plainGet K C name = true)
    (hf : PySem.W.findIn K (.ref C) name = some (some (.ref f))) (ht : PySem.W.isFn K (.ref f) = true) (hv : mA name = none) (h : Q (.ref f, [.ref x]) s) :
    wpAny (model prog w) A (getMethod (.ref x) name pl) Q E s := by
  obtain ⟨od, J, hl⟩ := I.look
  exact PySem.W.method_fn X J (PySem.W.plainGet_of hg).1 (PySem.W.plainGet_of hg).2 hf (beq_iff_eq.mp ht) (by show (PySem.W.lookIn name od).map (·.isSome) = some false; rw [hl, hv]; rfl) h
theorem set_map {ns : List Str} {Q : Unit → Shared → Prop} (X : K.In s.heap) (I : ObjM s.heap x dx C mA)
    (hs : PySem.W.findIn K (.ref C) "__setattr__" = some (some (.builtin "object.__setattr__"))) (hp : PySem.W.plainOver K C = true) (ht : PySem.W.takerIn K C name = some none) (hh : PySem.W.hasDictIn K C = true)
    (hw : PySem.Within mA ns) (hsz : ns.length ≤ sizeLine)
    (h : ∀ h', ObjM h' x dx C (fun y => if y = name then some v else mA y) → Heap.SameBut dx s.heap h' → Q () { s with heap := h', toks := s.toks + 2 }) :
    wpAny (model prog w) A (setAttr (.ref x) name v) Q E s := by
  obtain ⟨od, J, hl⟩ := I.look
  refine PySem.W.set_plain X J hs (PySem.W.osa_open (s := { s with toks := s.toks + 1 }) (r := none) X J hp ht fun b => ?_)
  obtain ⟨cd, hc, hd'⟩ := PySem.W.any_some hh
  have hx : s.heap.get? x = some ⟨.ref C, some dx, .plain, #[]⟩ := I.obj
  refine wpAny_bind (wpAny_pure (wpAny_bind (wpAny_bind (wpAny_loadPart hx (wpAny_bind (PySem.W.Looks.here (s := { s with toks := s.toks + 1 }) (PySem.W.looks_clsIn X hc) ?_))))))
  rw [hd']
  refine wpAny_pure (a := some dx) (wpAny_bind (wpAny_pure (wpAny_bind ?_)))
  refine wpAny_nsSet1 (s := { s with toks := s.toks + 1 }) I.ns fun h' hn2 hs2 => ?_
  obtain ⟨oD, esD, epD, hoD, hdD, hcD⟩ := hn2.count (PySem.Within.cons name v hw)
  refine wpAny_bind (wpAny_lookBehind hoD (by rw [hdD]; exact pastItsLine_dict (Nat.le_trans hcD (by rw [List.length_cons]; omega))) ?_)
  exact wpAny_pure (h _ ⟨(hs2.2 _ (Ne.symm I.ne)).trans I.obj, hn2, I.ne⟩ hs2)
theorem make_map {R : Result → Shared → Prop} {vs : List Value} {kw : List (Str × Value)} (X : K.In s.heap) (hm : PySem.W.makesIn K C = true)
    (hi : PySem.W.findIn K (.ref C) "__init__" = some (some (.ref f))) (hf : PySem.W.typeIn K (.ref f) = some (.type "function"))
    (h : codeAny (model prog w) (A.under (.builtin "type.__call__" ⟨.ref C :: vs, kw⟩)) (.call (.ref f) ⟨.ref (s.heap.objs.size + 1) :: vs, kw⟩) (PySem.W.InitBack (s.heap.objs.size + 1) R)
      { s with heap := (s.heap.push PySem.W.emptyDict).push (PySem.W.instObj C s.heap.objs.size) }) :
    codeAny (model prog w) A (.call (.ref C) ⟨vs, kw⟩) R s := by
  obtain ⟨hh, g, d, t, os⟩ := s
  exact PySem.W.make_core (PySem.W.makes_of X hm) (PySem.W.looks_findIn X hi) (fun self => PySem.W.bind_fn X self hf) (.inl rfl) h
end
noncomputable def putF (f : Str) (v : V) : List (Str × V) → List (Str × V)
  | [] => [(f, v)]
  | (g, x) :: r => if g = f then (g, v) :: r else (g, x) :: putF f v r
theorem lookup_putF (f g : Str) (v : V) : ∀ fs : List (Str × V), (putF f v fs).lookup g = if g = f then some v else fs.lookup g
  | [] => by
    show List.lookup g [(f, v)] = _
    by_cases h : g = f
    · have hb : (g == f) = true := beq_iff_eq.mpr h
      simp only [List.lookup, hb, if_pos h]
    · have hb : (g == f) = false := beq_eq_false_iff_ne.mpr h
      simp only [List.lookup, hb, if_neg h]
  | (k, x) :: r => by
    have ih := lookup_putF f g v r
    rw [show putF f v ((k, x) :: r) = (if k = f then (k, v) :: r else (k, x) :: putF f v r) from rfl]
    by_cases hk : k = f
    · rw [if_pos hk]
      by_cases h : g = k
      · have hb : (g == k) = true := beq_iff_eq.mpr h
        simp only [List.lookup, hb, if_pos (h.trans hk)]
      · have hb : (g == k) = false := beq_eq_false_iff_ne.mpr h
        simp only [List.lookup, hb, if_neg (fun e : g = f => h (e.trans hk.symm))]
    · rw [if_neg hk]
      by_cases h : g = k
      · have hb : (g == k) = true := beq_iff_eq.mpr h
        simp only [List.lookup, hb, if_neg (fun e : g = f => hk (h.symm.trans e))]
      · have hb : (g == k) = false := beq_eq_false_iff_ne.mpr h
        simp only [List.lookup, hb]
        exact ih
theorem keys_putF (f : Str) (v : V) : ∀ fs : List (Str × V), f ∈ (putF f v fs).map (·.1) ∧ ∀ g, g ∈ fs.map (·.1) → g ∈ (putF f v fs).map (·.1)
  | [] => ⟨by simp [putF], fun g h => by simp at h⟩
  | (k, x) :: r => by
    obtain ⟨i1, i2⟩ := keys_putF f v r
    rw [show putF f v ((k, x) :: r) = (if k = f then (k, v) :: r else (k, x) :: putF f v r) from rfl]
    by_cases hk : k = f
    · rw [if_pos hk]
      subst hk
      exact ⟨by simp, fun g h => by simpa using h⟩
    · rw [if_neg hk]
      refine ⟨?_, fun g h => ?_⟩
      · rw [List.map_cons]
        exact List.mem_cons_of_mem _ i1
      · rw [List.map_cons] at h ⊢
        rcases List.mem_cons.mp h with e | e
        · exact List.mem_cons.mpr (.inl e)
        · exact List.mem_cons_of_mem _ (i2 g e)
theorem length_putF (f : Str) (v : V) : ∀ fs : List (Str × V), (putF f v fs).length ≤ fs.length + 1
  | [] => by simp [putF]
  | (k, x) :: r => by
    have ih := length_putF f v r
    rw [show putF f v ((k, x) :: r) = (if k = f then (k, v) :: r else (k, x) :: putF f v r) from rfl]
    by_cases hk : k = f
    · rw [if_pos hk, List.length_cons, List.length_cons]; omega
    · rw [if_neg hk, List.length_cons, List.length_cons]; omega
theorem RelO.some_of {v : V} {o : Option Value} (r : RelO (some v) o) : ∃ u, o = some u ∧ RelV v u := by
  cases o with
  | none => exact (show False from r).elim
  | some u => exact ⟨u, rfl, r⟩
theorem RelO.none_of {o : Option Value} (r : RelO none o) : o = none := by
  cases o with
  | none => rfl
  | some u => exact (show False from r).elim
theorem handed_of {v : V} {u : Value} (r : RelV v u) : PySem.W.handedIn u = true := by
  cases v with
  | non => cases (show u = Value.none from r); rfl
  | bl b => cases (show u = Value.bool b from r); rfl
  | int i => obtain ⟨t, e⟩ := (show ∃ t, u = Value.int i t from r); cases e; rfl
  | str x => obtain ⟨t, e⟩ := (show ∃ t, u = Value.str x t from r); cases e; rfl
  | byt b => obtain ⟨t, e⟩ := (show ∃ t, u = Value.bytes b t from r); cases e; rfl
  | flt b => obtain ⟨t, e⟩ := (show ∃ t, u = Value.float b t from r); cases e; rfl
  | ref a => cases (show u = Value.ref a from r); rfl
  | ty n => cases (show u = Value.type n from r); rfl
section
variable {P : Program} {w : World} {H H' : Hp} {h h' : Heap} {a C dx : Addr} {fs fs' : List (Str × V)}
theorem ins_get (hok : HOk P w H h) (e : H a = some (.ins C dx fs)) : ∃ mA, ObjM h a dx C mA ∧ (∀ f, RelO (fs.lookup f) (mA f)) ∧ PySem.Within mA (fs.map (·.1)) ∧ fs.length ≤ 1000 ∧ H dx = some (.own a) := by
  obtain ⟨d, z, ne, ob, mA, n, r, q⟩ := (show ObjOk P w H h a (.ins C dx fs) from hok a _ e)
  exact ⟨mA, ⟨ob, n, ne⟩, r, q, z, d⟩
end
structure Cls (K : PySem.W.Frag) (C : Addr) : Prop where
  pg : PySem.W.plainGet K C Str.empty = true
  hd : PySem.W.hasDictIn K C = true
  po : PySem.W.plainOver K C = true
  sa : PySem.W.findIn K (.ref C) "__setattr__" = some (some (.builtin "object.__setattr__"))
theorem Cls.get {K : PySem.W.Frag} {C : Addr} (c : Cls K C) (f : Str) : PySem.W.plainGet K C f = true := c.pg
noncomputable def NoAttr (K : PySem.W.Frag) (C : Addr) (f : Str) : Prop := PySem.W.findIn K (.ref C) f = some none
theorem NoAttr.taker {K : PySem.W.Frag} {C : Addr} {f : Str} (n : NoAttr K C f) : PySem.W.takerIn K C f = some none := by
  unfold PySem.W.takerIn
  rw [show PySem.W.findIn K (.ref C) f = some none from n]
  rfl
structure Meth (K : PySem.W.Frag) (C : Addr) (m : Str) (f : Addr) : Prop where
  at_ : PySem.W.findIn K (.ref C) m = some (some (.ref f))
  fn : PySem.W.isFn K (.ref f) = true
  kp : PySem.W.keepIn K (.ref f) = true
section
variable {X : Cx} {pins : List (Addr × Obj)} {σ : St} {H : Hp} {s : Shared} {a C dx : Addr} {fs : List (Str × V)} {f : Str} {v : V} {A : Around} {E : Value → Shared → Prop}
theorem getattr_ok {b : Bool} {Q : Value → Shared → Prop} (I : Inv X pins σ H s) (e : H a = some (.ins C dx fs)) (c : Cls X.K C) (n : NoAttr X.K C f) (l : fs.lookup f = some v)
    (h : ∀ u s', Inv X pins σ H s' → RelV v u → Q u s') : wpAny (model X.prog X.w) A (getAttr (.ref a) f b) Q E s := by
  obtain ⟨mA, O, r, _, _, _⟩ := ins_get I.hok e
  obtain ⟨u, hu, ru⟩ := RelO.some_of (v := v) (o := mA f) (by rw [← l]; exact r f)
  exact get_map I.kIn O (c.get f) c.hd n hu (handed_of ru) (h u _ (I.tok _) ru)
theorem getmeth_ok {m : Str} {g : Addr} {pl : Sem Bool} {Q : Value × List Value → Shared → Prop} (I : Inv X pins σ H s) (e : H a = some (.ins C dx fs)) (c : Cls X.K C) (k : Meth X.K C m g) (l : fs.lookup m = none)
    (h : Q (.ref g, [.ref a]) s) : wpAny (model X.prog X.w) A (getMethod (.ref a) m pl) Q E s := by
  obtain ⟨mA, O, r, _, _, _⟩ := ins_get I.hok e
  have hn : mA m = none := RelO.none_of (by rw [← l]; exact r m)
  exact get_meth I.kIn O (c.get m) k.at_ k.fn hn h
theorem setattr_ok {y : V} {u : Value} {Q : Unit → Shared → Prop} (I : Inv X pins σ H s) (e : H a = some (.ins C dx fs)) (c : Cls X.K C) (n : NoAttr X.K C f) (hl : fs.length < 1000) (ry : RelV y u)
    (h : ∀ s', Inv X pins σ (upd H a (.ins C dx (putF f y fs))) s' → Q () s') : wpAny (model X.prog X.w) A (setAttr (.ref a) f u) Q E s := by
  obtain ⟨mA, O, r, wi, _, ho⟩ := ins_get I.hok e
  have hz : (fs.map (·.1)).length ≤ sizeLine := by rw [List.length_map, sizeLine_eq]; omega
  refine set_map I.kIn O c.sa c.po n.taker c.hd wi hz fun h' O' sb => h _ ?_
  have hd : ∃ o, h'.get? dx = some o := let ⟨o, _, _, e', _⟩ := O'.ns; ⟨o, e'⟩
  refine I.write (x := a) (e := dx) (by rw [e]; exact True.intro) (.inr ho) (fun b q hb z => (sb.2 b hb).trans z) hd ?_
  refine ⟨by rw [upd_ne O.ne]; exact ho, ?_, O.ne, O'.obj, _, O'.ns, fun g => ?_, fun g hg => ?_⟩
  · have := length_putF f y fs; omega
  · show RelO ((putF f y fs).lookup g) (if g = f then some u else mA g)
    rw [lookup_putF]
    by_cases q : g = f
    · rw [if_pos q, if_pos q]; exact ry
    · rw [if_neg q, if_neg q]; exact r g
  · by_cases q : g = f
    · rw [q]; exact (keys_putF f y fs).1
    · refine (keys_putF f y fs).2 g (wi g fun z => hg ?_)
      show (if g = f then some u else mA g) = none
      rw [if_neg q]; exact z
theorem Inv.made (I : Inv X pins σ H s) : Inv X pins σ (upd (upd H s.heap.objs.size (.own (s.heap.objs.size + 1))) (s.heap.objs.size + 1) (.ins C s.heap.objs.size []))
    { s with heap := (s.heap.push PySem.W.emptyDict).push (PySem.W.instObj C s.heap.objs.size) } := by
  have e1 : (s.heap.push PySem.W.emptyDict).get? s.heap.objs.size = some PySem.W.emptyDict := Heap.get?_push_size s.heap rfl
  have e2 : ((s.heap.push PySem.W.emptyDict).push (PySem.W.instObj C s.heap.objs.size)).get? (s.heap.objs.size + 1) = some (PySem.W.instObj C s.heap.objs.size) := by
    have := Heap.get?_push_size (s.heap.push PySem.W.emptyDict) (o := PySem.W.instObj C s.heap.objs.size) rfl
    rwa [Heap.size_push] at this
  have e3 : (s.heap.push PySem.W.emptyDict).Ns s.heap.objs.size (fun _ => none) := ⟨PySem.W.emptyDict, #[], _, e1, rfl, (fun e he => absurd he (by simp)), fun _ => rfl⟩
  have I1 := I.laid (a := s.heap.objs.size) (o := .own (s.heap.objs.size + 1)) (h' := s.heap.push PySem.W.emptyDict) (t' := s.toks) (fun b u q => Heap.get?_push_of_some _ q) (Nat.le_refl _) ⟨_, e1⟩
  refine I1.laid (a := s.heap.objs.size + 1) (o := .ins C s.heap.objs.size []) (t' := s.toks) (fun b u q => Heap.get?_push_of_some _ q) (Nat.le_of_eq (Heap.size_push _ _)) ?_
  have ne : s.heap.objs.size ≠ s.heap.objs.size + 1 := Nat.ne_of_lt (Nat.lt_succ_self _)
  refine ⟨by rw [upd_ne ne, upd_same], Nat.zero_le _, ne, e2, fun _ => none, (Heap.Ns1.of_empty e3).at fun o q => Heap.get?_push_of_some _ q, fun _ => True.intro, fun y hy => absurd rfl hy⟩
theorem attr_of {prog : Program} {w : World} {env : Env} {e : Expr} {f : Str} {pos : Pos} {s : Shared} {Q : Value → Shared → Prop} (hb : attributeBase e f env (eval e env) = eval e env)
    (h : wpAny (model prog w) A (eval e env) (fun o s₁ => wpAny (model prog w) A (getAttr o f true) Q E s₁) E s) : wpAny (model prog w) A (eval (.Attribute e f pos) env) Q E s :=
  Attribute_any_ h (by rw [arm_eval_Attribute, hb])
end
noncomputable def InOp (X : Cx) (op : Operator) (rd : V → V → Hp → VK → Prop) : Prop :=
  ∀ (pins : List (Addr × Obj)) (s : Shared) (σ : St) (H : Hp) (x y : V) (u v : Value) (Q : VK), Inv X pins σ H s → RelV x u → RelV y v → rd x y H Q → wpAny (model X.prog X.w) X.A (inplaceOp op u v) (EP X pins σ Q) X.xe s
section
variable {X : Cx} {o e value : Expr} {f : Str} {pos pos' tpos : Pos} {ta tv : TE}
noncomputable def rAdd : V → V → Hp → VK → Prop := fun x y H Q => ∃ i j, x = .int i ∧ y = .int j ∧ Q (.int (i + j)) H
theorem in_add : InOp X .Add rAdd := by
  rintro pins s σ H x y u v Q I rx ry ⟨i, j, rfl, rfl, q⟩
  obtain ⟨t, rfl⟩ := (show ∃ t, u = Value.int i t from rx)
  obtain ⟨t', rfl⟩ := (show ∃ t', v = Value.int j t' from ry)
  exact PyProof.Rows.iadd_int ⟨.int (i + j), H, I.tok _, ⟨_, rfl⟩, q⟩
end
section
variable {X : Cx} {pins : List (Addr × Obj)} {σ : St} {H : Hp} {s : Shared} {A : Around} {E : Value → Shared → Prop} {Q : Value → Shared → Prop} {c : Value} {b : Bool}
inductive TyOf (K : PySem.W.Frag) (H : Hp) : V → Value → Prop where
  | non : TyOf K H .non (.type "NoneType")
  | bl (x : Bool) : TyOf K H (.bl x) (.type "bool")
  | int (i : Int) : TyOf K H (.int i) (.type "int")
  | str (x : Str) : TyOf K H (.str x) (.type "str")
  | flt (x : UInt64) : TyOf K H (.flt x) (.type "float")
  | lst {a : Addr} {xs : List V} (e : H a = some (.lst xs)) : TyOf K H (.ref a) (.type "list")
  | frz {a : Addr} {o : Obj} {xs : List V} (e : H a = some (.frz o (.lst xs))) : TyOf K H (.ref a) (.type "list")
  | tup {a : Addr} {xs : List V} (e : H a = some (.tup xs)) : TyOf K H (.ref a) (.type "tuple")
  | dK {a : Addr} {kvs : List (Key × V)} (e : H a = some (.dK kvs)) : TyOf K H (.ref a) (.type "dict")
  | dT {a : Addr} {kvs : List (List Key × V)} (e : H a = some (.dT kvs)) : TyOf K H (.ref a) (.type "dict")
  | ins {a C dx : Addr} {fs : List (Str × V)} (e : H a = some (.ins C dx fs)) (cl : Cls K C) (ha : PySem.W.findIn K (.ref C) "__class__" = some (some (.builtin "object.__class__")))
      (hn : PySem.W.specialIn K (.builtin "object.__class__") "__get__" = some (some (.builtin "getset_descriptor.__get__"))) (htk : PySem.W.takesIn K (.builtin "object.__class__") = some true)
      (hm : PySem.W.mroIn K C (.type "object") = some true) : TyOf K H (.ref a) (.ref C)
theorem isinst_ok {x : V} {u t : Value} (I : Inv X pins σ H s) (rx : RelV x u) (ty : TyOf X.K H x t) (e : PySem.W.kitOne X.K t c = some b) (h : ∀ tk, Q (.bool b) { s with toks := tk }) :
    wpAny (model X.prog X.w) A (call (.builtin "isinstance") [u, c]) Q E s := by
  cases ty with
  | non => cases (show u = Value.none from rx); exact PySem.W.kia_one PySem.W.kitx_none I.kIn True.intro e (fun z => nomatch z) h
  | bl y => cases (show u = Value.bool y from rx); exact PySem.W.kia_one PySem.W.kitx_bool I.kIn True.intro e (fun z => nomatch z) h
  | int i => obtain ⟨t, q⟩ := (show ∃ t, u = Value.int i t from rx); cases q; exact PySem.W.kia_one PySem.W.kitx_int I.kIn True.intro e (fun z => nomatch z) h
  | str y => obtain ⟨t, q⟩ := (show ∃ t, u = Value.str y t from rx); cases q; exact PySem.W.kia_one PySem.W.kitx_str I.kIn True.intro e (fun z => nomatch z) h
  | flt y => obtain ⟨t, q⟩ := (show ∃ t, u = Value.float y t from rx); cases q; exact PySem.W.kia_one PySem.W.kitx_float I.kIn True.intro e (fun z => nomatch z) h
  | @lst a xs ea =>
    cases (show u = Value.ref a from rx)
    obtain ⟨_, _, n, _, h1⟩ := (show ObjOk X.prog X.w H s.heap a (.lst xs) from I.hok a _ ea)
    exact PySem.W.kia_one PySem.W.kitx_list I.kIn ⟨_, h1, rfl⟩ e (fun z => nomatch z) h
  | @frz a ob xs ea =>
    cases (show u = Value.ref a from rx)
    obtain ⟨_, _, _, n, _, h1⟩ := (show ObjOk X.prog X.w H s.heap a (.frz ob (.lst xs)) from I.hok a _ ea)
    exact PySem.W.kia_one PySem.W.kitx_list I.kIn ⟨_, h1, rfl⟩ e (fun z => nomatch z) h
  | @tup a xs ea =>
    cases (show u = Value.ref a from rx)
    obtain ⟨_, _, _, p⟩ := (show ObjOk X.prog X.w H s.heap a (.tup xs) from I.hok a _ ea)
    obtain ⟨o, h1, h2, _⟩ := p
    exact PySem.W.kia_one PySem.W.kitx_tuple I.kIn ⟨o, h1, h2⟩ e (fun z => nomatch z) h
  | @dK a kvs ea =>
    cases (show u = Value.ref a from rx)
    obtain ⟨_, _, vs, _, p⟩ := (show ObjOk X.prog X.w H s.heap a (.dK kvs) from I.hok a _ ea)
    obtain ⟨o, es, ep, h1, h2, _⟩ := p
    exact PySem.W.kia_one PySem.W.kitx_dict I.kIn ⟨o, h1, h2.1⟩ e (fun z => nomatch z) h
  | @dT a kvs ea =>
    cases (show u = Value.ref a from rx)
    obtain ⟨_, _, xs, _, o, es, ep, h1, h2, _⟩ := (show ObjOk X.prog X.w H s.heap a (.dT kvs) from I.hok a _ ea)
    exact PySem.W.kia_one PySem.W.kitx_dict I.kIn ⟨o, h1, h2.1⟩ e (fun z => nomatch z) h
  | @ins a C dx fs ea cl ha hn htk hm =>
    cases (show u = Value.ref a from rx)
    obtain ⟨mA, O, _⟩ := ins_get I.hok ea
    obtain ⟨od, J, _⟩ := O.look
    exact PySem.W.kia_one (PySem.W.kitx_own (cl.get _) cl.hd ha hn htk hm) I.kIn J e (fun z => nomatch z) h
end
end L2
namespace L2
open PySem PySem.Spec PyProof.Rows
structure Room (k : Nat) (A : Around) : Prop where
  hd : A.handled = none
  dp : A.depth + 3 * k + 5 < recursionLimit
  un : A.units + 16 * k + 200 < cLine
theorem Room.mono {j k : Nat} {A : Around} (r : Room k A) (h : j ≤ k) : Room j A := ⟨r.hd, by have := r.dp; omega, by have := r.un; omega⟩
theorem Room.deeper {k : Nat} {A : Around} (r : Room (k + 1) A) (env : Env) : Room k (A.deeper env) :=
  ⟨r.hd, by have := r.dp; show A.depth + 1 + 3 * k + 5 < _; omega, by have := r.un; show A.units + 3 + 16 * k + 200 < _; omega⟩
theorem make_depth {A : Around} {C : Addr} {us : List Value} {kw : List (Str × Value)} : (A.under (.builtin "type.__call__" ⟨.ref C :: us, kw⟩)).depth = A.depth + 1 := by
  first | rfl | simp [Around.under, Code.weight, Code.isCreation, Code.isGuard, Code.isCaller, Code.frames, Code.isFrame, guardIds]
theorem make_units {A : Around} {C : Addr} {us : List Value} {kw : List (Str × Value)} : (A.under (.builtin "type.__call__" ⟨.ref C :: us, kw⟩)).units = A.units + 1 := by
  first | rfl | simp [Around.under, Code.cUnits, Code.frames, Code.isFrame]
theorem Room.make {k : Nat} {A : Around} (r : Room (k + 1) A) (C : Addr) (us : List Value) (kw : List (Str × Value)) : Room k (A.under (.builtin "type.__call__" ⟨.ref C :: us, kw⟩)) :=
  ⟨r.hd, by have := r.dp; rw [make_depth]; omega, by have := r.un; rw [make_units]; omega⟩
theorem Room.depth {k : Nat} {A : Around} (r : Room k A) : A.depth < recursionLimit := by have := r.dp; omega
noncomputable def tNil : TA := fun _ H Q => Q [] H
noncomputable def tCons (ta : TE) (tr : TA) : TA := fun σ H Q => ta σ H fun x H1 => tr σ H1 fun xs H2 => Q (x :: xs) H2
section
variable {X : Cx} {e : Expr} {es : List Expr} {te : TE} {t : TA} {pos : Pos}
theorem pa_nil : PA X [] tNil := fun _ _ _ _ H Q I h => Calls.spliced_nil ⟨[], H, I, .nil, h⟩
theorem pa_cons (ha : PE X e te) (hr : PA X es t) (hs : starEach (e :: es) X.env = (false, eval e X.env) :: starEach es X.env := by rfl) : PA X (e :: es) (tCons te t) := by
  intro pos pins s σ H Q I h
  rw [hs]
  show wpAny _ _ (spliced ((false, eval e X.env) :: backTo pos (starEach es X.env))) _ _ s
  refine Calls.spliced_cons (thn (ha pins s σ H _ I h) fun u s1 zz => ?_)
  obtain ⟨x, H1, I1, r1, q1⟩ := zz
  exact thn (hr pos pins s1 σ H1 _ I1 q1) fun us s2 ⟨xs, H2, I2, r2, q2⟩ => ⟨x :: xs, H2, I2, .cons r1 r2, q2⟩
noncomputable def tTup (t : TA) : TE := fun σ H Q => t σ H fun xs H1 => xs.length ≤ sizeLine ∧ ∀ p, H1 p = none → Q (.ref p) (upd H1 p (.tup xs))
noncomputable def tLst (t : TA) : TE := fun σ H Q => t σ H fun xs H1 => xs.length ≤ sizeLine ∧ ∀ p, H1 p = none → Q (.ref p) (upd H1 p (.lst xs))
theorem pe_tup {x1} (h : PA X es t) : PE X (.Tuple es x1 pos) (tTup t) := by
  intro pins s σ H Q I hq
  refine wpAny_Tuple_spliced (thn (h pos pins s σ H _ I hq) fun us s1 ⟨xs, H1, I1, r, z, q⟩ => ⟨by rw [← r.length]; exact z, ?_⟩)
  have hf : H1 s1.heap.objs.size = none := I1.hok.fresh (Nat.le_refl _)
  refine ⟨.ref s1.heap.objs.size, upd H1 s1.heap.objs.size (.tup xs), I1.laid (t' := s1.toks) (fun b u e => Heap.get?_push_of_some _ e) (Nat.le_refl _) ?_, rfl, q _ hf⟩
  exact ⟨z, us, r, ⟨_, Heap.get?_push_size _ rfl, rfl, _, rfl⟩⟩
theorem pe_lst (h : PA X es t) : PE X (.List es pos) (tLst t) := by
  intro pins s σ H Q I hq
  refine wpAny_List_spliced (thn (h pos pins s σ H _ I hq) fun us s1 ⟨xs, H1, I1, r, z, q⟩ => ⟨by rw [← r.length]; exact z, ?_⟩)
  have hf : H1 s1.heap.objs.size = none := I1.hok.fresh (Nat.le_refl _)
  refine ⟨.ref s1.heap.objs.size, upd H1 s1.heap.objs.size (.lst xs), I1.laid (t' := s1.toks) (fun b u e => Heap.get?_push_of_some _ e) (Nat.le_refl _) ?_, rfl, q _ hf⟩
  exact ⟨z, us, 0, r, Heap.get?_push_size _ rfl⟩
end
noncomputable abbrev Sp := List V → Hp → VK → XK → Prop
noncomputable abbrev CXT := List Env → Hp → Shared → XK → Value → Shared → Prop
structure Env0 (P : Program) (w : World) (K : PySem.W.Frag) (mg : Str → Option Value) (base : Heap) (A : Around) (outer : List Env) (s : Shared) (H : Hp) : Prop where
  frames : A.frames = some outer
  mod : Mod K mg base
  bs : ∀ b o, base.get? b = some o → s.heap.get? b = some o ∧ H b = none
  bsz : base.objs.size ≤ s.heap.objs.size
  funs : s.heap.FunFrames base outer
  frf : ∀ b ∈ frs outer, H b = none
  hok : HOk P w H s.heap
  bare : AllBare s.gens
noncomputable def CE (outer : List Env) (P : Program) (w : World) (H : Hp) (s : Shared) (Q : VK) (u : Value) (s' : Shared) : Prop :=
  ∃ v H', s'.os = s.os ∧ AllBare s'.gens ∧ Un (frs outer) [] H H' s.heap s'.heap ∧ HOk P w H' s'.heap ∧ RelV v u ∧ Q v H'
noncomputable def CR (CX : CXT) (outer : List Env) (P : Program) (w : World) (H : Hp) (s : Shared) (Q : VK) (E : XK) (r : Result) (s' : Shared) : Prop :=
  match r with
  | .ok (.ret u) => CE outer P w H s Q u s'
  | .ok _ => False
  | .error e => CX outer H s E e s'
structure FnOk (P : Program) (w : World) (K : PySem.W.Frag) (mg : Str → Option Value) (base : Heap) (CX : CXT) (k : Nat) (f : Addr) (fd : FuncData) (ps : List Str) (sp : Sp) : Prop where
  len : ∀ vs H Q E, sp vs H Q E → vs.length = ps.length
  run : ∀ (A : Around) (outer : List Env) (s : Shared) (H : Hp) (args : Args) (us : List Value) (vs : List V) (Q : VK) (E : XK), Room k A → Env0 P w K mg base A outer s H → BindsTo s fd args (ps.zip us) → Vals vs us → sp vs H Q E →
    codeAny (model P w) A (.call (.ref f) args) (CR CX outer P w H s Q E) s
theorem FnOk.imp {P : Program} {w : World} {K : PySem.W.Frag} {mg : Str → Option Value} {base : Heap} {CX : CXT} {k : Nat} {f : Addr} {fd : FuncData} {ps : List Str} {sp sp' : Sp} (F : FnOk P w K mg base CX k f fd ps sp)
    (h : ∀ vs H Q E, sp' vs H Q E → sp vs H Q E) : FnOk P w K mg base CX k f fd ps sp' :=
  ⟨fun vs H Q E q => F.len vs H Q E (h _ _ _ _ q), fun A outer s H args us vs Q E hr he hb hv hs => F.run A outer s H args us vs Q E hr he hb hv (h _ _ _ _ hs)⟩
theorem Env0.make {P : Program} {w : World} {K : PySem.W.Frag} {mg : Str → Option Value} {base : Heap} {A : Around} {outer : List Env} {s : Shared} {H : Hp} (e : Env0 P w K mg base A outer s H) (C : Addr) (us : List Value) (kw : List (Str × Value)) :
    Env0 P w K mg base (A.under (.builtin "type.__call__" ⟨.ref C :: us, kw⟩)) outer s H := ⟨by first | exact e.frames | (simpa [Around.under, Code.envs, Code.isFrame, pushEnvs] using e.frames), e.mod, e.bs, e.bsz, e.funs, e.frf, e.hok, e.bare⟩
section
variable {X : Cx} {pins : List (Addr × Obj)} {σ : St} {H : Hp} {s s' : Shared}
theorem Inv.env0 (I : Inv X pins σ H s) : Env0 X.prog X.w X.K X.mg X.base X.A X.stack s H :=
  ⟨I.ok.frames, I.ok.mod, I.bs, Nat.le_trans I.ok.bsz I.sz, I.stack, I.stkFree, I.hok, I.bare⟩
theorem Inv.after {Q : VK} {u : Value} (I : Inv X pins σ H s) (h : CE X.stack X.prog X.w H s Q u s') : EP X pins σ Q u s' := by
  obtain ⟨v, H', os, bare, un, hok, r, q⟩ := h
  obtain ⟨hh, g, d, t, os'⟩ := s'
  obtain rfl : os' = s.os := os
  exact ⟨v, H', I.call (h' := hh) (g' := g) (d' := d) (t' := t) (ch := []) un hok bare (fun b z => absurd z (by simp)), r, q⟩
end
noncomputable def tCall (sp : Sp) (dvs : List V) (E : XK) (t : TA) : TE := fun σ H Q => t σ H fun vs H1 => sp (vs ++ dvs) H1 Q E
noncomputable def tMeth (C : Addr) (m : Str) (sp : Sp) (dvs : List V) (E : XK) (ta : TE) (t : TA) : TE := fun σ H Q => ta σ H fun x H1 => ∃ a dx fs, x = .ref a ∧ H1 a = some (.ins C dx fs) ∧ fs.lookup m = none ∧
  t σ H1 fun vs H2 => sp (x :: (vs ++ dvs)) H2 Q E
noncomputable def tMake (C : Addr) (sp : Sp) (dvs : List V) (E : XK) (t : TA) : TE := fun σ H Q => t σ H fun vs H1 => ∀ x dx, H1 x = none → H1 dx = none → dx ≠ x →
  sp (.ref x :: (vs ++ dvs)) (upd (upd H1 dx (.own x)) x (.ins C dx [])) (fun v H2 => v = .non ∧ Q (.ref x) H2) E
noncomputable def Binds (K : PySem.W.Frag) (fd : FuncData) (ps : List Str) (ds : List Value) : Prop :=
  ∀ (s : Shared) (us : List Value), K.In s.heap → (us ++ ds).length = ps.length → BindsTo s fd ⟨us, []⟩ (ps.zip (us ++ ds))
theorem Binds.all {K : PySem.W.Frag} {fd : FuncData} {ps : List Str} (h : ∀ us : List Value, us.length = ps.length → bindArgs fd ⟨us, []⟩ = pure (ps.zip us)) : Binds K fd ps [] := fun s us _ hl => by
  rw [List.append_nil] at hl ⊢
  exact .of_eq (h us hl)
noncomputable def Passes (CX : CXT) (X : Cx) (E : XK) : Prop := ∀ (pins : List (Addr × Obj)) (σ : St) (H : Hp) (s : Shared) (e : Value) (s' : Shared), Inv X pins σ H s → CX X.stack H s E e s' → X.xe e s'
section
variable {X : Cx} {CX : CXT} {k : Nat} {f C : Addr} {fd : FuncData} {ps : List Str} {sp : Sp} {dvs : List V} {ds : List Value} {E : XK} {x m : Str} {p pos apos : Pos} {e o : Expr} {es : List Expr} {ta : TE} {t : TA}
theorem run_fn {pins : List (Addr × Obj)} {σ : St} {H : Hp} {s : Shared} {Q : VK} {us : List Value} {vs : List V} (F : FnOk X.prog X.w X.K X.mg X.base CX k f fd ps sp) (hr : Room k X.A) (hb : Binds X.K fd ps ds) (hd : Vals dvs ds) (hx : Passes CX X E)
    (I : Inv X pins σ H s) (r : Vals vs us) (h : sp (vs ++ dvs) H Q E) : wpAny (model X.prog X.w) X.A (call (.ref f) us) (EP X pins σ Q) X.xe s := by
  have r2 : Vals (vs ++ dvs) (us ++ ds) := r.append hd
  have hl : (us ++ ds).length = ps.length := by rw [← r2.length]; exact F.len _ _ _ _ h
  refine wpAny_call (codeAny_mono (F.run X.A X.stack s H ⟨us, []⟩ (us ++ ds) (vs ++ dvs) Q E hr I.env0 (hb s us I.kIn hl) r2 h) fun r s' hq => ?_)
  cases r with
  | error e => exact hx pins σ H s e s' I hq
  | ok fl =>
    cases fl with
    | ret u => exact I.after hq
    | next => exact False.elim hq
    | brk => exact False.elim hq
    | cont => exact False.elim hq
theorem pe_call (F : FnOk X.prog X.w X.K X.mg X.base CX k f fd ps sp) (hr : Room k X.A) (hg : Gl X x) (hm : X.mg x = some (.ref f)) (hk : PySem.W.keepIn X.K (.ref f) = true) (hb : Binds X.K fd ps ds) (hd : Vals dvs ds) (hx : Passes CX X E)
    (ha : PA X (e :: es) t) (hdb : (x == ("__debug__" : Str)) = false := by decide) (he : starEach (e :: es) X.env = (false, eval e X.env) :: starEach es X.env := by rfl) (hpl : (backTo pos (starEach es X.env)).any (·.1) = false := by rfl) :
    PE X (.Call (.Name x p) (e :: es) [] pos) (tCall sp dvs E t) := by
  intro pins s σ H Q I h
  refine wpAny_Call_Name_kw (ld_glob I hg hm ?_ hdb)
  refine PySem.W.callWith_K (h₀ := X.base) I.ok.mod.kin hk (thn (ha pos pins s σ H _ I h) fun us s1 ⟨vs, H1, I1, r, q⟩ => ⟨I1.kIn, ?_⟩) he hpl
  exact run_fn F hr hb hd hx I1 r q
theorem pe_meth {pl : Sem Bool} (he : PE X o ta) (c : Cls X.K C) (hm : Meth X.K C m f) (F : FnOk X.prog X.w X.K X.mg X.base CX k f fd ps sp) (hr : Room k X.A) (hb : Binds X.K fd ps ds) (hd : Vals dvs ds) (hx : Passes CX X E) (ha : PA X (e :: es) t)
    (hst : starEach (e :: es) X.env = (false, eval e X.env) :: starEach es X.env := by rfl) (hpl : (backTo pos (starEach es X.env)).any (·.1) = false := by rfl)
    (ht : eval (.Call (.Attribute o m apos) (e :: es) [] pos) X.env = (do
      let ov ← eval o X.env
      standAt apos.atName
      let (f, first) ← holding [ov] (getMethod ov m pl)
      callWith pos f first (backTo pos (starEach (e :: es) X.env)) (backToKw pos (keywordEach [] X.env))) := by rfl) :
    PE X (.Call (.Attribute o m apos) (e :: es) [] pos) (tMeth C m sp dvs E ta t) := by
  intro pins s σ H Q I h
  refine PySem.W.methodCall_KW (pl := pl) (thn (he pins s σ H _ I h) fun u s1 ⟨x, H1, I1, rx, a, dx, fs, ex, ea, l, q⟩ => ?_) ht
  subst ex
  obtain rfl : u = Value.ref a := rx
  refine getmeth_ok I1 ea c hm l ?_
  refine PySem.W.callWith_K (first := [.ref a]) (h₀ := X.base) I.ok.mod.kin hm.kp (thn (ha pos pins s1 σ H1 _ I1 q) fun us s2 ⟨vs, H2, I2, r, q2⟩ => ⟨I2.kIn, ?_⟩) hst hpl
  exact run_fn (us := .ref a :: us) (vs := .ref a :: vs) F hr hb hd hx I2 (.cons rfl r) q2
theorem pe_meth0 {pl : Sem Bool} (he : PE X o ta) (c : Cls X.K C) (hm : Meth X.K C m f) (F : FnOk X.prog X.w X.K X.mg X.base CX k f fd ps sp) (hr : Room k X.A) (hb : Binds X.K fd ps ds) (hd : Vals dvs ds) (hx : Passes CX X E)
    (ht : eval (.Call (.Attribute o m apos) [] [] pos) X.env = (do
      let ov ← eval o X.env
      standAt apos.atName
      let (f, first) ← holding [ov] (getMethod ov m pl)
      callWith pos f first (backTo pos (starEach [] X.env)) (backToKw pos (keywordEach [] X.env))) := by rfl) :
    PE X (.Call (.Attribute o m apos) [] [] pos) (tMeth C m sp dvs E ta tNil) := by
  intro pins s σ H Q I h
  refine PySem.W.methodCall_KW (pl := pl) (thn (he pins s σ H _ I h) fun u s1 ⟨x, H1, I1, rx, a, dx, fs, ex, ea, l, q⟩ => ?_) ht
  subst ex
  obtain rfl : u = Value.ref a := rx
  refine getmeth_ok I1 ea c hm l ?_
  exact PySem.W.callWith_K0 (first := [.ref a]) I1.kIn hm.kp (run_fn (us := [.ref a]) (vs := [.ref a]) F hr hb hd hx I1 (.cons rfl .nil) q)
structure Mk (K : PySem.W.Frag) (C f : Addr) : Prop where
  makes : PySem.W.makesIn K C = true
  init : PySem.W.findIn K (.ref C) "__init__" = some (some (.ref f))
  fn : PySem.W.isFn K (.ref f) = true
  kp : PySem.W.keepIn K (.ref C) = true
theorem run_make {pins : List (Addr × Obj)} {σ : St} {H : Hp} {s : Shared} {Q : VK} {us : List Value} {vs : List V} (M : Mk X.K C f) (F : FnOk X.prog X.w X.K X.mg X.base CX k f fd ps sp) (hr : Room (k + 1) X.A) (hb : Binds X.K fd ps ds) (hd : Vals dvs ds)
    (hx : Passes CX X E) (I : Inv X pins σ H s) (r : Vals vs us)
    (h : ∀ x dx, H x = none → H dx = none → dx ≠ x → sp (.ref x :: (vs ++ dvs)) (upd (upd H dx (.own x)) x (.ins C dx [])) (fun v H2 => v = .non ∧ Q (.ref x) H2) E) :
    wpAny (model X.prog X.w) X.A (call (.ref C) us) (EP X pins σ Q) X.xe s := by
  have hq := h (s.heap.objs.size + 1) s.heap.objs.size (I.hok.fresh (Nat.le_succ _)) (I.hok.fresh (Nat.le_refl _)) (Nat.ne_of_lt (Nat.lt_succ_self _))
  have I2 := Inv.made (C := C) I
  have r2 : Vals (V.ref (s.heap.objs.size + 1) :: (vs ++ dvs)) (Value.ref (s.heap.objs.size + 1) :: (us ++ ds)) := .cons rfl (r.append hd)
  have hl : (Value.ref (s.heap.objs.size + 1) :: us ++ ds).length = ps.length := by
    have e := r2.length
    rw [F.len _ _ _ _ hq] at e
    exact e.symm
  refine wpAny_call (make_map (f := f) I.kIn M.makes M.init (beq_iff_eq.mp M.fn) (codeAny_mono (F.run _ X.stack _ _ ⟨Value.ref (s.heap.objs.size + 1) :: us, []⟩ (Value.ref (s.heap.objs.size + 1) :: (us ++ ds)) _ _ E (hr.make C us [])
    (I2.env0.make C us []) (hb _ (Value.ref (s.heap.objs.size + 1) :: us) I2.kIn hl) r2 hq) fun r s' hq' => ?_))
  cases r with
  | error e => exact hx pins σ _ _ e s' I2 hq'
  | ok fl =>
    cases fl with
    | ret u =>
      obtain ⟨v, H', I3, rv, ev, q3⟩ := I2.after hq'
      subst ev
      exact ⟨rv, ⟨V.ref (s.heap.objs.size + 1), H', I3, rfl, q3⟩⟩
    | next => exact False.elim hq'
    | brk => exact False.elim hq'
    | cont => exact False.elim hq'
theorem pe_make (M : Mk X.K C f) (F : FnOk X.prog X.w X.K X.mg X.base CX k f fd ps sp) (hr : Room (k + 1) X.A) (hg : Gl X x) (hm : X.mg x = some (.ref C)) (hb : Binds X.K fd ps ds) (hd : Vals dvs ds) (hx : Passes CX X E)
    (ha : PA X (e :: es) t) (hdb : (x == ("__debug__" : Str)) = false := by decide) (he : starEach (e :: es) X.env = (false, eval e X.env) :: starEach es X.env := by rfl) (hpl : (backTo pos (starEach es X.env)).any (·.1) = false := by rfl) :
    PE X (.Call (.Name x p) (e :: es) [] pos) (tMake C sp dvs E t) := by
  intro pins s σ H Q I h
  refine wpAny_Call_Name_kw (ld_glob I hg hm ?_ hdb)
  refine PySem.W.callWith_K (h₀ := X.base) I.ok.mod.kin M.kp (thn (ha pos pins s σ H _ I h) fun us s1 ⟨vs, H1, I1, r, q⟩ => ⟨I1.kIn, ?_⟩) he hpl
  exact run_make M F hr hb hd hx I1 r q
end
section
variable {X : Cx} {CX : CXT} {k : Nat} {f C : Addr} {fd : FuncData} {ps ks : List Str} {sp : Sp} {E : XK} {x m : Str} {p pos apos kpos : Pos} {e o : Expr} {es : List Expr} {kws : List Keyword} {te ta : TE} {t tk : TA} {nm : Option Str}
variable {g : List Value → List Value → List Value} {gV : List V → List V → List V}
end
structure FnScope (N P : List Str) (sc : Scope) : Prop where
  kind : sc.kind = .function
  co : sc.isCoroutine = false
  gen : sc.isGenerator = false
  nd : N.Nodup
  pre : N.take P.length = P
  par : ∀ x ∈ P, sc.names.lookup x = some .local ∨ sc.names.lookup x = some .cell
  nofree : ∀ y ∈ sc.names, y.2 ≠ .free
theorem bindL_out {kindOf : Str → Option NameKind} {x : Str} : ∀ {binds : List (Str × Value)} {m : Str → Option Value}, (∀ v, (x, v) ∉ binds) → bindL kindOf binds m x = m x
  | [], _, _ => rfl
  | (n, v) :: r, m, h => by
    unfold bindL
    rw [bindL_out fun w hw => h w (List.mem_cons_of_mem _ hw)]
    split
    · have : x ≠ n := by rintro rfl; exact h v List.mem_cons_self
      simp [this]
    · rfl
theorem bindC_out {kindOf : Str → Option NameKind} {x : Str} : ∀ {binds : List (Str × Value)} {m : Str → Option Value}, (∀ v, (x, v) ∉ binds) → bindC kindOf binds m x = m x
  | [], _, _ => rfl
  | (n, v) :: r, m, h => by
    unfold bindC
    rw [bindC_out fun w hw => h w (List.mem_cons_of_mem _ hw)]
    split
    · rfl
    · have : x ≠ n := by rintro rfl; exact h v List.mem_cons_self
      simp [this]
theorem bindL_get {kindOf : Str → Option NameKind} {x : Str} {v : Value} : ∀ {P : List Str} {vs : List Value} {i : Nat} {m : Str → Option Value}, P.Nodup → P[i]? = some x → vs[i]? = some v → kindOf x = some .local →
    bindL kindOf (P.zip vs) m x = some v
  | [], _, _, _, _, h, _, _ => by simp at h
  | _ :: _, [], _, _, _, _, h, _ => by simp at h
  | p :: P, w :: vs, 0, m, nd, h1, h2, hk => by
    simp at h1 h2; subst h1; subst h2
    show bindL kindOf ((p, w) :: P.zip vs) m p = _
    unfold bindL
    rw [bindL_out fun v hv => (List.nodup_cons.mp nd).1 (List.of_mem_zip hv).1, if_pos hk]
    simp
  | p :: P, w :: vs, i + 1, m, nd, h1, h2, hk => by
    show bindL kindOf ((p, w) :: P.zip vs) m x = _
    unfold bindL
    exact bindL_get (i := i) (List.nodup_cons.mp nd).2 (by simpa using h1) (by simpa using h2) hk
theorem bindC_get {kindOf : Str → Option NameKind} {x : Str} {v : Value} : ∀ {P : List Str} {vs : List Value} {i : Nat} {m : Str → Option Value}, P.Nodup → P[i]? = some x → vs[i]? = some v → kindOf x ≠ some .local →
    bindC kindOf (P.zip vs) m x = some v
  | [], _, _, _, _, h, _, _ => by simp at h
  | _ :: _, [], _, _, _, _, h, _ => by simp at h
  | p :: P, w :: vs, 0, m, nd, h1, h2, hk => by
    simp at h1 h2; subst h1; subst h2
    show bindC kindOf ((p, w) :: P.zip vs) m p = _
    unfold bindC
    rw [bindC_out fun v hv => (List.nodup_cons.mp nd).1 (List.of_mem_zip hv).1, if_neg hk]
    simp
  | p :: P, w :: vs, i + 1, m, nd, h1, h2, hk => by
    show bindC kindOf ((p, w) :: P.zip vs) m x = _
    unfold bindC
    exact bindC_get (i := i) (List.nodup_cons.mp nd).2 (by simpa using h1) (by simpa using h2) hk
noncomputable def start (N : List Str) (vs : List V) : St := vs.map some ++ List.replicate (N.length - vs.length) none
noncomputable def cxOf (CX : CXT) (P : Program) (w : World) (K : PySem.W.Frag) (mg : Str → Option Value) (base : Heap) (N : List Str) (qual : Str) (scope : Scope) (f : Addr) (cd : Value) (A : Around) (outer : List Env) (s : Shared) (H : Hp) (E : XK) : Cx where
  prog := P
  w := w
  K := K
  mg := mg
  base := base
  A := A.deeper (envOfC qual scope s.heap.objs.size f cd)
  N := N
  s₀ := s
  H₀ := H
  env := envOfC qual scope s.heap.objs.size f cd
  outer := outer
  stack := envOfC qual scope s.heap.objs.size f cd :: outer
  ex := []
  calm := true
  fn := fun _ => true
  pn := []
  xe := fun e s' => wpAny (model P w) (A.deeper (envOfC qual scope s.heap.objs.size f cd)) (leaving (envOfC qual scope s.heap.objs.size f cd) e) (fun _ s'' => CX outer H s E e s'') (fun e' s'' => CX outer H s E e' s'') s'
theorem cell_has {sc : Scope} {n : Nat} {x : Str} (h : sc.names.lookup x = some .cell) : ∃ c, (cellsFrom n sc.names []).lookup x = some c := by
  have q := PySem.W.cellsFrom_some sc.names n [] (.inl h)
  exact Option.isSome_iff_exists.mp q
theorem inv_start {CX : CXT} {P : Program} {w : World} {K : PySem.W.Frag} {mg : Str → Option Value} {base : Heap} {N ps : List Str} {qual : Str} {scope : Scope} {f : Addr} {cd : Value} {A : Around} {outer : List Env} {s s1 : Shared} {H : Hp} {E : XK} {us : List Value} {vs : List V}
    (S : FnScope N ps scope) (hd : A.handled = none) (e0 : Env0 P w K mg base A outer s H) (hl : vs.length = ps.length) (r : Vals vs us)
    (x : InCallC s s.heap.objs.size (bindL (envOfC qual scope s.heap.objs.size f cd).kindOf (ps.zip us) fun _ => none) (cellsFrom (s.heap.objs.size + 1) scope.names []) (bindC (envOfC qual scope s.heap.objs.size f cd).kindOf (ps.zip us) fun _ => none) s1) :
    Inv (cxOf CX P w K mg base N qual scope f cd A outer s H E) [] (start N vs) H s1 := by
  have hpl : ps.length ≤ N.length := by have := congrArg List.length S.pre; rw [List.length_take] at this; omega
  obtain ⟨h1, tk, rfl, hk⟩ := x.done
  have noA : ∀ b : Addr, b ∉ (cxOf CX P w K mg base N qual scope f cd A outer s H E).ex := fun b z => absurd (show b ∈ ([] : List Addr) from z) (by simp)
  refine ⟨⟨e0.mod, S.kind, rfl, rfl, Nat.le_refl _, fun y z c h1 h2 => ?_, fun y hy => ?_, fun y c _ h => ?_, fun _ => hd, Around.frames_deeper e0.frames, .inr ⟨rfl, rfl⟩, fun b z => absurd z (noA b), e0.bs, e0.bsz, fun b _ _ => noA b, fun b z => absurd z (noA b), e0.funs, e0.frf⟩,
    rfl, e0.bare, Un.kept hk, ⟨_, x.toInCall.ns, fun i y v h1 h2 h3 => ?_⟩, fun y c h => ⟨_, x.cell y c h⟩, e0.hok.fresh (Nat.le_refl _), fun y c h => ?_, fun p hp => absurd (show p ∈ ([] : List (Addr × Obj)) from hp) (by simp), e0.hok.kept hk, ?_⟩
  · exact name_of_addr x.apart (PySem.mem_of_lookup h1) (PySem.mem_of_lookup h2)
  · have hy : scope.names.lookup y = some .cell ∨ scope.names.lookup y = some .free := hy
    rcases hy with hy | hy
    · exact cell_has hy
    · exact absurd rfl (S.nofree _ (PySem.mem_of_lookup hy))
  · exact Nat.le_of_lt (x.above y c (PySem.mem_of_lookup h))
  · have hi : i < vs.length := by
      unfold start at h2
      by_cases hi : i < vs.length
      · exact hi
      · rw [List.getElem?_append_right (by simpa using hi)] at h2
        rw [List.getElem?_replicate] at h2
        split at h2 <;> cases h2
    have ha : vs[i]? = some v := by
      unfold start at h2
      rw [List.getElem?_append_left (by simpa using hi), List.getElem?_map] at h2
      cases e : vs[i]? with
      | none => rw [e] at h2; cases h2
      | some a => rw [e] at h2; cases h2; rfl
    obtain ⟨u, hu, rv⟩ := r.get ha
    have hp : ps[i]? = some y := by
      rw [← S.pre, List.getElem?_take_of_lt (by omega)]; exact h1
    have ndP : ps.Nodup := by rw [← S.pre]; exact S.nd.sublist (List.take_sublist _ _)
    refine ⟨u, rv, ?_⟩
    rcases S.par y (List.mem_of_getElem? hp) with k | k
    · exact .inl ⟨k, bindL_get ndP hp hu k⟩
    · obtain ⟨c, e⟩ := cell_has (n := s.heap.objs.size + 1) k
      refine .inr ⟨.inl k, c, e, ?_⟩
      have q := x.cell y c e
      rw [bindC_get ndP hp hu (by show scope.names.lookup y ≠ _; rw [k]; decide)] at q
      exact q
  · exact e0.hok.fresh (Nat.le_of_lt (x.above y c (PySem.mem_of_lookup h)))
  · unfold start
    show _ = N.length
    rw [List.length_append, List.length_map, List.length_replicate]
    omega
theorem fn_of {CX : CXT} {P : Program} {w : World} {K : PySem.W.Frag} {mg : Str → Option Value} {base : Heap} {k : Nat} {f : Addr} {name qual : Str} {params : Arguments} {body : List Stmt} {scope : Scope} {dV kV doc pm cdv ct oc : Value} {an od : Option Addr}
    {osl : Array (Option Value)} {N ps : List Str} {sp : Sp} (lk : K.lookup f = some ⟨oc, od, .func (PySem.W.fnOf name qual params body scope dV kV doc pm an cdv ct), osl⟩) (hcd : PySem.W.codeIn K cdv qual = true) (S : FnScope N ps scope)
    (len : ∀ vs H Q E, sp vs H Q E → vs.length = ps.length)
    (hbody : ∀ (A : Around) (outer : List Env) (s : Shared) (H : Hp) (vs : List V) (Q : VK) (E : XK), Room k (A.deeper (envOfC qual scope s.heap.objs.size f cdv)) → sp vs H Q E →
      ∃ t, PSs (cxOf CX P w K mg base N qual scope f cdv A outer s H E) body t ∧ t { nx := fun _ H' => Q .non H', rt := Q } (start N vs) H) :
    FnOk P w K mg base CX (k + 1) f (PySem.W.fnOf name qual params body scope dV kV doc pm an cdv ct) ps sp := by
  refine ⟨len, fun A outer s H args us vs Q E hr e0 hb r hsp => ?_⟩
  have hl := len _ _ _ _ hsp
  have KX : K.In s.heap := e0.mod.kin.keeps fun b o e => (e0.bs b o e).1
  have lim : s.heap.NoLimit := e0.mod.nolimit.keeps fun b o e => (e0.bs b o e).1
  have hkind : ∀ y ∈ ps.zip us, scope.names.lookup y.1 = some .local ∨ (scope.names.lookup y.1 = some .cell ∧ ((cellsFrom (s.heap.objs.size + 1) scope.names []).lookup y.1).isSome = true) := fun ⟨n, v⟩ hy => by
    rcases S.par n (List.of_mem_zip hy).1 with q | q
    · exact .inl q
    · exact .inr ⟨q, PySem.W.cellsFrom_some _ _ _ (.inl q)⟩
  refine codeAny_call_function hr.depth (KX _ _ lk) rfl S.co S.gen rfl (PySem.W.codeRec_of KX hcd) (hb _ _ _ _ ?_)
  refine wpAny_newFunctionEnv_cells S.kind hkind fun env he s1 x => ?_
  subst he
  refine ⟨lim.keeps x.toInCall.keep, codeAny_func ?_⟩
  obtain ⟨t, ht, hq⟩ := hbody A outer s H vs Q E (hr.deeper _) hsp
  have I : Inv (cxOf CX P w K mg base N qual scope f cdv A outer s H E) [] (start N vs) H s1 := inv_start S hr.hd e0 hl r x
  refine wpAny_mono (ht [] s1 (start N vs) H _ I hq) (fun fl s' hs => ?_) fun e s' hs => hs
  have fin : ∀ {σ' : St} {H' : Hp} {v : V} {u : Value}, Inv (cxOf CX P w K mg base N qual scope f cdv A outer s H E) [] σ' H' s' → RelV v u → Q v H' → CE outer P w H s Q u s' :=
    fun {σ' H' v u} J rv q => ⟨v, H', J.os, J.bare, J.base, J.hok, rv, q⟩
  cases fl with
  | ret u =>
    obtain ⟨v, σ', H', J, rv, q⟩ := hs
    exact fin J rv q
  | next =>
    obtain ⟨σ', H', J, q⟩ := hs
    exact fin (v := V.non) (u := Value.none) J rfl q
  | brk =>
    obtain ⟨_, _, _, q⟩ := hs
    exact False.elim q
  | cont =>
    obtain ⟨_, _, _, q⟩ := hs
    exact False.elim q
end L2
namespace L2
open PySem PySem.Spec PyProof.Rows
section
variable {X : Cx} {x : Str} {p pos : Pos} {e : Expr} {es : List Expr} {t : TA} {id T : String} {r : List V → Hp → VK → Prop}
noncomputable def tCB (r : List V → Hp → VK → Prop) (t : TA) : TE := fun σ H Q => t σ H fun vs H1 => r vs H1 Q
theorem pe_callB (hc : CallR X (.builtin id) r) (hg : Gl X x) (hm : X.mg x = none) (hv : bootBuiltins x = some (.builtin id)) (ha : PA X (e :: es) t) (hn : x ≠ "__name__" := by decide) (hdb : (x == ("__debug__" : Str)) = false := by decide)
    (he : starEach (e :: es) X.env = (false, eval e X.env) :: starEach es X.env := by rfl) (hpl : (backTo pos (starEach es X.env)).any (·.1) = false := by rfl) : PE X (.Call (.Name x p) (e :: es) [] pos) (tCB r t) := by
  intro pins s σ H Q I h
  refine wpAny_Call_Name_kw (ld_blt I hg hm hv ?_ hn hdb)
  exact PyProof.Rows.callWith_builtin1 (thn (ha pos pins s σ H _ I h) fun us s1 ⟨vs, H1, I1, r1, q1⟩ => hc pins s1 σ H1 vs us Q I1 r1 q1) he hpl
theorem pe_callTy (hc : CallR X (.type T) r) (hg : Gl X x) (hm : X.mg x = none) (hv : bootBuiltins x = some (.type T)) (ha : PA X (e :: es) t) (hn : x ≠ "__name__" := by decide) (hdb : (x == ("__debug__" : Str)) = false := by decide)
    (he : starEach (e :: es) X.env = (false, eval e X.env) :: starEach es X.env := by rfl) (hpl : (backTo pos (starEach es X.env)).any (·.1) = false := by rfl) : PE X (.Call (.Name x p) (e :: es) [] pos) (tCB r t) := by
  intro pins s σ H Q I h
  refine wpAny_Call_Name_kw (ld_blt I hg hm hv ?_ hn hdb)
  exact PyProof.Rows.callWith_type1 (thn (ha pos pins s σ H _ I h) fun us s1 ⟨vs, H1, I1, r1, q1⟩ => hc pins s1 σ H1 vs us Q I1 r1 q1) he hpl
end
end L2
namespace HT
open PySem PyProof.Rows
section
open PySem.SeqAt
open PySem.AutoSeq1 (wpAny_loadPart')
open PySem.MeetsSeq PySem.MeetsSeq2 PySem.MeetsSeq3
end
section
variable {prog : Program} {w : World} {A : Around} {E : Value → Shared → Prop} {s : Shared}
noncomputable def sIx (n d : Nat) : Option Int → Nat
  | none => d
  | some v => if v < 0 then (v + (n : Int)).toNat else min v.toNat n
theorem sIx_none (n d : Nat) : sIx n d none = d := rfl
theorem sIx_nat (n d k : Nat) : sIx n d (some (k : Int)) = min k n := by
  show (if (k : Int) < 0 then ((k : Int) + (n : Int)).toNat else min (k : Int).toNat n) = min k n
  rw [if_neg (by omega), Int.toNat_natCast]
end
end HT
namespace L2
open PySem PySem.Spec PyProof.Rows
noncomputable abbrev TO := St → Hp → (Option Int → Hp → Prop) → Prop
noncomputable def PO (X : Cx) (e : Option Expr) (t : TO) : Prop :=
  ∀ (pins : List (Addr × Obj)) (s : Shared) (σ : St) (H : Hp) (Q : Option Int → Hp → Prop), Inv X pins σ H s → t σ H Q →
    wpAny (model X.prog X.w) X.A (evalPart e X.env) (fun u s' => ∃ o H', Inv X pins σ H' s' ∧ IsPart u o ∧ Q o H') X.xe s
noncomputable def tNoPart : TO := fun _ H Q => Q none H
noncomputable def tPart (t : TE) : TO := fun σ H Q => t σ H fun x H1 => ∃ i, x = .int i ∧ Q (some i) H1
section
variable {X : Cx} {e : Expr} {te : TE} {lo hi : Option Expr} {tl th : TO} {pos p2 : Pos}
theorem po_none : PO X none tNoPart := by
  intro pins s σ H Q I h
  rw [evalPart_none]
  exact wpAny_pure ⟨none, H, I, .none, h⟩
theorem po_some (h : PE X e te) : PO X (some e) (tPart te) := by
  intro pins s σ H Q I hw
  rw [evalPart_some]
  refine thn (h pins s σ H _ I hw) fun u s1 zz => ?_
  obtain ⟨x, H1, I1, r1, q1⟩ := zz
  obtain ⟨i, rfl, q⟩ := q1
  obtain ⟨t, rfl⟩ := r1
  exact ⟨some i, H1, I1, .int i t, q⟩
noncomputable def SlR (X : Cx) (r : V → Option Int → Option Int → Hp → VK → Prop) : Prop :=
  ∀ (pins : List (Addr × Obj)) (s : Shared) (σ : St) (H : Hp) (x : V) (v vl vu : Value) (lo hi : Option Int) (sl : Addr) (Q : VK), Inv X pins σ H s → RelV x v → s.heap.IsSliceOf sl vl vu .none → IsPart vl lo → IsPart vu hi → r x lo hi H Q →
    ∃ T id, typeLookup (.type T) "__getitem__" = pure (some (.builtin id)) ∧ s.TypeIs v T ∧ wpAny (model X.prog X.w) X.A (getItem v (.ref sl)) (EP X pins σ Q) X.xe s
noncomputable def tSl (r : V → Option Int → Option Int → Hp → VK → Prop) (te : TE) (tl th : TO) : TE := fun σ H Q => te σ H fun x H1 => tl σ H1 fun l H2 => th σ H2 fun u H3 => r x l u H3 Q
theorem pe_slice {r : V → Option Int → Option Int → Hp → VK → Prop} (hr : SlR X r) (he : PE X e te) (hl : PO X lo tl) (hu : PO X hi th) : PE X (.Subscript e (.Slice lo hi none p2) pos) (tSl r te tl th) := by
  intro pins s σ H Q I h
  refine Subscript_ (thn (he pins s σ H _ I h) fun v s1 zz => ?_)
  obtain ⟨x, H1, I1, r1, q1⟩ := zz
  refine wpAny_Slice (thn (hl pins s1 σ H1 _ I1 q1) fun vl s2 ⟨l, H2, I2, pl, q2⟩ => thn (hu pins s2 σ H2 _ I2 q2) fun vu s3 zz => ?_)
  obtain ⟨u, H3, I3, pu, q3⟩ := zz
  rw [evalPart_none]
  refine wpAny_pure ?_
  have I4 : Inv X pins σ H3 { s3 with heap := s3.heap.push { cls := .type "slice", data := .fields #[vl, vu, .none] } } := I3.kept (t' := s3.toks) fun b ob q => Heap.get?_push_of_some _ q
  obtain ⟨T, id, hT, ht, hg⟩ := hr pins { s3 with heap := s3.heap.push { cls := .type "slice", data := .fields #[vl, vu, .none] } } σ H3 x v vl vu l u s3.heap.objs.size Q I4 r1 (Heap.IsSliceOf.new ..) pl pu q3
  show wpAny (model X.prog X.w) X.A (subscriptTail e (.Slice lo hi none p2) v (.ref s3.heap.objs.size)) (EP X pins σ Q) X.xe { s3 with heap := s3.heap.push { cls := .type "slice", data := .fields #[vl, vu, .none] } }
  exact tail_any (ops := [.ref s3.heap.objs.size, v]) ht hT hg (by with_unfolding_all rfl)
noncomputable def cutV (xs : List V) (lo hi : Option Int) : List V := (xs.drop (HT.sIx xs.length 0 lo)).take (HT.sIx xs.length xs.length hi - HT.sIx xs.length 0 lo)
theorem cutV_length (xs : List V) (lo hi : Option Int) : (cutV xs lo hi).length ≤ xs.length := by
  unfold cutV
  rw [List.length_take, List.length_drop]
  omega
end
end L2
namespace L2
open PySem PySem.Spec PyProof.Rows
noncomputable def ixN (n : Nat) (i : Int) : Option Nat := if 0 ≤ i then (if i < n then some i.toNat else none) else if -(n : Int) ≤ i then some (i + n).toNat else none
noncomputable def atI {α : Type} (xs : List α) (i : Int) : Option α := (ixN xs.length i).bind fun j => xs[j]?
theorem ixN_seq {n : Nat} {i : Int} {j : Nat} (h : ixN n i = some j) : seqIndex? i n = some j ∧ j < n ∧ -(n : Int) ≤ i ∧ i < n := by
  unfold ixN at h
  by_cases h0 : 0 ≤ i
  · rw [if_pos h0] at h
    by_cases h1 : i < n
    · rw [if_pos h1] at h
      have e : i.toNat = j := Option.some.inj h
      exact ⟨by rw [seqIndex_of h0 h1, e], by omega, by omega, h1⟩
    · rw [if_neg h1] at h; cases h
  · rw [if_neg h0] at h
    by_cases h1 : -(n : Int) ≤ i
    · rw [if_pos h1] at h
      have e : (i + n).toNat = j := Option.some.inj h
      exact ⟨by rw [seqIndex_neg (by omega) h1, e], by omega, h1, by omega⟩
    · rw [if_neg h1] at h; cases h
theorem atI_get {α : Type} {xs : List α} {i : Int} {v : α} (h : atI xs i = some v) : ∃ j, seqIndex? i xs.length = some j ∧ xs[j]? = some v ∧ j < xs.length ∧ -(xs.length : Int) ≤ i ∧ i < xs.length := by
  unfold atI at h
  cases e : ixN xs.length i with
  | none => rw [e] at h; cases h
  | some j =>
    rw [e] at h
    obtain ⟨h1, h2, h3, h4⟩ := ixN_seq e
    exact ⟨j, h1, h, h2, h3, h4⟩
theorem atI_nat {α : Type} {xs : List α} {j : Nat} {v : α} (h : xs[j]? = some v) : atI xs (j : Int) = some v := by
  have hj : j < xs.length := (List.getElem?_eq_some_iff.mp h).1
  have e : ixN xs.length (j : Int) = some j := by
    unfold ixN
    rw [if_pos (by omega), if_pos (by omega)]; simp
  unfold atI; rw [e]; exact h
noncomputable def PlainIx (b : Expr) : Prop := ∀ o i, subscripted b false o i = operate [o, i] (getItem o i)
noncomputable def IxR (X : Cx) (r : R2) : Prop :=
  ∀ (value slice : Expr) (pins : List (Addr × Obj)) (s : Shared) (σ : St) (H : Hp) (x y : V) (v u : Value) (Q : VK), Inv X pins σ H s → RelV x v → RelV y u → r x y H Q →
    subscripted slice false v u = operate [v, u] (getItem v u) → wpAny (model X.prog X.w) X.A (subscriptTail value slice v u) (EP X pins σ Q) X.xe s
noncomputable def MtR (X : Cx) (id : String) (r : V → List V → Hp → VK → Prop) : Prop :=
  ∀ (pins : List (Addr × Obj)) (s : Shared) (σ : St) (H : Hp) (x : V) (xs : List V) (v : Value) (us : List Value) (Q : VK), Inv X pins σ H s → RelV x v → Vals xs us → r x xs H Q →
    wpAny (model X.prog X.w) X.A (call (.builtin id) (v :: us)) (EP X pins σ Q) X.xe s
section
variable {X : Cx} {a b : Expr} {ta tb : TE} {pos : Pos}
theorem pe_ix {r : R2} (hr : IxR X r) (ha : PE X a ta) (hb : PE X b tb) (hs : PlainIx b) : PE X (.Subscript a b pos) (tOp r ta tb) := by
  intro pins s σ H Q I h
  exact Subscript_ (binT ha hb I h fun v u s2 x y H2 I2 rx ry q => hr a b pins s2 σ H2 x y v u Q I2 rx ry q (hs _ _))
noncomputable def rIxL (K : PySem.W.Frag) : R2 := fun x y H Q => ∃ p xs i v, x = .ref p ∧ y = .int i ∧ SqL K H p xs ∧ atI xs i = some v ∧ Q v H
noncomputable def rIxT (K : PySem.W.Frag) : R2 := fun x y H Q => ∃ p xs i v, x = .ref p ∧ y = .int i ∧ SqT K H p xs ∧ atI xs i = some v ∧ Q v H
theorem ix_list : IxR X (rIxL X.K) := by
  intro value slice pins s σ H x y v u Q I rx ry h hs
  obtain ⟨p, xs, i, z, rfl, rfl, hq, he, q⟩ := h
  cases rx
  obtain ⟨t, rfl⟩ := ry
  obtain ⟨its, r, pl, hz⟩ := I.list hq
  obtain ⟨j, h1, h2, h3, h4, h5⟩ := atI_get he
  obtain ⟨w, ew, rw'⟩ := r.get h2
  have hl := r.length
  have hn := line63
  have fin : EP X pins σ Q w s := ⟨z, H, I, rw', q⟩
  by_cases h0 : 0 ≤ i
  · have hj : i.toNat = j := by
      rw [seqIndex_of h0 h5] at h1
      exact Option.some.inj h1
    exact item_listR pl.isList h0 (by omega) (by rw [hj]; simpa using ew) fin hs
  · have hj : (i + (its.toArray.size : Int)).toNat = j := by
      rw [seqIndex_neg (by omega) h4] at h1
      rw [List.size_toArray, ← hl]
      exact Option.some.inj h1
    exact subscriptTail_builtinR (x := w) pl.isList.typeIs slot_list_getitem.lookup
      (wpAny_getItem_list_neg (Q := fun r s' => r = w ∧ EP X pins σ Q r s') pl.isList (by omega) (by rw [List.size_toArray] <;> omega) (by omega) (by rw [hj]; simpa using ew) ⟨rfl, fin⟩) hs
theorem ix_tup : IxR X (rIxT X.K) := by
  intro value slice pins s σ H x y v u Q I rx ry h hs
  obtain ⟨p, xs, i, z, rfl, rfl, hq, he, q⟩ := h
  cases rx
  obtain ⟨t, rfl⟩ := ry
  obtain ⟨its, r, pl, hz⟩ := I.tuple hq
  obtain ⟨j, h1, h2, h3, h4, h5⟩ := atI_get he
  obtain ⟨w, ew, rw'⟩ := r.get h2
  have hl := r.length
  have hn := line63
  have fin : EP X pins σ Q w s := ⟨z, H, I, rw', q⟩
  exact subscriptTail_builtinR (x := w) pl.typeIs slot_tuple_getitem.lookup
    (getItem_tuple (j := j) (Q := fun r s' => r = w ∧ EP X pins σ Q r s') pl (by omega) (by omega) (by rw [List.size_toArray, ← hl]; exact h1) (by simpa using ew) ⟨rfl, fin⟩) hs
theorem mapSeq_set (its : List Value) (n j : Nat) (u : Value) : Obj.mapSeq (·.setIfInBounds j u) { cls := .type "list", data := .seq its.toArray n } = { cls := .type "list", data := .seq (its.set j u).toArray n } := by
  simp [Obj.mapSeq]
theorem Inv.lst {pins : List (Addr × Obj)} {σ : St} {H : Hp} {s : Shared} {p : Addr} {xs : List V} (I : Inv X pins σ H s) (h : H p = some (.lst xs)) :
    ∃ (its : List Value) (n : Nat), Vals xs its ∧ s.heap.get? p = some { cls := .type "list", data := .seq its.toArray n } ∧ xs.length ≤ sizeLine := by
  obtain ⟨z, its, n, r, e⟩ := I.hok p _ h
  exact ⟨its, n, r, e, z⟩
theorem Inv.lstUpd {pins : List (Addr × Obj)} {σ : St} {H : Hp} {s : Shared} {p : Addr} {xs ys : List V} {its its' : List Value} {n n' : Nat} {f : Obj → Obj} (I : Inv X pins σ H s) (h : H p = some (.lst xs))
    (ho : s.heap.get? p = some { cls := .type "list", data := .seq its.toArray n }) (hf : f { cls := .type "list", data := .seq its.toArray n } = { cls := .type "list", data := .seq its'.toArray n' }) (r : Vals ys its') (hz : ys.length ≤ sizeLine) (t : Nat) :
    Inv X pins σ (upd H p (.lst ys)) { s with heap := s.heap.update p f, toks := t } := by
  have e : (s.heap.update p f).get? p = some { cls := .type "list", data := .seq its'.toArray n' } := by
    rw [Heap.get?_update_self f ho (by rw [hf] <;> rfl), hf]
  refine I.write (x := p) (e := p) (by rw [h]; trivial) (.inl rfl) (fun b u hb q => (Heap.get?_update_other _ _ (Ne.symm hb)).trans q) ⟨_, e⟩ ?_
  exact ⟨hz, its', n', r, e⟩
noncomputable def rSetL : V → V → V → Hp → (Hp → Prop) → Prop := fun o i v H Q => ∃ p xs k j, o = .ref p ∧ i = .int k ∧ H p = some (.lst xs) ∧ ixN xs.length k = some j ∧ Q (upd H p (.lst (xs.set j v)))
theorem set_list : PSet X rSetL := by
  intro pins s σ H o i v ov iv u Q I ro ri rv h
  obtain ⟨p, xs, k, j, rfl, rfl, hp, hj, q⟩ := h
  cases ro
  obtain ⟨t, rfl⟩ := ri
  obtain ⟨its, n, r, ho, hz⟩ := I.lst hp
  obtain ⟨h1, h2, h3, h4⟩ := ixN_seq hj
  have hl := r.length
  have hn := line63
  have I' : Inv X pins σ (upd H p (.lst (xs.set j v))) { s with heap := s.heap.update p (Obj.mapSeq (·.setIfInBounds j u)) } :=
    I.lstUpd hp ho (mapSeq_set its n j u) (r.set rv j) (by rw [List.length_set]; exact hz) s.toks
  by_cases h0 : 0 ≤ k
  · have hk : k.toNat = j := by
      rw [seqIndex_of h0 h4] at h1
      exact Option.some.inj h1
    exact PySem.W.ki_setAt ho h0 (by omega) (by rw [List.size_toArray, ← hl]; exact h4) (by rw [hk]; exact ⟨_, I', q⟩)
  · have hk : (k + (its.toArray.size : Int)).toNat = j := by
      rw [seqIndex_neg (by omega) h3] at h1
      rw [List.size_toArray, ← hl]
      exact Option.some.inj h1
    exact PySem.W.ki_setBack ho (by omega) (by rw [List.size_toArray, ← hl]; exact h3) (by omega) (by rw [hk]; exact ⟨_, I', q⟩)
theorem slice_bounds (lo hi : Option Int) (n : Nat) : (sliceBounds lo hi none n).1 = ((HT.sIx n 0 lo : Nat) : Int) ∧ (sliceBounds lo hi none n).2.1 = ((HT.sIx n n hi : Nat) : Int) ∧ (sliceBounds lo hi none n).2.2 = 1 := by
  refine ⟨?_, ?_, rfl⟩
  · cases lo with
    | none => simp [sliceBounds, HT.sIx]
    | some i =>
      simp only [sliceBounds, HT.sIx, Option.getD_none, show (1 : Int) > 0 by decide, if_true]
      by_cases h : i < 0
      · simp only [h, if_true] <;> omega
      · simp only [h, if_false] <;> omega
  · cases hi with
    | none => simp [sliceBounds, HT.sIx]
    | some i =>
      simp only [sliceBounds, HT.sIx, Option.getD_none, show (1 : Int) > 0 by decide, if_true]
      by_cases h : i < 0
      · simp only [h, if_true] <;> omega
      · simp only [h, if_false] <;> omega
theorem slicePick_cut (its : List Value) (lo hi : Option Int) : slicePick its.toArray lo hi none = ((its.drop (HT.sIx its.length 0 lo)).take (HT.sIx its.length its.length hi - HT.sIx its.length 0 lo)).toArray := by
  obtain ⟨h1, h2, h3⟩ := slice_bounds lo hi its.toArray.size
  unfold slicePick
  rw [h1, h2, h3]
  simp only [sliceRange_one, pick_run, List.size_toArray] <;> rfl
noncomputable def rSlL (K : PySem.W.Frag) : V → Option Int → Option Int → Hp → VK → Prop := fun x lo hi H Q => ∃ a xs, x = .ref a ∧ SqL K H a xs ∧ ∀ p, H p = none → Q (.ref p) (upd H p (.lst (cutV xs lo hi)))
theorem sl_list : SlR X (rSlL X.K) := by
  intro pins s σ H x v vl vu lo hi sl Q I rx hs pl pu h
  obtain ⟨a, xs, rfl, hx, q⟩ := h
  cases rx
  obtain ⟨its, r, ht, hz⟩ := I.list hx
  have hlen := r.length
  refine ⟨"list", _, slot_list_getitem.lookup, ht.isList.typeIs, ?_⟩
  refine wpAny_getItem_list_slice ht.isList hs pl pu .none (by simp) ?_ (by rw [List.size_toArray] <;> omega)
  rw [slicePick_cut, ← hlen]
  refine ⟨.ref s.heap.objs.size, _, I.laid (t' := s.toks) (o := .lst (cutV xs lo hi)) (fun b ob q => Heap.get?_push_of_some _ q) (Nat.le_refl _) ?_, rfl, q _ (I.hok.fresh (Nat.le_refl _))⟩
  exact ⟨Nat.le_trans (cutV_length xs lo hi) hz, _, 0, (r.drop (HT.sIx xs.length 0 lo)).take (HT.sIx xs.length xs.length hi - HT.sIx xs.length 0 lo), Heap.get?_push_size _ rfl⟩
noncomputable def flatV : V → Bool
  | .non => true
  | .bl _ => true
  | .int _ => true
  | .str _ => true
  | _ => false
noncomputable def eqV : V → V → Bool
  | .non, .non => true
  | .bl a, .bl b => a == b
  | .bl a, .int b => (if a then 1 else 0) == b
  | .int a, .bl b => a == (if b then 1 else 0)
  | .int a, .int b => a == b
  | .str a, .str b => a == b
  | _, _ => false
theorem eqAt_V {A : Around} {s : Shared} {y x : V} {u v : Value} (ry : RelV y u) (rx : RelV x v) (fy : flatV y = true) (fx : flatV x = true) : SeqAt.EqAt A s u v (eqV y x) := by
  cases y with
  | non =>
    cases ry
    cases x with
    | non => cases rx; exact SeqAt.EqAt.same _
    | bl b => cases rx; exact SeqAt.EqAt.none_bool b
    | int b => obtain ⟨t, rfl⟩ := rx; exact SeqAt.EqAt.none_int b t
    | str b => obtain ⟨t, rfl⟩ := rx; exact SeqAt.EqAt.none_str b t
    | _ => exact absurd (show false = true from fx) Bool.false_ne_true
  | bl a =>
    cases ry
    cases x with
    | non => cases rx; exact SeqAt.EqAt.bool_none a
    | bl b => cases rx; exact SeqAt.EqAt.bool_bool a b
    | int b => obtain ⟨t, rfl⟩ := rx; exact SeqAt.EqAt.bool_int a b t
    | str b => obtain ⟨t, rfl⟩ := rx; exact SeqAt.EqAt.bool_str a b t
    | _ => exact absurd (show false = true from fx) Bool.false_ne_true
  | int a =>
    obtain ⟨t', rfl⟩ := ry
    cases x with
    | non => cases rx; exact SeqAt.EqAt.int_none a t'
    | bl b => cases rx; exact SeqAt.EqAt.int_bool a t' b
    | int b => obtain ⟨t, rfl⟩ := rx; exact SeqAt.EqAt.int_int a t' b t
    | str b => obtain ⟨t, rfl⟩ := rx; exact SeqAt.EqAt.int_str a t' b t
    | _ => exact absurd (show false = true from fx) Bool.false_ne_true
  | str a =>
    obtain ⟨t', rfl⟩ := ry
    cases x with
    | non => cases rx; exact SeqAt.EqAt.str_none a t'
    | bl b => cases rx; exact SeqAt.EqAt.str_bool a t' b
    | int b => obtain ⟨t, rfl⟩ := rx; exact SeqAt.EqAt.str_int a t' b t
    | str b => obtain ⟨t, rfl⟩ := rx; exact SeqAt.EqAt.str_str a t' b t
    | _ => exact absurd (show false = true from fx) Bool.false_ne_true
  | _ => exact absurd (show false = true from fy) Bool.false_ne_true
noncomputable def eqU (x : V) (u : Value) : Bool := match u with
  | .none => eqV .non x
  | .bool b => eqV (.bl b) x
  | .int i _ => eqV (.int i) x
  | .str z _ => eqV (.str z) x
  | _ => false
theorem eqU_of {x y : V} {u : Value} (r : RelV y u) (f : flatV y = true) : eqU x u = eqV y x := by
  cases y with
  | non => cases r; rfl
  | bl b => cases r; rfl
  | int i => obtain ⟨t, rfl⟩ := r; rfl
  | str z => obtain ⟨t, rfl⟩ := r; rfl
  | _ => exact absurd (show false = true from f) Bool.false_ne_true
theorem any_eqU {x : V} : ∀ {xs : List V} {us : List Value}, Vals xs us → xs.all flatV = true → us.any (eqU x) = xs.any fun y => eqV y x
  | _, _, .nil, _ => rfl
  | y :: xs, u :: us, .cons r t, f => by
    rw [List.all_cons, Bool.and_eq_true] at f
    rw [List.any_cons, List.any_cons, eqU_of r f.1, any_eqU t f.2]
theorem mem_eqAt {A : Around} {s : Shared} {x : V} {v : Value} (rx : RelV x v) (fx : flatV x = true) : ∀ {xs : List V} {us : List Value}, Vals xs us → xs.all flatV = true → ∀ u ∈ us, SeqAt.EqAt A s u v (eqU x u)
  | _, _, .nil, _ => fun u hu => by cases hu
  | y :: xs, u :: us, .cons r t, f => fun u' hu => by
    rw [List.all_cons, Bool.and_eq_true] at f
    rcases List.mem_cons.mp hu with rfl | hu
    · rw [eqU_of r f.1]; exact eqAt_V r rx f.1 fx
    · exact mem_eqAt rx fx t f.2 u' hu
noncomputable def inV (x : V) (xs : List V) : Bool := xs.any fun y => eqV y x
noncomputable def rIn (K : PySem.W.Frag) (neg : Bool) : R2 := fun x y H Q => ∃ p xs, y = .ref p ∧ (SqL K H p xs ∨ SqT K H p xs) ∧ flatV x = true ∧ xs.all flatV = true ∧ Q (.bl (if neg then !inV x xs else inV x xs)) H
theorem op_in_seq : OpR X (compareOp .In) (rIn X.K false) := by
  intro pins s σ H x y v u Q I rx ry h
  obtain ⟨p, xs, rfl, hq, fx, fs, q⟩ := h
  cases ry
  rcases hq with hq | hq
  · obtain ⟨its, r, pl, hz⟩ := I.list hq
    refine SeqAt.in_listAt (eqU x) pl.isList (fun w hw => mem_eqAt rx fx r fs w (by simpa using hw)) ⟨.bl _, H, I, rfl, ?_⟩
    rw [show its.toArray.any (eqU x) = its.any (eqU x) by simp, any_eqU r fs]
    exact q
  · obtain ⟨its, r, pl, hz⟩ := I.tuple hq
    refine SeqAt.in_tupleAt (eqU x) pl (fun w hw => mem_eqAt rx fx r fs w (by simpa using hw)) ⟨.bl _, H, I, rfl, ?_⟩
    rw [show its.toArray.any (eqU x) = its.any (eqU x) by simp, any_eqU r fs]
    exact q
theorem call_list_of : CallR X (.type "list") (fun xs H Q => ∃ p ys, xs = [.ref p] ∧ (SqL X.K H p ys ∨ SqT X.K H p ys) ∧ ∀ l, H l = none → Q (.ref l) (upd H l (.lst ys))) := by
  intro pins s σ H xs us Q I r h
  obtain ⟨p, ys, rfl, hq, q⟩ := h
  obtain ⟨u, rfl, rx⟩ := vals1 r
  cases rx
  have fin : ∀ (its : List Value), Vals ys its → ys.length ≤ sizeLine → ∀ (h' : Heap) (c' : Nat), (∀ b o', s.heap.get? b = some o' → h'.get? b = some o') →
      h'.get? s.heap.objs.size = some { cls := .type "list", dict := none, data := .seq its.toArray c', slots := #[] } → EP X pins σ Q (.ref s.heap.objs.size) { s with heap := h' } := fun its r' hz h' c' kp e =>
    ⟨.ref s.heap.objs.size, _, I.laid (t' := s.toks) kp (Nat.le_refl _) (show ObjOk X.prog X.w _ h' _ (.lst ys) from ⟨hz, its, c', r', e⟩), rfl, q _ (I.hok.fresh (Nat.le_refl _))⟩
  rcases hq with hq | hq
  · obtain ⟨its, r', pl, hz⟩ := I.list hq
    have hlen := r'.length
    obtain ⟨o, ho, hc, n, hd⟩ := pl.isList
    exact call_list_seq p (.inl rfl) ho hc hd (fun h' c' kp e => fin its r' hz h' c' kp e) (by simp only [List.size_toArray] <;> omega)
  · obtain ⟨its, r', pl, hz⟩ := I.tuple hq
    have hlen := r'.length
    obtain ⟨o, ho, hc, n, hd⟩ := pl
    exact call_list_seq p (.inr rfl) ho hc hd (fun h' c' kp e => fin its r' hz h' c' kp e) (by simp only [List.size_toArray] <;> omega)
noncomputable def tyV (K : PySem.W.Frag) (T : String) (x : V) (H : Hp) : Prop := match x with
  | .str _ => T = "str"
  | .int _ => T = "int"
  | .ref p => (T = "list" ∧ ∃ xs, SqL K H p xs) ∨ (T = "tuple" ∧ ∃ o, K.lookup p = some o ∧ o.cls = .type "tuple" ∧ o.dict = none) ∨
      (T = "dict" ∧ ((∃ kvs, H p = some (.dK kvs)) ∨ ∃ kvs, H p = some (.dT kvs))) ∨ (T = "set" ∧ ∃ S n, H p = some (.set S n))
  | _ => False
theorem tyV_is {pins : List (Addr × Obj)} {σ : St} {H : Hp} {s : Shared} {T : String} {x : V} {v : Value} (I : Inv X pins σ H s) (r : RelV x v) (ty : tyV X.K T x H) :
    s.TypeIs v T ∧ ∀ a, v = .ref a → ∃ ob, s.heap.get? a = some ob ∧ ob.dict = none := by
  cases x with
  | str z =>
    obtain ⟨t, rfl⟩ := r
    cases (show T = "str" from ty)
    exact ⟨typeIs_str s z t, fun _ e => nomatch e⟩
  | int i =>
    obtain ⟨t, rfl⟩ := r
    cases (show T = "int" from ty)
    exact ⟨typeIs_int s i t, fun _ e => nomatch e⟩
  | ref p =>
    cases r
    rcases ty with ⟨rfl, xs, hq⟩ | ⟨rfl, o, hk, hc, hd⟩ | ⟨rfl, hk⟩ | ⟨rfl, S, n, hk⟩
    · obtain ⟨its, _, pl, _⟩ := I.list hq
      refine ⟨pl.isList.typeIs, fun a e => ?_⟩
      cases e
      obtain ⟨o, n, e, c, hd, _⟩ := pl
      exact ⟨o, e, hd⟩
    · refine ⟨⟨o, I.kIn p o hk, hc⟩, fun a e => ?_⟩
      cases e
      exact ⟨o, I.kIn _ o hk, hd⟩
    · have z : ∃ o, s.heap.get? p = some o ∧ o.ExactDict := by
        rcases hk with ⟨kvs, hk⟩ | ⟨kvs, hk⟩
        · obtain ⟨_, _, _, _, o, _, _, e, ex, _⟩ := I.hok p _ hk
          exact ⟨o, e, ex⟩
        · obtain ⟨_, _, _, _, o, _, _, e, ex, _⟩ := I.hok p _ hk
          exact ⟨o, e, ex⟩
      obtain ⟨o, e, ex⟩ := z
      refine ⟨⟨o, e, ex.1⟩, fun a e2 => ?_⟩
      cases e2
      exact ⟨o, e, ex.2.1⟩
    · obtain ⟨o, _, _, _, e, ex, _⟩ := I.hok p _ hk
      refine ⟨⟨o, e, ex.1⟩, fun a e2 => ?_⟩
      cases e2
      exact ⟨o, e, ex.2.1⟩
  | _ => exact False.elim ty
noncomputable def tBM0 (K : PySem.W.Frag) (T : String) (r : V → List V → Hp → VK → Prop) (to : TE) : TE := fun σ H Q => to σ H fun x H1 => tyV K T x H1 ∧ r x [] H1 Q
noncomputable def tBM (K : PySem.W.Frag) (T : String) (r : V → List V → Hp → VK → Prop) (to : TE) (t : TA) : TE := fun σ H Q => to σ H fun x H1 => tyV K T x H1 ∧ t σ H1 fun xs H2 => r x xs H2 Q
variable {o e : Expr} {es : List Expr} {to : TE} {t : TA} {name : Str} {apos cpos : Pos} {T id : String} {r : V → List V → Hp → VK → Prop}
theorem pe_bm0 (pa : PlainAttrs T) (slot : Slot T name id) (hty : typeOf (.builtin id) = pure (.type "method_descriptor")) (hm : MtR X id r) (ho : PE X o to)
    (hbase : attributeBase o name X.env (eval o X.env) = eval o X.env := by rfl) (hline : (apos.endLine == cpos.line) = true := by rfl) : PE X (.Call (.Attribute o name apos) [] [] cpos) (tBM0 X.K T r to) := by
  intro pins s σ H Q I h
  refine wpAny_Call_method0_late hbase hline (thn (ho pins s σ H _ I h) fun v s1 zz => ?_)
  obtain ⟨x, H1, I1, r1, ty, q1⟩ := zz
  obtain ⟨h1, h2⟩ := tyV_is I1 r1 ty
  exact ⟨T, id, pa, slot, hty, h1, h2, Calls.callWith_builtin rfl (PySem.evalArgs_none (hm pins s1 σ H1 x [] v [] Q I1 r1 .nil q1))⟩
theorem pe_bm (pa : PlainAttrs T) (slot : Slot T name id) (hty : typeOf (.builtin id) = pure (.type "method_descriptor")) (hm : MtR X id r) (ho : PE X o to) (ha : PA X (e :: es) t)
    (hbase : attributeBase o name X.env (eval o X.env) = eval o X.env := by rfl)
    (hfew : ((backTo cpos (starEach (e :: es) X.env)).all (fun x => !x.1) && (backToKw cpos (keywordEach [] X.env)).all (fun x => x.1.isSome)
      && decide ((e :: es).length + ([] : List Keyword).length + (if ([] : List Keyword).isEmpty then 0 else 1) < 30)) = true := by rfl)
    (hline : (apos.endLine == cpos.line) = true := by rfl) (hs : starEach (e :: es) X.env = (false, eval e X.env) :: starEach es X.env := by rfl) (hplain : (backTo cpos (starEach es X.env)).any (·.1) = false := by rfl) :
    PE X (.Call (.Attribute o name apos) (e :: es) [] cpos) (tBM X.K T r to t) := by
  intro pins s σ H Q I h
  refine wpAny_Call_method_late hbase hfew hline rfl (thn (ho pins s σ H _ I h) fun v s1 zz => ?_)
  obtain ⟨x, H1, I1, r1, ty, q1⟩ := zz
  obtain ⟨h1, h2⟩ := tyV_is I1 r1 ty
  refine ⟨T, id, pa, slot, hty, h1, h2, ?_⟩
  have hA := ha cpos pins s1 σ H1 _ I1 q1
  rw [hs] at hA ⊢
  refine Calls.callWith_builtin (by show (false || (backTo cpos (starEach es X.env)).any (·.1)) = false; rw [hplain] <;> rfl) (Calls.evalArgs_plain ?_)
  exact thn hA fun us s2 ⟨vs, H2, I2, r2, q2⟩ => hm pins s2 σ H2 x vs v us Q I2 r1 r2 q2
end
end L2
namespace L2
open PySem PySem.Spec PyProof.Rows
noncomputable def MtM (X : Cx) (id : String) (r : V → List V → Hp → VK → Prop) : Prop :=
  ∀ (pins : List (Addr × Obj)) (s : Shared) (σ : St) (H : Hp) (x : V) (xs : List V) (v : Value) (us : List Value) (Q : VK), Inv X pins σ H s → RelV x v → Vals xs us → r x xs H Q →
    wpAny (model X.prog X.w) X.A (call (.builtin id) (v :: us)) (EP X pins σ Q) X.xe s
theorem Vals.one : ∀ {x : V} {us : List Value}, Vals [x] us → ∃ u, us = [u] ∧ RelV x u
  | _, _, .cons r .nil => ⟨_, rfl, r⟩
theorem Vals.zero : ∀ {us : List Value}, Vals [] us → us = []
  | _, .nil => rfl
section
variable {X : Cx} {pins : List (Addr × Obj)} {σ : St} {H : Hp} {s : Shared} {l b : Addr} {xs ys zs : List V}
theorem Inv.lset {its its' : List Value} {n : Nat} {f : Array Value → Array Value} {t' : Nat} (I : Inv X pins σ H s) (hH : H l = some (.lst xs))
    (e : s.heap.get? l = some { cls := .type "list", data := .seq its.toArray n }) (hf : f its.toArray = its'.toArray) (hv : Vals ys its') (hz : ys.length ≤ sizeLine) :
    Inv X pins σ (upd H l (.lst ys)) { s with heap := s.heap.update l (Obj.mapSeq f), toks := t' } := by
  have q := PySem.IsL.update e f
  rw [hf] at q
  refine I.write (x := l) (e := l) (by rw [hH]; exact trivial) (.inl rfl) (fun b' u hb hu => (Heap.get?_update_other s.heap (Obj.mapSeq f) (Ne.symm hb)).trans hu) ⟨_, q⟩ ?_
  exact ⟨hz, its', _, hv, q⟩
theorem Inv.lnew {its : List Value} {t' : Nat} (I : Inv X pins σ H s) (hv : Vals ys its) (hz : ys.length ≤ sizeLine) :
    Inv X pins σ (upd H s.heap.objs.size (.lst ys)) { s with heap := s.heap.push { cls := .type "list", data := .seq its.toArray }, toks := t' } :=
  I.laid (fun _ _ q => Heap.get?_push_of_some _ q) (Nat.le_refl _) ⟨hz, its, 0, hv, Heap.get?_push_size _ rfl⟩
theorem Inv.fresh (I : Inv X pins σ H s) : H s.heap.objs.size = none := I.hok.fresh (Nat.le_refl _)
theorem Inv.lstM (I : Inv X pins σ H s) (hH : H l = some (.lst xs)) : xs.length ≤ sizeLine ∧ ∃ (its : List Value) (n : Nat), Vals xs its ∧ xs.length = its.length ∧ s.heap.get? l = some { cls := .type "list", data := .seq its.toArray n } := by
  obtain ⟨z, its, n, r, e⟩ := I.hok l _ hH
  exact ⟨z, its, n, r, r.length, e⟩
theorem notLongL {n : Nat} (h : n ≤ sizeLine) : Builtin.List.listTooLong n = false := by
  unfold Builtin.List.listTooLong
  exact decide_eq_false (by omega)
end
section
variable {X : Cx}
noncomputable def rAppend : V → List V → Hp → VK → Prop := fun x vs H Q => ∃ l xs y, x = .ref l ∧ vs = [y] ∧ H l = some (.lst xs) ∧ xs.length < sizeLine ∧ Q .non (upd H l (.lst (xs ++ [y])))
theorem mt_append : MtM X "list.append" rAppend := by
  intro pins s σ H x vs v us Q I rx rv h
  obtain ⟨l, xs, y, rfl, rfl, hH, hz, q⟩ := h
  cases rx
  obtain ⟨u, rfl, ru⟩ := rv.one
  obtain ⟨z, its, n, r, hl, e⟩ := I.lstM hH
  refine call_meets F.slot_list_append ⟨_, e, rfl⟩ F.entry_list_append (F.args_list_append_2 _ _) (PySem.list_append l its.toArray n u (by rw [List.size_toArray]; omega)) ⟨e, ?_⟩
  refine ⟨.non, _, I.lset (its' := its ++ [u]) hH e (by simp) (r.append (.cons ru .nil)) ?_, rfl, q⟩
  rw [List.length_append, List.length_singleton]
  omega
noncomputable def rExtend : V → List V → Hp → VK → Prop := fun x vs H Q => ∃ l b xs zs, x = .ref l ∧ vs = [.ref b] ∧ H l = some (.lst xs) ∧ H b = some (.lst zs) ∧ xs.length + zs.length ≤ sizeLine ∧ Q .non (upd H l (.lst (xs ++ zs)))
theorem mt_extend : MtM X "list.extend" rExtend := by
  intro pins s σ H x vs v us Q I rx rv h
  obtain ⟨l, b, xs, zs, rfl, rfl, hH, hB, hz, q⟩ := h
  cases rx
  obtain ⟨u, rfl, ru⟩ := rv.one
  cases ru
  obtain ⟨z, its, n, r, hl, e⟩ := I.lstM hH
  obtain ⟨z2, its2, n2, r2, hl2, e2⟩ := I.lstM hB
  have hsz : its.toArray.size + its2.toArray.size ≤ sizeLine := by rw [List.size_toArray, List.size_toArray]; omega
  have hlong : ¬ (!its.toArray.isEmpty && Builtin.List.listTooLong (its.toArray.size + its2.toArray.size)) = true := by
    rw [notLongL hsz, Bool.and_false]
    exact Bool.false_ne_true
  refine call_meets F.slot_list_extend ⟨_, e, rfl⟩ F.entry_list_extend (F.args_list_extend_2 _ _)
    (AutoSeq1.list_extend_list_list_0 l its.toArray n b its2.toArray n2 hlong (by rw [List.size_toArray]; omega) (by omega)) ⟨e, e2, ?_⟩
  refine ⟨.non, _, I.lset (its' := its ++ its2) hH e (by simp) (r.append r2) ?_, rfl, q⟩
  rw [List.length_append]
  omega
noncomputable def rClear : V → List V → Hp → VK → Prop := fun x vs H Q => ∃ l xs, x = .ref l ∧ vs = [] ∧ H l = some (.lst xs) ∧ Q .non (upd H l (.lst []))
theorem mt_clear : MtM X "list.clear" rClear := by
  intro pins s σ H x vs v us Q I rx rv h
  obtain ⟨l, xs, rfl, rfl, hH, q⟩ := h
  cases rx
  have hus := rv.zero
  subst hus
  obtain ⟨z, its, n, r, hl, e⟩ := I.lstM hH
  refine call_meets F.slot_list_clear ⟨_, e, rfl⟩ F.entry_list_clear (F.args_list_clear_1 _) (AutoSeq1.list_clear_list_0 l its.toArray n (by rw [List.size_toArray]; omega)) ⟨e, ?_⟩
  exact ⟨.non, _, I.lset (its' := []) (ys := []) hH e rfl .nil (Nat.zero_le _), rfl, q⟩
noncomputable def rCat : R2 := fun x y H Q => ∃ l b xs zs, x = .ref l ∧ y = .ref b ∧ H l = some (.lst xs) ∧ H b = some (.lst zs) ∧ xs.length + zs.length ≤ sizeLine ∧ ∀ p, H p = none → Q (.ref p) (upd H p (.lst (xs ++ zs)))
theorem op_cat : OpR X (binaryOp .Add) rCat := by
  intro pins s σ H x y v u Q I rx ry h
  obtain ⟨l, b, xs, zs, rfl, rfl, hH, hB, hz, q⟩ := h
  cases rx
  cases ry
  obtain ⟨z, its, n, r, hl, e⟩ := I.lstM hH
  obtain ⟨z2, its2, n2, r2, hl2, e2⟩ := I.lstM hB
  refine PySem.P.add_list e e2 ?_ (by rw [List.size_toArray, List.size_toArray]; omega)
  have ea : its.toArray ++ its2.toArray = (its ++ its2).toArray := by simp
  rw [ea]
  exact ⟨.ref _, _, I.lnew (t' := s.toks) (r.append r2) (by rw [List.length_append]; omega), rfl, q _ I.fresh⟩
end
section
variable {prog : Program} {w : World} {A : Around} {E : Value → Shared → Prop} {s : Shared}
end
section
variable {X : Cx}
end
end L2
namespace Att
open PySem PySem.W PySem.Calls PyProof.Rows
theorem ints_of_wellAll {P : Params} {h : Heap} : ∀ (ns : List Int) (vs : List Value), WellAll P h vs (ns.map WData.int) → IntsAre vs ns := by
  intro ns
  induction ns with
  | nil =>
    intro vs w
    rw [List.map_nil] at w
    cases w
    exact .nil
  | cons n ns ih =>
    intro vs w
    rw [List.map_cons] at w
    cases w with
    | cons a b =>
      cases a
      exact .cons _ _ (ih _ b)
theorem script_of {l : OpenLaw} {n : Nat} (hn : l.most = some n) {P : Params} {h : Heap} {args : List WData} {vals : List Value}
    (hpre : l.row.toRowW.claim.pre args = true) (hwl : WellAll P h vals args) :
    ∃ a vs ns, vals = [Value.ref a] ∧ args = [WData.list (ns.map WData.int)] ∧ h.get? a = some { cls := .type "list", data := .seq vs.toArray } ∧ IntsAre vs ns ∧ ns.length ≤ n := by
  have hsh : WShape.hasAll [] args [.list .int] = true := (pre_splitW hpre).1
  have hc : l.pre.holds [] { args := args } = true := (pre_splitW hpre).2
  obtain ⟨d, r, rfl, h1, h2⟩ := hasAllW_cons hsh
  obtain rfl := hasAllW_nil h2
  obtain ⟨xs, rfl, h3⟩ := hasW_list h1
  obtain ⟨ns, rfl⟩ := items_int h3
  have hlen : ns.length ≤ n := by
    unfold OpenLaw.pre at hc
    have h4 : (WTm.not (.lt (.lit (.int (n : Int))) (.len (.arg 0)))).holds [] { args := [.list (ns.map .int)] } = true := by
      have h4 := (holds_andW hc).1
      rw [hn] at h4
      exact h4
    have h5 := condW_of h4 (w_not (w_lt w_lit (w_len_list (w_arg rfl))))
    rw [List.length_map] at h5
    refine Nat.le_of_not_lt fun q => ?_
    have q' : (n : Int) < ((ns.length : Nat) : Int) := by omega
    first
      | (rw [decide_eq_true q'] at h5; exact absurd h5 (by decide))
      | (simp at h5; omega)
  cases hwl with
  | cons w1 w2 =>
    cases w2
    cases w1 with
    | list ho hall => exact ⟨_, _, ns, rfl, rfl, ho, ints_of_wellAll ns _ hall, hlen⟩
theorem post_true (l : OpenLaw) (args : List WData) : l.row.toRowW.claim.post args (.bool true) args = true :=
  postW_of (r := l.row.toRowW) (X := (true == true))
    (show WShape.has [] (.bool true) .bool = true by first | rfl | decide | simp [WShape.has, WShape.arms, WShape.armsAll])
    (show (WTm.eq .res (.lit (.bool true))).value [] { args := args, res := some (.bool true), after := args } = some (.bool (true == true)) from w_eq_bool (w_res rfl) w_lit) rfl
section
variable {prog : Program} {w : World} {A : Around} {E : Value → Shared → Prop} {s : Shared} {K : Frag}
end
end Att
namespace L2
open PySem PySem.Spec PyProof.Rows
theorem vals_ints : ∀ {vs : List Value} {ns : List Int}, IntsAre vs ns → Vals (ns.map V.int) vs
  | _, _, .nil => .nil
  | _, _, .cons n t h => .cons ⟨t, rfl⟩ (vals_ints h)
noncomputable def Only (H : Hp) : Prop := ∀ b, H b = none ∨ ∃ o xs, H b = some (.frz o (.lst xs))
theorem law_call {P : Program} {w : World} {K : PySem.W.Frag} {mg mb : Str → Option Value} {CX : CXT} {k : Nat} {fa a : Addr} {fd : FuncData} {x : Str} {sp : Sp} {s₁ : Shared} {vs : List Value} {ns : List Int}
    (KX : K.In s₁.heap) (hns : s₁.heap.Ns mainGlobals mg) (hb : s₁.heap.Ns builtinsNs mb) (hbb : ∀ x : Str, x ≠ "__name__" → mb x = bootBuiltins x) (hlim : s₁.heap.NoLimit) (hg : s₁.gens = #[])
    (ha : s₁.heap.get? a = some { cls := .type "list", data := .seq vs.toArray }) (hi : IntsAre vs ns) (hl : ns.length ≤ sizeLine) (hr : Room k callerA)
    (F : ∀ base : Heap, K.In base → base.Ns mainGlobals mg → FnOk P w K mg base CX k fa fd [x] sp) (hbind : ∀ (s : Shared) (u : Value), BindsTo s fd ⟨[u], []⟩ [(x, u)])
    (hsp : ∀ H : Hp, Only H → SqL K H a (ns.map V.int) → sp [.ref a] H (fun v _ => v = .bl true) fun _ _ _ => False)
    (hCX : ∀ H e s', CX [] H s₁ (fun _ _ _ => False) e s' → False) :
    codeAny (model P w) callerA (.call (.ref fa) ⟨[.ref a], []⟩) (fun r s' => r = .ok (.ret (.bool true)) ∧ OldK s₁.heap s'.heap ∧ s'.os = s₁.os ∧ AllBare s'.gens) s₁ := by
  have rv := vals_ints hi
  have lenV := hi.length
  have core : ∀ H : Hp, Only H → SqL K H a (ns.map V.int) → HOk P w H s₁.heap → (∀ b, H b ≠ none → b = a) → (H a ≠ none → K.lookup a = none) →
      codeAny (model P w) callerA (.call (.ref fa) ⟨[.ref a], []⟩) (fun r s' => r = .ok (.ret (.bool true)) ∧ OldK s₁.heap s'.heap ∧ s'.os = s₁.os ∧ AllBare s'.gens) s₁ := by
    intro H hO hS hok hA hK
    have base_of : ∀ {b : Addr} {o : Obj}, s₁.heap.get? b = some o → H b = none → (hidT s₁.heap H).get? b = some o := fun e n => hidT_get e n
    have noA : ∀ {b : Addr} {o : Obj} {es : Array DictEntry} {ep : Nat}, s₁.heap.get? b = some o → o.data = .dict es ep → H b = none := fun {b o es ep} e d => by
      cases q : H b with
      | none => rfl
      | some u =>
        have e' : b = a := hA b (by rw [q]; simp)
        subst e'
        rw [ha] at e; cases e
        have d' : Data.seq vs.toArray _ = Data.dict es ep := d
        cases d'
    have nsK : ∀ {b : Addr} {m : Str → Option Value}, s₁.heap.Ns b m → (hidT s₁.heap H).Ns b m := fun {b m} ⟨o, es, ep, e, d, r⟩ => ⟨o, es, ep, base_of e (noA e d), d, r⟩
    have hKb : K.In (hidT s₁.heap H) := fun b o e => base_of (KX b o e) (by
      cases q : H b with
      | none => rfl
      | some u =>
        have e' : b = a := hA b (by rw [q]; simp)
        subst e'
        rw [hK (by rw [q]; simp)] at e; cases e)
    have hM : Mod K mg (hidT s₁.heap H) := ⟨hKb, nsK hns, ⟨mb, nsK hb, hbb⟩, let ⟨mc, h1, h2⟩ := hlim; ⟨mc, nsK h1, h2⟩⟩
    have e0 : Env0 P w K mg (hidT s₁.heap H) callerA [] s₁ H := ⟨rfl, hM, fun b o e => of_hidT e, Nat.le_of_eq (hidT_size _ _), trivial, fun b hb => absurd (show b ∈ ([] : List Addr) from hb) (by simp), hok, .of_eq hg⟩
    refine codeAny_mono ((F _ hKb (nsK hns)).run callerA [] s₁ H ⟨[.ref a], []⟩ [.ref a] [.ref a] _ _ hr e0 (hbind s₁ (.ref a)) (.cons rfl .nil) (hsp H hO hS)) fun r s' h => ?_
    cases r with
    | error e => exact (hCX H e s' h).elim
    | ok fl =>
      cases fl with
      | next => exact False.elim h
      | brk => exact False.elim h
      | cont => exact False.elim h
      | ret u =>
        obtain ⟨v, H', os, bare, un, hok', r', q⟩ := h
        have q' : v = .bl true := q
        subst q'
        obtain rfl : u = Value.bool true := r'
        refine ⟨rfl, OldK.of_keep fun b o e => ?_, os, bare⟩
        cases q : H b with
        | none => exact un.keep b o e q (by intro z; exact absurd (show b ∈ ([] : List Addr) from z) (by simp)) (by simp)
        | some u =>
          rcases hO b with z | ⟨ob, xs, z⟩
          · rw [q] at z; cases z
          · have z2 := un.frzs b ob _ z
            obtain ⟨e1, _⟩ := hok b _ z
            obtain ⟨e2, _⟩ := hok' b _ z2
            rw [e] at e1; cases e1
            exact e2
  cases hk : K.lookup a with
  | some o =>
    have e := KX a o hk
    rw [ha] at e
    cases e
    refine core (fun _ => none) (fun _ => .inl rfl) (.inr ⟨_, vs.toArray, _, hk, rfl, rfl, rfl, by rw [List.size_toArray, lenV]; exact hl, by simpa using rv⟩) (fun b u z => by have z' : (none : Option HO) = some u := z; cases z') (fun b z => absurd rfl z) fun z => absurd rfl z
  | none =>
    refine core (fun b => if b = a then some (.frz { cls := .type "list", data := .seq vs.toArray } (.lst (ns.map V.int))) else none) (fun b => ?_) (.inl (.inr ⟨{ cls := .type "list", data := .seq vs.toArray }, if_pos rfl⟩)) (fun b u z => ?_) (fun b z => ?_) fun _ => hk
    · by_cases hb : b = a
      · exact .inr ⟨_, _, if_pos hb⟩
      · exact .inl (if_neg hb)
    · by_cases hb : b = a
      · have z' := (if_pos hb).symm.trans z
        cases z'
        subst hb
        exact ⟨ha, by rw [List.length_map]; exact hl, vs, _, rv, ha⟩
      · have z' := (if_neg hb).symm.trans z
        cases z'
    · by_cases hb : b = a
      · exact hb
      · exact absurd (if_neg hb) z
end L2
namespace L2
open PySem PySem.Spec PyProof.Rows
end L2
namespace L2
open PySem PySem.Spec PyProof.Rows
noncomputable def defArgs (s : Stmt) : Arguments := match s with
  | .FunctionDef _ a _ _ _ _ _ _ _ _ => a
  | _ => { posonlyargs := [], args := [], vararg := none, kwonlyargs := [], kw_defaults := [], kwarg := none, defaults := [] }
noncomputable def defBody (s : Stmt) : List Stmt := match s with
  | .FunctionDef _ _ b _ _ _ _ _ _ _ => b
  | _ => []
noncomputable def defScope (s : Stmt) : Scope := match s with
  | .FunctionDef _ _ _ _ _ _ sc _ _ _ => sc
  | _ => { kind := .function, names := [], isGenerator := false, isCoroutine := false }
noncomputable abbrev E0 : XK := fun _ _ _ => False
section
variable {P : Program} {w : World} {K : PySem.W.Frag} {mg : Str → Option Value} {base : Heap}
end
section
variable {X : Cx}
theorem pv (i : Nat) {x : Str} {pos : Pos} (hN : X.N[i]? = some x := by rfl) (hv : Vis X.env.scope x := by first | exact Or.inl rfl | exact Or.inr (Or.inl rfl) | exact Or.inr (Or.inr rfl)) (hd : (x == ("__debug__" : Str)) = false := by decide)
    (hcd : (x == ("__classdict__" : Str)) = false := by decide) : PE X (.Name x pos) (tVar i) := pe_var hN hv hd hcd
end
theorem iteF {A B : Prop} (h : B) : if false = true then A else B := by
  rw [if_neg Bool.false_ne_true]
  exact h
theorem iteT {A B : Prop} (h : A) : if true = true then A else B := by
  rw [if_pos rfl]
  exact h
noncomputable def Same (H H' : Hp) : Prop := ∀ b o, H b = some o → H' b = some o
theorem Same.refl (H : Hp) : Same H H := fun _ _ h => h
theorem Same.trans {H H1 H2 : Hp} (a : Same H H1) (b : Same H1 H2) : Same H H2 := fun c o h => b c o (a c o h)
theorem Same.seq {K : PySem.W.Frag} {H H' : Hp} {a : Addr} {xs : List V} (e : Same H H') (h : SqL K H a xs) : SqL K H' a xs := by
  rcases h with (h | ⟨o, h⟩) | h
  · exact .inl (.inl (e _ _ h))
  · exact .inl (.inr ⟨o, e _ _ h⟩)
  · exact .inr h
end L2
namespace Kw
theorem gcd_step (g s : Int) (hg : 0 ≤ g) (hs : 0 < s) : Int.gcd s (g % s) = Int.gcd g s := by
  obtain ⟨m, rfl⟩ := Int.eq_ofNat_of_zero_le hg
  obtain ⟨n, rfl⟩ := Int.eq_ofNat_of_zero_le (Int.le_of_lt hs)
  have e : ((m : Int) % (n : Int)) = ((m % n : Nat) : Int) := by omega
  rw [e]
  show Nat.gcd n (m % n) = Nat.gcd m n
  rw [Nat.gcd_comm m n, Nat.gcd_rec n m, Nat.gcd_comm]
theorem gcd_abs (a b : Int) : Int.gcd (if a < 0 then -a else a) (if b < 0 then -b else b) = Int.gcd a b := by
  have e : ∀ x : Int, (if x < 0 then -x else x).natAbs = x.natAbs := fun x => by split <;> omega
  show Nat.gcd _ _ = Nat.gcd _ _
  rw [e, e]
theorem gcd_end (g : Int) (hg : 0 ≤ g) : ((Int.gcd g 0 : Nat) : Int) = g := by
  show ((Nat.gcd g.natAbs 0 : Nat) : Int) = g
  rw [Nat.gcd_zero_right]; omega
theorem abs_nn (a : Int) : 0 ≤ (if a < 0 then -a else a) := by split <;> omega
noncomputable def dv (t b : Int) : Int := if b < 0 then -((Int.gcd t b : Nat) : Int) else ((Int.gcd t b : Nat) : Int)
noncomputable def fT (t b : Int) : Int := t.fdiv (dv t b)
noncomputable def fB (t b : Int) : Int := b.fdiv (dv t b)
theorem dv_ne {t b : Int} (h : b ≠ 0) : dv t b ≠ 0 := by
  have hp : 0 < Int.gcd t b := Int.gcd_pos_of_ne_zero_right _ h
  unfold dv; split <;> omega
theorem dv_le {t b : Int} (h : b ≠ 0) : (dv t b).natAbs ≤ b.natAbs := by
  have hd : Int.gcd t b ∣ b.natAbs := Nat.gcd_dvd_right _ _
  have := Nat.le_of_dvd (by omega) hd
  unfold dv; split <;> omega
theorem dv_dvd_b (t b : Int) : dv t b ∣ b := by
  have h : ((Int.gcd t b : Nat) : Int) ∣ b := Int.gcd_dvd_right ..
  unfold dv; split
  · exact (Int.neg_dvd).mpr h
  · exact h
theorem dv_dvd_t (t b : Int) : dv t b ∣ t := by
  have h : ((Int.gcd t b : Nat) : Int) ∣ t := Int.gcd_dvd_left ..
  unfold dv; split
  · exact (Int.neg_dvd).mpr h
  · exact h
theorem fT_mul (t b : Int) : dv t b * fT t b = t := by
  unfold fT
  exact Int.mul_fdiv_cancel' (dv_dvd_t t b)
theorem fB_mul (t b : Int) : dv t b * fB t b = b := by
  unfold fB
  exact Int.mul_fdiv_cancel' (dv_dvd_b t b)
theorem fB_pos {t b : Int} (h : b ≠ 0) : 0 < fB t b := by
  have e := fB_mul t b
  have hn := dv_ne (t := t) h
  have hg : 0 ≤ ((Int.gcd t b : Nat) : Int) := Int.natCast_nonneg _
  rcases Int.lt_or_gt_of_ne h with hb | hb
  · have hd : dv t b < 0 := by unfold dv at hn ⊢; rw [if_pos hb] at hn ⊢; omega
    refine Int.not_le.mp fun q => ?_
    have := Int.mul_nonneg_of_nonpos_of_nonpos (Int.le_of_lt hd) q
    omega
  · have hd : 0 < dv t b := by unfold dv at hn ⊢; rw [if_neg (by omega)] at hn ⊢; omega
    refine Int.not_le.mp fun q => ?_
    have := Int.mul_nonpos_of_nonneg_of_nonpos (Int.le_of_lt hd) q
    omega
theorem natAbs_le_mul {d x : Int} (h : d ≠ 0) : x.natAbs ≤ (d * x).natAbs := by
  rw [Int.natAbs_mul]
  exact Nat.le_mul_of_pos_left _ (by omega)
theorem fT_le {t b : Int} (h : b ≠ 0) : (fT t b).natAbs ≤ t.natAbs := by
  have q := natAbs_le_mul (x := fT t b) (dv_ne (t := t) h)
  rw [fT_mul] at q; exact q
theorem fB_le {t b : Int} (h : b ≠ 0) : (fB t b).natAbs ≤ b.natAbs := by
  have q := natAbs_le_mul (x := fB t b) (dv_ne (t := t) h)
  rw [fB_mul] at q; exact q
end Kw
set_option maxHeartbeats 4000000
namespace Kw
open PySem PySem.Spec PyProof.Rows L2
noncomputable def But (b : Addr) (H H' : Hp) : Prop := ∀ a o, a ≠ b → H a = some o → H' a = some o
theorem But.refl {b : Addr} (H : Hp) : But b H H := fun _ _ _ h => h
theorem But.trans {b : Addr} {H H1 H2 : Hp} (x : But b H H1) (y : But b H1 H2) : But b H H2 := fun a o n h => y a o n (x a o n h)
theorem But.of {b : Addr} {H H' : Hp} (x : Same H H') : But b H H' := fun a o _ h => x a o h
theorem same_new {H : Hp} {p : Addr} (h : H p = none) (o : HO) : Same H (upd H p o) := fun b u q => by rw [upd_ne (ne_of_none q h)]; exact q
theorem but_upd {H : Hp} {p : Addr} (o : HO) : But p H (upd H p o) := fun b u n q => by rw [upd_ne n]; exact q
theorem Same.tup {K : PySem.W.Frag} {H H' : Hp} {a : Addr} {xs : List V} (e : Same H H') (h : SqT K H a xs) : SqT K H' a xs := by
  rcases h with (h | ⟨o, h⟩) | h
  · exact .inl (.inl (e _ _ h))
  · exact .inl (.inr ⟨o, e _ _ h⟩)
  · exact .inr h
theorem But.tup {K : PySem.W.Frag} {H H' : Hp} {b a : Addr} {ys xs : List V} (e : But b H H') (hb : H b = some (.lst ys)) (h : SqT K H a xs) : SqT K H' a xs := by
  rcases h with (h | ⟨o, h⟩) | h
  · exact .inl (.inl (e _ _ (ne_of h hb (by intro z; cases z)) h))
  · exact .inl (.inr ⟨o, e _ _ (ne_of h hb (by intro z; cases z)) h⟩)
  · exact .inr h
theorem But.seq {K : PySem.W.Frag} {H H' : Hp} {b a : Addr} {xs : List V} (e : But b H H') (n : a ≠ b) (h : SqL K H a xs) : SqL K H' a xs := by
  rcases h with (h | ⟨o, h⟩) | h
  · exact .inl (.inl (e _ _ n h))
  · exact .inl (.inr ⟨o, e _ _ n h⟩)
  · exact .inr h
section
variable {σ : L2.St} {H : Hp} {Q : VK} {v : V} {i j : Int} {K : PySem.W.Frag} {p : Addr} {xs : List V}
theorem rd_new {R : V → Hp → Prop} {o : HO} (h : ∀ p H', Same H H' → H' p = some o → R (.ref p) H') : ∀ p, H p = none → R (.ref p) (upd H p o) := fun p hp => h p _ (same_new hp o) upd_same
end
theorem if_cases {c : Bool} {A B : Prop} (h1 : c = true → A) (h2 : c = false → B) : if c = true then A else B := by
  cases c
  · exact iteF (h2 rfl)
  · exact iteT (h1 rfl)
theorem if_dec {c : Prop} [Decidable c] {A B : Prop} (h1 : c → A) (h2 : ¬ c → B) : if decide c = true then A else B :=
  if_cases (fun e => h1 (of_decide_eq_true e)) (fun e => h2 (of_decide_eq_false e))
theorem if_decI {i j : Int} {A B : Prop} (h1 : i = j → A) (h2 : i ≠ j → B) : if decide (V.int i = V.int j) = true then A else B :=
  if_dec (fun e => h1 (V.int.inj e)) (fun e => h2 fun z => e (congrArg V.int z))
section
variable {X : Cx} {a b c : Expr} {ta tb tc : TE} {pos : Pos}
noncomputable def CDivB (_ j : Int) : Prop := j ≠ 0 ∧ j.natAbs.log2 < 9000
theorem op_fdivB : OpR X (binaryOp .FloorDiv) (rI CDivB fun i j => .int (i.fdiv j)) := opI fun _ _ _ _ _ _ _ hc q => floordiv_int hc.1 q (.inl (PyProof.noPylong_of_log2 hc.2))
theorem op_mulB : OpR X (binaryOp .Mult) (rI IntMulOk fun i j => .int (i * j)) := opI fun _ _ _ _ _ _ _ hc q => mul_int q hc
theorem call_divmodB : CallR X (.builtin "divmod") (fun xs H Q => ∃ i j, xs = [.int i, .int j] ∧ (0 < j ∧ j.natAbs.log2 < 9000) ∧ ∀ p, H p = none → Q (.ref p) (upd H p (.tup [.int (i / j), .int (i % j)]))) := by
  intro pins s σ H xs us Q I r h
  obtain ⟨i, j, rfl, ⟨h1, h2⟩, q⟩ := h
  obtain ⟨u, w', rfl, ⟨t, rfl⟩, ⟨t', rfl⟩⟩ := vals2 r
  refine divmod_int (by omega) ?_ (.inl (PyProof.noPylong_of_log2 h2))
  rw [Int.fdiv_eq_ediv_of_nonneg i (by omega), Int.fmod_eq_emod_of_nonneg i (by omega)]
  have hn : H s.heap.objs.size = none := I.hok.fresh (Nat.le_refl _)
  refine ⟨.ref s.heap.objs.size, _, ?_, rfl, q _ hn⟩
  refine I.laid (fun b o e => Heap.get?_push_of_some _ e) (Nat.le_refl _) ⟨by simp only [List.length_cons, List.length_nil]; rw [sizeLine_eq]; decide, [.int (i / j) s.toks, .int (i % j) (s.toks + 1)], .cons ⟨_, rfl⟩ (.cons ⟨_, rfl⟩ .nil), ?_⟩
  exact ⟨_, Heap.get?_push_size s.heap rfl, rfl, 0, rfl⟩
theorem pe_globI {x : Str} {i : Int} {pos : Pos} (hg : Gl X x) (hm : ∃ t, X.mg x = some (.int i t)) (hd : (x == ("__debug__" : Str)) = false := by decide) (hcd : (x == ("__classdict__" : Str)) = false := by decide) : PE X (.Name x pos) (tC (.int i)) := by
  obtain ⟨t, hm⟩ := hm
  exact pe_glob hg hm ⟨t, rfl⟩ hd
theorem pe_bty {x : Str} {T : String} {pos : Pos} (hg : Gl X x) (hm : X.mg x = none) (hv : bootBuiltins x = some (.type T)) (hn : x ≠ "__name__" := by decide) (hd : (x == ("__debug__" : Str)) = false := by decide) : PE X (.Name x pos) (tC (.ty T)) :=
  pe_bltn hg hm hv (v := .ty T) rfl hn hd
noncomputable def valC : V → Value
  | .ty T => .type T
  | .ref C => .ref C
  | _ => .none
noncomputable def IsI (K : PySem.W.Frag) (H : Hp) (x c : V) (b : Bool) : Prop := ∃ t, TyOf K H x t ∧ PySem.W.kitOne K t (valC c) = some b
theorem call_isinst : CallR X (.builtin "isinstance") (fun xs H Q => ∃ x c b, xs = [x, c] ∧ ((∃ T, c = .ty T) ∨ ∃ C, c = .ref C) ∧ IsI X.K H x c b ∧ Q (.bl b) H) := by
  intro pins s σ H xs us Q I r h
  obtain ⟨x, c, b, rfl, hc, ⟨t, ty, e⟩, q⟩ := h
  obtain ⟨u, w', rfl, rx, rc⟩ := vals2 r
  have ec : w' = valC c := by
    rcases hc with ⟨T, rfl⟩ | ⟨C, rfl⟩
    · exact rc
    · exact rc
  subst ec
  exact isinst_ok I rx ty e fun tk => ⟨.bl b, H, I.tok _, rfl, q⟩
end
noncomputable def TrD (h bs : Heap) (x : Addr) (c : Value) (od : Option Addr) (a0 fl : Value) : Prop :=
  ∃ o vs T oT ts, h.get? x = some o ∧ o.cls = c ∧ o.dict = od ∧ o.data = .fields vs ∧ vs[0]? = some a0 ∧ vs[1]? = some (.ref T) ∧ bs.get? T = none ∧ T ≠ x ∧ h.get? T = some oT ∧ oT.data = .fields ts ∧ ts[3]? = some fl
structure Noted (bs : Heap) (l : List Env) (x : Addr) (c : Value) (od : Option Addr) (a0 fl : Value) (h h' : Heap) : Prop where
  st : bs.StaysIn h'
  fr : h'.FunFrames bs l
  tr : TrD h' bs x c od a0 fl
  up : h.UpToSlots h'
section
variable {M : Model} {A : Around} {E : Value → Shared → Prop} {s : Shared} {bs : Heap} {l up : List Env} {env : Env} {x L : Addr} {c : Value} {od : Option Addr} {a0 fl : Value} {Q : Unit → Shared → Prop}
theorem Noted.trans {h h1 h2 : Heap} {f1 f2 : Value} (a : Noted bs l x c od a0 f1 h h1) (b : Noted bs l x c od a0 f2 h1 h2) : Noted bs l x c od a0 f2 h h2 := ⟨b.st, b.fr, b.tr, a.up.trans b.up⟩
theorem Noted.tail {h h1 : Heap} (a : Noted bs (env :: up) x c od a0 fl h h1) : Noted bs up x c od a0 fl h h1 := ⟨a.st, a.fr.2.2, a.tr, a.up⟩
theorem flight0 (st : bs.StaysIn s.heap) (fr : s.heap.FunFrames bs l) (tr : TrD s.heap bs x c od a0 fl) (q : ∀ h', Noted bs l x c od a0 .none s.heap h' → Q () { s with heap := h' }) : wpAny M A (setFlight (.ref x) none) Q E s := by
  obtain ⟨o, vs, T, oT, ts, e1, c1, d1, f1, z0, z1, nT, ne, e2, f2, z3⟩ := tr
  have big : 3 < ts.size := (Array.getElem?_eq_some_iff.mp z3).1
  have oth : ∀ b, b ≠ T → (s.heap.update T (Obj.mapFields (·.setIfInBounds 3 Value.none))).get? b = s.heap.get? b := fun b hb => Heap.get?_update_other _ _ (Ne.symm hb)
  have nf : ∀ b u, s.heap.get? b = some u → (∀ ws, u.data ≠ .fields ws) → b ≠ T := fun b u y n z => by
    subst z
    rw [e2] at y
    cases y
    exact n ts f2
  unfold setFlight
  refine wpAny_bind (wpAny_field e1 f1 z1 ?_)
  rw [if_pos (by simp)]
  refine wpAny_setField e2 f2 big (q _ ⟨fun b u y => ?_, ?_, ?_, ?_⟩)
  · exact (oth b fun z => by rw [z, nT] at y; cases y).trans (st b u y)
  · exact fr.of_keeps fun b u y n => ⟨u, (oth b (nf b u y n)).trans y, rfl⟩
  · exact ⟨o, vs, T, _, _, (oth x (Ne.symm ne)).trans e1, c1, d1, f1, z0, z1, nT, ne, Heap.get?_update_self _ e2 (Obj.isFreed_of_fields (Obj.data_mapFields f2 _)), Obj.data_mapFields f2 _, by simp [big]⟩
  · exact fun b u y n => ⟨u.slots, (oth b (nf b u y n)).trans y⟩
theorem entry_done {h h1 : Heap} {o N : Obj} {vs ts : Array Value} (fr : h.FunFrames bs (env :: up)) (so : Heap.SlotsOnly ((env :: up).filterMap (·.frame)) h h1) (ex : h.get? x = some o) (st : bs.StaysIn h) (nx : bs.get? x = none) (fo : o.data = .fields vs) (big : 1 < vs.size)
    (z0 : vs[0]? = some a0) (hN : N.data = .fields ts) (hN3 : ts[3]? = some fl) :
    Noted bs (env :: up) x o.cls o.dict a0 fl h ((h1.push N).update x (Obj.mapFields (·.setIfInBounds 1 (Value.ref h1.objs.size)))) := by
  have out : x ∉ (env :: up).filterMap (·.frame) := fun m => by
    obtain ⟨_, u, y, n⟩ := fr.mem m
    rw [ex] at y
    cases y
    exact n vs fo
  have x1 : h1.get? x = some o := (so.2.1 x out).trans ex
  have b1 : bs.StaysIn h1 := fun b u y => (so.2.1 b fun m => by rw [(fr.mem m).1] at y; cases y).trans (st b u y)
  have nw : h1.objs.size ≠ x := Nat.ne_of_gt (Heap.lt_size x1)
  have kp : ∀ b u, b ≠ x → h1.get? b = some u → ((h1.push N).update x (Obj.mapFields (·.setIfInBounds 1 (Value.ref h1.objs.size)))).get? b = some u := fun b u hb y => by
    rw [Heap.get?_update_other _ _ (Ne.symm hb)]
    exact Heap.get?_push_of_some _ y
  have nf : ∀ b u, h.get? b = some u → (∀ ws, u.data ≠ .fields ws) → b ≠ x := fun b u y n z => by
    subst z
    rw [ex] at y
    cases y
    exact n vs fo
  have d3 := Obj.data_mapFields fo (·.setIfInBounds 1 (Value.ref h1.objs.size))
  have fN : N.isFreed = false := Obj.isFreed_of_fields hN
  refine ⟨fun b u y => kp b u (fun z => by rw [z, nx] at y; cases y) (b1 b u y), fr.of_keeps fun b u y n => ?_, ?_, fun b u y n => ?_⟩
  · obtain ⟨sl, hs⟩ := so.2.2 b u y
    exact ⟨_, kp b _ (nf b u y n) hs, rfl⟩
  · refine ⟨_, _, h1.objs.size, N, ts, Heap.get?_update_self _ (Heap.get?_push_of_some N x1) (Obj.isFreed_of_fields d3), Obj.cls_mapFields _ _, ?_, d3, by rw [Array.getElem?_setIfInBounds_ne (by decide)]; exact z0, by simp [big], b1.fresh, nw, ?_, hN, hN3⟩
    · obtain ⟨oc, odd, oda, osl⟩ := o
      simp only at fo
      subst fo
      rfl
    · rw [Heap.get?_update_other _ _ (Ne.symm nw)]
      exact Heap.get?_push_size h1 fN
  · obtain ⟨sl, hs⟩ := so.2.2 b u y
    exact ⟨sl, kp b _ (nf b u y n) hs⟩
theorem entry1 {o : Obj} {vs : Array Value} {head : Value} {had : Bool} (af : A.frames = some (env :: up)) (fr : s.heap.FunFrames bs (env :: up)) (ef : env.frame = some L) (ex : s.heap.get? x = some o) (st : bs.StaysIn s.heap) (nx : bs.get? x = none) (fo : o.data = .fields vs) (big : 1 < vs.size)
    (z0 : vs[0]? = some a0) (q : ∀ h', Noted bs (env :: up) x o.cls o.dict a0 (rawInt L) s.heap h' → Q () { s with heap := h' }) :
    wpAny M A (do let fa ← frameOf env; let pl ← entryPlaceOf L had; let en ← EntryCells.newEntry head fa .none (rawInt L) .none pl; setField (.ref x) 1 en) Q E s := by
  refine wpAny_bind (wpAny_frameOf_fun af fr ef fun h1 so => ?_)
  refine wpAny_bind (wpAny_entryPlaceOf fun pl hp => ?_)
  unfold EntryCells.newEntry newFields
  refine wpAny_bind (wpAny_newObj_type ?_ (hp.sizeOk5 _ _ _ _ _))
  have out : x ∉ (env :: up).filterMap (·.frame) := fun m => by
    obtain ⟨_, u, y, n⟩ := fr.mem m
    rw [ex] at y
    cases y
    exact n vs fo
  have x1 : h1.get? x = some o := (so.2.1 x out).trans ex
  refine wpAny_setField (Heap.get?_push_of_some _ x1) fo big (q _ (entry_done fr so ex st nx fo big z0 rfl ?_))
  first
    | (simp; done)
    | (rcases hp with rfl | ⟨_, _, _, _, _, _, _, rfl⟩ <;> simp)
theorem elder {T : Addr} {oT : Obj} {ts : Array Value} (e2 : s.heap.get? T = some oT) (f2 : oT.data = .fields ts) (nT : bs.get? T = none) (st : bs.StaysIn s.heap) (fr : s.heap.FunFrames bs l) :
    let h1 := s.heap.update T (Obj.mapFields (·.setIfInBounds 3 Value.none))
    (∀ b, b ≠ T → h1.get? b = s.heap.get? b) ∧ bs.StaysIn h1 ∧ h1.FunFrames bs l ∧ s.heap.UpToSlots h1 := by
  intro h1
  have oth : ∀ b, b ≠ T → h1.get? b = s.heap.get? b := fun b hb => Heap.get?_update_other _ _ (Ne.symm hb)
  have nf : ∀ b u, s.heap.get? b = some u → (∀ ws, u.data ≠ .fields ws) → b ≠ T := fun b u y n z => by
    subst z
    rw [e2] at y
    cases y
    exact n ts f2
  exact ⟨oth, fun b u y => (oth b fun z => by rw [z, nT] at y; cases y).trans (st b u y), fr.of_keeps fun b u y n => ⟨u, (oth b (nf b u y n)).trans y, rfl⟩, fun b u y n => ⟨u.slots, (oth b (nf b u y n)).trans y⟩⟩
theorem look1 (af : A.frames = some (env :: up)) (ef : env.frame = some L) (st : bs.StaysIn s.heap) (fr : s.heap.FunFrames bs (env :: up)) (nx : bs.get? x = none) (tr : TrD s.heap bs x c od a0 .none)
    (q : ∀ h', Noted bs (env :: up) x c od a0 (rawInt L) s.heap h' → Q () { s with heap := h' }) : wpAny M A (noteFrame (.ref x) env) Q E s := by
  obtain ⟨o, vs, T, oT, ts, e1, rfl, rfl, f1, z0, z1, nT, ne, e2, f2, z3⟩ := tr
  unfold noteFrame
  simp only [ef]
  refine wpAny_bind (wpAny_field e1 f1 z1 ?_)
  rw [if_pos (by simp)]
  refine wpAny_bind (wpAny_field e2 f2 z3 ?_)
  rw [if_neg (by simp [rawInt])]
  refine wpAny_bind (wpAny_setField e2 f2 (Array.getElem?_eq_some_iff.mp z3).1 ?_)
  obtain ⟨oth, st1, fr1, up1⟩ := elder e2 f2 nT st fr
  exact entry1 af fr1 ef ((oth x (Ne.symm ne)).trans e1) st1 nx f1 (Array.getElem?_eq_some_iff.mp z1).1 z0 fun h' n => q h' ⟨n.st, n.fr, n.tr, up1.trans n.up⟩
theorem leave1 (af : A.frames = some (env :: up)) (ef : env.frame = some L) (st : bs.StaysIn s.heap) (fr : s.heap.FunFrames bs (env :: up)) (nx : bs.get? x = none) (tr : TrD s.heap bs x c od a0 .none)
    (q : ∀ h', Noted bs up x c od a0 .none s.heap h' → Q () { s with heap := h' }) : wpAny M A (leaving env (.ref x)) Q E s := by
  unfold leaving
  refine wpAny_bind (look1 af ef st fr nx tr fun h1 n1 => ?_)
  exact flight0 n1.st n1.fr n1.tr fun h2 n2 => q h2 (n1.trans n2).tail
theorem leave0 {o : Obj} {vs : Array Value} (af : A.frames = some (env :: up)) (ef : env.frame = some L) (st : bs.StaysIn s.heap) (fr : s.heap.FunFrames bs (env :: up)) (nx : bs.get? x = none) (ex : s.heap.get? x = some o) (fo : o.data = .fields vs) (z0 : vs[0]? = some a0) (z1 : vs[1]? = some .none)
    (q : ∀ h', Noted bs up x o.cls o.dict a0 .none s.heap h' → Q () { s with heap := h' }) : wpAny M A (leaving env (.ref x)) Q E s := by
  unfold leaving
  refine wpAny_bind ?_
  unfold noteFrame
  simp only [ef]
  refine wpAny_bind (wpAny_field ex fo z1 ?_)
  rw [if_neg (by decide)]
  refine entry1 af fr ef ex st nx fo (Array.getElem?_eq_some_iff.mp z1).1 z0 fun h1 n1 => ?_
  exact flight0 n1.st n1.fr n1.tr fun h2 n2 => q h2 (n1.trans n2).tail
end
structure FlyAt (H : Hp) (h0 h : Heap) (x : Addr) (C : Value) (od : Option Addr) : Prop where
  new : h0.get? x = none
  free : H x = none
  tr : ∃ oe vs a0 T oT ts, h.get? x = some oe ∧ oe.cls = C ∧ oe.dict = od ∧ oe.data = .fields vs ∧ vs[0]? = some a0 ∧ vs[1]? = some (.ref T) ∧ h0.get? T = none ∧ H T = none ∧ T ≠ x ∧ h.get? T = some oT ∧ oT.data = .fields ts ∧ ts[3]? = some .none
noncomputable def CXE (P : Program) (w : World) : CXT := fun outer H s E e s' =>
  ∃ (x : Addr) (C : Value) (od : Option Addr) (H' : Hp), e = .ref x ∧ s'.os = s.os ∧ AllBare s'.gens ∧ Un (frs outer) [] H H' s.heap s'.heap ∧ HOk P w H' s'.heap ∧ FlyAt H' s.heap s'.heap x C od ∧ E C od H'
theorem passE0 {P : Program} {w : World} {X : Cx} : Passes (CXE P w) X E0 := fun _ _ _ _ _ _ _ h => by
  obtain ⟨_, _, _, _, _, _, _, _, _, _, q⟩ := h
  exact q.elim
theorem objOk_there {P : Program} {w : World} {H : Hp} {h : Heap} {a : Addr} {o : HO} (x : ObjOk P w H h a o) : ∃ ob, h.get? a = some ob := by
  cases o with
  | lst xs => obtain ⟨_, _, _, _, e⟩ := x; exact ⟨_, e⟩
  | tup xs => obtain ⟨_, _, _, p⟩ := x; obtain ⟨ob, e, _⟩ := p; exact ⟨ob, e⟩
  | dK kvs => obtain ⟨_, _, _, _, ob, _, _, e, _⟩ := x; exact ⟨ob, e⟩
  | dT kvs => obtain ⟨_, _, _, _, ob, _, _, e, _⟩ := x; exact ⟨ob, e⟩
  | set S n => obtain ⟨ob, _, _, _, e, _⟩ := x; exact ⟨ob, e⟩
  | ins C dx fs => obtain ⟨_, _, _, e, _⟩ := x; exact ⟨_, e⟩
  | own y => exact x
  | xd fs => obtain ⟨_, ⟨ob, _, _, e, _⟩, _⟩ := x; exact ⟨ob, e⟩
  | rng lo hi => obtain ⟨_, _, _, e⟩ := x; exact ⟨_, e⟩
  | frz ob u => obtain ⟨e, _⟩ := x; exact ⟨_, e⟩
  | tbl ps => exact ⟨_, (show h.get? a = some _ from x)⟩
  | met f y => exact ⟨_, (show h.get? a = some _ from x)⟩
  | ext φ => obtain ⟨_, e, _⟩ := x; exact e
theorem free_of_none {P : Program} {w : World} {H : Hp} {h : Heap} {a : Addr} (k : HOk P w H h) (e : h.get? a = none) : H a = none := by
  cases q : H a with
  | none => rfl
  | some o =>
    obtain ⟨ob, z⟩ := objOk_there (k a o q)
    rw [e] at z; cases z
structure Plain (X : Cx) : Prop where
  ex : X.ex = []
  stk : X.stack = X.env :: X.outer
  fr : X.env.frame = some X.env.locals
section
variable {X : Cx} {pins : List (Addr × Obj)} {σ : L2.St} {H : Hp} {s : Shared} {h' : Heap} {ch : List Addr}
theorem inStack (pl : Plain X) {b : Addr} (hb : b ∈ X.fs) : b ∈ frs X.stack := by
  rw [pl.stk]
  unfold frs
  rw [List.filterMap_cons, pl.fr]
  exact List.mem_cons_of_mem _ hb
theorem locInStack (pl : Plain X) : X.env.locals ∈ frs X.stack := by
  rw [pl.stk]
  unfold frs
  rw [List.filterMap_cons, pl.fr]
  exact List.mem_cons_self
theorem old_notStack (I : Inv X pins σ H s) {b : Addr} {o : Obj} (q : X.s₀.heap.get? b = some o) (hb : b ∉ X.fs) : b ∉ frs X.stack := fun z => by
  rcases List.mem_cons.mp (I.stkSub b z) with e | z
  · subst e
    exact absurd (Heap.lt_size q) (Nat.not_lt.mpr I.ok.above)
  · exact hb z
structure Flown (X : Cx) (H : Hp) (h h' : Heap) (ch : List Addr) : Prop where
  keep : ∀ b o, h.get? b = some o → b ∉ frs X.stack → b ∉ ch → h'.get? b = some o
  slot : ∀ b o, h.get? b = some o → b ∈ frs X.stack → ∃ sl, h'.get? b = some { o with slots := sl }
  young : ∀ b ∈ ch, X.s₀.heap.get? b = none ∧ H b = none
theorem Flown.un (pl : Plain X) (I : Inv X pins σ H s) (f : Flown X H s.heap h' ch) : Un X.fs [] X.H₀ H X.s₀.heap h' where
  keep := fun b o q n hb _ => f.keep b o (I.base.keep b o q n hb (by rw [pl.ex]; simp)) (old_notStack I q hb) fun z => by
    rw [(f.young b z).1] at q; cases q
  slot := fun b o q n hb _ => by
    obtain ⟨sl, e⟩ := I.base.slot b o q n hb (by rw [pl.ex]; simp)
    obtain ⟨sl', e'⟩ := f.slot b _ e (inStack pl hb)
    exact ⟨sl', e'⟩
  free := fun b o q n _ => I.base.free b o q n (by rw [pl.ex]; simp)
  there := fun b o q _ => by
    obtain ⟨o1, e1⟩ := I.base.there b o q (by rw [pl.ex]; simp)
    by_cases hb : b ∈ frs X.stack
    · obtain ⟨sl, e⟩ := f.slot b o1 e1 hb
      exact ⟨_, e⟩
    · exact ⟨o1, f.keep b o1 e1 hb fun z => by rw [(f.young b z).1] at q; cases q⟩
  tups := I.base.tups
  frzs := I.base.frzs
  tbls := I.base.tbls
theorem Flown.hok (I : Inv X pins σ H s) (f : Flown X H s.heap h' ch) : HOk X.prog X.w H h' := fun a o e => by
  have tr : ∀ b, H b ≠ none → b ∉ frs X.stack ∧ b ∉ ch := fun b hb => ⟨fun z => hb (I.stkFree b z), fun z => hb (f.young b z).2⟩
  refine (I.hok a o e).stay (fun b u hb ho => ?_) (fun _ z => z) fun _ _ z => z
  have nb : H b ≠ none := by
    rcases hb with z | z
    · subst z; rw [e]; exact fun q => nomatch q
    · rw [z]; exact fun q => nomatch q
  exact f.keep b u ho (tr b nb).1 (tr b nb).2
theorem Flown.cxe (pl : Plain X) (I : Inv X pins σ H s) (f : Flown X H s.heap h' ch) {x : Addr} {C : Value} {od : Option Addr} {E : XK} {s' : Shared} (hs : s'.heap = h') (ho : s'.os = s.os) (hg : AllBare s'.gens) (fl : FlyAt H X.s₀.heap h' x C od) (q : E C od H) :
    CXE X.prog X.w X.outer X.H₀ X.s₀ E (.ref x) s' := by
  subst hs
  exact ⟨x, C, od, H, rfl, ho.trans I.os, hg, f.un pl I, f.hok I, fl, q⟩
theorem old_of (pl : Plain X) (I : Inv X pins σ H s) {b : Addr} (e : s.heap.get? b = none) : X.s₀.heap.get? b = none := by
  cases q : X.s₀.heap.get? b with
  | none => rfl
  | some o =>
    obtain ⟨o1, z⟩ := I.base.there b o q (by rw [pl.ex]; simp)
    rw [e] at z; cases z
end
theorem frames_hid {X : Cx} {pins : List (Addr × Obj)} {σ : L2.St} {H : Hp} {s : Shared} (pl : Plain X) (I : Inv X pins σ H s) (l : List Addr) : s.heap.FunFrames (PySem.W.hideAll s.heap (l ++ frs X.stack)) (X.env :: X.outer) := by
  have st := I.stack
  rw [pl.stk] at st
  refine PySem.W.funFrames_hide st fun env he a ha => List.mem_append_right _ ?_
  rw [pl.stk]
  exact List.mem_filterMap.mpr ⟨env, he, ha⟩
theorem frame_nofields {X : Cx} {pins : List (Addr × Obj)} {σ : L2.St} {H : Hp} {s : Shared} (I : Inv X pins σ H s) {b : Addr} {o : Obj} (hb : b ∈ frs X.stack) (e : s.heap.get? b = some o) : ∀ vs, o.data ≠ .fields vs := by
  obtain ⟨_, o', e', n⟩ := I.stack.mem hb
  rw [e] at e'
  cases e'
  exact n
theorem leaves {X : Cx} {pins : List (Addr × Obj)} {σ : L2.St} {H : Hp} {s s' : Shared} {x : Addr} {C : Value} {od : Option Addr} {E : XK} (pl : Plain X) (I0 : Inv X pins σ H s) {H' : Hp} (I : Inv X pins σ H' s') (there : ∀ b o, s.heap.get? b = some o → ∃ o', s'.heap.get? b = some o')
    (fly : FlyAt H' s.heap s'.heap x C od) (q : E C od H') {Q : Unit → Shared → Prop} {R : Value → Shared → Prop} (hQ : ∀ s'', CXE X.prog X.w X.outer X.H₀ X.s₀ E (.ref x) s'' → Q () s'') :
    wpAny (model X.prog X.w) X.A (leaving X.env (.ref x)) Q R s' := by
  obtain ⟨new, free, oe, vs, a0, T, oT, ts, he, hcl, hdc, hd, h0, h1, hT0, hTf, hTx, hT, hdT, h3⟩ := fly
  have n0 := old_of pl I0 new
  have nT := old_of pl I0 hT0
  refine leave1 (bs := PySem.W.hideAll s'.heap ([x, T] ++ frs X.stack)) (up := X.outer) (by rw [I.ok.frames, pl.stk]) pl.fr (fun b o z => PySem.W.of_hideAll _ z) (frames_hid pl I _) (PySem.W.hideAll_none _ (by simp))
    ⟨oe, vs, T, oT, ts, he, hcl, hdc, hd, h0, h1, PySem.W.hideAll_none _ (by simp), hTx, hT, hdT, h3⟩ fun h' nt => hQ _ ?_
  have up := nt.up
  have F : Flown X H' s'.heap h' [x, T] := by
    refine ⟨fun b o ho hs hc => nt.st b o (PySem.W.hideAll_get _ ho fun z => ?_), fun b o ho hb => up b o ho (frame_nofields I hb ho), fun b hb => ?_⟩
    · rcases List.mem_append.mp z with z | z
      · exact hc z
      · exact hs z
    · simp only [List.mem_cons, List.not_mem_nil, or_false] at hb
      rcases hb with rfl | rfl
      · exact ⟨n0, free⟩
      · exact ⟨nT, hTf⟩
  refine F.cxe pl I rfl rfl I.bare ⟨n0, free, ?_⟩ q
  obtain ⟨oe', vs', T', oT', ts', he', hc', hdc', hd', h0', h1', hnT', hTe', hT', hdT', h3'⟩ := nt.tr
  refine ⟨oe', vs', a0, T', oT', ts', he', hc', hdc', hd', h0', h1', ?_, ?_, hTe', hT', hdT', h3'⟩
  all_goals
    cases z : s'.heap.get? T' with
    | none => first | exact old_of pl I z | exact free_of_none I.hok z
    | some o1 =>
      have hm : T' ∈ [x, T] ++ frs X.stack := Classical.byContradiction fun hm => by
        rw [PySem.W.hideAll_get _ z hm] at hnT'; cases hnT'
      rcases List.mem_append.mp hm with hm | hm
      · simp only [List.mem_cons, List.not_mem_nil, or_false] at hm
        rcases hm with rfl | rfl
        · exact absurd rfl hTe'
        · first | exact nT | exact hTf
      · obtain ⟨sl, e⟩ := up T' o1 z (frame_nofields I hm z)
        rw [e] at hT'
        cases hT'
        exact absurd hdT' (frame_nofields I hm z _)
noncomputable def Leaves (X : Cx) (E : XK) : Prop := ∀ (e : Value) (s' : Shared), (∀ Q : Unit → Shared → Prop, ∀ R : Value → Shared → Prop, (∀ s'', CXE X.prog X.w X.outer X.H₀ X.s₀ E e s'' → Q () s'') → wpAny (model X.prog X.w) X.A (leaving X.env e) Q R s') → X.xe e s'
theorem passL {X : Cx} {E : XK} (pl : Plain X) (L : Leaves X E) : Passes (CXE X.prog X.w) X E := by
  intro pins σ H s e s' I hc
  obtain ⟨x, C, od, H', rfl, os, bare, un, hok, fly, q⟩ := hc
  have I' : Inv X pins σ H' s' := I.call' (ch := []) os un hok bare (fun b hb => absurd hb (by simp))
  exact L _ _ fun Q R hQ => leaves pl I I' (fun b o z => un.there b o z (by simp)) fly q hQ
theorem plain_cxOf {CX : CXT} {P : Program} {w : World} {K : PySem.W.Frag} {mg : Str → Option Value} {base : Heap} {N : List Str} {qual : Str} {scope : Scope} {f : Addr} {cd : Value} {A : Around} {outer : List Env} {s : Shared} {H : Hp} {E : XK} :
    Plain (cxOf CX P w K mg base N qual scope f cd A outer s H E) := ⟨rfl, rfl, rfl⟩
theorem leaves_cxOf {P : Program} {w : World} {K : PySem.W.Frag} {mg : Str → Option Value} {base : Heap} {N : List Str} {qual : Str} {scope : Scope} {f : Addr} {cd : Value} {A : Around} {outer : List Env} {s : Shared} {H : Hp} {E : XK} :
    Leaves (cxOf (CXE P w) P w K mg base N qual scope f cd A outer s H E) E := fun _ _ h => h _ _ fun _ z => z
noncomputable abbrev bmV : List Value := [.type "ValueError", .type "Exception", .type "BaseException", .type "object"]
noncomputable abbrev ExcC (K : PySem.W.Frag) (C : Addr) : Prop := PySem.W.excIn K C bmV "ValueError.__new__" = true
theorem exc_obj {K : PySem.W.Frag} {h : Heap} {C : Addr} (X : K.In h) (q : ExcC K C) :
    ∃ bm N nm qn bs hdct sn sub ab col dd k0 k1 k2 k3 k5 mN, h.get? C = some (excClassObj nm qn C N bs bm hdct sn sub ab col dd k0 k1 k2 k3 k5 "ValueError.__new__") ∧ h.Ns N mN ∧ mN "__init__" = none ∧ OwnTail h bmV bm := by
  have q' : PySem.W.excIn K C bmV "ValueError.__new__" = true := q
  unfold PySem.W.excIn at q'
  cases hl : K.lookup C with
  | none => rw [hl] at q'; cases q'
  | some o =>
    rw [hl] at q'
    split at q'
    · rename_i dd cd sl eo
      cases eo
      split at q'
      · rename_i C' bm k0 k1 k2 k3 n k5 hm hs
        simp only [Bool.and_eq_true, beq_iff_eq, Bool.not_eq_true'] at q'
        obtain ⟨⟨⟨⟨⟨e1, e2⟩, e3⟩, e4⟩, e5⟩, e6⟩ := q'
        subst e1 e2
        cases cd with
        | mk nm bs mro ns qn hd sn sub ab col del =>
          simp only at hm e3 e5 e6
          subst hm e3
          cases sl with
          | mk sll =>
            simp only at hs
            subst hs
            exact ⟨bm, ns, nm, qn, bs, hd, sn, sub, ab, col, dd, k0, k1, k2, k3, k5, _, X _ _ hl, .of_isNs (PySem.W.isNs_of_in X e5), PySem.W.nsMap_none_of_in X e5 e6, PySem.W.tail_of_in X e4⟩
      · cases q'
    · cases q'
section
variable {X : Cx} {x : Str} {C : Addr} {E : XK} {e : Expr} {es : List Expr} {t : TA} {np cpos pos : Pos}
noncomputable def tRaise (C : Addr) (E : XK) (t : TA) : TS := fun _ σ H => t σ H fun vs H1 => vs.length ≤ sizeLine ∧ E (.ref C) none H1
theorem ps_raise (pl : Plain X) (L : Leaves X E) (hc : X.calm = true) (hg : Gl X x) (hm : X.mg x = some (.ref C)) (hC : ExcC X.K C) (ha : PA X (e :: es) t)
    (hd : (x == ("__debug__" : Str)) = false := by decide) (he : starEach (e :: es) X.env = (false, eval e X.env) :: starEach es X.env := by rfl) (hpl : (backTo cpos (starEach es X.env)).any (·.1) = false := by rfl) :
    PS X (.Raise (some (.Call (.Name x np) (e :: es) [] cpos)) none pos) (tRaise C E t) := by
  intro pins s σ H D I h
  obtain ⟨bm, N, nm, qn, bs, hdct, sn, sub, ab, col, dd, k0, k1, k2, k3, k5, mN, hO, hN, hni, TL⟩ := exc_obj I.mod.kin hC
  have hany : (backTo cpos (starEach (e :: es) X.env)).any (·.1) = false := by
    rw [he]
    show (false || (backTo cpos (starEach es X.env)).any (·.1)) = false
    rw [hpl]; rfl
  refine wpAny_Raise_call_subT (C := C) (nm := nm) (q := qn) (N := N) (bs := bs) (bm := bm) (hdct := hdct) (sn := sn) (sub := sub) (ab := ab) (col := col) (dd := dd) (k0 := k0) (k1 := k1) (k2 := k2) (k3 := k3) (k5 := k5)
    PySem.F.excBase_ValueError (mN := mN) (TL.hasType PySem.F.excBase_ValueError.hasBase) (I.ok.hd hc) hany hni (ld_glob I hg hm ⟨rfl, ?_⟩ hd)
  have hargs := ha cpos pins s σ H _ I h
  rw [he] at hargs ⊢
  refine Calls.evalArgs_plain (thn hargs fun us s2 ⟨vs, H2, I2, r, hz, q⟩ => ⟨rfl, by rw [← r.length]; exact hz, I2.bk _ _ hO, hN.keeps I2.bk, TL.keeps I2.bk, fun h' ex hx => ?_⟩)
  refine L _ _ fun Q R hQ => ?_
  obtain ⟨tq, htq, htn, ht⟩ := hx.there
  refine leave0 (bs := PySem.W.hideAll s2.heap ([] ++ frs X.stack)) (up := X.outer) (by rw [I2.ok.frames, pl.stk]) pl.fr (fun b o z => hx.keeps b o (PySem.W.of_hideAll _ z)) ((frames_hid pl I2 _).of_keeps fun b o hb _ => ⟨o, hx.keeps b o hb, rfl⟩) ?_ htq rfl rfl rfl fun h'' nt => hQ _ ?_
  · cases z : (PySem.W.hideAll s2.heap ([] ++ frs X.stack)).get? ex with
    | none => rfl
    | some o =>
      have y := PySem.W.of_hideAll _ z
      rw [hx.new] at y
      cases y
  have up := nt.up
  have F : Flown X H2 s2.heap h'' [] := by
    refine ⟨fun b o ho hs _ => nt.st b o (PySem.W.hideAll_get _ ho hs), fun b o ho hb => ?_, fun b hb => absurd hb (by simp)⟩
    exact up b o (hx.keeps b o ho) (frame_nofields I2 hb ho)
  refine F.cxe pl I2 rfl rfl I2.bare ⟨old_of pl I2 hx.new, free_of_none I2.hok hx.new, ?_⟩ q
  obtain ⟨oe', vs', T', oT', ts', he', hc', hdc', hd', h0', h1', hnT', hTe', hT', hdT', h3'⟩ := nt.tr
  refine ⟨oe', vs', _, T', oT', ts', he', hc', hdc', hd', h0', h1', ?_, ?_, hTe', hT', hdT', h3'⟩
  all_goals
    cases z : s2.heap.get? T' with
    | none => first | exact old_of pl I2 z | exact free_of_none I2.hok z
    | some o1 =>
      have hmm : T' ∈ [] ++ frs X.stack := Classical.byContradiction fun hmm => by
        rw [PySem.W.hideAll_get _ z hmm] at hnT'; cases hnT'
      have hmm' : T' ∈ frs X.stack := hmm
      obtain ⟨sl, ee⟩ := up T' o1 (hx.keeps _ _ z) (frame_nofields I2 hmm' z)
      rw [ee] at hT'
      cases hT'
      exact absurd hdT' (frame_nofields I2 hmm' z _)
end
structure Fu (K : PySem.W.Frag) (x : Str) (st : Stmt) (f : Addr) (fd : FuncData) : Prop where
  ex : ∃ (oc : Value) (od : Option Addr) (dV kV doc pm : Value) (an : Option Addr) (cdv ct : Value) (osl : Array (Option Value)),
    fd = PySem.W.fnOf x x (defArgs st) (defBody st) (defScope st) dV kV doc pm an cdv ct ∧ K.lookup f = some ⟨oc, od, .func fd, osl⟩ ∧ PySem.W.codeIn K cdv x = true
  kp : PySem.W.keepIn K (.ref f) = true
structure Df (K : PySem.W.Frag) (mg : Str → Option Value) (x : Str) (st : Stmt) (ps : List Str) : Prop where
  ex : ∃ f fd, Fu K x st f fd ∧ Binds K fd ps [] ∧ mg x = some (.ref f)
structure Fn (P : Program) (w : World) (K : PySem.W.Frag) (mg : Str → Option Value) (base : Heap) (k : Nat) (x : Str) (ps : List Str) (sp : Sp) : Prop where
  ex : ∃ f fd, FnOk P w K mg base (CXE P w) k f fd ps sp ∧ mg x = some (.ref f) ∧ PySem.W.keepIn K (.ref f) = true ∧ Binds K fd ps [] ∧ ∃ oc od osl, K.lookup f = some ⟨oc, od, .func fd, osl⟩
section
variable {P : Program} {w : World} {K : PySem.W.Frag} {mg : Str → Option Value} {base : Heap} {x : Str} {st : Stmt} {N ps : List Str} {k : Nat} {sp : Sp}
theorem Df.ok0 (D : Df K mg x st ps) (S : FnScope N ps (defScope st)) (len : ∀ vs H Q E, sp vs H Q E → vs.length = ps.length)
    (hbody : ∀ (f : Addr) (cdv : Value) (A : Around) (outer : List Env) (s : Shared) (H : Hp) (vs : List V) (Q : VK) (E : XK), Room k (A.deeper (envOfC x (defScope st) s.heap.objs.size f cdv)) → sp vs H Q E →
      ∃ t, PSs (cxOf (CXE P w) P w K mg base N x (defScope st) f cdv A outer s H E).nox (defBody st) t ∧ t { nx := fun _ H' => Q .non H', rt := Q } (start N vs) H) : Fn P w K mg base (k + 1) x ps sp := by
  obtain ⟨f, fd, ⟨⟨oc, od, dV, kV, doc, pm, an, cdv, ct, osl, rfl, lk, hcd⟩, kp⟩, bd, hm⟩ := D.ex
  refine ⟨f, _, fn_of lk hcd S len fun A outer s H vs Q E hr hsp => ?_, hm, kp, bd, _, _, _, lk⟩
  obtain ⟨t, h, q⟩ := hbody f cdv A outer s H vs Q E hr hsp
  exact ⟨t, h.nox, q⟩
theorem Df.okX (D : Df K mg x st ps) (S : FnScope N ps (defScope st)) (len : ∀ vs H Q E, sp vs H Q E → vs.length = ps.length)
    (hbody : ∀ (f : Addr) (cdv : Value) (A : Around) (outer : List Env) (s : Shared) (H : Hp) (vs : List V) (Q : VK) (E : XK), Room k (A.deeper (envOfC x (defScope st) s.heap.objs.size f cdv)) → sp vs H Q E →
      ∃ t, PSs (cxOf (CXE P w) P w K mg base N x (defScope st) f cdv A outer s H E) (defBody st) t ∧ t { nx := fun _ H' => Q .non H', rt := Q } (start N vs) H) : Fn P w K mg base (k + 1) x ps sp := by
  obtain ⟨f, fd, ⟨⟨oc, od, dV, kV, doc, pm, an, cdv, ct, osl, rfl, lk, hcd⟩, kp⟩, bd, hm⟩ := D.ex
  exact ⟨f, _, fn_of lk hcd S len fun A outer s H vs Q E hr hsp => hbody f cdv A outer s H vs Q E hr hsp, hm, kp, bd, _, _, _, lk⟩
end
section
variable {X : Cx} {k k' : Nat} {x : Str} {ps : List Str} {sp : Sp} {E : XK} {p pos : Pos} {e : Expr} {es : List Expr} {t : TA}
theorem pe_fn (F : Fn X.prog X.w X.K X.mg X.base k x ps sp) (hk : k ≤ k') (hr : Room k' X.A) (hg : Gl X x) (hx : Passes (CXE X.prog X.w) X E) (ha : PA X (e :: es) t) (hdb : (x == ("__debug__" : Str)) = false := by decide)
    (he : starEach (e :: es) X.env = (false, eval e X.env) :: starEach es X.env := by rfl) (hpl : (backTo pos (starEach es X.env)).any (·.1) = false := by rfl) : PE X (.Call (.Name x p) (e :: es) [] pos) (tCall sp [] E t) := by
  obtain ⟨f, fd, G, hm, kp, bd, _⟩ := F.ex
  exact pe_call G (hr.mono hk) hg hm kp bd .nil hx ha hdb he hpl
end
noncomputable def Bd (n : Nat) (i : Int) : Prop := i.natAbs < 2 ^ n
theorem Bd.mono {m n : Nat} {i : Int} (h : Bd m i) (l : m ≤ n) : Bd n i := Nat.lt_of_lt_of_le h (Nat.pow_le_pow_right (by decide) l)
theorem Bd.of_le {n : Nat} {i j : Int} (h : Bd n j) (l : i.natAbs ≤ j.natAbs) : Bd n i := Nat.lt_of_le_of_lt l h
theorem Bd.bits {n : Nat} {i : Int} (h : Bd n i) : Builtin.Int.intBits i ≤ n := intBits_le_iff.mpr h
theorem bd_bits {n : Nat} {i : Int} (h : Builtin.Int.intBits i ≤ n) : Bd n i := intBits_le_iff.mp h
theorem Bd.mul {m n : Nat} {i j : Int} (h : Bd m i) (g : Bd n j) : Bd (m + n) (i * j) := bd_bits (intBits_mul_le h.bits g.bits)
theorem Bd.add {m : Nat} {i j : Int} (h : Bd m i) (g : Bd m j) : Bd (m + 1) (i + j) := bd_bits (Nat.le_trans (intBits_add_le h.bits g.bits) (by omega))
theorem Bd.sub {m : Nat} {i j : Int} (h : Bd m i) (g : Bd m j) : Bd (m + 1) (i - j) := bd_bits (Nat.le_trans (intBits_sub_le h.bits g.bits) (by omega))
theorem Bd.ok {m n : Nat} {i j : Int} (h : Bd m i) (g : Bd n j) (l : m + n ≤ 134217728) : IntMulOk i j := .of_le h.bits g.bits l
theorem Bd.small {i : Int} (h1 : -(2 ^ 64) < i) (h2 : i < 2 ^ 64) : Bd 64 i := bd_bits (intBits_le_64 h1 h2)
theorem Bd.log {i : Int} (h : Bd 9000 i) : i.natAbs.log2 < 9000 := by
  by_cases h0 : i.natAbs = 0
  · rw [h0]; decide +kernel
  · exact (Nat.log2_lt h0).mpr h
theorem mulOk_small {i j : Int} (h1 : -(2 ^ 64) < j) (h2 : j < 2 ^ 64) : IntMulOk i j := .of_right (intBits_le_64 h1 h2)
theorem mulOk_smallL {i j : Int} (h1 : -(2 ^ 64) < i) (h2 : i < 2 ^ 64) : IntMulOk i j := .of_left (intBits_le_64 h1 h2)
theorem bd_fT {n : Nat} {t b : Int} (h : b ≠ 0) (g : Bd n t) : Bd n (fT t b) := g.of_le (fT_le h)
theorem bd_fB {n : Nat} {t b : Int} (h : b ≠ 0) (g : Bd n b) : Bd n (fB t b) := g.of_le (fB_le h)
theorem bd_dv {n : Nat} {t b : Int} (h : b ≠ 0) (g : Bd n b) : Bd n (dv t b) := g.of_le (dv_le h)
section
variable {K : PySem.W.Frag}
theorem kit_int_int : PySem.W.kitOne K (.type "int") (.type "int") = some true := by with_unfolding_all rfl
theorem kit_int_bool : PySem.W.kitOne K (.type "int") (.type "bool") = some false := by with_unfolding_all rfl
theorem kit_tup_tup : PySem.W.kitOne K (.type "tuple") (.type "tuple") = some true := by with_unfolding_all rfl
theorem kit_bl_bl : PySem.W.kitOne K (.type "bool") (.type "bool") = some true := by with_unfolding_all rfl
end
noncomputable def spWhole (K : PySem.W.Frag) : Sp := fun vs H Q _ => ∃ x t b1 b2, vs = [x] ∧ TyOf K H x t ∧ PySem.W.kitOne K t (.type "int") = some b1 ∧ PySem.W.kitOne K t (.type "bool") = some b2 ∧ Q (.bl (b1 && !b2)) H
noncomputable def Frac (t b : Int) (H : Hp) (Q : VK) : Prop := ∀ p H', Same H H' → H' p = some (.tup [.int (fT t b), .int (fB t b)]) → Q (.ref p) H'
noncomputable def Scr (K : PySem.W.Frag) (H : Hp) (a : Addr) : Prop := ∃ ns : List Int, SqL K H a (ns.map V.int) ∧ ns.length ≤ 63 ∧ ∀ n ∈ ns, Bd 1048576 n
noncomputable def spCell (K : PySem.W.Frag) : Sp := fun vs H Q _ => ∃ a k, vs = [.ref a, .int k] ∧ Scr K H a ∧ 0 ≤ k ∧ k ≤ 1000 ∧ ∀ c, Bd 1048576 c → Q (.int c) H
noncomputable def spMix : Sp := fun vs H Q _ => ∃ c k, vs = [.int c, .int k] ∧ Bd 1048576 c ∧ 0 ≤ k ∧ k ≤ 1000 ∧ ∀ n, Q (.int n) H
noncomputable def spBox (K : PySem.W.Frag) : Sp := fun vs H Q _ => ∃ a k, vs = [.ref a, .int k] ∧ Scr K H a ∧ 0 ≤ k ∧ k ≤ 1000 ∧ ∀ p n H', H p = none → Same H H' → H' p = some (.lst [.int n]) → Q (.ref p) H'
noncomputable def spTake : Sp := fun vs H Q _ => ∃ b m n, vs = [.ref b, .int m] ∧ H b = some (.lst [.int n]) ∧ 0 < m ∧ Bd 9000 m ∧ ∀ d n' H', 0 ≤ d → d < m → But b H H' → H' b = some (.lst [.int n']) → Q (.int d) H'
noncomputable def spFit : Sp := fun vs H Q _ => ∃ a b : Int, vs = [.int a, .int b] ∧ b ≠ 0 ∧ Bd 9000 b ∧ Frac a b H Q
noncomputable def ExcIs (x : Addr) (C : Value) (h : Heap) : Prop := ∃ o vs, h.get? x = some o ∧ o.cls = C ∧ o.data = .fields vs
section
variable {X : Cx} {pins : List (Addr × Obj)} {σ : L2.St} {H : Hp} {s : Shared} {h' : Heap} {ch : List Addr} {x : Addr}
theorem Flown.inv (pl : Plain X) (hcell : X.env.cells = []) (I : Inv X pins σ H s) (f : Flown X H s.heap h' ch) (np : ∀ p ∈ X.pn ++ pins, p.1 ∉ ch) {s' : Shared} (hs : s'.heap = h') (ho : s'.os = s.os) (hg : AllBare s'.gens) : Inv X pins σ H s' := by
  subst hs
  refine ⟨I.ok, ho.trans I.os, hg, ?_, ?_, fun x c z => ?_, I.free, I.freeC, fun p hp => ?_, f.hok I, I.len⟩
  · have u := f.un pl I
    rw [pl.ex]
    exact u
  · obtain ⟨m, hn, hl⟩ := I.loc
    obtain ⟨o, es, ep, e1, e2, e3⟩ := hn
    obtain ⟨sl, e4⟩ := f.slot _ o e1 (locInStack pl)
    refine ⟨m, ⟨_, es, ep, e4, e2, e3⟩, fun i x v a b c => ?_⟩
    obtain ⟨u, r, lk⟩ := hl i x v a b c
    refine ⟨u, r, ?_⟩
    rcases lk with lk | ⟨_, c', lk, _⟩
    · exact .inl lk
    · rw [hcell] at lk
      cases lk
  · rw [hcell] at z
    cases z
  · obtain ⟨a, b, c, d, e⟩ := I.pin p hp
    refine ⟨f.keep _ _ a (fun z => ?_) (np p hp), b, c, d, e⟩
    rcases List.mem_cons.mp (I.stkSub _ z) with q | q
    · exact c q
    · exact d q
theorem Inv.adopt (hcl : ∀ y c, X.env.cells.lookup y = some c → c ≠ x)   {o : HO} (I : Inv X pins σ H s) (n0 : X.s₀.heap.get? x = none) (hx : H x = none) (hL : x ≠ X.env.locals) (np : ∀ p ∈ X.pn ++ pins, p.1 ≠ x) (ok : ObjOk X.prog X.w (upd H x o) s.heap x o) :
    Inv X pins σ (upd H x o) s := by
  have nx : ∀ b, H b ≠ none → b ≠ x := fun b hb z => hb (by rw [z]; exact hx)
  refine ⟨I.ok, I.os, I.bare, ⟨I.base.keep, I.base.slot, fun b ob q n hb => ?_, I.base.there, fun b xs q => ?_, fun b ob u q => ?_, fun b ps q => ?_⟩, I.loc, I.cell, ?_, fun y c z => ?_, fun p hp => ?_, fun a u e => ?_, I.len⟩
  · rw [upd_ne fun z => by rw [z, n0] at q; cases q]
    exact I.base.free b ob q n hb
  · have z := I.base.tups b xs q
    rw [upd_ne (nx b (by rw [z]; exact fun q => nomatch q))]
    exact z
  · have z := I.base.frzs b ob u q
    rw [upd_ne (nx b (by rw [z]; exact fun q => nomatch q))]
    exact z
  · obtain ⟨more, z⟩ := I.base.tbls b ps q
    exact ⟨more, by rw [upd_ne (nx b (by rw [z]; exact fun q => nomatch q))]; exact z⟩
  · rw [upd_ne (Ne.symm hL)]
    exact I.free
  · rw [upd_ne (hcl y c z)]
    exact I.freeC y c z
  · obtain ⟨a, b, c, d, e⟩ := I.pin p hp
    exact ⟨a, by rw [upd_ne (np p hp)]; exact b, c, d, e⟩
  · by_cases z : a = x
    · subst z
      rw [upd_same] at e
      cases e
      exact ok
    · rw [upd_ne z] at e
      refine (I.hok a u e).stay (fun b v hb q => q) (fun b q => ?_) fun b xs q => ?_
      · rw [upd_ne (nx b (by rw [q]; exact fun q => nomatch q))]
        exact q
      · rw [upd_ne (nx b (by rw [q]; exact fun q => nomatch q))]
        exact q
end
noncomputable def sut (X : Cx) (x : Addr) : Cx := { X with A := X.A.mark (some (.ref x)), calm := false, xe := fun _ _ => False }
theorem Inv.sut {X : Cx} {pins : List (Addr × Obj)} {σ : L2.St} {H : Hp} {s : Shared} (I : Inv X pins σ H s) (x : Addr) : Inv (sut X x) pins σ H s := by
  obtain ⟨ok, r1, r2, r3, r4, r5, r6, r7, r8, r9, r10⟩ := I
  obtain ⟨a1, a2, a3, a4, a5, a6, a7, a8, a9, a10, a11, a12, a13, a14, a15, a16, a17, a18⟩ := ok
  exact ⟨⟨a1, a2, a3, a4, a5, a6, a7, a8, (fun z => nomatch z), a10, a11, a12, a13, a14, a15, a16, a17, a18⟩, r1, r2, r3, r4, r5, r6, r7, r8, r9, r10⟩
theorem Inv.unsut {X : Cx} {pins : List (Addr × Obj)} {σ : L2.St} {H : Hp} {s : Shared} {x : Addr} (ok : X.Ok) (I : Inv (Kw.sut X x) pins σ H s) : Inv X pins σ H s := by
  obtain ⟨_, r1, r2, r3, r4, r5, r6, r7, r8, r9, r10⟩ := I
  exact ⟨ok, r1, r2, r3, r4, r5, r6, r7, r8, r9, r10⟩
section
variable {X : Cx} {pins : List (Addr × Obj)} {σ : L2.St} {H : Hp} {s : Shared}
theorem Inv.forget (pl : Plain X) (hcell : X.env.cells = []) (I : Inv X pins σ H s) {h' : Heap} {m' : Str → Option Value} {tk : Nat} (hn : h'.Ns X.env.locals m') (sb : Heap.SameBut X.env.locals s.heap h') :
    Inv X pins (List.replicate X.N.length none) H { s with heap := h', toks := tk } := by
  have kp : ∀ b, b ≠ X.env.locals → h'.get? b = s.heap.get? b := fun b hb => sb.2 b hb
  have old : ∀ b o, X.s₀.heap.get? b = some o → b ≠ X.env.locals := fun b o q z => by
    subst z
    exact absurd (Heap.lt_size q) (Nat.not_lt.mpr I.ok.above)
  refine ⟨I.ok, I.os, I.bare, ⟨fun b o q n a c => ?_, fun b o q n a c => ?_, I.base.free, fun b o q c => ?_, I.base.tups, I.base.frzs, I.base.tbls⟩, ⟨m', hn, fun i x v a b c => ?_⟩, fun x c z => ?_, I.free, I.freeC, fun p hp => ?_, fun a o e => ?_, by simp⟩
  · exact (kp b (old b o q)).trans (I.base.keep b o q n a c)
  · obtain ⟨sl, z⟩ := I.base.slot b o q n a c
    exact ⟨sl, (kp b (old b o q)).trans z⟩
  · obtain ⟨o', z⟩ := I.base.there b o q c
    exact ⟨o', (kp b (old b o q)).trans z⟩
  · exfalso
    rw [List.getElem?_replicate] at b
    split at b <;> cases b
  · rw [hcell] at z
    cases z
  · obtain ⟨a, b, c, d, e⟩ := I.pin p hp
    exact ⟨(kp _ c).trans a, b, c, d, e⟩
  · refine (I.hok a o e).stay (fun b u hb ho => ?_) (fun _ z => z) fun _ _ z => z
    have nb : b ≠ X.env.locals := fun z => by
      subst z
      rcases hb with q | q
      · rw [← q, I.free] at e; cases e
      · rw [I.free] at q; cases q
    exact (kp b nb).trans ho
end
section
variable {X : Cx} {k k' i j : Nat} {fx y n xK : Str} {ps : List Str} {sp : Sp} {CK : Addr} {e : Expr} {es : List Expr} {t : TA} {ts : TS} {b₀ : Stmt} {suite : List Stmt} {np cpos yp apos kp hpos pos : Pos}
end
theorem exc_ty {x : Addr} {C : Value} (M : Model) (h : Heap) (p : ExcIs x C h) : PySem.W.Looks M h (typeOf (.ref x)) C := by
  obtain ⟨o, vs, a, b, _⟩ := p
  exact b ▸ (PySem.W.Looks.ld a).andThen .now
section
variable {X : Cx}
end
section
variable {X : Cx} {pins : List (Addr × Obj)} {σ : L2.St} {H : Hp} {s : Shared} {h' : Heap} {ch : List Addr}
theorem Inv.turnedL {t' : Nat} (I : Inv X pins σ H s) (k : ∀ b o, b ∉ ch → s.heap.get? b = some o → h'.get? b = some o) (hf : ∀ b ∈ ch, FpOk X pins H b) : Inv X pins σ H { s with heap := h', toks := t' } := by
  have nit : ∀ b u, H b = some u → b ∉ ch := fun b u e z => by rw [(hf b z).1] at e; cases e
  refine I.step (g' := s.gens) (d' := s.drawn) (ch := ch) (fun b hb => ?_) (fun b o _ _ hc e _ => k b o hc e) (fun b o _ _ hc e _ => ⟨o.slots, k b o hc e⟩) (fun _ _ _ _ n => n) (fun b o hc e => ⟨o, k b o hc e⟩) (fun _ _ e => e) (fun _ _ _ e => e)
    (fun b ps e => ⟨#[], by rw [e]; simp⟩) (fun m hm => ?_) (fun b u e => ?_) I.bare
  · obtain ⟨_, f1, _, f3, f4, f5⟩ := hf b hb
    exact ⟨f3, f1, f4, f5⟩
  · obtain ⟨o, es, ep, ho, r⟩ := hm
    exact ⟨o, es, ep, k _ o (fun z => (hf _ z).2.1 rfl) ho, r⟩
  · refine (I.hok b u e).stay (fun c v hc q => k c v ?_ q) (fun _ q => q) fun _ _ q => q
    rcases hc with z | z
    · rw [z]; exact nit b u e
    · exact nit c _ z
end
section
variable {X : Cx}
theorem all_range_eq : ∀ (ns ms : List Int), ((List.range (min ns.length ms.length)).all (fun j => decide (ns[j]? = ms[j]?)) && ns.length == ms.length) = decide (ns = ms) := by
  intro ns ms
  by_cases e : ns = ms
  · subst e
    rw [decide_eq_true rfl, Bool.and_eq_true]
    exact ⟨List.all_eq_true.mpr fun j _ => decide_eq_true rfl, beq_self_eq_true _⟩
  · rw [decide_eq_false e, Bool.and_eq_false_iff]
    by_cases l : ns.length = ms.length
    · left
      refine Bool.eq_false_iff.mpr fun h => e (List.ext_getElem? fun i => ?_)
      by_cases hi : i < ns.length
      · exact of_decide_eq_true (List.all_eq_true.mp h i (List.mem_range.mpr (by omega)))
      · rw [List.getElem?_eq_none (by omega), List.getElem?_eq_none (by omega)]
    · right
      exact beq_eq_false_iff_ne.mpr l
theorem int_item {ns : List Int} {its : List Value} (r : Vals (ns.map V.int) its) {j : Nat} (h : j < its.toArray.size) : ∃ n t, ns[j]? = some n ∧ its.toArray[j] = Value.int n t := by
  have hl := r.length
  rw [List.length_map] at hl
  have hj : j < ns.length := by simp at h; omega
  have e : (ns.map V.int)[j]? = some (V.int ns[j]) := by rw [List.getElem?_map, List.getElem?_eq_getElem hj]; rfl
  obtain ⟨u, hu, t, rfl⟩ := r.get e
  refine ⟨ns[j], t, List.getElem?_eq_getElem hj, ?_⟩
  have hj' : j < its.length := by omega
  rw [List.getElem?_eq_getElem hj'] at hu
  simpa using Option.some.inj hu
theorem op_eqTI (hu : X.A.units < cLine) : OpR X (compareOp .Eq) (fun x y H Q => ∃ (a b : Addr) (ns ms : List Int), x = .ref a ∧ y = .ref b ∧ SqT X.K H a (ns.map V.int) ∧ SqT X.K H b (ms.map V.int) ∧ Q (.bl (decide (ns = ms))) H) := by
  intro pins s σ H x y v u Q I rx ry h
  obtain ⟨a, b, ns, ms, rfl, rfl, ha, hb, q⟩ := h
  cases (show v = Value.ref a from rx)
  cases (show u = Value.ref b from ry)
  obtain ⟨its, r, pl, hz⟩ := I.tuple ha
  obtain ⟨jts, r', pl', hz'⟩ := I.tuple hb
  refine SeqAt.eq_tupleAt (e := fun j => decide (ns[j]? = ms[j]?)) pl pl' hu (fun j h1 h2 => ?_) ?_
  · obtain ⟨n, t, e1, e2⟩ := int_item r h1
    obtain ⟨m, t', e3, e4⟩ := int_item r' h2
    rw [e2, e4, e1, e3]
    have z : decide (some n = some m) = (n == m) := by
      by_cases c : n = m
      · subst c; simp
      · simp [c]
    rw [z]
    exact SeqAt.EqAt.int_int n t m t'
  · have l1 : its.toArray.size = ns.length := by rw [List.size_toArray, ← r.length, List.length_map]
    have l2 : jts.toArray.size = ms.length := by rw [List.size_toArray, ← r'.length, List.length_map]
    rw [l1, l2, all_range_eq]
    exact ⟨.bl (decide (ns = ms)), H, I, rfl, q⟩
end
theorem weight_items : ∀ (ns : List Int) (n : Int), n ∈ ns → Builtin.Int.intBits n ≤ PySem.W.WData.weightAll (ns.map PySem.W.WData.int)
  | [], _, h => nomatch h
  | m :: r, n, h => by
    have e : PySem.W.WData.weightAll ((m :: r).map PySem.W.WData.int) = Builtin.Int.intBits m + 1 + PySem.W.WData.weightAll (r.map PySem.W.WData.int) := rfl
    rw [e]
    rcases List.mem_cons.mp h with z | z
    · subst z; omega
    · have := weight_items r n z
      omega
theorem script_bits {ns : List Int} (h : PySem.W.WData.layableAll [PySem.W.WData.list (ns.map PySem.W.WData.int)] = true) : ∀ n ∈ ns, Bd 1048576 n := fun n hn => by
  have h1 : PySem.W.WData.layable (PySem.W.WData.list (ns.map PySem.W.WData.int)) = true := by
    unfold PySem.W.WData.layableAll at h
    simpa using h
  unfold PySem.W.WData.layable at h1
  rw [Bool.and_eq_true] at h1
  have h2 : PySem.W.WData.weightAll (ns.map PySem.W.WData.int) ≤ 2 ^ 20 := of_decide_eq_true h1.2
  exact bd_bits (Nat.le_trans (weight_items ns n hn) h2)
noncomputable def spLaw (K : PySem.W.Frag) : Sp := fun vs H Q _ => ∃ a, vs = [.ref a] ∧ Scr K H a ∧ ∀ H', Q (.bl true) H'
theorem walk_kw {pn : Str} {l : PySem.W.OpenLaw} {k : Nat} {q : Program} {loose : List Str} {XP : (Str → Option Value) → Heap → Prop} {YP : World → Heap → Prop} {d : DefRec} {K : Params → PySem.W.Frag}
    (hn : l.most = some 63) (hdf : d.params.defaults = []) (hr : Room k callerA) (hY : ∀ (w : World) (h : Heap), YP w h → (K w.params).In h) (hnm : d.name = "law")
    (F : ∀ (w : World) (mg : Str → Option Value) (h : Heap), (K w.params).In h → h.Ns mainGlobals mg → ∃ fa, mg "law" = some (.ref fa) ∧ ∃ fd : FuncData, (∀ (s : Shared) (u : Value), BindsTo s fd ⟨[u], []⟩ [(pn, u)]) ∧
      ∀ base : Heap, (K w.params).In base → base.Ns mainGlobals mg → FnOk l.prog w (K w.params) mg base (CXE l.prog w) k fa fd [pn] (spLaw (K w.params))) :
    PySem.W.WalkO q loose XP YP l.row.toRowW d [] (fun f vs => PySem.call f vs) := by
  intro w s₀ s₁ mg mb G Y fa o pm cd doc dV kV ho hd hcd hD hmg hg args vals as hpre hlay hrd hwl hlo
  obtain ⟨a, vs, ns, e1, e2, hobj, hints, hlen⟩ := Att.script_of hn hpre hwl
  subst e1 e2
  have KX := hY w _ Y
  obtain ⟨fa', hfa, fd, hb, hF⟩ := F w mg _ KX G.T.g
  rw [hnm, hfa] at hmg
  cases hmg
  have core := law_call KX G.T.g G.T.b G.T.builtins G.T.nolimit hg hobj hints (Nat.le_trans hlen (by decide)) hr hF hb (fun H hO hS => ⟨a, rfl, ⟨ns, hS, hlen, script_bits hlay⟩, fun _ => rfl⟩) (fun H e s' z => by
    obtain ⟨_, _, _, _, _, _, _, _, _, _, z⟩ := z
    exact z)
  refine PySem.W.enter_call (codeAny_mono core fun r s' hq => ?_)
  obtain ⟨rfl, h2, h3, h4⟩ := hq
  exact ⟨.inl ⟨.bool true, .bool true, [], rfl, fun _ => rfl, .bool true, Att.post_true l _, fun _ => ⟨List.Pairwise.nil, fun _ hm => (nomatch hm)⟩⟩, h2, h3, h4⟩
theorem pe_cls {X : Cx} {x : Str} {C : Addr} {pos : Pos} (hg : Gl X x) (hm : X.mg x = some (.ref C)) (hd : (x == ("__debug__" : Str)) = false := by decide) : PE X (.Name x pos) (tC (.ref C)) := pe_glob hg hm (v := .ref C) rfl hd
theorem plain_nox {CX : CXT} {P : Program} {w : World} {K : PySem.W.Frag} {mg : Str → Option Value} {base : Heap} {N : List Str} {qual : Str} {scope : Scope} {f : Addr} {cd : Value} {A : Around} {outer : List Env} {s : Shared} {H : Hp} {E : XK} :
    Plain (cxOf CX P w K mg base N qual scope f cd A outer s H E).nox := ⟨rfl, rfl, rfl⟩
theorem df_mk {K : PySem.W.Frag} {h : Heap} {mg : Str → Option Value} {x : Str} {st : Stmt} {ps : List Str} {f : Addr} {od an : Option Addr} {sl : Array (Option Value)} {oc kV dc pm cd ct : Value} (X : K.In h) (G : h.Ns mainGlobals mg)
    (a : PySem.W.nsIn K mainGlobals x = some (some (.ref f))) (l : K.lookup f = some ⟨oc, od, .func (PySem.W.fnOf x x (defArgs st) (defBody st) (defScope st) .none kV dc pm an cd ct), sl⟩) (c : PySem.W.codeIn K cd x = true) (k : PySem.W.keepIn K (.ref f) = true)
    (b : ∀ us : List Value, us.length = ps.length → bindArgs (PySem.W.fnOf x x (defArgs st) (defBody st) (defScope st) .none kV dc pm an cd ct) ⟨us, []⟩ = pure (ps.zip us)) : Df K mg x st ps :=
  ⟨f, _, ⟨⟨oc, od, .none, kV, dc, pm, an, cd, ct, sl, rfl, l, c⟩, k⟩, .all b, PySem.W.mg_of X G a⟩
theorem df_mkD {K : PySem.W.Frag} {h : Heap} {mg : Str → Option Value} {x : Str} {st : Stmt} {ps : List Str} {f D : Addr} {od an oD : Option Addr} {sl slD : Array (Option Value)} {oc kV dc pm cd ct cD : Value} {items : Array Value} {n : Nat} (X : K.In h) (G : h.Ns mainGlobals mg)
    (a : PySem.W.nsIn K mainGlobals x = some (some (.ref f))) (l : K.lookup f = some ⟨oc, od, .func (PySem.W.fnOf x x (defArgs st) (defBody st) (defScope st) (.ref D) kV dc pm an cd ct), sl⟩) (c : PySem.W.codeIn K cd x = true) (k : PySem.W.keepIn K (.ref f) = true)
    (lD : K.lookup D = some ⟨cD, oD, .seq items n, slD⟩)
    (b : ∀ us : List Value, us.length = ps.length → ∃ kk : Option (Array Value) → Sem (List (Str × Value)), bindArgs (PySem.W.fnOf x x (defArgs st) (defBody st) (defScope st) (.ref D) kV dc pm an cd ct) ⟨us, []⟩ = seqItems? (.ref D) >>= kk ∧ kk (some items) = pure (ps.zip us)) : Df K mg x st ps :=
  ⟨f, _, ⟨⟨oc, od, .ref D, kV, dc, pm, an, cd, ct, sl, rfl, l, c⟩, k⟩, fun s us hk hl => by
    rw [List.append_nil] at hl ⊢
    obtain ⟨kk, h1, h2⟩ := b us hl
    exact BindsTo.of_defaults rfl (hk _ _ lD) rfl h1 h2, PySem.W.mg_of X G a⟩
theorem law_end {pn : Str} {P : Program} {w : World} {K : PySem.W.Frag} {h : Heap} {mg : Str → Option Value} {st : Stmt} {f : Addr} {od an : Option Addr} {sl : Array (Option Value)} {oc kV dc pm cd ct : Value} {k : Nat} (X : K.In h) (G : h.Ns mainGlobals mg)
    (a : PySem.W.nsIn K mainGlobals "law" = some (some (.ref f))) (l : K.lookup f = some ⟨oc, od, .func (PySem.W.fnOf "law" "law" (defArgs st) (defBody st) (defScope st) .none kV dc pm an cd ct), sl⟩)
    (b : ∀ u : Value, bindArgs (PySem.W.fnOf "law" "law" (defArgs st) (defBody st) (defScope st) .none kV dc pm an cd ct) ⟨[u], []⟩ = pure [(pn, u)])
    (F : ∀ base : Heap, K.In base → base.Ns mainGlobals mg → Fn P w K mg base k "law" [pn] (spLaw K)) :
    ∃ fa, mg "law" = some (.ref fa) ∧ ∃ fd : FuncData, (∀ (s : Shared) (u : Value), BindsTo s fd ⟨[u], []⟩ [(pn, u)]) ∧ ∀ base : Heap, K.In base → base.Ns mainGlobals mg → FnOk P w K mg base (CXE P w) k fa fd [pn] (spLaw K) := by
  have hm := PySem.W.mg_of X G a
  refine ⟨f, hm, _, fun s u => .of_eq (b u), fun base kb nb => ?_⟩
  obtain ⟨f', fd', G', hm', _, _, _, _, _, lk⟩ := (F base kb nb).ex
  rw [hm] at hm'
  cases hm'
  rw [l] at lk
  cases lk
  exact G'
end Kw
namespace Kw
theorem q_of {n d : Int} (hd : 0 < d) (hg : Int.gcd n d = 1) : (Rat.divInt n d).num = n ∧ (((Rat.divInt n d).den : Nat) : Int) = d := by
  rw [Rat.num_divInt, Rat.den_divInt, Int.gcd_comm, hg, Int.sign_eq_one_of_pos hd, if_neg (by omega)]
  constructor
  · simp
  · simp; omega
theorem q_is {q : Rat} {n d : Int} (hd : 0 < d) (hg : Int.gcd n d = 1) (e : q = Rat.divInt n d) : n = q.num ∧ d = ((q.den : Nat) : Int) := by
  subst e
  obtain ⟨a, b⟩ := q_of hd hg
  exact ⟨a.symm, b.symm⟩
theorem gcd_fT_fB {t b : Int} (h : b ≠ 0) : Int.gcd (fT t b) (fB t b) = 1 := by
  have hp : 0 < Int.gcd t b := Int.gcd_pos_of_ne_zero_right _ h
  have e1 := fT_mul t b
  have e2 := fB_mul t b
  have e : Int.gcd (dv t b * fT t b) (dv t b * fB t b) = (dv t b).natAbs * Int.gcd (fT t b) (fB t b) := Int.gcd_mul_left ..
  rw [e1, e2] at e
  have hn : (dv t b).natAbs = Int.gcd t b := by unfold dv; split <;> simp
  rw [hn] at e
  exact Nat.eq_of_mul_eq_mul_left hp (by omega)
theorem q_fit {t b : Int} (h : b ≠ 0) : fT t b = (Rat.divInt t b).num ∧ fB t b = (((Rat.divInt t b).den : Nat) : Int) := by
  refine q_is (fB_pos h) (gcd_fT_fB h) ?_
  have e := Rat.divInt_mul_left (n := fT t b) (d := fB t b) (dv_ne (t := t) h)
  rw [fT_mul, fB_mul] at e
  exact e
theorem q_red (q : Rat) : Int.gcd q.num ((q.den : Nat) : Int) = 1 := by
  have := q.reduced
  simpa [Int.gcd, Nat.Coprime] using this
theorem q_pos (q : Rat) : 0 < ((q.den : Nat) : Int) := by
  have := q.den_nz
  omega
theorem q_add (x y : Rat) : Rat.divInt (x.num * y.den + y.num * x.den) (x.den * y.den) = x + y := by
  conv => rhs; rw [← Rat.num_divInt_den x, ← Rat.num_divInt_den y]
  rw [Rat.divInt_add_divInt _ _ (by have := q_pos x; omega) (by have := q_pos y; omega)]
theorem q_sub (x y : Rat) : Rat.divInt (x.num * y.den - y.num * x.den) (x.den * y.den) = x - y := by
  conv => rhs; rw [← Rat.num_divInt_den x, ← Rat.num_divInt_den y]
  rw [Rat.divInt_sub_divInt _ _ (by have := q_pos x; omega) (by have := q_pos y; omega)]
theorem q_mul (x y : Rat) : Rat.divInt (x.num * y.num) (x.den * y.den) = x * y := by
  conv => rhs; rw [← Rat.num_divInt_den x, ← Rat.num_divInt_den y]
  rw [Rat.divInt_mul_divInt]
theorem q_inv (y : Rat) : Rat.divInt y.den y.num = y⁻¹ := by
  conv => rhs; rw [← Rat.num_divInt_den y]
  rw [Rat.inv_divInt]
theorem q_div (x y : Rat) : Rat.divInt (x.num * y.den) (x.den * y.num) = x / y := by
  rw [Rat.div_def, ← q_inv]
  conv => rhs; rw [← Rat.num_divInt_den x]
  rw [Rat.divInt_mul_divInt]
theorem q_neg (y : Rat) : (-y).num = -y.num ∧ (-y).den = y.den := ⟨rfl, rfl⟩
theorem q_lt (x y : Rat) : x < y ↔ x.num * y.den < y.num * x.den := Rat.lt_iff x y
theorem fd_mul {x g : Int} (h : g ∣ x) : g * x.fdiv g = x := Int.mul_fdiv_cancel' h
theorem quot_dvd {x g : Int} (h : g ∣ x) : x.fdiv g ∣ x := ⟨g, by rw [Int.mul_comm]; exact (fd_mul h).symm⟩
theorem cop_dvd {a b b' : Int} (h : Int.gcd a b = 1) (d : b' ∣ b) : Int.gcd a b' = 1 := by
  have h1 : Int.gcd a b' ∣ Int.gcd a b := Int.dvd_gcd (Int.gcd_dvd_left ..) (Int.dvd_trans (Int.gcd_dvd_right ..) d)
  rw [h] at h1
  exact Nat.dvd_one.mp h1
theorem cop_mul {a b c : Int} (h : Int.gcd a b = 1) (k : Int.gcd a c = 1) : Int.gcd a (b * c) = 1 := by
  show Nat.gcd a.natAbs (b * c).natAbs = 1
  rw [Int.natAbs_mul]
  exact Nat.Coprime.mul_right h k
theorem cop_add {a b c : Int} (h : Int.gcd a b = 1) : Int.gcd (a + c * b) b = 1 := by
  rw [Int.gcd_add_mul_right_left]; exact h
theorem cop_quot {a b : Int} (h : b ≠ 0) (g : Int) (hg : g = ((Int.gcd a b : Nat) : Int)) : Int.gcd (a.fdiv g) (b.fdiv g) = 1 := by
  have hp : 0 < Int.gcd a b := Int.gcd_pos_of_ne_zero_right _ h
  have e1 : g * a.fdiv g = a := fd_mul (by rw [hg]; exact Int.gcd_dvd_left ..)
  have e2 : g * b.fdiv g = b := fd_mul (by rw [hg]; exact Int.gcd_dvd_right ..)
  have e : Int.gcd (g * a.fdiv g) (g * b.fdiv g) = g.natAbs * Int.gcd (a.fdiv g) (b.fdiv g) := Int.gcd_mul_left ..
  rw [e1, e2] at e
  have hn : g.natAbs = Int.gcd a b := by rw [hg]; simp
  rw [hn] at e
  exact Nat.eq_of_mul_eq_mul_left hp (by omega)
theorem quot_pos {b g : Int} (hb : 0 < b) (hg : 0 < g) (d : g ∣ b) : 0 < b.fdiv g := by
  have e := fd_mul d
  refine Int.not_le.mp fun q => ?_
  have := Int.mul_nonpos_of_nonneg_of_nonpos (Int.le_of_lt hg) q
  omega
theorem gpos {a b : Int} (h : b ≠ 0) : 0 < ((Int.gcd a b : Nat) : Int) := by
  have := Int.gcd_pos_of_ne_zero_right a h
  omega
theorem q_plus (x y : Rat) (g t h : Int) (hg : g = ((Int.gcd ((x.den : Nat) : Int) ((y.den : Nat) : Int) : Nat) : Int)) (ht : t = x.num * ((y.den : Nat) : Int).fdiv g + y.num * ((x.den : Nat) : Int).fdiv g) (hh : h = ((Int.gcd t g : Nat) : Int)) :
    t.fdiv h = (x + y).num ∧ ((x.den : Nat) : Int).fdiv g * ((y.den : Nat) : Int).fdiv h = (((x + y).den : Nat) : Int) := by
  have hb := q_pos x
  have hd := q_pos y
  have rx := q_red x
  have ry := q_red y
  have ea := q_add x y
  revert hb hd rx ry hg ht ea
  generalize x.num = a
  generalize y.num = c
  generalize ((x.den : Nat) : Int) = b
  generalize ((y.den : Nat) : Int) = d
  intro hg ht hb hd rx ry ea
  have g0 : 0 < g := by rw [hg]; exact gpos (by omega)
  have h0 : 0 < h := by rw [hh]; exact gpos (by omega)
  have gb : g ∣ b := by rw [hg]; exact Int.gcd_dvd_left ..
  have gd : g ∣ d := by rw [hg]; exact Int.gcd_dvd_right ..
  have hht : h ∣ t := by rw [hh]; exact Int.gcd_dvd_left ..
  have hhg : h ∣ g := by rw [hh]; exact Int.gcd_dvd_right ..
  have eb := fd_mul gb
  have ed := fd_mul gd
  have et := fd_mul hht
  have eg := fd_mul hhg
  have b0 := quot_pos hb g0 gb
  have d0 := quot_pos hd g0 gd
  have k0 := quot_pos g0 h0 hhg
  have cbd : Int.gcd (b.fdiv g) (d.fdiv g) = 1 := cop_quot (by omega) g hg
  have ctg : Int.gcd (t.fdiv h) (g.fdiv h) = 1 := cop_quot (by omega) h hh
  have dh : d.fdiv h = g.fdiv h * d.fdiv g := by
    have e := fd_mul (Int.dvd_trans hhg gd)
    have e2 : h * (g.fdiv h * d.fdiv g) = d := by rw [← Int.mul_assoc, eg, ed]
    exact Int.eq_of_mul_eq_mul_left (by omega) (e.trans e2.symm)
  have ct1 : Int.gcd t (b.fdiv g) = 1 := by
    rw [ht]
    refine cop_add ?_
    rw [Int.gcd_comm]
    exact cop_mul (by rw [Int.gcd_comm]; exact cop_dvd rx ⟨g, by rw [Int.mul_comm]; exact eb.symm⟩) cbd
  have ct2 : Int.gcd t (d.fdiv g) = 1 := by
    rw [ht, Int.add_comm]
    refine cop_add ?_
    rw [Int.gcd_comm]
    exact cop_mul (by rw [Int.gcd_comm]; exact cop_dvd ry ⟨g, by rw [Int.mul_comm]; exact ed.symm⟩) (by rw [Int.gcd_comm]; exact cbd)
  have sub : ∀ z, Int.gcd t z = 1 → Int.gcd (t.fdiv h) z = 1 := fun z hz => by
    rw [Int.gcd_comm] at hz ⊢
    exact cop_dvd hz ⟨h, by rw [Int.mul_comm]; exact et.symm⟩
  rw [dh]
  refine q_is ?_ ?_ ?_
  · exact Int.mul_pos b0 (Int.mul_pos k0 d0)
  · exact cop_mul (sub _ ct1) (cop_mul ctg (sub _ ct2))
  · rw [← ea]
    have z := Rat.divInt_mul_left (n := t.fdiv h) (d := b.fdiv g * (g.fdiv h * d.fdiv g)) (a := g * h) (by have := Int.mul_pos g0 h0; omega)
    rw [← z]
    congr 1
    · rw [Int.mul_assoc, et, ht, Int.mul_add]
      congr 1
      · rw [← Int.mul_assoc, Int.mul_comm g, Int.mul_assoc, ed]
      · rw [← Int.mul_assoc, Int.mul_comm g, Int.mul_assoc, eb]
    · rw [show g * h * (b.fdiv g * (g.fdiv h * d.fdiv g)) = (g * b.fdiv g) * ((h * g.fdiv h) * d.fdiv g) by grind, eb, eg, ed]
theorem q_times (x y : Rat) (f s : Int) (hf : f = ((Int.gcd x.num ((y.den : Nat) : Int) : Nat) : Int)) (hs : s = ((Int.gcd y.num ((x.den : Nat) : Int) : Nat) : Int)) :
    x.num.fdiv f * y.num.fdiv s = (x * y).num ∧ ((x.den : Nat) : Int).fdiv s * ((y.den : Nat) : Int).fdiv f = (((x * y).den : Nat) : Int) := by
  have hb := q_pos x
  have hd := q_pos y
  have rx := q_red x
  have ry := q_red y
  have ea := q_mul x y
  revert hb hd rx ry hf hs ea
  generalize x.num = a
  generalize y.num = c
  generalize ((x.den : Nat) : Int) = b
  generalize ((y.den : Nat) : Int) = d
  intro hf hs hb hd rx ry ea
  have f0 : 0 < f := by rw [hf]; exact gpos (by omega)
  have s0 : 0 < s := by rw [hs]; exact gpos (by omega)
  have fa : f ∣ a := by rw [hf]; exact Int.gcd_dvd_left ..
  have fd : f ∣ d := by rw [hf]; exact Int.gcd_dvd_right ..
  have sc : s ∣ c := by rw [hs]; exact Int.gcd_dvd_left ..
  have sb : s ∣ b := by rw [hs]; exact Int.gcd_dvd_right ..
  have ea' := fd_mul fa
  have ed := fd_mul fd
  have ec := fd_mul sc
  have eb := fd_mul sb
  have c1 : Int.gcd (a.fdiv f) (d.fdiv f) = 1 := cop_quot (by omega) f hf
  have c2 : Int.gcd (c.fdiv s) (b.fdiv s) = 1 := cop_quot (by omega) s hs
  have c3 : Int.gcd (a.fdiv f) (b.fdiv s) = 1 := by
    refine cop_dvd (b := b) ?_ (quot_dvd sb)
    rw [Int.gcd_comm] at rx ⊢
    exact cop_dvd rx (quot_dvd fa)
  have c4 : Int.gcd (c.fdiv s) (d.fdiv f) = 1 := by
    refine cop_dvd (b := d) ?_ (quot_dvd fd)
    rw [Int.gcd_comm] at ry ⊢
    exact cop_dvd ry (quot_dvd sc)
  refine q_is (Int.mul_pos (quot_pos hb s0 sb) (quot_pos hd f0 fd)) ?_ ?_
  · rw [Int.gcd_comm]
    refine cop_mul ?_ ?_
    · rw [Int.gcd_comm]; exact cop_mul c3 c1
    · rw [Int.gcd_comm]; exact cop_mul c2 c4
  · rw [← ea]
    have z := Rat.divInt_mul_left (n := a.fdiv f * c.fdiv s) (d := b.fdiv s * d.fdiv f) (a := f * s) (by have := Int.mul_pos f0 s0; omega)
    rw [← z]
    congr 1
    · rw [show f * s * (a.fdiv f * c.fdiv s) = (f * a.fdiv f) * (s * c.fdiv s) by grind, ea', ec]
    · rw [show f * s * (b.fdiv s * d.fdiv f) = (s * b.fdiv s) * (f * d.fdiv f) by grind, eb, ed]
theorem q_dv (a b : Int) : Rat.divInt a b = (a : Rat) / (b : Rat) := by
  have h := q_div (a : Rat) (b : Rat)
  have e1 : (a : Rat).num * (((b : Rat).den : Nat) : Int) = a := by show a * 1 = a; omega
  have e2 : (((a : Rat).den : Nat) : Int) * (b : Rat).num = b := by show 1 * b = b; omega
  rw [e1, e2] at h
  exact h
theorem q_wpos {i : Int} (h : 1 ≤ i) : (0 : Rat) < (i : Rat) := by
  have : ((0 : Int) : Rat) < (i : Rat) := Rat.intCast_lt_intCast.mpr (by omega)
  exact this
theorem q_divpos {a b : Int} (ha : 0 < a) (hb : 0 < b) : (0 : Rat) < Rat.divInt a b := by
  rw [q_dv]
  rw [Rat.div_def]
  exact Rat.mul_pos (q_wpos (by omega)) (Rat.inv_pos.mpr (q_wpos (by omega)))
noncomputable def mixQ (u v : Rat) (m w : Int) : Rat := u * Rat.divInt (m - w) (m + w) + v * Rat.divInt (2 * w) (m + w)
theorem mixQ_eq (u v : Rat) (m w : Int) : mixQ u v m w = u * (((m : Rat) - w) / (m + w)) + v * ((2 * w) / (m + w)) := by
  unfold mixQ
  rw [q_dv, q_dv]
  simp only [Rat.intCast_add, Rat.intCast_sub, Rat.intCast_mul]
  rfl
theorem q_le0 (x : Rat) : x.num ≤ 0 ↔ ¬ 0 < x := by
  have h := q_lt 0 x
  have e : (0 : Rat).num * (x.den : Int) < x.num * ((0 : Rat).den : Int) ↔ 0 < x.num := by
    show 0 * (x.den : Int) < x.num * 1 ↔ 0 < x.num
    omega
  rw [h, e]
  omega
end Kw
namespace Kw
open PySem PySem.Spec PyProof.Rows L2 PySem.Builtin PySem.Builtin.ObjectAttr PySem.Builtin.Getset_descriptor
structure ExcQ (K : PySem.W.Frag) (C : Addr) : Prop where
  ga : PySem.W.findIn K (.ref C) "__getattribute__" = some (some (.builtin "BaseException.__getattribute__"))
  hk : PySem.W.findIn K (.ref C) "__getattr__" = some none
  cl : PySem.W.findIn K (.ref C) "__class__" = some (some (.builtin "object.__class__"))
  gt : PySem.W.specialIn K (.builtin "object.__class__") "__get__" = some (some (.builtin "getset_descriptor.__get__"))
  tk : PySem.W.takesIn K (.builtin "object.__class__") = some true
  ob : PySem.W.mroIn K C (.type "object") = some true
  be : PySem.W.mroIn K C (.type "BaseException") = some true
section
variable {prog : Program} {w : World} {A : Around} {E : Value → Shared → Prop} {s : Shared} {K : PySem.W.Frag} {x C : Addr}
theorem find_cls {M : Model} {h : Heap} {self : Value} (kx : K.In h) (q : ExcQ K C) : PySem.W.Looks M h (find self (.ref C) "__class__") (.bind (.builtin "getset_descriptor.__get__") (.builtin "object.__class__")) := by
  have l1 := PySem.W.looks_findIn (M := M) kx q.cl
  have l2 : PySem.W.Looks M h (getOf (some (.builtin "object.__class__"))) _ := PySem.W.looks_specialIn kx q.gt
  have l3 := PySem.W.looks_takesIn (M := M) kx q.tk
  have l4 : PySem.W.Looks M h (dataDescriptor? (some (.builtin "object.__class__")) (some (.builtin "getset_descriptor.__get__"))) (some (.builtin "getset_descriptor.__get__", .builtin "object.__class__")) := l3.andThen .now
  exact l1.andThen (l2.andThen (l4.andThen (PySem.W.Looks.tag .now)))
theorem cls_get {R : Result → Shared → Prop} {tp : Value} (kx : K.In s.heap) (L0 : PySem.W.Looks (model prog w) s.heap (typeOf (.ref x)) (.ref C)) (q : ExcQ K C) (want : R (.ok (.ret (.ref C))) s) :
    codeAny (model prog w) A (.call (.builtin "getset_descriptor.__get__") ⟨[.builtin "object.__class__", .ref x, tp], []⟩) R s := by
  obtain ⟨z0, z1, z2, z3, z4⟩ := s
  have L1 := PySem.W.looks_mroIn (M := model prog w) kx q.ob
  refine codeAny_call_builtin PySem.W.KF.slot_gs.plain PySem.W.KF.entry_gs (PySem.W.KF.slot_gs.check _ _ _ _ _ _ _ _ PySem.W.KF.type_class (PySem.W.KF.args_gs _ _ _) ?_)
  unfold Builtin.«getset_descriptor.__get__» descrGet
  rw [PySem.W.dga_obj]
  refine wpAny_bind (wpAny_pure ?_)
  unfold descrGetter descrCheckInstance descrNameAndClass isInstance
  simp only [PySem.W.KF.owner_class]
  repeat lk
  refine ⟨Code.quiet_builtin _ (by decide +kernel), codeAny_builtin PySem.W.KF.entry_class ?_⟩
  unfold Builtin.«object.__class__» shownTypeOf
  repeat lk
  exact want
theorem ga_entry {tk : Tok} {Q : Fin → Shared → Prop} (kx : K.In s.heap) (L0 : PySem.W.Looks (model prog w) s.heap (typeOf (.ref x)) (.ref C)) (q : ExcQ K C) (want : Q (.done (.ret (.ref C))) s) :
    wpAny (model prog w) A (Builtin.«object.__getattribute__» ⟨[.ref x, .str "__class__" tk], []⟩) Q E s := by
  obtain ⟨z0, z1, z2, z3, z4⟩ := s
  have L1 := find_cls (M := model prog w) (self := .ref x) kx q
  unfold Builtin.«object.__getattribute__»
  repeat ((fail_if_success (with_reducible show wpAny _ _ (bindTo _ _ _ _) _ _ _)); lk)
  unfold bindTo
  refine wpAny_bind (wpAny_holding (wpAny_call (cls_get kx L0 q ?_)))
  exact wpAny_pure want
theorem ga_check {nameV : Value} {Q : Unit → Shared → Prop} (kx : K.In s.heap) (L0 : PySem.W.Looks (model prog w) s.heap (typeOf (.ref x)) (.ref C)) (q : ExcQ K C) (want : Q () s) :
    wpAny (model prog w) A (checkBuiltinCall "BaseException.__getattribute__" ⟨[.ref x, nameV], []⟩) Q E s := by
  obtain ⟨z0, z1, z2, z3, z4⟩ := s
  have hk : builtinKind "BaseException.__getattribute__" = some .slot := by decide +kernel
  have hsp : splitId "BaseException.__getattribute__" = some ("BaseException", "__getattribute__") := by decide +kernel
  have L1 := PySem.W.looks_mroIn (M := model prog w) kx q.be
  have ha := PySem.F.args_bexc_ga (.ref x) nameV
  simp only [checkBuiltinCall, hk, hsp]
  refine wpAny_bind ?_
  unfold isInstance
  repeat (first | lk | wp_step)
  exact want
theorem exc_class {Q : Option Value → Shared → Prop} (kx : K.In s.heap) (L0 : PySem.W.Looks (model prog w) s.heap (typeOf (.ref x)) (.ref C)) (q : ExcQ K C) (want : Q (some (.ref C)) { s with toks := s.toks + 1 }) :
    wpAny (model prog w) A (getAttr? (.ref x) "__class__") Q E s := by
  obtain ⟨z0, z1, z2, z3, z4⟩ := s
  have L1 := PySem.W.looks_findIn (M := model prog w) kx q.ga
  have L2 := PySem.W.looks_findIn (M := model prog w) kx q.hk
  have f3 := PySem.F.excAttr_ValueError.ga.bind (.ref x)
  unfold getAttr? getAttrBy? getAttrBy
  refine wpAny_bind (wpAny_mkText (wpAny_bind (wpAny_attempt (wpAny_holding (wpAny_bind (L0.at (wpAny_bind (L1.at ?_))))))))
  dsimp only
  have e1 : (Value.builtin "BaseException.__getattribute__" == Value.builtin "object.__getattribute__") = false := by decide +kernel
  rw [e1, Bool.and_false, if_neg (by decide)]
  unfold getAttrByItsOwn hookBefore
  rw [show onTheHeap (Value.ref C) = true from rfl, if_pos rfl]
  refine wpAny_bind (L2.at ?_)
  refine wpAny_bind (wpAny_attempt (wpAny_holding ?_))
  unfold callGetattribute boundAndCalled
  rw [if_neg (by decide), f3]
  refine wpAny_bind (wpAny_pure ?_)
  dsimp only
  refine wpAny_call (codeAny_call_builtin PySem.F.excAttr_ValueError.ga.plain PySem.F.entry_bexc_ga (ga_check kx L0 q (ga_entry kx L0 q ?_)))
  exact wpAny_pure (wpAny_pure want)
theorem cls_of (q : ExcQ K C) : ∃ c d cd sl, K.lookup C = some ⟨c, d, .cls cd, sl⟩ := by
  obtain ⟨cd, e, _⟩ := Option.bind_eq_some_iff.mp q.ob
  unfold PySem.W.clsIn at e
  split at e
  · rename_i ho
    exact ⟨_, _, _, _, ho⟩
  · cases e
theorem kitx_exc (q : ExcQ K C) : PySem.W.KitX K (.ref x) (.ref C) (ExcIs x (.ref C)) where
  ty := fun M h _ p => exc_ty M h p
  it := fun M h kx _ => by
    obtain ⟨c, d, cd, sl, ho⟩ := cls_of q
    intro A' Q' E' s' keep want
    unfold isType loadHead
    exact wpAny_bind (wpAny_loadPart (keep _ _ (kx _ _ ho)) (wpAny_pure want))
  ne := fun h tp dd its n sl kx htp => by
    obtain ⟨c, d, cd, sl', ho⟩ := cls_of q
    refine Bool.eq_false_iff.mpr fun z => ?_
    have e : C = tp := Value.ref.inj (beq_iff_eq.mp z)
    subst e
    have y := (kx _ _ ho).symm.trans htp
    cases y
  ca := fun kx p want => exc_class kx (exc_ty _ _ p) q want
end
section
variable {X : Cx}
end
end Kw
namespace Kw
open PySem PySem.Spec PyProof.Rows L2
mutual
inductive Dp (K : PySem.W.Frag) (H : Hp) : V → PyData → Prop
  | non : Dp K H .non .none
  | bl (b : Bool) : Dp K H (.bl b) (.bool b)
  | int (i : Int) : Dp K H (.int i) (.int i)
  | str (x : Str) : Dp K H (.str x) (.str x)
  | lst {p : Addr} {xs : List V} {ds : List PyData} : SqL K H p xs → Dps K H xs ds → Dp K H (.ref p) (.list ds)
  | tup {p : Addr} {xs : List V} {ds : List PyData} : SqT K H p xs → Dps K H xs ds → Dp K H (.ref p) (.tuple ds)
inductive Dps (K : PySem.W.Frag) (H : Hp) : List V → List PyData → Prop
  | nil : Dps K H [] []
  | cons {x : V} {xs : List V} {d : PyData} {ds : List PyData} : Dp K H x d → Dps K H xs ds → Dps K H (x :: xs) (d :: ds)
end
mutual
theorem Dp.same {K : PySem.W.Frag} {H H' : Hp} (e : Same H H') : ∀ {x : V} {d : PyData}, Dp K H x d → Dp K H' x d
  | _, _, .non => .non
  | _, _, .bl b => .bl b
  | _, _, .int i => .int i
  | _, _, .str x => .str x
  | _, _, .lst h r => .lst (e.seq h) (Dps.same e r)
  | _, _, .tup h r => .tup (Same.tup e h) (Dps.same e r)
theorem Dps.same {K : PySem.W.Frag} {H H' : Hp} (e : Same H H') : ∀ {xs : List V} {ds : List PyData}, Dps K H xs ds → Dps K H' xs ds
  | _, _, .nil => .nil
  | _, _, .cons h r => .cons (Dp.same e h) (Dps.same e r)
end
section
variable {X : Cx} {pins : List (Addr × Obj)} {σ : L2.St} {H : Hp} {s : Shared}
mutual
theorem Dp.reads (I : Inv X pins σ H s) : ∀ {x : V} {d : PyData} {u : Value}, Dp X.K H x d → RelV x u → ∃ as, Reads s.heap u d as
  | _, _, _, .non, r => by cases r; exact ⟨_, .none⟩
  | _, _, _, .bl b, r => by cases r; exact ⟨_, .bool b⟩
  | _, _, _, .int i, r => by obtain ⟨t, rfl⟩ := r; exact ⟨_, .int i t⟩
  | _, _, _, .str x, r => by obtain ⟨t, rfl⟩ := r; exact ⟨_, .str x t⟩
  | _, _, _, .lst h q, r => by
    cases r
    obtain ⟨its, r', pl, hz⟩ := I.list h
    obtain ⟨as, ra⟩ := Dps.reads I q r'
    obtain ⟨o, n, ho, hc, _, hd⟩ := pl
    exact ⟨_, .list ho hc hd ra⟩
  | _, _, _, .tup h q, r => by
    cases r
    obtain ⟨its, r', pl, hz⟩ := I.tuple h
    obtain ⟨as, ra⟩ := Dps.reads I q r'
    obtain ⟨o, ho, hc, n, hd⟩ := pl
    exact ⟨_, .tuple ho hc hd ra⟩
theorem Dps.reads (I : Inv X pins σ H s) : ∀ {xs : List V} {ds : List PyData} {us : List Value}, Dps X.K H xs ds → Vals xs us → ∃ as, ReadsAll s.heap us ds as
  | _, _, _, .nil, r => by cases r; exact ⟨_, .nil⟩
  | _, _, _, .cons h q, r => by
    cases r with
    | cons a b =>
      obtain ⟨as, ra⟩ := Dp.reads I h a
      obtain ⟨bs, rb⟩ := Dps.reads I q b
      exact ⟨_, .cons ra rb⟩
end
noncomputable def rDp (K : PySem.W.Frag) (g : Bool → Bool) : V → V → Hp → VK → Prop := fun x y H Q => ∃ dx dy, Dp K H x dx ∧ Dp K H y dy ∧ dx.canLay0 = true ∧ dy.canLay0 = true ∧ min dx.depth dy.depth ≤ 60 ∧ Q (.bl (g (PyData.eqv dx dy))) H
theorem op_eqD {K : PySem.W.Frag} (hK : X.K = K) (hu : X.A.units + 100 < cLine) : OpR X (compareOp .Eq) (rDp K id) := by
  subst hK
  intro pins s σ H x y v u Q I rx ry h
  obtain ⟨dx, dy, hx, hy, cx, cy, dep, q⟩ := h
  obtain ⟨as, ra⟩ := hx.reads I rx
  obtain ⟨bs, rb⟩ := hy.reads I ry
  exact SeqAt.compareEq_reads ra rb cx cy (by omega) ⟨.bl (PyData.eqv dx dy), H, I, rfl, q⟩
theorem op_neD {K : PySem.W.Frag} (hK : X.K = K) (hu : X.A.units + 100 < cLine) : OpR X (compareOp .NotEq) (rDp K not) := by
  subst hK
  intro pins s σ H x y v u Q I rx ry h
  obtain ⟨dx, dy, hx, hy, cx, cy, dep, q⟩ := h
  obtain ⟨as, ra⟩ := hx.reads I rx
  obtain ⟨bs, rb⟩ := hy.reads I ry
  exact SeqAt.compareNe_reads ra rb cx cy (by omega) ⟨.bl (!PyData.eqv dx dy), H, I, rfl, q⟩
end
end Kw
namespace Kw
open PySem PySem.Spec PyProof.Rows L2
section
variable {X : Cx} {pos : Pos} {k v : Expr} {x : Str} {i : Int}
end
section
variable {X : Cx}
end
section
variable {K : PySem.W.Frag} {H H' : Hp} {v : V} {t : Value}
theorem TyOf.same (h : TyOf K H v t) (s : Same H H') : TyOf K H' v t := by
  cases h with
  | non => exact .non
  | bl x => exact .bl x
  | int x => exact .int x
  | str x => exact .str x
  | flt x => exact .flt x
  | lst e => exact .lst (s _ _ e)
  | frz e => exact .frz (s _ _ e)
  | tup e => exact .tup (s _ _ e)
  | dK e => exact .dK (s _ _ e)
  | dT e => exact .dT (s _ _ e)
  | ins e a b c d f => exact .ins (s _ _ e) a b c d f
noncomputable def WhN (K : PySem.W.Frag) (H : Hp) (v : V) : Prop := ∃ t b1 b2, TyOf K H v t ∧ PySem.W.kitOne K t (.type "int") = some b1 ∧ PySem.W.kitOne K t (.type "bool") = some b2 ∧ (b1 && !b2) = false
theorem WhN.same (h : WhN K H v) (s : Same H H') : WhN K H' v := by
  obtain ⟨t, b1, b2, a, r⟩ := h
  exact ⟨t, b1, b2, TyOf.same a s, r⟩
theorem kit_non_int : PySem.W.kitOne K (.type "NoneType") (.type "int") = some false := by with_unfolding_all rfl
theorem kit_non_bool : PySem.W.kitOne K (.type "NoneType") (.type "bool") = some false := by with_unfolding_all rfl
theorem kit_bl_int : PySem.W.kitOne K (.type "bool") (.type "int") = some true := by with_unfolding_all rfl
theorem kit_str_int : PySem.W.kitOne K (.type "str") (.type "int") = some false := by with_unfolding_all rfl
theorem kit_str_bool : PySem.W.kitOne K (.type "str") (.type "bool") = some false := by with_unfolding_all rfl
theorem kit_tup_int : PySem.W.kitOne K (.type "tuple") (.type "int") = some false := by with_unfolding_all rfl
theorem kit_tup_bool : PySem.W.kitOne K (.type "tuple") (.type "bool") = some false := by with_unfolding_all rfl
theorem kit_lst_int : PySem.W.kitOne K (.type "list") (.type "int") = some false := by with_unfolding_all rfl
theorem kit_lst_bool : PySem.W.kitOne K (.type "list") (.type "bool") = some false := by with_unfolding_all rfl
theorem kit_dct_int : PySem.W.kitOne K (.type "dict") (.type "int") = some false := by with_unfolding_all rfl
theorem kit_dct_bool : PySem.W.kitOne K (.type "dict") (.type "bool") = some false := by with_unfolding_all rfl
theorem whn_tup {p : Addr} {xs : List V} (e : H p = some (.tup xs)) : WhN K H (.ref p) := ⟨_, _, _, .tup e, kit_tup_int, kit_tup_bool, rfl⟩
theorem whn_lst {p : Addr} {xs : List V} (e : H p = some (.lst xs)) : WhN K H (.ref p) := ⟨_, _, _, .lst e, kit_lst_int, kit_lst_bool, rfl⟩
inductive Odd (H : Hp) : V → Bool → Prop
  | non : Odd H .non false
  | bl (b : Bool) : Odd H (.bl b) false
  | s1 : Odd H (.str "1") false
  | s0 : Odd H (.str "") false
  | one {p : Addr} (e : H p = some (.tup [.int 1, .int 1])) : Odd H (.ref p) true
  | lst {p : Addr} (e : H p = some (.lst [.int 1])) : Odd H (.ref p) false
  | dct {p : Addr} (e : H p = some (.dK [(.inr "a", .int 1)])) : Odd H (.ref p) false
  | nil {p : Addr} (e : H p = some (.tup [])) : Odd H (.ref p) false
theorem Odd.whn {b : Bool} (h : Odd H v b) : WhN K H v := by
  cases h with
  | non => exact ⟨_, _, _, .non, kit_non_int, kit_non_bool, rfl⟩
  | bl b => exact ⟨_, _, _, .bl b, kit_bl_int, kit_bl_bl, rfl⟩
  | s1 => exact ⟨_, _, _, .str _, kit_str_int, kit_str_bool, rfl⟩
  | s0 => exact ⟨_, _, _, .str _, kit_str_int, kit_str_bool, rfl⟩
  | one e => exact whn_tup e
  | lst e => exact whn_lst e
  | dct e => exact ⟨_, _, _, .dK e, kit_dct_int, kit_dct_bool, rfl⟩
  | nil e => exact whn_tup e
end
section
variable {X : Cx} {k k' : Nat} {x : Str} {ps : List Str} {sp : Sp} {E : XK} {p pos : Pos} {e : Expr} {es : List Expr} {t : TA} {dv : V}
end
end Kw
namespace Kw
end Kw
namespace Kw
open PySem PySem.Spec PyProof.Rows L2
theorem newO {H : Hp} {p : Addr} (hp : H p = none) (o : HO) : ∃ H', upd H p o = H' ∧ Same H H' ∧ H' p = some o := ⟨_, rfl, same_new hp o, upd_same⟩
end Kw
theorem Kw.u100 {k : Nat} {A : PySem.Around} (r : L2.Room k A) : A.units + 100 < PySem.cLine := by have := r.un; omega
namespace Kw
open PySem PySem.Spec PyProof.Rows L2
theorem cut1 {s1 r : TS} {D : Ends} {σ : L2.St} {H : Hp} (P : L2.St → Hp → Prop) (h : ∀ N : L2.St → Hp → Prop, (∀ σ' H', P σ' H' → N σ' H') → s1 { D with nx := N } σ H) (rest : ∀ σ' H', P σ' H' → r D σ' H') :
    tSeq s1 r D σ H := h (r D) rest
noncomputable def cxC (X : Cx) (N : List Str) (scope : Scope) (cl : List (Str × Addr)) (C : Addr) (s : Shared) (H : Hp) (fp : List Addr) : Cx :=
  { X with N := N, s₀ := s, H₀ := H, env := compEnvC scope cl C X.env, outer := X.stack, stack := X.stack, ex := fp, fn := fun _ => false, pn := [], xe := fun _ _ => False }
section
variable {X : Cx} {pins : List (Addr × Obj)} {σ : L2.St} {H : Hp} {s : Shared} {N ns : List Str} {scope : Scope} {cl : List (Str × Addr)} {C : Addr} {fp : List Addr} {x : Str} {idx : List Nat}
theorem okC (I : Inv X pins σ H s) (f : ∀ b ∈ fp, FpOk X pins H b) (lt : ∀ b ∈ fp, b < s.heap.objs.size) (hC : s.heap.objs.size ≤ C) (hkind : scope.kind = .function) (hcl : ∀ y c, cl.lookup y = some c → X.env.cells.lookup y = some c)
    (hfr : ∀ y, ((compEnvC scope cl C X.env).kindOf y = some .cell ∨ (compEnvC scope cl C X.env).kindOf y = some .free) → ∃ c, cl.lookup y = some c) : (cxC X N scope cl C s H fp).Ok where
  mod := I.ok.mod
  kind := hkind
  glob := I.ok.glob
  blt := I.ok.blt
  above := hC
  inj := fun x y c e1 e2 => I.ok.inj x y c (hcl _ _ e1) (hcl _ _ e2)
  has := hfr
  cab := fun _ _ h => nomatch h
  hd := I.ok.hd
  frames := I.ok.frames
  stk := .inl rfl
  exf := fun b hb => ⟨Nat.ne_of_lt (Nat.lt_of_lt_of_le (lt b hb) hC), fun x c e => (f b hb).2.2.2.2.1 x c (hcl _ _ e)⟩
  bs := I.bs
  bsz := Nat.le_trans I.ok.bsz I.sz
  noex := fun b o e hb => by
    rcases (f b hb).2.2.2.1 with z | z
    · exact I.ok.noex b o e z
    · exact absurd (Nat.lt_of_lt_of_le (Heap.lt_size e) (Nat.le_trans I.ok.bsz z)) (Nat.lt_irrefl _)
  exfs := fun b hb hs => by
    rcases List.mem_cons.mp (I.stkSub b hs) with z | z
    · exact (f b hb).2.1 z
    · exact (f b hb).2.2.1 z
  funs := I.stack
  frf := I.stkFree
noncomputable def Capt (X : Cx) (scope : Scope) (cl : List (Str × Addr)) (ns : List Str) (idx : List Nat) : Prop :=
  idx.length = ns.length ∧ ∀ (k : Nat) (y : Str), ns[k]? = some y → ∃ j c, idx[k]? = some j ∧ X.N[j]? = some y ∧ X.env.kindOf y = some .cell ∧ X.env.cells.lookup y = some c ∧ cl.lookup y = some c ∧ ((relabel scope X.env).names.lookup y = some .cell ∨ (relabel scope X.env).names.lookup y = some .free)
noncomputable def stIn (v : Option V) (idx : List Nat) (σ : L2.St) : L2.St := v :: idx.map fun j => (σ[j]?).join
theorem invC {D : Addr} {h1 : Heap} {t : Nat} {o : Obj} {mC : Str → Option Value} (I : Inv X pins σ H s) (ok : (cxC X (x :: ns) scope cl C s H fp).Ok) (cap : Capt X scope cl ns idx) (hcl : ∀ y c, cl.lookup y = some c → X.env.cells.lookup y = some c)
    (keep : ∀ b u, s.heap.get? b = some u → h1.get? b = some u) (hC : s.heap.objs.size ≤ C) (hns : h1.Ns C mC) (hD : h1.get? D = some o) (hDs : s.heap.objs.size ≤ D) (hDC : D ≠ C) (hod : ∀ v, o.data ≠ .cell v) (hx : (relabel scope X.env).names.lookup x = some .local) :
    Inv (cxC X (x :: ns) scope cl C s H fp) [(D, o)] (stIn none idx σ) H { s with heap := h1, toks := t } := by
  have cellK : ∀ y c, cl.lookup y = some c → ∀ v, s.heap.IsCell c v → h1.IsCell c v := fun y c e v ⟨o, ho, hd⟩ => ⟨o, keep _ _ ho, hd⟩
  refine ⟨ok, rfl, I.bare, Un.kept keep, ⟨mC, hns, fun i y v e1 e2 e3 => ?_⟩, fun y c e => ?_, I.hok.fresh hC, fun y c e => I.freeC y c (hcl y c e), fun p hp => ?_, I.hok.kept keep, ?_⟩
  · cases i with
    | zero => cases e2
    | succ k =>
      have e1' : ns[k]? = some y := e1
      obtain ⟨j, c, h1', h2, h3, h4, h5, h6⟩ := cap.2 k y e1'
      have e2' : (idx.map fun j => (σ[j]?).join)[k]? = some (some v) := e2
      rw [List.getElem?_map, h1'] at e2'
      have e4 : (σ[j]?).join = some v := Option.some.inj e2'
      have e5 : σ[j]? = some (some v) := by
        cases q : σ[j]? with
        | none => rw [q] at e4; cases e4
        | some z => rw [q] at e4; exact congrArg some e4
      obtain ⟨m, hn, hl⟩ := I.loc
      obtain ⟨u, r, lk⟩ := hl j y v h2 e5 (.inr (.inl h3))
      refine ⟨u, r, .inr ⟨h6, c, h5, ?_⟩⟩
      rcases lk with ⟨z, _⟩ | ⟨_, c', z, ic⟩
      · rw [h3] at z; cases z
      · rw [h4] at z; cases z
        exact cellK y c h5 _ ic
  · obtain ⟨v, ic⟩ := I.cell y c (hcl y c e)
    exact ⟨v, cellK y c e v ic⟩
  · have e : p = (D, o) := by simpa [cxC] using hp
    subst e
    refine ⟨hD, I.hok.fresh hDs, hDC, fun hs => ?_, hod⟩
    obtain ⟨_, o', ho', _⟩ := I.stack.mem hs
    exact absurd (Heap.lt_size ho') (Nat.not_lt.mpr hDs)
  · unfold stIn
    rw [List.length_cons, List.length_map, cap.1]
    rfl
end
noncomputable abbrev NoE : Value → Shared → Prop := fun _ _ => False
noncomputable abbrev testsOf (ifs : List Expr) (env : Env) : Sem Bool := forIn ifs true fun c r => if r = true then do let ok ← isTrue c env (eval c env); pure (ForInStep.yield ok) else pure (ForInStep.yield r)
noncomputable def PTs (X : Cx) (ifs : List Expr) (t : TT) : Prop :=
  ∀ (pins : List (Addr × Obj)) (s : Shared) (σ : L2.St) (H : Hp) (Q : Bool → Hp → Prop), Inv X pins σ H s → t σ H Q → wpAny (model X.prog X.w) X.A (testsOf ifs X.env) (TP X pins σ Q) X.xe s
noncomputable def ttNil : TT := fun _ H Q => Q true H
theorem pts_nil {X : Cx} : PTs X [] ttNil := fun _ _ _ H _ I h => wpAny_tests_nil ⟨H, I, h⟩
theorem pts_one {X : Cx} {c : Expr} {t : TT} (h : PT X c t) : PTs X [c] t := fun pins s σ H Q I q => wpAny_tests_one (h pins s σ H Q I q)
theorem lc_loop {prog : Program} {w : World} {A : Around} {R : Result → Shared → Prop} {s : Shared} {elt target iter : Expr} {ifs : List Expr} {scope : Scope} {pos : Pos} {it acc : Value} {env : Env} (Z : Nat → Shared → Prop)
    (turn : ∀ n z, Z n z → wpAny (model prog w) A (pyNext it) (fun r z1 => match r with
      | none => R (.ok .next) z1
      | some v => wpAny (model prog w) A (letOwnedTupleGo target it v) (fun _ z2 => wpAny (model prog w) A (assign target env v) (fun _ z3 => wpAny (model prog w) A (testsOf ifs env) (fun ok z4 => if ok = true then
          wpAny (model prog w) A (eval elt env) (fun y z5 => wpAny (model prog w) A (call (.builtin "list.append") [acc, y]) (fun _ z6 => ∃ m, m < n ∧ Z m z6) NoE z5) NoE z4 else ∃ m, m < n ∧ Z m z4) NoE z3) NoE z2) NoE z1) NoE z)
    (n : Nat) (h : Z n s) : codeAny (model prog w) A (.compLoop (.ListComp elt [⟨target, iter, ifs, 0⟩] scope pos) 0 it acc env) R s := by
  refine codeAny_loop rfl Z (fun n z hZ => ?_) n h
  show wpAny _ A ((compTurn (.ListComp elt [⟨target, iter, ifs, 0⟩] scope pos) 0 it acc env).onRaise (fun q => do noteFrame q env; theTreesLotGoes q)) _ _ z
  refine wpAny_noted ?_
  rw [compTurn_list]
  refine wpAny_bind (wpAny_standAt (wpAny_bind (wpAny_mono (turn n z hZ) (fun r z1 k1 => ?_) fun _ _ q => q.elim)))
  cases r with
  | none => exact wpAny_pure k1
  | some v =>
    refine wpAny_bind (wpAny_mono k1 (fun _ z2 k2 => ?_) fun _ _ q => q.elim)
    refine wpAny_bind (wpAny_mono k2 (fun _ z3 k3 => ?_) fun _ _ q => q.elim)
    refine wpAny_bind (wpAny_mono k3 (fun ok z4 k4 => ?_) fun _ _ q => q.elim)
    cases ok with
    | false => exact wpAny_pure ⟨rfl, k4⟩
    | true =>
      refine wpAny_bind (wpAny_bind (wpAny_mono (show wpAny _ _ _ _ _ _ from k4) (fun y z5 k5 => ?_) fun _ _ q => q.elim))
      exact wpAny_bind (wpAny_mono k5 (fun _ z6 k6 => wpAny_pure (wpAny_pure ⟨rfl, k6⟩)) fun _ _ q => q.elim)
noncomputable def LcBody (J : It) (idx : List Nat) (te : TE) (σ : L2.St) (Q : VK) (H1 : Hp) : Prop := ∃ W : Nat → Nat → List V → Hp → Prop, (∃ m, W 0 m [] H1) ∧ ∀ i m ys H, W i m ys H → ys.length ≤ sizeLine ∧
  ((J.stop i H ∧ ∀ p, H p = none → Q (.ref p) (upd H p (.lst ys))) ∨ (J.go i H ∧ ∀ y H', J.yld i H y H' → te (stIn (some y) idx σ) H' fun v H2 => ∃ m', m' < m ∧ W (i + 1) m' (ys ++ [v]) H2))
noncomputable def tLc (wi : TI) (idx : List Nat) (te : TE) : TE := fun σ H Q => wi σ H fun J H1 => LcBody J idx te σ Q H1
noncomputable def LcBodyT (J : It) (idx : List Nat) (tt : TT) (te : TE) (σ : L2.St) (Q : VK) (H1 : Hp) : Prop := ∃ W : Nat → Nat → List V → Hp → Prop, (∃ m, W 0 m [] H1) ∧ ∀ i m ys H, W i m ys H → ys.length ≤ sizeLine ∧
  ((J.stop i H ∧ ∀ p, H p = none → Q (.ref p) (upd H p (.lst ys))) ∨ (J.go i H ∧ ∀ y H', J.yld i H y H' → tt (stIn (some y) idx σ) H' fun b H3 => if b = true then te (stIn (some y) idx σ) H3 fun v H2 => ∃ m', m' < m ∧ W (i + 1) m' (ys ++ [v]) H2
    else ∃ m', m' < m ∧ W (i + 1) m' ys H3))
noncomputable def tLcT (wi : TI) (idx : List Nat) (tt : TT) (te : TE) : TE := fun σ H Q => wi σ H fun J H1 => LcBodyT J idx tt te σ Q H1
theorem LcBody.toT {J : It} {idx : List Nat} {te : TE} {σ : L2.St} {Q : VK} {H1 : Hp} (h : LcBody J idx te σ Q H1) : LcBodyT J idx ttNil te σ Q H1 := by
  obtain ⟨W, w0, turn⟩ := h
  refine ⟨W, w0, fun i m ys H w => ?_⟩
  obtain ⟨hz, h⟩ := turn i m ys H w
  refine ⟨hz, h.imp id fun h => ⟨h.1, fun y H' yl => ?_⟩⟩
  show (if true = true then te (stIn (some y) idx σ) H' (fun v H2 => ∃ m', m' < m ∧ W (i + 1) m' (ys ++ [v]) H2) else ∃ m', m' < m ∧ W (i + 1) m' ys H')
  rw [if_pos rfl]
  exact h.2 y H' yl
section
variable {X : Cx} {elt iter : Expr} {ifs : List Expr} {x : Str} {px pos : Pos} {scope : Scope} {cl : List (Str × Addr)} {wi : TI} {tt : TT} {te : TE} {ns : List Str} {idx : List Nat}
structure LcEnd (X : Cx) (fp : List Addr) (H2 H4 : Hp) (s2 s5 : Shared) (C D : Addr) (ys : List V) : Prop where
  dn : D = s2.heap.objs.size
  cn : s2.heap.objs.size ≤ C
  dc : D ≠ C
  un : Un (frs X.stack) fp H2 H4 s2.heap s5.heap
  hok : HOk X.prog X.w H4 s5.heap
  cf : H4 C = none
  df : H4 D = none
  os : s5.os = s2.os
  bare : AllBare s5.gens
  ns : ∃ m, s5.heap.Ns C m
  obj : ∃ us, Vals ys us ∧ s5.heap.get? D = some (LCg.lst us)
  len : ys.length ≤ sizeLine
theorem lc_main (hc : X.calm = true) (hi : PI X (.Name x px) iter wi) (hclos : closureFor scope X.env = pure cl) (hcell : ∀ y ∈ scope.names, y.2 ≠ .cell) (hkind : scope.kind = .function)
    (hnames : ∀ y ∈ scope.names, y.2 = .local → scope.names.lookup y.1 = some .local) (hx : scope.names.lookup x = some .local) (nd : (x :: ns).Nodup) (cap : Capt X scope cl ns idx)
    (hcl : ∀ y c, cl.lookup y = some c → X.env.cells.lookup y = some c) (hfr : ∀ y, ((relabel scope X.env).names.lookup y = some .cell ∨ (relabel scope X.env).names.lookup y = some .free) → ∃ c, cl.lookup y = some c)
    (htt : ∀ (C : Addr) (s : Shared) (H : Hp) (fp : List Addr), PTs (cxC X (x :: ns) scope cl C s H fp) ifs tt) (hel : ∀ (C : Addr) (s : Shared) (H : Hp) (fp : List Addr), PE (cxC X (x :: ns) scope cl C s H fp) elt te)
    {pins : List (Addr × Obj)} {σ : L2.St} {Q : VK} {itv : Value} {s2 : Shared} {E : Value → Shared → Prop} {RR : Value → Addr → Result → Shared → Prop} (h2 : PIE X pins σ (.Name x px) (fun J H1 => LcBodyT J idx tt te σ Q H1) itv s2)
    (hRR : ∀ fp H2 H4 s5 C D ys, Inv X pins σ H2 s2 → (∀ b ∈ fp, FpOk X pins H2 b) → LcEnd X fp H2 H4 s2 s5 C D ys → Q (.ref D) (upd H4 D (.lst ys)) → RR (.ref D) C (.ok .next) s5) :
    wpAny (model X.prog X.w) X.A (newList []) (fun acc s3 => wpAny (model X.prog X.w) X.A (newFunctionEnv scope X.env.globals cl [] X.env.qual none .none (some X.env)) (fun cenv s4 =>
      codeAny (model X.prog X.w) X.A (.compStart (.ListComp elt [⟨.Name x px, iter, ifs, 0⟩] scope pos) 0 itv acc { cenv with scope := relabel scope X.env }) (RR acc cenv.locals) s4) E s3) E s2 := by
  obtain ⟨it, fp, tn, J, H2, e, I2, T, st2, f2, W, ⟨m0, w0⟩, turn⟩ := h2
  subst e
  refine wpAny_newObj_type (wpAny_newFunctionEnv hcell (by intro y hy; simp at hy) (fun h1 hns1 hsb1 => ?_) hkind)
  dsimp only at hns1 hsb1 ⊢
  generalize hH2 : s2.heap.push { cls := .type "list", dict := none, data := .seq ([] : List Value).toArray } = g2 at hns1 hsb1 ⊢
  have hC : g2.objs.size = s2.heap.objs.size + 1 := by rw [← hH2, Heap.size_push]
  have hDC : s2.heap.objs.size ≠ g2.objs.size := by rw [hC]; exact Nat.ne_of_lt (Nat.lt_succ_self _)
  have hCle : s2.heap.objs.size ≤ g2.objs.size := by rw [hC]; exact Nat.le_succ _
  have keep1 : ∀ b o, s2.heap.get? b = some o → h1.get? b = some o := fun b o e => hsb1.extBut b o (Nat.ne_of_lt (Nat.lt_of_lt_of_le (Heap.lt_size e) hCle)) (Heap.get?_push_of_some _ (hH2 ▸ Heap.get?_push_of_some _ e))
  have hacc : h1.get? s2.heap.objs.size = some { cls := .type "list", data := .seq ([] : List Value).toArray 0 } := hsb1.extBut _ _ hDC (Heap.get?_push_of_some _ (hH2 ▸ Heap.get?_push_size _ rfl))
  have lt : ∀ b ∈ fp, b < s2.heap.objs.size := fun b hb => by
    obtain ⟨o, e, _⟩ := T.obj _ _ st2 b hb
    exact Heap.lt_size e
  have hxr : (relabel scope X.env).names.lookup x = some .local := lookup_relabel_local hx
  have ok := okC (N := x :: ns) (scope := scope) (cl := cl) (C := g2.objs.size) I2 f2 lt hCle hkind hcl hfr
  have I3 := invC (D := s2.heap.objs.size) (t := s2.toks + ([] : List (Str × Value)).length) I2 ok cap hcl keep1 hCle hns1 hacc (Nat.le_refl _) hDC (fun v z => by cases z) hxr
  have fC : ∀ {H' : Hp} {pl : List (Addr × Obj)}, (∀ p ∈ pl, p.1 = s2.heap.objs.size) → (∀ b ∈ fp, H' b = none) → ∀ b ∈ fp, FpOk (cxC X (x :: ns) scope cl g2.objs.size s2 H2 fp) pl H' b := fun {H' pl} hpl hn b hb =>
    ⟨hn b hb, (ok.exf b hb).1, fun z => ok.exfs b hb z, .inl hb, (ok.exf b hb).2, fun p hp z => by
      have q := hpl p (by simpa [cxC] using hp)
      have := lt b hb
      rw [← z, q] at this
      exact Nat.lt_irrefl _ this⟩
  have lnc : ∀ us : List Value, ∀ v, (LCg.lst us).data ≠ .cell v := fun us v z => by cases z
  have loop : ∀ s3 : Shared, s3 = { s2 with heap := h1, toks := s2.toks + ([] : List (Str × Value)).length } →
      codeAny (model X.prog X.w) X.A (.compLoop (.ListComp elt [⟨.Name x px, iter, ifs, 0⟩] scope pos) 0 (.ref it) (.ref s2.heap.objs.size) (compEnvC scope cl g2.objs.size X.env))
        (RR (.ref s2.heap.objs.size) g2.objs.size) s3 := by
    rintro s3 rfl
    refine lc_loop (fun n s' => ∃ i ys us r H', Inv (cxC X (x :: ns) scope cl g2.objs.size s2 H2 fp) [(s2.heap.objs.size, LCg.lst us)] (stIn r idx σ) H' s' ∧ tn i s'.heap ∧ (∀ b ∈ fp, H' b = none) ∧ Vals ys us ∧ W i n ys H') ?_ m0
      ⟨0, [], [], none, H2, I3, T.keep _ _ _ st2 fun b _ o e => keep1 b o e, fun b hb => (f2 b hb).1, .nil, w0⟩
    rintro n s4 ⟨i, ys, us, r, H4, I4, st4, fr4, vs4, w4⟩
    obtain ⟨hz, ⟨stop, qn⟩ | ⟨go, step⟩⟩ := turn i n ys H4 w4
    · refine thn (T.done (cxC X (x :: ns) scope cl g2.objs.size s2 H2 fp) rfl rfl rfl hc i _ s4 _ H4 NoE I4 (fC (fun p hp => by rw [List.mem_singleton.mp hp]) fr4) st4 stop) fun r5 s5 zz => ?_
      obtain ⟨hr5, I5⟩ := zz
      subst hr5
      obtain ⟨mC, hnC, _⟩ := I5.loc
      obtain ⟨pD1, pD2, _⟩ := I5.pin (s2.heap.objs.size, LCg.lst us) (List.mem_append_right _ (List.mem_singleton.mpr rfl))
      exact hRR fp H2 H4 s5 g2.objs.size s2.heap.objs.size ys I2 f2 ⟨rfl, hCle, hDC, I5.base, I5.hok, I5.free, pD2, I5.os, I5.bare, ⟨mC, hnC⟩, ⟨us, vs4, pD1⟩, hz⟩ (qn _ pD2)
    · refine thn (T.item (cxC X (x :: ns) scope cl g2.objs.size s2 H2 fp) rfl rfl rfl hc i _ s4 _ H4 NoE I4 (fC (fun p hp => by rw [List.mem_singleton.mp hp]) fr4) st4 go) fun r5 s5 zz => ?_
      obtain ⟨u, hr5, k5⟩ := zz
      subst hr5
      refine thn k5 fun _ s6 zz => ?_
      obtain ⟨y, H6, I6, r6, y6, st6, fr6⟩ := zz
      have I6' := I6.pinned (fC (fun p hp => by rw [List.mem_singleton.mp hp]) fr6) (T.obj _ _ st6)
      have G := pg_name (X := cxC X (x :: ns) scope cl g2.objs.size s2 H2 fp) (pos := px) (i := 0) (x := x) nd rfl (.inl hxr) (.inr hxr)
      refine thn (G _ s6 _ H6 y u (fun σ' H' => σ' = stIn (some y) idx σ ∧ H' = H6) I6' r6 ⟨rfl, rfl⟩) fun _ s7 zz => ?_
      obtain ⟨σ7, H7, I7, e7, eH⟩ := zz
      subst e7 eH
      refine thn (htt g2.objs.size s2 H2 fp _ s7 _ _ _ I7 (step y _ y6)) fun ok s71 zz => ?_
      obtain ⟨H71, I71, k71⟩ := zz
      cases ok with
      | false =>
        obtain ⟨m', lm, w8⟩ := (show ∃ m', m' < n ∧ W (i + 1) m' ys H71 from k71)
        have kf : ∀ b ∈ fp, ∀ o, s6.heap.get? b = some o → s71.heap.get? b = some o ∧ H71 b = none := fun b hb o e => by
          have q := I71.pin (b, o) (List.mem_append_right _ (List.mem_append_right _ (mem_pinsAt hb e)))
          exact ⟨q.1, q.2.1⟩
        obtain ⟨pD1, pD2, pD3, pD4, _⟩ := I71.pin (s2.heap.objs.size, LCg.lst us) (by simp [cxC])
        refine ⟨m', lm, i + 1, ys, us, some y, H71, I71.pins_of fun p hp => ?_, ?_, fun b hb => ?_, vs4, w8⟩
        · rw [List.mem_singleton.mp hp]
          exact ⟨pD1, pD2, pD3, pD4, lnc _⟩
        · exact T.keep _ _ _ st6 fun b hb o e => (kf b hb o e).1
        · obtain ⟨o, e, _⟩ := T.obj _ _ st6 b hb
          exact (kf b hb o e).2
      | true =>
      refine thn (hel g2.objs.size s2 H2 fp _ s71 _ _ _ I71 k71) fun y8 s8 zz => ?_
      obtain ⟨v, H8, I8, r8, m', lm, w8⟩ := zz
      obtain ⟨pD1, pD2, pD3, pD4, _⟩ := I8.pin (s2.heap.objs.size, LCg.lst us) (by simp [cxC])
      have kf : ∀ b ∈ fp, ∀ o, s6.heap.get? b = some o → s8.heap.get? b = some o ∧ H8 b = none := fun b hb o e => by
        have q := I8.pin (b, o) (List.mem_append_right _ (List.mem_append_right _ (mem_pinsAt hb e)))
        exact ⟨q.1, q.2.1⟩
      refine append_at (hsz := by show us.toArray.size ≤ sizeLine; rw [List.size_toArray, ← vs4.length]; exact hz) pD1 fun h9 sb9 hD9 => ?_
      have I8' : Inv (cxC X (x :: ns) scope cl g2.objs.size s2 H2 fp) [] (stIn (some y) idx σ) H8 s8 := I8.pins_of fun p hp => nomatch hp
      have I9 := I8'.turned (it := s2.heap.objs.size) (h' := h9) (t' := s8.toks) (fun b o hb e => (sb9.2 b hb).trans e) pD2 pD3 (.inr (Nat.le_refl _)) (fun y c e z => by
          obtain ⟨v, q⟩ := I2.cell y c (hcl y c e)
          exact absurd q.lt (by rw [z]; exact Nat.lt_irrefl _)) (fun p hp => by simp [cxC] at hp)
      refine ⟨m', lm, i + 1, ys ++ [v], us ++ [y8], some y, H8, I9.pins_of fun p hp => ?_, ?_, fun b hb => ?_, vs4.append (.cons r8 .nil), w8⟩
      · rw [List.mem_singleton.mp hp]
        exact ⟨hD9.trans (congrArg some (LCg.lst_snoc us y8)), pD2, pD3, pD4, lnc _⟩
      · exact T.keep _ _ _ st6 fun b hb o e => (sb9.2 b (Nat.ne_of_lt (lt b hb))).trans (kf b hb o e).1
      · obtain ⟨o, e, _⟩ := T.obj _ _ st6 b hb
        exact (kf b hb o e).2
  exact codeAny_compStart_list (loop _ rfl) (T.self _ 0 _ _ _ (T.keep _ _ _ st2 fun b _ o e => keep1 b o e) (loop _ rfl))
theorem LcEnd.inv {fp : List Addr} {H2 H4 : Hp} {s2 s5 : Shared} {C D : Addr} {ys : List V} {pins : List (Addr × Obj)} {σ : L2.St} {h' : Heap} (L : LcEnd X fp H2 H4 s2 s5 C D ys) (I2 : Inv X pins σ H2 s2) (f2 : ∀ b ∈ fp, FpOk X pins H2 b) (sb : Heap.SameBut C s5.heap h') :
    Inv X pins σ (upd H4 D (.lst ys)) { s5 with heap := h' } := by
  obtain ⟨rfl, hCle, hDC, U, hok, cf, pD2, eo, bare, ⟨mC, hnC⟩, ⟨us, vs4, pD1⟩, hz⟩ := L
  have neC : ∀ b o, s2.heap.get? b = some o → b ≠ C := fun b o e => Nat.ne_of_lt (Nat.lt_of_lt_of_le (Heap.lt_size e) hCle)
  have U' : Un (frs X.stack) fp H2 H4 s2.heap h' := ⟨fun b o e n hb hx => (sb.2 b (neC b o e)).trans (U.keep b o e n hb hx), fun b o e n hb hx => by
      obtain ⟨sl, q⟩ := U.slot b o e n hb hx
      exact ⟨sl, (sb.2 b (neC b o e)).trans q⟩, U.free, fun b o e hx => by
      obtain ⟨o', q⟩ := U.there b o e hx
      exact ⟨o', (sb.2 b (neC b o e)).trans q⟩, U.tups, U.frzs, U.tbls⟩
  have hok' : HOk X.prog X.w H4 h' := fun a o e => by
    refine (hok a o e).stay (fun b u hb q => (sb.2 b ?_).trans q) (fun _ z => z) fun _ _ z => z
    rintro rfl
    rcases hb with hb | hb
    · rw [← hb, cf] at e; cases e
    · rw [cf] at hb; cases hb
  have I6 := I2.call (ch := fp) (h' := h') (g' := s5.gens) (t' := s5.toks) (d' := s5.drawn) U' hok' bare fun b hb => ⟨(f2 b hb).2.2.2.1, (f2 b hb).2.1, (f2 b hb).2.2.2.2.1, (f2 b hb).2.2.2.2.2⟩
  have I7 := Inv.adopt (x := s2.heap.objs.size) (o := .lst ys) (fun y c e z => by
      obtain ⟨v, q⟩ := I2.cell y c e
      exact absurd q.lt (by rw [z]; exact Nat.lt_irrefl _)) I6 (Heap.get?_none_of_le I2.sz) pD2 (Nat.ne_of_gt I2.lt) (fun p hp z => by
      have := Heap.lt_size (I2.pin p hp).1
      rw [z] at this
      exact Nat.lt_irrefl _ this) ⟨hz, us, us.length, vs4, (sb.2 _ hDC).trans pD1⟩
  rw [← eo] at I7
  exact I7
theorem pie_toT {pins : List (Addr × Obj)} {σ : L2.St} {tg : Expr} {Q : VK} {itv : Value} {s2 : Shared} (h : PIE X pins σ tg (fun J H1 => LcBody J idx te σ Q H1) itv s2) : PIE X pins σ tg (fun J H1 => LcBodyT J idx ttNil te σ Q H1) itv s2 := by
  obtain ⟨it, fp, tn, J, H', a, b, c, d, e, q⟩ := h
  exact ⟨it, fp, tn, J, H', a, b, c, d, e, q.toT⟩
theorem pe_lcT (hc : X.calm = true) (hi : PI X (.Name x px) iter wi) (hclos : closureFor scope X.env = pure cl) (hcell : ∀ y ∈ scope.names, y.2 ≠ .cell) (hkind : scope.kind = .function)
    (hnames : ∀ y ∈ scope.names, y.2 = .local → scope.names.lookup y.1 = some .local) (hx : scope.names.lookup x = some .local) (nd : (x :: ns).Nodup) (cap : Capt X scope cl ns idx)
    (hcl : ∀ y c, cl.lookup y = some c → X.env.cells.lookup y = some c) (hfr : ∀ y, ((relabel scope X.env).names.lookup y = some .cell ∨ (relabel scope X.env).names.lookup y = some .free) → ∃ c, cl.lookup y = some c)
    (htt : ∀ (C : Addr) (s : Shared) (H : Hp) (fp : List Addr), PTs (cxC X (x :: ns) scope cl C s H fp) ifs tt) (hel : ∀ (C : Addr) (s : Shared) (H : Hp) (fp : List Addr), PE (cxC X (x :: ns) scope cl C s H fp) elt te) (hs : ∀ v, foldedSetIterable iter X.env v = pure v := by intro _; rfl) :
    PE X (.ListComp elt [⟨.Name x px, iter, ifs, 0⟩] scope pos) (tLcT wi idx tt te) := by
  intro pins s σ H Q I h
  rw [eval_ListComp]
  refine wpAny_comprehension_free (use := none) rfl hs hclos hkind hnames (thn (hi pins s σ H _ I h) fun v s1 h1 => thn h1 fun itv s2 h2 => ?_)
  refine lc_main hc hi hclos hcell hkind hnames hx nd cap hcl hfr htt hel (RR := fun acc C => compPost (model X.prog X.w) X.A X.xe none (EP X pins σ Q) acc C) h2 fun fp H2 H4 s5 C D ys I2 f2 L q => ?_
  obtain ⟨mC, hnC⟩ := L.ns
  exact ⟨mC, hnC, fun h' sb => ⟨.ref D, _, L.inv I2 f2 sb, rfl, q⟩⟩
theorem ps_lcT {j : Nat} {y : Str} {py spos : Pos} (hN : X.N.Nodup) (hj : X.N[j]? = some y) (hy : X.env.scope.names.lookup y = some .local) (hsw : swapsWith (.ListComp elt [⟨.Name x px, iter, ifs, 0⟩] scope pos) (some (.Name y py)) spos.line X.env = pure true)
    (hc : X.calm = true) (hi : PI X (.Name x px) iter wi) (hclos : closureFor scope X.env = pure cl) (hcell : ∀ y ∈ scope.names, y.2 ≠ .cell) (hkind : scope.kind = .function)
    (hnames : ∀ y ∈ scope.names, y.2 = .local → scope.names.lookup y.1 = some .local) (hx : scope.names.lookup x = some .local) (nd : (x :: ns).Nodup) (cap : Capt X scope cl ns idx)
    (hcl : ∀ y c, cl.lookup y = some c → X.env.cells.lookup y = some c) (hfr : ∀ y, ((relabel scope X.env).names.lookup y = some .cell ∨ (relabel scope X.env).names.lookup y = some .free) → ∃ c, cl.lookup y = some c)
    (htt : ∀ (C : Addr) (s : Shared) (H : Hp) (fp : List Addr), PTs (cxC X (x :: ns) scope cl C s H fp) ifs tt) (hel : ∀ (C : Addr) (s : Shared) (H : Hp) (fp : List Addr), PE (cxC X (x :: ns) scope cl C s H fp) elt te) (hs : ∀ v, foldedSetIterable iter X.env v = pure v) :
    PS X (.Assign [.Name y py] (.ListComp elt [⟨.Name x px, iter, ifs, 0⟩] scope pos) spos) (tAsg (tLcT wi idx tt te) (gName j)) := by
  intro pins s σ H D I h
  rw [exec_Assign_Name_used _ _ _ _ hsw]
  refine wpAny_bind (wpAny_standAt (wpAny_bind ?_))
  show wpAny _ _ (do let _ ← comprehension (.ListComp elt [⟨.Name x px, iter, ifs, 0⟩] scope pos) scope X.env _ (newList []) false (eval iter X.env) (some (assign (.Name y py) X.env))) _ _ s
  refine wpAny_bind (wpAny_mono (wpAny_comprehension_free (use := some (assign (.Name y py) X.env)) (Q := fun _ s' => SP X pins D .next s') rfl hs hclos hkind hnames
    (thn (hi pins s σ H _ I h) fun v s1 h1 => thn h1 fun itv s2 h2 => ?_)) (fun _ s' hq => wpAny_pure (wpAny_pure hq)) fun _ _ e => e)
  refine lc_main hc hi hclos hcell hkind hnames hx nd cap hcl hfr htt hel (RR := fun acc C => compPost (model X.prog X.w) X.A X.xe (some (assign (.Name y py) X.env)) (fun _ s' => SP X pins D .next s') acc C) h2 fun fp H2 H4 s5 C Da ys I2 f2 L q => ?_
  have I7 := L.inv I2 f2 (h' := s5.heap) ⟨rfl, fun _ _ => rfl⟩
  show wpAny _ _ (assign (.Name y py) X.env (.ref Da)) _ _ s5
  have cL : C ≠ X.env.locals := Nat.ne_of_gt (Nat.lt_of_lt_of_le I2.lt L.cn)
  have cc : ∀ z c, X.env.cells.lookup z = some c → c ≠ C := fun z c e => by
    obtain ⟨v, k⟩ := I2.cell z c e
    exact Nat.ne_of_lt (Nat.lt_of_lt_of_le k.lt L.cn)
  refine wpAny_assign_Name (store_ok2 I7 hN hj (.inl hy) (v := .ref Da) rfl (fun s8 I8 sm => ?_) (.inr hy))
  obtain ⟨a, sba, ha⟩ := sm
  have ac : C ≠ a := by
    rcases ha with rfl | ha
    · exact cL
    · exact Ne.symm (cc _ _ ha)
  obtain ⟨mC, o, es, ep, e1, e2⟩ := L.ns
  refine ⟨mC, ⟨o, es, ep, (sba.2 C ac).trans e1, e2⟩, fun h' sb => ⟨_, _, ?_, q⟩⟩
  refine I8.turned (it := C) (h' := h') (t' := s8.toks) (fun b u nb e => (sb.2 b nb).trans e) ?_ cL (.inr (Nat.le_trans I2.sz L.cn)) cc fun p hp z => ?_
  · rw [upd_ne (Ne.symm L.dc)]
    exact L.cf
  · have := Heap.lt_size (I2.pin p hp).1
    rw [z] at this
    exact absurd this (Nat.not_lt.mpr L.cn)
theorem pe_lc (hc : X.calm = true) (hi : PI X (.Name x px) iter wi) (hclos : closureFor scope X.env = pure cl) (hcell : ∀ y ∈ scope.names, y.2 ≠ .cell) (hkind : scope.kind = .function)
    (hnames : ∀ y ∈ scope.names, y.2 = .local → scope.names.lookup y.1 = some .local) (hx : scope.names.lookup x = some .local) (nd : (x :: ns).Nodup) (cap : Capt X scope cl ns idx)
    (hcl : ∀ y c, cl.lookup y = some c → X.env.cells.lookup y = some c) (hfr : ∀ y, ((relabel scope X.env).names.lookup y = some .cell ∨ (relabel scope X.env).names.lookup y = some .free) → ∃ c, cl.lookup y = some c)
    (hel : ∀ (C : Addr) (s : Shared) (H : Hp) (fp : List Addr), PE (cxC X (x :: ns) scope cl C s H fp) elt te) (hs : ∀ v, foldedSetIterable iter X.env v = pure v := by intro _; rfl) :
    PE X (.ListComp elt [⟨.Name x px, iter, [], 0⟩] scope pos) (tLc wi idx te) := by
  intro pins s σ H Q I h
  rw [eval_ListComp]
  refine wpAny_comprehension_free (use := none) rfl hs hclos hkind hnames (thn (hi pins s σ H _ I h) fun v s1 h1 => thn h1 fun itv s2 h2 => ?_)
  refine lc_main (tt := ttNil) hc hi hclos hcell hkind hnames hx nd cap hcl hfr (fun _ _ _ _ => pts_nil) hel (RR := fun acc C => compPost (model X.prog X.w) X.A X.xe none (EP X pins σ Q) acc C) (pie_toT h2) fun fp H2 H4 s5 C D ys I2 f2 L q => ?_
  obtain ⟨mC, hnC⟩ := L.ns
  exact ⟨mC, hnC, fun h' sb => ⟨.ref D, _, L.inv I2 f2 sb, rfl, q⟩⟩
theorem ps_lc {j : Nat} {y : Str} {py spos : Pos} (hN : X.N.Nodup) (hj : X.N[j]? = some y) (hy : X.env.scope.names.lookup y = some .local) (hsw : swapsWith (.ListComp elt [⟨.Name x px, iter, [], 0⟩] scope pos) (some (.Name y py)) spos.line X.env = pure true)
    (hc : X.calm = true) (hi : PI X (.Name x px) iter wi) (hclos : closureFor scope X.env = pure cl) (hcell : ∀ y ∈ scope.names, y.2 ≠ .cell) (hkind : scope.kind = .function)
    (hnames : ∀ y ∈ scope.names, y.2 = .local → scope.names.lookup y.1 = some .local) (hx : scope.names.lookup x = some .local) (nd : (x :: ns).Nodup) (cap : Capt X scope cl ns idx)
    (hcl : ∀ y c, cl.lookup y = some c → X.env.cells.lookup y = some c) (hfr : ∀ y, ((relabel scope X.env).names.lookup y = some .cell ∨ (relabel scope X.env).names.lookup y = some .free) → ∃ c, cl.lookup y = some c)
    (hel : ∀ (C : Addr) (s : Shared) (H : Hp) (fp : List Addr), PE (cxC X (x :: ns) scope cl C s H fp) elt te) (hs : ∀ v, foldedSetIterable iter X.env v = pure v) :
    PS X (.Assign [.Name y py] (.ListComp elt [⟨.Name x px, iter, [], 0⟩] scope pos) spos) (tAsg (tLc wi idx te) (gName j)) := by
  intro pins s σ H D I h
  rw [exec_Assign_Name_used _ _ _ _ hsw]
  refine wpAny_bind (wpAny_standAt (wpAny_bind ?_))
  show wpAny _ _ (do let _ ← comprehension (.ListComp elt [⟨.Name x px, iter, [], 0⟩] scope pos) scope X.env _ (newList []) false (eval iter X.env) (some (assign (.Name y py) X.env))) _ _ s
  refine wpAny_bind (wpAny_mono (wpAny_comprehension_free (use := some (assign (.Name y py) X.env)) (Q := fun _ s' => SP X pins D .next s') rfl hs hclos hkind hnames
    (thn (hi pins s σ H _ I h) fun v s1 h1 => thn h1 fun itv s2 h2 => ?_)) (fun _ s' hq => wpAny_pure (wpAny_pure hq)) fun _ _ e => e)
  refine lc_main (tt := ttNil) hc hi hclos hcell hkind hnames hx nd cap hcl hfr (fun _ _ _ _ => pts_nil) hel (RR := fun acc C => compPost (model X.prog X.w) X.A X.xe (some (assign (.Name y py) X.env)) (fun _ s' => SP X pins D .next s') acc C) (pie_toT h2) fun fp H2 H4 s5 C Da ys I2 f2 L q => ?_
  have I7 := L.inv I2 f2 (h' := s5.heap) ⟨rfl, fun _ _ => rfl⟩
  show wpAny _ _ (assign (.Name y py) X.env (.ref Da)) _ _ s5
  have cL : C ≠ X.env.locals := Nat.ne_of_gt (Nat.lt_of_lt_of_le I2.lt L.cn)
  have cc : ∀ z c, X.env.cells.lookup z = some c → c ≠ C := fun z c e => by
    obtain ⟨v, k⟩ := I2.cell z c e
    exact Nat.ne_of_lt (Nat.lt_of_lt_of_le k.lt L.cn)
  refine wpAny_assign_Name (store_ok2 I7 hN hj (.inl hy) (v := .ref Da) rfl (fun s8 I8 sm => ?_) (.inr hy))
  obtain ⟨a, sba, ha⟩ := sm
  have ac : C ≠ a := by
    rcases ha with rfl | ha
    · exact cL
    · exact Ne.symm (cc _ _ ha)
  obtain ⟨mC, o, es, ep, e1, e2⟩ := L.ns
  refine ⟨mC, ⟨o, es, ep, (sba.2 C ac).trans e1, e2⟩, fun h' sb => ⟨_, _, ?_, q⟩⟩
  refine I8.turned (it := C) (h' := h') (t' := s8.toks) (fun b u nb e => (sb.2 b nb).trans e) ?_ cL (.inr (Nat.le_trans I2.sz L.cn)) cc fun p hp z => ?_
  · rw [upd_ne (Ne.symm L.dc)]
    exact L.cf
  · have := Heap.lt_size (I2.pin p hp).1
    rw [z] at this
    exact absurd this (Nat.not_lt.mpr L.cn)
end
section
variable {X : Cx}
end
section
variable {prog : Program} {w : World} {A : Around} {E : Value → Shared → Prop} {s : Shared} {I l S : Addr} {items : Array Value}
end
section
variable {X : Cx}
noncomputable def del (H : Hp) (a : Addr) : Hp := fun b => if b = a then none else H b
theorem del_ne {H : Hp} {a b : Addr} (h : b ≠ a) : del H a b = H b := if_neg h
theorem del_same {H : Hp} {a : Addr} : del H a a = none := if_pos rfl
theorem del_none {H : Hp} {a b : Addr} (h : H b = none) : del H a b = none := by
  unfold del
  split
  · rfl
  · exact h
theorem Inv.drop {pins : List (Addr × Obj)} {σ : L2.St} {H : Hp} {s : Shared} {it : Addr} {φ : Heap → Prop} (I : Inv X pins σ H s) (hi : H it = some (.ext φ)) : Inv X pins σ (del H it) s := by
  have nt : ∀ b u, H b = some u → (∀ ψ, u ≠ .ext ψ) → b ≠ it := fun b u e k y => by rw [y, hi] at e; cases e; exact k _ rfl
  refine ⟨I.ok, I.os, I.bare, ⟨I.base.keep, I.base.slot, fun b o q n hx => del_none (I.base.free b o q n hx), I.base.there, fun b xs q => ?_, fun b ob u q => ?_, fun b ps q => ?_⟩, I.loc, I.cell, del_none I.free, fun y c e => del_none (I.freeC y c e), fun p hp => ?_, fun a u e => ?_, I.len⟩
  · have e := I.base.tups b xs q
    rw [del_ne (nt b _ e fun ψ y => by cases y)]
    exact e
  · have e := I.base.frzs b ob u q
    rw [del_ne (nt b _ e fun ψ y => by cases y)]
    exact e
  · obtain ⟨more, e⟩ := I.base.tbls b ps q
    exact ⟨more, by rw [del_ne (nt b _ e fun ψ y => by cases y)]; exact e⟩
  · obtain ⟨a, b, c⟩ := I.pin p hp
    exact ⟨a, del_none b, c⟩
  · have na : a ≠ it := fun y => by rw [y, del_same] at e; cases e
    rw [del_ne na] at e
    refine (I.hok a u e).stay (fun _ _ _ q => q) (fun b q => ?_) fun b xs q => ?_
    · rw [del_ne (nt b _ q fun ψ y => by cases y)]
      exact q
    · rw [del_ne (nt b _ q fun ψ y => by cases y)]
      exact q
end
section
variable {X : Cx}
end
noncomputable abbrev FQ (K : PySem.W.Frag) (H : Hp) (p : Addr) (x : Rat) : Prop := SqT K H p [.int x.num, .int ((x.den : Nat) : Int)]
section
variable {K : PySem.W.Frag} {H H' : Hp} {p q : Addr} {x y : Rat} {m n : Nat}
theorem FQ.cast (h : FQ K H p x) (e : x = y) : FQ K H p y := e ▸ h
theorem FQ.dp (h : FQ K H p x) : Dp K H (.ref p) (.tuple [.int x.num, .int ((x.den : Nat) : Int)]) := .tup h (.cons (.int _) (.cons (.int _) .nil))
theorem FQ.fit {t b : Int} (h : b ≠ 0) (e : SqT K H p [.int (fT t b), .int (fB t b)]) : FQ K H p (Rat.divInt t b) := by
  obtain ⟨e1, e2⟩ := q_fit (t := t) h
  rw [e1, e2] at e
  exact e
theorem FQ.ofInt {i : Int} (h : SqT K H p [.int i, .int 1]) : FQ K H p (i : Rat) := h
theorem FQ.ofNeg {i : Int} (h : SqT K H p [.int i, .int ((x.den : Nat) : Int)]) (e : i = -x.num) : FQ K H p (-x) := by
  subst e
  exact h
noncomputable def FB (n : Nat) (x : Rat) : Prop := Bd n x.num ∧ Bd n ((x.den : Nat) : Int)
theorem FB.mono (h : FB m x) (l : m ≤ n) : FB n x := ⟨h.1.mono l, h.2.mono l⟩
theorem FB.cast (h : FB n x) (e : x = y) : FB n y := e ▸ h
theorem FB.fit {t b : Int} (h : b ≠ 0) (g1 : Bd n t) (g2 : Bd n b) : FB n (Rat.divInt t b) := by
  obtain ⟨e1, e2⟩ := q_fit (t := t) h
  refine ⟨?_, ?_⟩
  · rw [← e1]; exact bd_fT h g1
  · rw [← e2]; exact bd_fB h g2
theorem q_ne (x : Rat) : ((x.den : Nat) : Int) ≠ 0 := by have := q_pos x; omega
theorem q_num_ne (h : x ≠ 0) : x.num ≠ 0 := fun e => h (Rat.num_eq_zero.mp e)
theorem FB.add (h : FB m x) (g : FB n y) : FB (m + n + 1) (x + y) := by
  rw [← q_add]
  exact FB.fit (Int.mul_ne_zero (q_ne x) (q_ne y)) ((h.1.mul g.2).add ((g.1.mul h.2).mono (by omega))) ((h.2.mul g.2).mono (by omega))
theorem FB.sub (h : FB m x) (g : FB n y) : FB (m + n + 1) (x - y) := by
  rw [← q_sub]
  exact FB.fit (Int.mul_ne_zero (q_ne x) (q_ne y)) ((h.1.mul g.2).sub ((g.1.mul h.2).mono (by omega))) ((h.2.mul g.2).mono (by omega))
theorem FB.mul (h : FB m x) (g : FB n y) : FB (m + n) (x * y) := by
  rw [← q_mul]
  exact FB.fit (Int.mul_ne_zero (q_ne x) (q_ne y)) (h.1.mul g.1) (h.2.mul g.2)
theorem FB.div (h : FB m x) (g : FB n y) (y0 : y ≠ 0) : FB (m + n) (x / y) := by
  rw [← q_div]
  exact FB.fit (Int.mul_ne_zero (q_ne x) (q_num_ne y0)) (h.1.mul g.2) (h.2.mul g.1)
theorem FB.neg (h : FB n x) : FB n (-x) := by
  refine ⟨?_, h.2⟩
  have := h.1
  unfold Bd at this ⊢
  rw [(q_neg x).1]
  omega
theorem FB.ofInt {i : Int} (h : Bd n i) (l : 64 ≤ n) : FB n (i : Rat) := ⟨h, (Bd.small (i := 1) (by decide) (by decide)).mono l⟩
theorem bd_quot {b g : Int} (hb : Bd n b) (d : g ∣ b) (g0 : g ≠ 0) : Bd n (b.fdiv g) := by
  refine hb.of_le ?_
  have e := fd_mul d
  have q := natAbs_le_mul (x := b.fdiv g) g0
  rw [e] at q
  exact q
theorem bd_gcdR {a b : Int} (h : b ≠ 0) (hb : Bd n b) : Bd n ((Int.gcd a b : Nat) : Int) := by
  refine hb.of_le ?_
  have hd : Int.gcd a b ∣ b.natAbs := Nat.gcd_dvd_right _ _
  have := Nat.le_of_dvd (by omega) hd
  omega
theorem FB.mix {u v : Rat} {i j : Int} (hu : FB m u) (hv : FB n v) (a1 : 1 ≤ i) (a2 : i ≤ 10000) (b1 : 1 ≤ j) (b2 : j ≤ 10000) : FB (m + n + 129) (mixQ u v i j) :=
  (FB.add (hu.mul (FB.fit (by omega) (Bd.small (by omega) (by omega)) (Bd.small (by omega) (by omega)))) (hv.mul (FB.fit (by omega) (Bd.small (by omega) (by omega)) (Bd.small (by omega) (by omega))))).mono (by omega)
end
theorem But.fresh {b : Addr} {H H' : Hp} (h : H b = none) (s : But b H H') : Same H H' := fun a o e => s a o (ne_of_none e h) e
theorem atI_mem (ns : List Int) (d : Int) (lo : 0 ≤ d) (hi : d < (ns.length : Int)) : ∃ v, atI (ns.map V.int) d = some (.int v) ∧ v ∈ ns := by
  have hk : d.toNat < ns.length := by omega
  have ek : d = ((d.toNat : Nat) : Int) := by omega
  have z : atI (ns.map V.int) ((d.toNat : Nat) : Int) = some (.int ns[d.toNat]) := atI_nat (by rw [List.getElem?_map, List.getElem?_eq_getElem hk] <;> rfl)
  rw [← ek] at z
  exact ⟨_, z, List.getElem_mem hk⟩
theorem Scr.same {K : PySem.W.Frag} {H H' : Hp} {a : Addr} (h : Scr K H a) (s : Same H H') : Scr K H' a := by
  obtain ⟨ns, x, y⟩ := h
  exact ⟨ns, s.seq x, y⟩
theorem Fn.imp {P : Program} {w : World} {K : PySem.W.Frag} {mg : Str → Option Value} {base : Heap} {k : Nat} {x : Str} {ps : List Str} {sp sp' : Sp} (F : Fn P w K mg base k x ps sp) (h : ∀ vs H Q E, sp' vs H Q E → sp vs H Q E) : Fn P w K mg base k x ps sp' := by
  obtain ⟨f, fd, g, r⟩ := F.ex
  exact ⟨f, fd, g.imp h, r⟩
theorem if_not {c : Prop} [Decidable c] {A B : Prop} (h1 : ¬ c → A) (h2 : c → B) : if (!decide c) = true then A else B := by
  by_cases e : c
  · rw [decide_eq_true e]; exact iteF (h2 e)
  · rw [decide_eq_false e]; exact iteT (h1 e)
section
variable {X : Cx}
noncomputable def rAl (K : PySem.W.Frag) (r : Bool) : V → V → Hp → VK → Prop := fun x y H Q => ∃ d, Dp K H x d ∧ Dp K H y d ∧ d.canLay0 = true ∧ Nat.ble d.depth 60 = true ∧ Q (.bl r) H
theorem op_neA {K : PySem.W.Frag} (hK : X.K = K) (hu : X.A.units + 100 < cLine) : OpR X (compareOp .NotEq) (rAl K false) := by
  intro pins s σ H x y v u Q I rx ry h
  obtain ⟨d, hx, hy, c, dep, q⟩ := h
  refine op_neD hK hu pins s σ H x y v u Q I rx ry ⟨d, d, hx, hy, c, c, ?_, ?_⟩
  · have := Nat.le_of_ble_eq_true dep
    omega
  · rw [SeqAt.eqv_refl d c]
    exact q
theorem q_list {x y : Rat} : ([x.num, ((x.den : Nat) : Int)] = [y.num, ((y.den : Nat) : Int)]) ↔ x = y := by
  constructor
  · intro e
    simp only [List.cons.injEq, and_true] at e
    exact Rat.ext e.1 (by omega)
  · intro e
    rw [e]
theorem op_eqQ {K : PySem.W.Frag} (hK : X.K = K) (hu : X.A.units + 100 < cLine) : OpR X (compareOp .Eq) (fun a b H Q => ∃ (p q : Addr) (x y : Rat), a = .ref p ∧ b = .ref q ∧ FQ K H p x ∧ FQ K H q y ∧ Q (.bl (decide (x = y))) H) := by
  subst hK
  intro pins s σ H a b v u Q I rx ry h
  obtain ⟨p, q, x, y, rfl, rfl, hx, hy, k⟩ := h
  refine op_eqTI (by omega) pins s σ H _ _ v u Q I rx ry ⟨p, q, [x.num, ((x.den : Nat) : Int)], [y.num, ((y.den : Nat) : Int)], rfl, rfl, hx, hy, ?_⟩
  rw [decide_eq_decide.mpr q_list]
  exact k
noncomputable def IsTup2 (K : PySem.W.Frag) (H : Hp) (x c : V) (b : Bool) : Prop := IsI K H x c b ∨ ∃ a xs, x = .ref a ∧ SqT K H a xs ∧ PySem.W.kitOne K (.type "tuple") (valC c) = some b
theorem call_isiTup {K : PySem.W.Frag} (hK : X.K = K) : CallR X (.builtin "isinstance") (fun xs H Q => ∃ x c b, xs = [x, c] ∧ ((∃ T, c = .ty T) ∨ ∃ C, c = .ref C) ∧ IsTup2 K H x c b ∧ Q (.bl b) H) := by
  subst hK
  intro pins s σ H xs us Q I r h
  obtain ⟨x, c, b, e0, hc, hi, q⟩ := h
  rcases hi with hi | ⟨a, ys, rfl, ha, e⟩
  · exact call_isinst pins s σ H xs us Q I r ⟨x, c, b, e0, hc, hi, q⟩
  subst e0
  obtain ⟨u, w', rfl, rx, rc⟩ := vals2 r
  have ec : w' = valC c := by
    rcases hc with ⟨T, rfl⟩ | ⟨C, rfl⟩
    · exact rc
    · exact rc
  subst ec
  cases (show u = Value.ref a from rx)
  obtain ⟨its, _, ⟨o, h1, h2, _⟩, _⟩ := I.tuple ha
  exact PySem.W.kia_one PySem.W.kitx_tuple I.kIn ⟨o, h1, h2⟩ e (fun z => nomatch z) fun tk => ⟨.bl b, H, I.tok _, rfl, q⟩
end
section
variable {K : PySem.W.Frag} {idx : List Nat} {te : TE} {σ : L2.St} {H : Hp} {Q : VK}
theorem lc_list {a : Addr} {xs : List V} (Pv : Nat → List V → Hp → Prop) (h0 : Pv 0 [] H) (hz : xs.length ≤ sizeLine) (hy : ∀ i ys H, Pv i ys H → ys.length = i) (hl : ∀ i ys H, Pv i ys H → SqL K H a xs)
    (hs : ∀ i x ys H (Q' : VK), xs[i]? = some x → Pv i ys H → (∀ v H2, Pv (i + 1) (ys ++ [v]) H2 → Q' v H2) → te (stIn (some x) idx σ) H Q') (hd : ∀ ys H, Pv xs.length ys H → ∀ p, H p = none → Q (.ref p) (upd H p (.lst ys))) :
    LcBody (Itl K a) idx te σ Q H := by
  refine ⟨fun i m ys H => m = xs.length - i ∧ i ≤ xs.length ∧ Pv i ys H, ⟨xs.length, by simp, Nat.zero_le _, h0⟩, ?_⟩
  rintro i m ys H ⟨rfl, hi, p⟩
  have q := hl i ys H p
  refine ⟨by rw [hy i ys H p]; omega, ?_⟩
  by_cases hlt : i < xs.length
  · refine .inr ⟨⟨xs, xs[i], q, by simp [hlt]⟩, fun y H' yl => ?_⟩
    obtain ⟨e, yl⟩ := yl
    subst e
    exact hs i y ys _ _ (yl xs q) p fun v H2 z => ⟨xs.length - (i + 1), by omega, rfl, hlt, z⟩
  · have e : i = xs.length := by omega
    subst e
    exact .inl ⟨⟨xs, q, Nat.le_refl _⟩, hd ys H p⟩
theorem lc_range {lo : Int} {n : Nat} (Pv : Nat → List V → Hp → Prop) (h0 : Pv 0 [] H) (hz : n ≤ sizeLine) (hy : ∀ i ys H, Pv i ys H → ys.length = i)
    (hs : ∀ i ys H (Q' : VK), i < n → Pv i ys H → (∀ v H2, Pv (i + 1) (ys ++ [v]) H2 → Q' v H2) → te (stIn (some (.int (lo + (i : Int)))) idx σ) H Q') (hd : ∀ ys H, Pv n ys H → ∀ p, H p = none → Q (.ref p) (upd H p (.lst ys))) :
    LcBody (Itr lo n) idx te σ Q H := by
  refine ⟨fun i m ys H => m = n - i ∧ i ≤ n ∧ Pv i ys H, ⟨n, by simp, Nat.zero_le _, h0⟩, ?_⟩
  rintro i m ys H ⟨rfl, hi, p⟩
  refine ⟨by rw [hy i ys H p]; omega, ?_⟩
  by_cases hlt : i < n
  · refine .inr ⟨hlt, fun y H' yl => ?_⟩
    obtain ⟨e, yl⟩ := yl
    subst e yl
    exact hs i ys _ _ hlt p fun v H2 z => ⟨n - (i + 1), by omega, rfl, hlt, z⟩
  · have e : i = n := by omega
    subst e
    exact .inl ⟨Nat.le_refl _, hd ys H p⟩
end
theorem no_free {names : List (Str × NameKind)} {cl : List (Str × Addr)} (h : names.all (fun z => z.2 != .cell && z.2 != .free) = true) : ∀ y, (names.lookup y = some .cell ∨ names.lookup y = some .free) → ∃ c, cl.lookup y = some c := fun y hy => by
  have mem : ∀ (l : List (Str × NameKind)) k, l.lookup y = some k → ∃ z ∈ l, z.2 = k := fun l => by
    induction l with
    | nil => intro k e; cases e
    | cons a r ih =>
      intro k e
      rw [List.lookup_cons] at e
      split at e
      · exact ⟨a, List.mem_cons_self, Option.some.inj e⟩
      · obtain ⟨z, hz, ez⟩ := ih k e
        exact ⟨z, List.mem_cons_of_mem _ hz, ez⟩
  rcases hy with e | e
  all_goals
    obtain ⟨z, hz, ez⟩ := mem _ _ e
    have := List.all_eq_true.mp h z hz
    rw [ez] at this
    simp at this
theorem cap_none {X : Cx} {scope : Scope} {cl : List (Str × Addr)} : Capt X scope cl [] [] := ⟨rfl, fun k y h => by simp at h⟩
section
variable {K : PySem.W.Frag} {H H' : Hp} {b : Addr} {v : V}
end
section
variable {K : PySem.W.Frag} {H H' : Hp} {b c : Addr} {x : V}
end
theorem cap_one {X : Cx} {scope : Scope} {cl : List (Str × Addr)} {y : Str} {j : Nat} {c : Addr} (h1 : X.N[j]? = some y) (h2 : X.env.kindOf y = some .cell) (h3 : X.env.cells.lookup y = some c) (h4 : cl.lookup y = some c)
    (h5 : (relabel scope X.env).names.lookup y = some .cell ∨ (relabel scope X.env).names.lookup y = some .free) : Capt X scope cl [y] [j] :=
  ⟨rfl, fun k z h => by
    cases k with
    | zero => cases h; exact ⟨j, c, rfl, h1, h2, h3, h4, h5⟩
    | succ k => simp at h⟩
theorem cap_fr {names : List (Str × NameKind)} {cl : List (Str × Addr)} (h : names.all (fun z => (z.2 != .cell && z.2 != .free) || (cl.lookup z.1).isSome) = true) : ∀ y, (names.lookup y = some .cell ∨ names.lookup y = some .free) → ∃ c, cl.lookup y = some c := fun y hy => by
  have mem : ∀ (l : List (Str × NameKind)) k, l.lookup y = some k → (y, k) ∈ l := fun l => by
    induction l with
    | nil => intro k e; cases e
    | cons a r ih =>
      intro k e
      rw [List.lookup_cons] at e
      split at e
      · rename_i q
        have e1 : y = a.1 := by simpa using q
        have e2 := Option.some.inj e
        rw [e1, ← e2]
        exact List.mem_cons_self
      · exact List.mem_cons_of_mem _ (ih k e)
  rcases hy with e | e
  all_goals
    have := List.all_eq_true.mp h _ (mem _ _ e)
    exact Option.isSome_iff_exists.mp (by simpa using this)
end Kw
theorem Kw.ixL {X : L2.Cx} {K : PySem.W.Frag} (hK : X.K = K) : L2.IxR X (L2.rIxL K) := by
  subst hK
  exact L2.ix_list
theorem Kw.ixT {X : L2.Cx} {K : PySem.W.Frag} (hK : X.K = K) : L2.IxR X (L2.rIxT K) := by
  subst hK
  exact L2.ix_tup
namespace Kw
open PySem PySem.Spec PyProof.Rows L2
section
variable {K : PySem.W.Frag} {H : Hp} {b : Addr} {x : V}
end
noncomputable def Al2 {β : Type} (R : V → β → Prop) : List V → List β → Prop
  | [], [] => True
  | x :: xs, b :: bs => R x b ∧ Al2 R xs bs
  | _, _ => False
section
variable {β : Type} {R R' : V → β → Prop}
theorem Al2.imp (h : ∀ x b, R x b → R' x b) : ∀ {xs : List V} {bs : List β}, Al2 R xs bs → Al2 R' xs bs
  | [], [], _ => trivial
  | _ :: _, _ :: _, z => ⟨h _ _ z.1, Al2.imp h z.2⟩
  | [], _ :: _, z => z.elim
  | _ :: _, [], z => z.elim
theorem Al2.len : ∀ {xs : List V} {bs : List β}, Al2 R xs bs → xs.length = bs.length
  | [], [], _ => rfl
  | _ :: _, _ :: _, z => by simp [Al2.len z.2]
  | [], _ :: _, z => z.elim
  | _ :: _, [], z => z.elim
theorem Al2.get : ∀ {xs : List V} {bs : List β} {i : Nat} {x : V}, Al2 R xs bs → xs[i]? = some x → ∃ b, bs[i]? = some b ∧ R x b
  | [], _, _, _, _, e => by simp at e
  | _ :: _, [], _, _, z, _ => z.elim
  | _ :: _, b :: _, 0, _, z, e => by
    simp only [List.getElem?_cons_zero, Option.some.injEq] at e
    subst e
    exact ⟨b, rfl, z.1⟩
  | _ :: _, _ :: _, i + 1, _, z, e => by
    simp only [List.getElem?_cons_succ] at e
    obtain ⟨b, h1, h2⟩ := Al2.get z.2 e
    exact ⟨b, by simpa using h1, h2⟩
theorem Al2.snoc : ∀ {xs : List V} {bs : List β} {x : V} {b : β}, Al2 R xs bs → R x b → Al2 R (xs ++ [x]) (bs ++ [b])
  | [], [], _, _, _, h => ⟨h, trivial⟩
  | _ :: _, _ :: _, _, _, z, h => ⟨z.1, Al2.snoc z.2 h⟩
  | [], _ :: _, _, _, z, _ => z.elim
  | _ :: _, [], _, _, z, _ => z.elim
theorem Al2.rev : ∀ {xs : List V} {bs : List β}, Al2 R xs bs → Al2 R xs.reverse bs.reverse
  | [], [], _ => trivial
  | x :: xs, b :: bs, z => by
    rw [List.reverse_cons, List.reverse_cons]
    exact Al2.snoc (Al2.rev z.2) z.1
  | [], _ :: _, z => z.elim
  | _ :: _, [], z => z.elim
theorem take_snoc {bs : List β} {i : Nat} {b : β} (h : bs[i]? = some b) : bs.take (i + 1) = bs.take i ++ [b] := by
  rw [List.take_add_one, h]
  rfl
end
noncomputable def FrQ (K : PySem.W.Frag) (H : Hp) (n : Nat) (x : V) (q : Rat) : Prop := ∃ p, x = .ref p ∧ FQ K H p q ∧ FB n q
noncomputable def BdQ (K : PySem.W.Frag) (H : Hp) (n : Nat) (x : V) (b : Rat × Rat × Int) : Prop := ∃ p a c, x = .ref p ∧ SqT K H p [.ref a, .ref c, .int b.2.2] ∧ FQ K H a b.1 ∧ FQ K H c b.2.1 ∧ FB n b.1 ∧ FB n b.2.1 ∧ 1 ≤ b.2.2 ∧ b.2.2 ≤ 10000
section
variable {K : PySem.W.Frag} {H H' : Hp} {n m : Nat} {x : V} {q : Rat} {b : Rat × Rat × Int}
theorem FrQ.same (h : FrQ K H n x q) (s : Same H H') : FrQ K H' n x q := by
  obtain ⟨p, e, g, d⟩ := h
  exact ⟨p, e, Kw.Same.tup s g, d⟩
theorem BdQ.same (h : BdQ K H n x b) (s : Same H H') : BdQ K H' n x b := by
  obtain ⟨p, a, c, e, h1, h2, h3, r⟩ := h
  exact ⟨p, a, c, e, Kw.Same.tup s h1, Kw.Same.tup s h2, Kw.Same.tup s h3, r⟩
theorem frs_same {xs : List V} {qs : List Rat} (h : Al2 (FrQ K H n) xs qs) (s : Same H H') : Al2 (FrQ K H' n) xs qs := Al2.imp (fun _ _ z => z.same s) h
theorem bds_same {xs : List V} {bs : List (Rat × Rat × Int)} (h : Al2 (BdQ K H n) xs bs) (s : Same H H') : Al2 (BdQ K H' n) xs bs := Al2.imp (fun _ _ z => z.same s) h
end
noncomputable def mir1 (b : Rat × Rat × Int) : Rat × Rat × Int := (-b.1, -b.2.1, b.2.2)
noncomputable def mirQ (bs : List (Rat × Rat × Int)) : List (Rat × Rat × Int) := bs.reverse.map mir1
section
variable {X : Cx} {K : PySem.W.Frag}
noncomputable def tGlobT (K : PySem.W.Frag) (t b : Int) : TE := fun _ H Q => ∀ N, (∀ H1, SqT K H1 N [.int t, .int b]) → Q (.ref N) H
theorem pe_globT {x : Str} {t b : Int} {pos : Pos} (hK : X.K = K) (hg : Gl X x) (hm : ∃ N, X.mg x = some (.ref N) ∧ ∀ H, SqT K H N [.int t, .int b]) (hd : (x == ("__debug__" : Str)) = false := by decide) : PE X (.Name x pos) (tGlobT K t b) := by
  obtain ⟨N, hm, hN⟩ := hm
  intro pins s σ H Q I h
  exact pe_glob hg hm (v := .ref N) rfl hd pins s σ H Q I (h N hN)
theorem sqt_const {A : Addr} {o : Option Addr} {t b : Int} {k1 k2 : Tok} {n : Nat} {sl : Array (Option Value)} (h : K.lookup A = some ⟨.type "tuple", o, .seq #[.int t k1, .int b k2] n, sl⟩) : ∀ H, SqT K H A [.int t, .int b] := fun H =>
  .inr ⟨_, _, _, h, rfl, rfl, by show 2 ≤ sizeLine; decide, .cons ⟨_, rfl⟩ (.cons ⟨_, rfl⟩ .nil)⟩
end
section
variable {pr : Program} {wd : World} {Ar : Around} {Er : Value → Shared → Prop}
end
section
variable {X : Cx} {pos : Pos}
end
noncomputable def Itv (K : PySem.W.Frag) (a : Addr) (n : Nat) : It where
  go := fun i H => i < n ∧ ∃ xs, SqL K H a xs ∧ xs.length = n
  yld := fun i H v H' => H' = H ∧ ∀ xs, SqL K H a xs → xs[n - 1 - i]? = some v
  stop := fun i _ => i = n
theorem turn_rev {P : Program} {w : World} {K : PySem.W.Frag} {tg : Expr} (a it : Addr) (n : Nat) : Turn P w K tg (Itv K a n) [it] it (fun i h => h.IsRevIter it a ((n : Int) - 1 - (i : Int))) where
  mem := by simp
  obj := fun i h st b hb => by
    have eb : b = it := by simpa using hb
    subst eb
    obtain ⟨o, ho, _, d⟩ := st
    exact ⟨o, ho, fun v z => by rw [d] at z; cases z⟩
  keep := fun i h h' st k => st.at fun o e => k it (by simp) o e
  item := by
    intro X hP hw hK hc i pins s σ H E I hf st hg
    subst hP hw hK
    obtain ⟨hi, xs, hq, hn⟩ := hg
    obtain ⟨its, rv, p, hz⟩ := I.list hq
    have hx : xs[n - 1 - i]? = some (xs[n - 1 - i]'(by omega)) := List.getElem?_eq_getElem (by omega)
    obtain ⟨u, hu, ru⟩ := rv.get hx
    have f := hf it (by simp)
    have ez : (n : Int) - 1 - (i : Int) = ((n - 1 - i : Nat) : Int) := by omega
    rw [ez] at st
    refine wpAny_pyNext_rev_item st p.isList (x := u) (by simpa using hu) fun h' st' sb => ?_
    have I1 : Inv X pins σ H { s with heap := h' } := I.turned (t' := s.toks) (fun b o hb e => (sb.2 b hb).trans e) f.1 f.2.1 f.2.2.2.1 f.2.2.2.2.1 f.2.2.2.2.2
    have e2 : ((n - 1 - i : Nat) : Int) - 1 = (n : Int) - 1 - ((i + 1 : Nat) : Int) := by omega
    rw [e2] at st'
    obtain ⟨o, e, c, d⟩ := id st'
    exact ⟨u, rfl, go_of (s := { s with heap := h' }) e c d (by decide) ⟨_, H, I1, ru, ⟨rfl, fun ys hy => by rw [I.list_inj hy hq]; exact hx⟩, st', fun b hb => (hf b hb).1⟩⟩
  done := by
    intro X hP hw hK hc i pins s σ H E I hf st hg
    subst hP hw hK
    have f := hf it (by simp)
    have ei : i = n := hg
    subst ei
    have ez : (i : Int) - 1 - (i : Int) = -1 := by omega
    rw [ez] at st
    exact wpAny_pyNext_rev_end (I.ok.hd hc) st fun h' eb => ⟨rfl, I.turned (t' := s.toks) (fun b o hb e => eb b o hb e) f.1 f.2.1 f.2.2.2.1 f.2.2.2.2.1 f.2.2.2.2.2⟩
  self := fun _ _ _ _ _ st h => wpAny_pyIter_revIter st h
noncomputable def iRev (K : PySem.W.Frag) (ta : TA) : TI := fun σ H R => ta σ H fun vs H1 => ∃ a xs, vs = [.ref a] ∧ SqL K H1 a xs ∧ R (Itv K a xs.length) H1
theorem pi_rev {X : Cx} {tg : Expr} {p pos : Pos} {e1 : Expr} {ta : TA} (hg : Gl X "reversed") (hm : X.mg "reversed" = none) (ha : PA X [e1] ta) (hs : starEach [e1] X.env = [(false, eval e1 X.env)] := by rfl) :
    PI X tg (.Call (.Name "reversed" p) [e1] [] pos) (iRev X.K ta) := by
  intro pins s σ H R I h
  refine Call_ (ld_blt I hg hm PyProof.Rows.Boot.«reversed» (PyProof.Rows.callWith_type1 (thn (ha pos pins s σ H _ I h) fun us s1 ⟨vs, H1, I1, r1, q1⟩ => ?_) hs rfl))
  obtain ⟨a, xs, rfl, hx, q⟩ := q1
  obtain ⟨u, rfl, ru⟩ := vals1 r1
  cases (show u = Value.ref a from ru)
  obtain ⟨its, rv, pa, _⟩ := I1.list hx
  refine call_reversed_list pa.isList ?_
  have en : its.toArray.size = xs.length := by rw [List.size_toArray, ← rv.length]
  have hit : (s1.heap.push (revObj a ((its.toArray.size : Int) - 1))).IsRevIter s1.heap.objs.size a ((xs.length : Int) - 1 - ((0 : Nat) : Int)) := ⟨_, Heap.get?_push_size _ rfl, rfl, by rw [en]; simp [revObj]⟩
  refine wpAny_pyIter_revIter hit ?_
  refine ⟨s1.heap.objs.size, [s1.heap.objs.size], _, _, H1, rfl, I1.kept (t' := s1.toks) fun b o e => Heap.get?_push_of_some _ e, turn_rev a _ xs.length, hit, fun b hb => ?_, q⟩
  have e : b = s1.heap.objs.size := by simpa using hb
  subst e
  exact I1.fpOk (Nat.le_refl _) (I1.hok.fresh (Nat.le_refl _))
section
variable {K : PySem.W.Frag} {te : TE} {σ : L2.St} {H : Hp} {Q : VK} {idx : List Nat}
theorem lc_rev {a : Addr} {xs : List V} (Pv : Nat → List V → Hp → Prop) (h0 : Pv 0 [] H) (hz : xs.length ≤ sizeLine) (hy : ∀ i ys H, Pv i ys H → ys.length = i) (hl : ∀ i ys H, Pv i ys H → SqL K H a xs)
    (hs : ∀ i x ys H (Q' : VK), xs.reverse[i]? = some x → Pv i ys H → (∀ v H2, Pv (i + 1) (ys ++ [v]) H2 → Q' v H2) → te (stIn (some x) idx σ) H Q') (hd : ∀ ys H, Pv xs.length ys H → ∀ p, H p = none → Q (.ref p) (upd H p (.lst ys))) :
    LcBody (Itv K a xs.length) idx te σ Q H := by
  refine ⟨fun i m ys H => m = xs.length - i ∧ i ≤ xs.length ∧ Pv i ys H, ⟨xs.length, by simp, Nat.zero_le _, h0⟩, ?_⟩
  rintro i m ys H ⟨rfl, hi, p⟩
  have q := hl i ys H p
  refine ⟨by rw [hy i ys H p]; omega, ?_⟩
  by_cases hlt : i < xs.length
  · refine .inr ⟨⟨hlt, xs, q, rfl⟩, fun y H' yl => ?_⟩
    obtain ⟨e, yl⟩ := yl
    subst e
    have ex : xs.reverse[i]? = some y := by rw [List.getElem?_reverse hlt]; exact yl xs q
    exact hs i y ys _ _ ex p fun v H2 z => ⟨xs.length - (i + 1), by omega, rfl, hlt, z⟩
  · have e : i = xs.length := by omega
    subst e
    exact .inl ⟨rfl, hd ys H p⟩
end
section
variable {K : PySem.W.Frag} {H H' : Hp} {n : Nat} {x : V} {q : Rat} {b : Rat × Rat × Int} {c : Addr} {zs xs : List V} {bs : List (Rat × Rat × Int)}
theorem BdQ.but (h : BdQ K H n x b) (s : But c H H') (hc : H c = some (.lst zs)) : BdQ K H' n x b := by
  obtain ⟨p, a, e, z, h1, h2, h3, r⟩ := h
  exact ⟨p, a, e, z, s.tup hc h1, s.tup hc h2, s.tup hc h3, r⟩
theorem bds_but (h : Al2 (BdQ K H n) xs bs) (s : But c H H') (hc : H c = some (.lst zs)) : Al2 (BdQ K H' n) xs bs := Al2.imp (fun _ _ z => z.but s hc) h
noncomputable def frD (q : Rat) : PyData := .tuple [.int q.num, .int ((q.den : Nat) : Int)]
noncomputable def bdD (b : Rat × Rat × Int) : PyData := .tuple [frD b.1, frD b.2.1, .int b.2.2]
theorem BdQ.dp (h : BdQ K H n x b) : Dp K H x (bdD b) := by
  obtain ⟨p, a, e, rfl, h1, h2, h3, r⟩ := h
  exact .tup h1 (.cons (FQ.dp h2) (.cons (FQ.dp h3) (.cons (.int _) .nil)))
theorem bds_dp : ∀ {xs : List V} {bs : List (Rat × Rat × Int)}, Al2 (BdQ K H n) xs bs → Dps K H xs (bs.map bdD)
  | [], [], _ => .nil
  | _ :: _, _ :: _, z => .cons z.1.dp (bds_dp z.2)
  | [], _ :: _, z => z.elim
  | _ :: _, [], z => z.elim
theorem bds_lay : ∀ bs : List (Rat × Rat × Int), PyData.canLayAll0 (bs.map bdD) = true
  | [] => rfl
  | b :: bs => by
    show (PyData.canLay0 (bdD b) && PyData.canLayAll0 (bs.map bdD)) = true
    rw [bds_lay bs]
    rfl
theorem bds_deep : ∀ bs : List (Rat × Rat × Int), PyData.depthAll (bs.map bdD) ≤ 2
  | [] => Nat.zero_le _
  | b :: bs => by
    show max (PyData.depth (bdD b)) (PyData.depthAll (bs.map bdD)) ≤ 2
    have e : PyData.depth (bdD b) = 2 := rfl
    rw [e]
    have := bds_deep bs
    omega
theorem newB {H : Hp} {p : Addr} (o : HO) : ∃ H', upd H p o = H' ∧ But p H H' ∧ H' p = some o := ⟨_, rfl, but_upd _, upd_same⟩
theorem none_of_but {H H' : Hp} {a c : Addr} (s : But c H H') (h : H' a = none) (n : a ≠ c) : H a = none := by
  cases e : H a with
  | none => rfl
  | some o => have := s _ _ n e; rw [h] at this; cases this
noncomputable def Asc (bs : List (Rat × Rat × Int)) : Prop := List.Pairwise (fun a b => a.1 < b.1) bs
theorem Asc.snoc (h : Asc bs) (k : ∀ a ∈ bs, a.1 < b.1) : Asc (bs ++ [b]) := by
  unfold Asc
  rw [List.pairwise_append]
  exact ⟨h, List.pairwise_singleton _ _, fun a ha z hz => by rw [List.mem_singleton.mp hz]; exact k a ha⟩
end
section
theorem mir_len (bs : List (Rat × Rat × Int)) : (mirQ bs).length = bs.length := by
  unfold mirQ
  simp
end
theorem most_of (ns : List Int) (N : Int) (h : 1 ≤ N) : ∃ m : Int, (if (if N < (((ns.map V.int).length : Nat) : Int) then N else (((ns.map V.int).length : Nat) : Int)) > 1 then (if N < (((ns.map V.int).length : Nat) : Int) then N else (((ns.map V.int).length : Nat) : Int)) else 1) = m ∧ 1 ≤ m ∧ m ≤ N := by
  refine ⟨_, rfl, ?_⟩
  split
  · split <;> omega
  · omega
section
variable {X : Cx} {pins : List (Addr × Obj)} {σ : L2.St} {H : Hp} {s : Shared} {N ns xs : List Str} {scope : Scope} {cl : List (Str × Addr)} {C : Addr} {fp : List Addr} {idx : List Nat}
end
section
variable {X : Cx} {elt iter tg : Expr} {ifs : List Expr} {xs : List Str} {pos : Pos} {scope : Scope} {cl : List (Str × Addr)} {wi : TI} {g : TG} {tt : TT} {te : TE} {ns : List Str} {idx : List Nat}
end
section
variable {K : PySem.W.Frag} {te : TE} {tt : TT} {g : TG} {σ : L2.St} {H : Hp} {Q : VK} {idx : List Nat} {k : Nat}
end
section
variable {X : Cx} {pos : Pos}
end
theorem Al2.set {β : Type} {R : V → β → Prop} : ∀ {xs : List V} {bs : List β} {j : Nat} {x : V} {b : β}, Al2 R xs bs → R x b → Al2 R (xs.set j x) (bs.set j b)
  | [], [], _, _, _, _, _ => trivial
  | _ :: _, _ :: _, 0, _, _, z, h => ⟨h, z.2⟩
  | _ :: _, _ :: _, j + 1, _, _, z, h => ⟨z.1, Al2.set z.2 h⟩
  | [], _ :: _, _, _, _, z, _ => z.elim
  | _ :: _, [], _, _, _, z, _ => z.elim
noncomputable def Ite (K : PySem.W.Frag) (a : Addr) : It where
  go := fun i H => ∃ xs x, SqL K H a xs ∧ xs[i]? = some x
  yld := fun i H v H' => ∃ p x, v = .ref p ∧ H p = none ∧ H' = upd H p (.tup [.int (i : Int), x]) ∧ ∀ xs, SqL K H a xs → xs[i]? = some x
  stop := fun i H => ∃ xs, SqL K H a xs ∧ xs.length ≤ i
structure EnumAt (e it a : Addr) (i : Nat) (h : Heap) : Prop where
  en : ∃ old, IsEnum h e it (i : Int) old
  ji : h.IsListIter it a i
theorem turn_enum {P : Program} {w : World} {K : PySem.W.Frag} {elts : List Expr} {x1} {pos : Pos} (e it a : Addr) (ne : e ≠ it) :
    Turn P w K (.Tuple elts x1 pos) (Ite K a) [e, it] e (fun i h => EnumAt e it a i h) where
  mem := by simp
  obj := fun i h st c hc => by
    obtain ⟨⟨old, en⟩, ⟨o1, e1, _, c1⟩⟩ := st
    simp only [List.mem_cons, List.not_mem_nil, or_false] at hc
    rcases hc with rfl | rfl
    · exact ⟨_, en, fun v q => nomatch q⟩
    · exact ⟨_, e1, fun v q => by rw [c1] at q; cases q⟩
  keep := fun i h h' st k => by
    obtain ⟨⟨old, en⟩, ⟨o1, e1, b1, c1⟩⟩ := st
    exact ⟨⟨old, k e (by simp) _ en⟩, ⟨o1, k it (by simp) _ e1, b1, c1⟩⟩
  item := by
    intro X hP hw hK hc i pins s σ H E I hf st hg
    subst hP hw hK
    obtain ⟨xs, x, hx, ex⟩ := hg
    obtain ⟨its, rv, p, hz⟩ := I.list hx
    obtain ⟨u, hu, ru⟩ := rv.get ex
    obtain ⟨⟨old, en⟩, ji⟩ := st
    refine wpAny_pyNext_enum_item en ji p.isList (x := u) (by simpa using hu) ne fun h1 eo j1 pt sz kp => ?_
    refine ⟨_, rfl, wpAny_letOwnedTupleGo_enum eo fun h2 e2 sb => ?_⟩
    have I1 : Inv X pins σ H { s with heap := h1, toks := s.toks + 1 } := Kw.Inv.turnedL (t' := s.toks + 1) (ch := [e, it]) I (fun c o hc q => by
      simp only [List.mem_cons, List.not_mem_nil, or_false, not_or] at hc
      exact kp c o hc.1 hc.2 q) hf
    have I2 : Inv X pins σ H { s with heap := h2, toks := s.toks + 1 } := Kw.Inv.turnedL (s := { s with heap := h1, toks := s.toks + 1 }) (t' := s.toks + 1) (ch := [e, it]) I1 (fun c o hc q => by
      simp only [List.mem_cons, List.not_mem_nil, or_false, not_or] at hc
      exact (sb.2 c hc.1).trans q) hf
    have nn : H s.heap.objs.size = none := I.hok.fresh (Nat.le_refl _)
    have zl : e ≠ s.heap.objs.size := Nat.ne_of_lt (Heap.lt_size en)
    have kk : ∀ c, c ≠ e → h2.get? c = h1.get? c := fun c hc => sb.2 c hc
    have pp2 : h2.get? s.heap.objs.size = some { cls := .type "tuple", data := .seq #[.int i s.toks, u] } := (kk _ (Ne.symm zl)).trans pt
    have I3 : Inv X pins σ (upd H s.heap.objs.size (.tup [.int (i : Int), x])) { s with heap := h2, toks := s.toks + 1 } := by
      refine Kw.Inv.adopt (fun q c hq z' => ?_) I2 (Heap.get?_none_of_le I.sz) nn (fun z' => ?_) (fun q hq z' => ?_) ⟨by show 2 ≤ sizeLine; decide, [.int i s.toks, u], .cons ⟨_, rfl⟩ (.cons ru .nil), ⟨_, pp2, rfl, 0, rfl⟩⟩
      · obtain ⟨_, o, q, _⟩ := I.cell q c hq
        exact absurd (Heap.lt_size q) (by rw [z']; exact Nat.lt_irrefl _)
      · exact absurd I.lt (by rw [← z']; exact Nat.lt_irrefl _)
      · exact absurd (Heap.lt_size (I.pin q hq).1) (by rw [z']; exact Nat.lt_irrefl _)
    refine ⟨.ref s.heap.objs.size, _, I3, rfl, ⟨_, x, rfl, nn, rfl, fun zs hzs => by rw [I.list_inj hzs hx]; exact ex⟩, ⟨⟨u, by simpa using e2⟩, ?_⟩, fun c hc => ?_⟩
    · obtain ⟨o1, q1, r1⟩ := j1
      exact ⟨o1, (kk _ (Ne.symm ne)).trans q1, r1⟩
    · have lc : c ≠ s.heap.objs.size := by
        simp only [List.mem_cons, List.not_mem_nil, or_false] at hc
        obtain ⟨o1, q1, _⟩ := ji
        rcases hc with rfl | rfl
        · exact zl
        · exact Nat.ne_of_lt (Heap.lt_size q1)
      rw [upd_ne lc]
      exact (hf c hc).1
  done := by
    intro X hP hw hK hc i pins s σ H E I hf st hg
    subst hP hw hK
    obtain ⟨xs, hx, hl⟩ := hg
    obtain ⟨its, rv, p, hz⟩ := I.list hx
    obtain ⟨⟨old, en⟩, ji⟩ := st
    have l1 := rv.length
    exact wpAny_pyNext_enum_end (I.ok.hd hc) en ji p.isList (by simp; omega) fun h1 eb => ⟨rfl, Kw.Inv.turnedL (t' := s.toks) (ch := [e, it]) I (fun c o hc q => by
      simp only [List.mem_cons, List.not_mem_nil, or_false, not_or] at hc
      exact eb c o hc.2 q) hf⟩
  self := fun _ _ _ _ _ st h => let ⟨_, q⟩ := st.en; wpAny_pyIter_enum q h
noncomputable def iEnum (K : PySem.W.Frag) (ta : TA) : TI := fun σ H R => ta σ H fun vs H1 => ∃ a xs, vs = [.ref a] ∧ SqL K H1 a xs ∧ R (Ite K a) H1
theorem pi_enum {X : Cx} {elts : List Expr} {x1} {tpos p pos : Pos} {e1 : Expr} {ta : TA} (hg : Gl X "enumerate") (hm : X.mg "enumerate" = none) (ha : PA X [e1] ta) (hs : starEach [e1] X.env = [(false, eval e1 X.env)] := by rfl) :
    PI X (.Tuple elts x1 tpos) (.Call (.Name "enumerate" p) [e1] [] pos) (iEnum X.K ta) := by
  intro pins s σ H R I h
  refine Call_ (ld_blt I hg hm PyProof.Rows.Boot.«enumerate» (PyProof.Rows.callWith_type1 (thn (ha pos pins s σ H _ I h) fun us s1 ⟨vs, H1, I1, r1, q1⟩ => ?_) hs rfl))
  obtain ⟨a, xs, rfl, hx, q⟩ := q1
  obtain ⟨u, rfl, ru⟩ := vals1 r1
  cases (show u = Value.ref a from ru)
  obtain ⟨its, _, pa, _⟩ := I1.list hx
  refine call_enumerate_list pa.isList fun h' en ji sz kp => ?_
  refine wpAny_pyIter_enum en ?_
  refine ⟨_, [s1.heap.objs.size + 1, s1.heap.objs.size], _, _, H1, rfl, I1.kept (t' := s1.toks) kp, turn_enum _ _ a (Nat.succ_ne_self _), ⟨⟨_, en⟩, ji⟩, fun c hc => ?_, q⟩
  have lc : s1.heap.objs.size ≤ c := by
    simp only [List.mem_cons, List.not_mem_nil, or_false] at hc
    rcases hc with rfl | rfl
    · exact Nat.le_succ _
    · exact Nat.le_refl _
  exact I1.fpOk lc (I1.hok.fresh lc)
theorem for_enum {K : PySem.W.Frag} {a : Addr} {xs : List V} {g : TG} {tb : TS} {D : Ends} {σ : L2.St} {H : Hp} (Pv : Nat → L2.St → Hp → Prop) (h0 : Pv 0 σ H) (hl : ∀ i σ H, Pv i σ H → SqL K H a xs)
    (hs : ∀ i x σ H, xs[i]? = some x → Pv i σ H → ∀ p H', Same H H' → H p = none → H' p = some (.tup [.int (i : Int), x]) → g (.ref p) σ H' fun σ2 H2 => tb { D with nx := Pv (i + 1), ct := Pv (i + 1), bk := D.nx } σ2 H2) (hd : ∀ σ H, Pv xs.length σ H → D.nx σ H) :
    ∃ W : Nat → Nat → L2.St → Hp → Prop, (∃ m, W 0 m σ H) ∧ ∀ i m σ H, W i m σ H →
      ((Ite K a).stop i H ∧ D.nx σ H) ∨ ((Ite K a).go i H ∧ ∃ N : L2.St → Hp → Prop, (∀ σ' H', N σ' H' → ∃ m', m' < m ∧ W (i + 1) m' σ' H') ∧ ∀ x H', (Ite K a).yld i H x H' → g x σ H' fun σ2 H2 => tb { D with nx := N, ct := N, bk := D.nx } σ2 H2) := by
  refine ⟨fun i m σ H => m + i = xs.length ∧ Pv i σ H, ⟨xs.length, rfl, h0⟩, ?_⟩
  rintro i m σ H ⟨hm, pv⟩
  have l1 := hl i σ H pv
  by_cases hlt : i < xs.length
  · refine .inr ⟨⟨xs, xs[i], l1, List.getElem?_eq_getElem hlt⟩, Pv (i + 1), fun σ' H' p' => ⟨m - 1, by omega, by omega, p'⟩, fun v H' y => ?_⟩
    obtain ⟨q, x', rfl, hq, rfl, ex⟩ := y
    exact hs i x' σ H (ex xs l1) pv q _ (same_new hq _) hq upd_same
  · have e : i = xs.length := by omega
    subst e
    exact .inl ⟨⟨xs, l1, Nat.le_refl _⟩, hd σ H pv⟩
noncomputable def excO (K : PySem.W.Frag) (C : Addr) : Bool := match K.lookup C with
  | some ⟨.type "type", _, .cls klass, sl⟩ => (match klass.mro, sl.toList with
    | .ref C' :: bm, [_, _, _, _, some (.builtin n), _] => C' == C && n == "ValueError.__new__" && !klass.hasDel && PySem.W.tailIn K bmV bm && PySem.W.nsOkIn K klass.ns
    | _, _ => false)
  | _ => false
theorem excO_obj {K : PySem.W.Frag} {h : Heap} {C : Addr} (X : K.In h) (q : excO K C = true) :
    ∃ bm N nm qn bs hdct sn sub ab col dd k0 k1 k2 k3 k5, h.get? C = some (excClassObj nm qn C N bs bm hdct sn sub ab col dd k0 k1 k2 k3 k5 "ValueError.__new__") ∧ OwnTail h bmV bm := by
  unfold excO at q
  cases hl : K.lookup C with
  | none => rw [hl] at q; cases q
  | some o =>
    rw [hl] at q
    split at q
    · rename_i dd klass sl eo
      cases eo
      split at q
      · rename_i C' bm k0 k1 k2 k3 n k5 hm hs
        simp only [Bool.and_eq_true, beq_iff_eq, Bool.not_eq_true'] at q
        obtain ⟨⟨⟨⟨e1, e2⟩, e3⟩, e4⟩, e5⟩ := q
        subst e1 e2
        cases klass with
        | mk nm bs mro ns qn hd sn sub ab col del =>
          simp only at hm e3 e5
          subst hm e3
          cases sl with
          | mk sll =>
            simp only at hs
            subst hs
            exact ⟨bm, ns, nm, qn, bs, hd, sn, sub, ab, col, dd, k0, k1, k2, k3, k5, X _ _ hl, PySem.W.tail_of_in X e4⟩
      · cases q
    · cases q
noncomputable abbrev newX (C t : Addr) : Obj := { cls := .ref C, data := .fields #[.ref t, .none, .none, .none, .bool false, .none] }
section
variable {prog : Program} {w : World} {A : Around} {E : Value → Shared → Prop} {h : Heap} {g : Array GenState} {d : Drawn} {t : Nat} {os : OsState} {C f : Addr} {K : PySem.W.Frag}
theorem type_call_init {more : List Value} {Q : Fin → Shared → Prop} (kx : K.In h) (q : excO K C = true) (hi : PySem.W.findIn K (.ref C) "__init__" = some (some (.ref f))) (hf : PySem.W.typeIn K (.ref f) = some (.type "function"))
    (hz : more.length ≤ sizeLine)
    (want : codeAny (model prog w) A (.call (.ref f) ⟨.ref (h.objs.size + 1) :: more, []⟩) (fun r s' => match r with | .ok (.ret v) => v = .none ∧ Q (.done (.ret (.ref (h.objs.size + 1)))) s' | .ok _ => False | .error e => E e s')
      ⟨(h.push { cls := .type "tuple", data := .seq more.toArray }).push (newX C h.objs.size), g, d, t, os⟩) :
    wpAny (model prog w) A (Builtin.«type.__call__» ⟨.ref C :: more, []⟩) Q E ⟨h, g, d, t, os⟩ := by
  obtain ⟨bm, N, nm, qn, bs, hdct, sn, sub, ab, col, dd, k0, k1, k2, k3, k5, kC, T⟩ := excO_obj kx q
  have F := PySem.F.excBase_ValueError
  repeat (first | with_reducible refine wpAny_madeBy_exc kC ?_ | with_reducible refine wpAny_loadPart_at kC ?_ | wp_step)
  refine codeAny_call_builtin_code (Code.quiet_builtin _ F.quiet) (wpAny_check_new_subT F T kC ?_)
  refine codeAny_exc_new_subT F T kC ?_ hz
  show wpAny _ _ _ _ _ _
  have hk : ∀ b o, h.get? b = some o → ((h.push { cls := .type "tuple", data := .seq more.toArray }).push (newX C h.objs.size)).get? b = some o := fun b o e => Heap.get?_push_of_some _ (Heap.get?_push_of_some _ e)
  have kC1 := hk _ _ kC
  have kx1 : K.In ((h.push { cls := .type "tuple", data := .seq more.toArray }).push (newX C h.objs.size)) := fun a o e => hk a o (kx a o e)
  have hget : ((h.push { cls := .type "tuple", data := .seq more.toArray }).push (newX C h.objs.size)).get? (h.objs.size + 1) = some (newX C h.objs.size) := by heap_get
  have kself : (Value.ref C :: bm).contains (.ref C) = true := by simp
  unfold isInstance
  repeat (first | with_reducible refine wpAny_loadPart_at hget ?_ | (with_reducible refine wpAny_isSubtype_exc kC1 ?_; rw [kself]) | wp_step)
  show wpAny _ _ (typeLookup (.ref C) _) _ _ _
  refine (PySem.W.looks_findIn kx1 hi).at ?_
  refine wpAny_holding (wpAny_bind ((PySem.W.bind_fn kx1 (.ref (h.objs.size + 1)) hf).at ?_))
  dsimp only
  refine wpAny_bind (wpAny_call (codeAny_mono want fun r z hr => ?_))
  cases r with
  | error e => exact hr
  | ok fl =>
    cases fl with
    | ret v =>
      obtain ⟨rfl, hq⟩ := hr
      refine wpAny_pure ?_
      exact wpAny_pure hq
    | next => exact hr.elim
    | brk => exact hr.elim
    | cont => exact hr.elim
theorem call_init {more : List Value} {Q : Value → Shared → Prop} (kx : K.In h) (q : excO K C = true) (hi : PySem.W.findIn K (.ref C) "__init__" = some (some (.ref f))) (hf : PySem.W.typeIn K (.ref f) = some (.type "function")) (hz : more.length ≤ sizeLine)
    (want : ∀ A' : Around, A' = A.under (.builtin "type.__call__" ⟨.ref C :: more, []⟩) → codeAny (model prog w) A' (.call (.ref f) ⟨.ref (h.objs.size + 1) :: more, []⟩) (fun r s' => match r with | .ok (.ret v) => v = .none ∧ Q (.ref (h.objs.size + 1)) s' | .ok _ => False | .error e => E e s')
      ⟨(h.push { cls := .type "tuple", data := .seq more.toArray }).push (newX C h.objs.size), g, d, t, os⟩) :
    wpAny (model prog w) A (call (.ref C) more) Q E ⟨h, g, d, t, os⟩ := by
  obtain ⟨bm, N, nm, qn, bs, hdct, sn, sub, ab, col, dd, k0, k1, k2, k3, k5, kC, T⟩ := excO_obj kx q
  have f1 := tc_lookup
  have f2 := tc_bind (.ref C)
  have tC : (⟨h, g, d, t, os⟩ : Shared).TypeIs (.ref C) "type" := ⟨_, kC, rfl⟩
  refine wpAny_call (codeAny_of_tree ?_)
  show wpAny _ _ (callAny (.ref C) _) _ _ _
  repeat (any_goals (first | assumption | with_reducible refine wpAny_loadPart_at kC ?_ | wp_step))
  refine ⟨rfl, ?_⟩
  refine codeAny_call_builtin_at (Code.quiet_builtin _ (by decide +kernel)) entry_typeCall (wpAny_check_type_call_sub kC (type_call_init kx q hi hf hz (codeAny_mono (want _ ?_) fun r z hr => ?_)))
  · rfl
  · cases r with
    | error e => exact hr
    | ok fl =>
      cases fl with
      | ret v => exact hr
      | next => exact hr.elim
      | brk => exact hr.elim
      | cont => exact hr.elim
end
section
variable {prog : Program} {w : World} {A : Around} {E : Value → Shared → Prop} {h : Heap} {g : Array GenState} {d : Drawn} {t : Nat} {os : OsState} {C e : Addr} {K : PySem.W.Frag} {oe : Obj} {vs : Array Value}
theorem base_init {more : List Value} {Q : Value → Shared → Prop} (kx : K.In h) (q : excO K C = true) (he : h.get? e = some oe) (hcls : oe.cls = .ref C) (hd : oe.data = .fields vs) (h0 : 0 < vs.size) (hz : more.length ≤ sizeLine)
    (want : ∀ h', (∀ b o, b ≠ e → h.get? b = some o → h'.get? b = some o) → (∃ v, h'.get? e = some { oe with data := .fields (vs.setIfInBounds 0 v) }) → Q .none ⟨h', g, d, t, os⟩) :
    wpAny (model prog w) A (call (.builtin "ValueError.__init__") (.ref e :: more)) Q E ⟨h, g, d, t, os⟩ := by
  obtain ⟨bm, N, nm, qn, bs, hdct, sn, sub, ab, col, dd, k0, k1, k2, k3, k5, kC, T⟩ := excO_obj kx q
  have F := PySem.F.excBase_ValueError
  refine wpAny_call (codeAny_call_builtin F.init.plain F.initEntry (wpAny_check_init_subT F T kC he hcls ?_))
  have he1 := Heap.get?_push_of_some { cls := .type "tuple", data := .seq more.toArray } he
  repeat (first | wp_step)
  rw [hd]
  refine wpAny_pure ?_
  rw [Array.getElem?_eq_getElem h0]
  refine wpAny_pure ?_
  refine wpAny_bind (wpAny_setField he1 hd h0 ?_)
  have fin := want ((h.push { cls := .type "tuple", data := .seq more.toArray }).update e (Obj.mapFields (·.setIfInBounds 0 (.ref h.objs.size)))) (fun b o hb e' => by
      rw [Heap.get?_update_other _ _ (Ne.symm hb)]
      exact Heap.get?_push_of_some _ e') (by
      obtain ⟨c, dd', da, sl⟩ := oe
      simp only at hd
      subst hd
      refine ⟨.ref h.objs.size, ?_⟩
      rw [Heap.get?_update_self _ he1 rfl]
      rfl)
  generalize vs[0] = v0
  cases v0 <;> first | exact wpAny_pure (wpAny_pure fin) | exact wpAny_letGo (wpAny_pure fin)
end
end Kw
namespace Kw
open PySem PySem.Spec PyProof.Rows L2 PySem.Builtin PySem.Builtin.ObjectAttr
noncomputable def isRefV : Value → Bool
  | .ref _ => true
  | _ => false
noncomputable def onlyExc : List Value → Bool
  | [] => false
  | c :: r => (c :: r) == bmV || (isRefV c && onlyExc r)
theorem refuse_skip (self : Value) {n : String} {l : List Value} (h : fastBuiltinOwn n "__setattr__" = none) (h1 : (n == "_thread._local") = false) (h2 : (n == "_pickle.Pickler" || n == "_pickle.Unpickler") = false) :
    PySem.refuseLoop self "__setattr__" (.type n :: l) = PySem.refuseLoop self "__setattr__" l := by
  have e : classOwn (.type n) "__setattr__" = pure none := by
    show (pure (builtinOwn n "__setattr__") : Sem (Option Value)) = pure none
    rw [builtinOwn_eq_fast, h]
  unfold PySem.refuseLoop
  simp only [List.forIn_cons, h1, h2, e]
  rfl
theorem refuse_bm (self : Value) : PySem.refuseLoop self "__setattr__" bmV = pure () := by
  unfold bmV
  rw [refuse_skip self (by decide +kernel) (by decide) (by decide), refuse_skip self (by decide +kernel) (by decide) (by decide), refuse_skip self (by decide +kernel) (by decide) (by decide)]
  exact PySem.F.store_object.passes self
theorem isRefV_eq {c : Value} (h : isRefV c = true) : ∃ a, c = .ref a := by
  cases c <;> first | exact ⟨_, rfl⟩ | cases h
theorem refuse_exc (self : Value) : ∀ {l : List Value}, onlyExc l = true → PySem.refuseLoop self "__setattr__" l = pure ()
  | c :: r, e => by
    unfold onlyExc at e
    rcases Bool.or_eq_true_iff.mp e with e | e
    · rw [beq_iff_eq.mp e]
      exact refuse_bm self
    · rw [Bool.and_eq_true] at e
      obtain ⟨a, rfl⟩ := isRefV_eq e.1
      rw [PySem.refuseLoop_ref]
      exact refuse_exc self e.2
noncomputable def excOver (K : PySem.W.Frag) (C : Addr) : Bool := (PySem.W.clsIn K C).any fun klass => onlyExc klass.mro && klass.hasDict
section
variable {prog : Program} {w : World} {A : Around} {R : Result → Shared → Prop} {s : Shared} {K : PySem.W.Frag} {x C : Addr} {ox : Obj} {od : Option Obj} {name : Str} {tk : Tok} {v : Value}
theorem xsa_open (X : K.In s.heap) (I : PySem.W.InstAt s.heap x ox C od) (hp : excOver K C = true) (ob : PySem.W.mroIn K C (.type "object") = some true) (hn : PySem.W.findIn K (.ref C) name = some none)
    (want : ∀ b, wpAny (model prog w) A.in1 (storeInOwnDict (.ref x) (.ref C) (.str name tk) name v b) (fun fin z => match fin with | .done f => R (.ok f) z | .again c => c.quiet = true ∧ codeAny (model prog w) A c R z) (fun e z => R (.error e) z) s) :
    codeAny (model prog w) A (.call (.builtin "object.__setattr__") ⟨[.ref x, .str name tk, v], []⟩) R s := by
  have sto := PySem.F.store_object
  obtain ⟨klass, hc, ho⟩ := PySem.W.any_some hp
  rw [Bool.and_eq_true] at ho
  have isO : PySem.W.Looks (model prog w) s.heap (isInstance (.ref x) (.type "object")) true := I.type.andThen (PySem.W.looks_mroIn X ob)
  refine codeAny_call_builtin sto.slot.plain sto.entry (@PySem.W.check_slot (model prog w) _ _ s "object.__setattr__" "object" "__setattr__" (.ref x) [.str name tk, v] [] _ sto.kind sto.split isO (sto.args (.ref x) (.str name tk) v) ?_)
  have lm : PySem.W.Looks (model prog w) s.heap (mroOf (.ref C)) klass.mro := (PySem.W.looks_clsIn X hc).andThen .now
  have lt : PySem.W.Looks (model prog w) s.heap (storeTaker? none) none := .now
  rw [PySem.W.osa_eq, PySem.refuse_eq]
  refine wpAny_bind (wpAny_bind (I.type.here (wpAny_bind (lm.here ?_))))
  rw [refuse_exc _ ho.1]
  refine wpAny_pure (wpAny_bind (I.type.here (wpAny_bind ((PySem.W.looks_findIn X hn).here (wpAny_bind (lt.here ?_))))))
  exact want _
end
end Kw
namespace Kw
open PySem PySem.Spec PyProof.Rows L2 PySem.Builtin PySem.Builtin.ObjectAttr
section
variable {prog : Program} {w : World} {A : Around} {R : Result → Shared → Prop} {s : Shared} {K : PySem.W.Frag} {x C : Addr} {ox : Obj} {od : Option Obj} {name : Str} {tk : Tok} {v : Value}
theorem set_first {Q : Unit → Shared → Prop} {E : Value → Shared → Prop} {vs : Array Value} {sl : Array (Option Value)} (X : K.In s.heap) (hx : s.heap.get? x = some ⟨.ref C, none, .fields vs, sl⟩) (hp : excOver K C = true) (ob : PySem.W.mroIn K C (.type "object") = some true)
    (hsa : PySem.W.findIn K (.ref C) "__setattr__" = some (some (.builtin "object.__setattr__"))) (hn : PySem.W.findIn K (.ref C) name = some none)
    (want : ∀ h' tk', h'.get? x = some ⟨.ref C, some s.heap.objs.size, .fields vs, sl⟩ → h'.Ns1 s.heap.objs.size (fun y => if y = name then some v else none) → (∀ b o, b ≠ x → s.heap.get? b = some o → h'.get? b = some o) → Q () { s with heap := h', toks := tk' }) :
    wpAny (model prog w) A (setAttr (.ref x) name v) Q E s := by
  have I : PySem.W.InstAt s.heap x ⟨.ref C, none, .fields vs, sl⟩ C none := ⟨hx, rfl, rfl, True.intro⟩
  refine PySem.W.set_plain X I hsa (xsa_open (s := { s with toks := s.toks + 1 }) X I hp ob hn fun b => ?_)
  obtain ⟨cd, hc, ho⟩ := PySem.W.any_some hp
  rw [Bool.and_eq_true] at ho
  unfold storeInOwnDict
  refine wpAny_bind (wpAny_pure ?_)
  rw [if_neg (by intro z; cases (beq_iff_eq.mp z))]
  unfold ownDictForStores
  refine wpAny_bind ?_
  unfold instanceDict
  refine wpAny_bind (wpAny_loadPart hx ?_)
  dsimp only
  refine wpAny_bind (PySem.W.Looks.here (s := { s with toks := s.toks + 1 }) (PySem.W.looks_clsIn X hc) ?_)
  rw [ho.2]
  rw [if_neg (by decide), if_neg (by show ¬ ((!true || !true) = true); decide)]
  refine wpAny_bind (wpAny_alloc ?_)
  have hx1 := Heap.get?_push_of_some { cls := .type "dict", data := .dict #[] } hx
  refine wpAny_bind (wpAny_update hx1 ?_)
  refine wpAny_pure ?_
  unfold storeInDict
  have hlt : x < s.heap.objs.size := Heap.lt_size hx
  have nx : x ≠ s.heap.objs.size := Nat.ne_of_lt hlt
  have hd1 : ((s.heap.push { cls := .type "dict", data := .dict #[] }).update x fun o => { o with dict := some s.heap.objs.size }).Ns1 s.heap.objs.size fun _ => none :=
    ⟨_, #[], 0, (Heap.get?_update_other _ _ nx).trans (Heap.get?_push_size _ rfl), rfl, (fun e he => by simp at he), (by simp [UniqKeys]), fun _ => rfl⟩
  refine wpAny_bind (wpAny_pure (wpAny_bind ?_))
  refine wpAny_nsSet1 hd1 fun h' hn2 hs2 => ?_
  obtain ⟨oD, esD, epD, kD1, kD2, kD3⟩ := hn2.count (PySem.Within.cons name v (ns := []) (fun y hy => by simp at hy))
  refine wpAny_bind (wpAny_lookBehind kD1 (by rw [kD2]; exact pastItsLine_dict (Nat.le_trans kD3 (by rw [sizeLine_eq]; simp))) ?_)
  refine wpAny_pure (want h' _ ?_ hn2 fun b o hb e => ?_)
  · rw [hs2.2 x nx, Heap.get?_update_self _ hx1 rfl]
  · have hb' : b ≠ s.heap.objs.size := Nat.ne_of_lt (Heap.lt_size e)
    rw [hs2.2 b hb', Heap.get?_update_other _ _ (Ne.symm hb)]
    exact Heap.get?_push_of_some _ e
theorem set_more {Q : Unit → Shared → Prop} {E : Value → Shared → Prop} {vs : Array Value} {sl : Array (Option Value)} {dx : Addr} {mA : Str → Option Value} {ns : List Str} (X : K.In s.heap) (hx : s.heap.get? x = some ⟨.ref C, some dx, .fields vs, sl⟩) (hd : s.heap.Ns1 dx mA) (hw : PySem.Within mA ns) (hz : ns.length < sizeLine)
    (hp : excOver K C = true) (ob : PySem.W.mroIn K C (.type "object") = some true) (hsa : PySem.W.findIn K (.ref C) "__setattr__" = some (some (.builtin "object.__setattr__"))) (hn : PySem.W.findIn K (.ref C) name = some none)
    (want : ∀ h' tk', h'.Ns1 dx (fun y => if y = name then some v else mA y) → Heap.SameBut dx s.heap h' → Q () { s with heap := h', toks := tk' }) : wpAny (model prog w) A (setAttr (.ref x) name v) Q E s := by
  obtain ⟨odx, es, ep, e1, e2⟩ := id hd
  have I : PySem.W.InstAt s.heap x ⟨.ref C, some dx, .fields vs, sl⟩ C (some odx) := ⟨hx, rfl, rfl, e1⟩
  refine PySem.W.set_plain X I hsa (xsa_open (s := { s with toks := s.toks + 1 }) X I hp ob hn fun b => ?_)
  obtain ⟨cd, hc, ho⟩ := PySem.W.any_some hp
  rw [Bool.and_eq_true] at ho
  unfold storeInOwnDict
  refine wpAny_bind (wpAny_pure ?_)
  rw [if_neg (by intro z; cases (beq_iff_eq.mp z))]
  unfold ownDictForStores
  refine wpAny_bind ?_
  unfold instanceDict
  refine wpAny_bind (wpAny_loadPart hx ?_)
  dsimp only
  refine wpAny_bind (PySem.W.Looks.here (s := { s with toks := s.toks + 1 }) (PySem.W.looks_clsIn X hc) ?_)
  rw [ho.2, if_neg (by decide)]
  refine wpAny_pure ?_
  unfold storeInDict
  refine wpAny_bind (wpAny_pure (wpAny_bind ?_))
  refine wpAny_nsSet1 (s := { s with toks := s.toks + 1 }) hd fun h' hn2 hs2 => ?_
  obtain ⟨oD, esD, epD, kD1, kD2, kD3⟩ := hn2.count (PySem.Within.cons name v hw)
  refine wpAny_bind (wpAny_lookBehind kD1 (by rw [kD2]; exact pastItsLine_dict (Nat.le_trans kD3 (by rw [List.length_cons]; omega))) ?_)
  exact wpAny_pure (want h' _ hn2 hs2)
end
end Kw
namespace Kw
open PySem PySem.Spec PyProof.Rows L2 PySem.Builtin PySem.Builtin.ObjectAttr
theorem look_ns1 {h : Heap} {dx : Addr} {mA : Str → Option Value} {name : Str} (hd : h.Ns1 dx mA) : ∃ o, h.get? dx = some o ∧ PySem.W.lookIn name o = some (mA name) := by
  obtain ⟨o, es, ep, e1, e2, k, _, f⟩ := hd
  refine ⟨o, e1, ?_⟩
  unfold PySem.W.lookIn
  rw [e2]
  dsimp only
  have e3 : (es.toList.find? (·.key.isStr name)).map (·.val) = mA name := by
    rw [← f name]
    unfold nsFind findBy
    rw [← Array.find?_toList]
  cases q : es.toList.find? (·.key.isStr name) with
  | some en =>
    rw [q] at e3
    exact congrArg some e3
  | none =>
    rw [q] at e3
    have ha : es.toList.any (·.refKey) = false := by
      rw [List.any_eq_false]
      intro en hen
      obtain ⟨n, t, ek⟩ := k en (by simpa using hen)
      simp [DictEntry.refKey, ek]
    dsimp only
    rw [ha, if_neg (by decide)]
    exact congrArg some e3
section
variable {prog : Program} {w : World} {A : Around} {E : Value → Shared → Prop} {s : Shared} {K : PySem.W.Frag} {x C : Addr} {ox : Obj} {odx : Obj} {name : Str} {v : Value}
theorem ga_value {tk : Tok} {Q : Fin → Shared → Prop} (kx : K.In s.heap) (I : PySem.W.InstAt s.heap x ox C (some odx)) (hf : PySem.W.findObj K C (some odx) name = some (.value v)) (want : Q (.done (.ret v)) s) :
    wpAny (model prog w) A (Builtin.«object.__getattribute__» ⟨[.ref x, .str name tk], []⟩) Q E s := by
  obtain ⟨z0, z1, z2, z3, z4⟩ := s
  have L0 := I.type (M := model prog w)
  have L1 := PySem.W.looks_find (M := model prog w) kx I hf
  unfold Builtin.«object.__getattribute__»
  repeat lk
  exact want
theorem exc_fld {expr : Bool} {Q : Value → Shared → Prop} (kx : K.In s.heap) (I : PySem.W.InstAt s.heap x ox C (some odx)) (q : ExcQ K C) (hf : PySem.W.findObj K C (some odx) name = some (.value v)) (hh : PySem.W.handedIn v = true) (want : Q v { s with toks := s.toks + 1 }) :
    wpAny (model prog w) A (getAttr (.ref x) name expr) Q E s := by
  obtain ⟨z0, z1, z2, z3, z4⟩ := s
  have L0 := I.type (M := model prog w)
  have L1 := PySem.W.looks_findIn (M := model prog w) kx q.ga
  have L2 := PySem.W.looks_findIn (M := model prog w) kx q.hk
  have f3 := PySem.F.excAttr_ValueError.ga.bind (.ref x)
  unfold getAttr getAttrBy
  refine wpAny_bind (wpAny_mkText (wpAny_holding (wpAny_bind (L0.at (wpAny_bind (L1.at ?_))))))
  dsimp only
  have e1 : (Value.builtin "BaseException.__getattribute__" == Value.builtin "object.__getattribute__") = false := by decide +kernel
  rw [e1, Bool.and_false, if_neg (by decide)]
  unfold getAttrByItsOwn hookBefore
  rw [show onTheHeap (Value.ref C) = true from rfl, if_pos rfl]
  refine wpAny_bind (L2.at ?_)
  refine wpAny_bind (wpAny_attempt (wpAny_holding ?_))
  unfold callGetattribute boundAndCalled
  rw [if_neg (by cases expr <;> decide), f3]
  refine wpAny_bind (wpAny_pure ?_)
  dsimp only
  refine wpAny_call (codeAny_call_builtin PySem.F.excAttr_ValueError.ga.plain PySem.F.entry_bexc_ga (ga_check kx L0 q (ga_value kx I hf ?_)))
  show wpAny _ _ (handedOut v) _ _ _
  rw [PySem.W.handedOut_of hh]
  exact wpAny_pure want
end
end Kw
namespace Kw
open PySem PySem.Spec PyProof.Rows L2
noncomputable def XoIs (x C : Addr) (od : Option Addr) (h : Heap) : Prop := ∃ (vs : Array Value) (sl : Array (Option Value)), (∃ a, vs = #[a, .none, .none, .none, .bool false, .none]) ∧ h.get? x = some ⟨.ref C, od, .fields vs, sl⟩
noncomputable abbrev Xo (x C : Addr) (od : Option Addr) : HO := .ext (XoIs x C od)
noncomputable def XdIs (d : Addr) (fs : List (Str × V)) (h : Heap) : Prop := ∃ mA, h.Ns1 d mA ∧ (∀ f, RelO (fs.lookup f) (mA f)) ∧ PySem.Within mA (fs.map (·.1))
noncomputable abbrev Xd (d : Addr) (fs : List (Str × V)) : HO := .ext (XdIs d fs)
section
variable {P : Program} {w : World} {H : Hp} {h : Heap} {x C d : Addr} {od : Option Addr} {fs : List (Str × V)}
theorem xo_ok (e : XoIs x C od h) : ObjOk P w H h x (Xo x C od) := by
  obtain ⟨vs, sl, a, b⟩ := id e
  exact ⟨e, ⟨_, b⟩, fun _ _ ⟨vs, sl, a, b⟩ k => ⟨vs, sl, a, k _ b⟩⟩
theorem xd_ok (e : XdIs d fs h) : ObjOk P w H h d (Xd d fs) := by
  obtain ⟨mA, ⟨o, es, ep, ho, _⟩, _⟩ := id e
  exact ⟨e, ⟨o, ho⟩, fun _ _ ⟨mA, ⟨o, es, ep, q, c⟩, r, wi⟩ k => ⟨mA, ⟨o, es, ep, k _ q, c⟩, r, wi⟩⟩
end
structure MkX (K : PySem.W.Frag) (C f : Addr) : Prop where
  o : excO K C = true
  init : PySem.W.findIn K (.ref C) "__init__" = some (some (.ref f))
  fn : PySem.W.typeIn K (.ref f) = some (.type "function")
  kp : PySem.W.keepIn K (.ref C) = true
structure XCls (K : PySem.W.Frag) (C : Addr) : Prop where
  ov : excOver K C = true
  ob : PySem.W.mroIn K C (.type "object") = some true
  sa : PySem.W.findIn K (.ref C) "__setattr__" = some (some (.builtin "object.__setattr__"))
  hd : PySem.W.hasDictIn K C = true
noncomputable def tMkx (C : Addr) (sp : Sp) (E : XK) (t : TA) : TE := fun σ H Q => t σ H fun vs H1 => vs.length ≤ sizeLine ∧ ∀ x, H1 x = none →
  sp (.ref x :: vs) (upd H1 x (Xo x C none)) (fun v H2 => v = .non ∧ Q (.ref x) H2) E
noncomputable def tBase (K : PySem.W.Frag) (t : TA) : TE := fun σ H Q => t σ H fun vs H1 => ∃ x C od more, vs = .ref x :: more ∧ H1 x = some (Xo x C od) ∧ excO K C = true ∧ more.length ≤ sizeLine ∧ Q .non H1
noncomputable def sXf (K : PySem.W.Frag) (ta tv : TE) (f : Str) : TS := fun D σ H => tv σ H fun y H1 => ta σ H1 fun x H2 => ∃ a C, x = .ref a ∧ XCls K C ∧ NoAttr K C f ∧
  ((H2 a = some (Xo a C none) ∧ ∀ d, H2 d = none → D.nx σ (upd (upd H2 d (Xd d [(f, y)])) a (Xo a C (some d)))) ∨
    ∃ d fs, H2 a = some (Xo a C (some d)) ∧ H2 d = some (Xd d fs) ∧ fs.length < 1000 ∧ D.nx σ (upd H2 d (Xd d (putF f y fs))))
structure FnI (P : Program) (w : World) (K : PySem.W.Frag) (mg : Str → Option Value) (base : Heap) (k : Nat) (C : Addr) (ps : List Str) (sp : Sp) : Prop where
  ex : ∃ f fd, FnOk P w K mg base (CXE P w) k f fd ps sp ∧ MkX K C f ∧ Binds K fd ps []
structure DfI (K : PySem.W.Frag) (C : Addr) (qual : Str) (st : Stmt) (ps : List Str) : Prop where
  ex : ∃ (f : Addr) (oc : Value) (od : Option Addr) (kV doc pm : Value) (an : Option Addr) (cdv ct : Value) (osl : Array (Option Value)),
    K.lookup f = some ⟨oc, od, .func (PySem.W.fnOf "__init__" qual (defArgs st) (defBody st) (defScope st) .none kV doc pm an cdv ct), osl⟩ ∧ PySem.W.codeIn K cdv qual = true ∧ MkX K C f ∧
    Binds K (PySem.W.fnOf "__init__" qual (defArgs st) (defBody st) (defScope st) .none kV doc pm an cdv ct) ps []
section
variable {P : Program} {w : World} {K : PySem.W.Frag} {mg : Str → Option Value} {base : Heap} {C : Addr} {qual : Str} {st : Stmt} {N ps : List Str} {k : Nat} {sp : Sp}
theorem DfI.ok (D : DfI K C qual st ps) (S : FnScope N ps (defScope st)) (len : ∀ vs H Q E, sp vs H Q E → vs.length = ps.length)
    (hbody : ∀ (f : Addr) (cdv : Value) (A : Around) (outer : List Env) (s : Shared) (H : Hp) (vs : List V) (Q : VK) (E : XK), Room k (A.deeper (envOfC qual (defScope st) s.heap.objs.size f cdv)) → sp vs H Q E →
      ∃ t, PSs (cxOf (CXE P w) P w K mg base N qual (defScope st) f cdv A outer s H E).nox (defBody st) t ∧ t { nx := fun _ H' => Q .non H', rt := Q } (start N vs) H) : FnI P w K mg base (k + 1) C ps sp := by
  obtain ⟨f, oc, od, kV, doc, pm, an, cdv, ct, osl, lk, hcd, M, bd⟩ := D.ex
  refine ⟨f, _, fn_of lk hcd S len fun A outer s H vs Q E hr hsp => ?_, M, bd⟩
  obtain ⟨t, h, q⟩ := hbody f cdv A outer s H vs Q E hr hsp
  exact ⟨t, h.nox, q⟩
end
section
variable {X : Cx} {pins : List (Addr × Obj)} {σ : L2.St} {H : Hp} {s : Shared} {k k' : Nat} {f C CK : Addr} {fd : FuncData} {ps : List Str} {sp : Sp} {E : XK} {x : Str} {p pos apos : Pos} {e : Expr} {es : List Expr} {t : TA}
theorem run_mkx {Q : VK} {us : List Value} {vs : List V} (M : MkX X.K C f) (F : FnOk X.prog X.w X.K X.mg X.base (CXE X.prog X.w) k f fd ps sp) (hr : Room (k + 1) X.A) (hb : Binds X.K fd ps [])
    (hx : Passes (CXE X.prog X.w) X E) (I : Inv X pins σ H s) (r : Vals vs us) (hz : vs.length ≤ sizeLine)
    (h : ∀ x, H x = none → sp (.ref x :: vs) (upd H x (Xo x C none)) (fun v H2 => v = .non ∧ Q (.ref x) H2) E) :
    wpAny (model X.prog X.w) X.A (call (.ref C) us) (EP X pins σ Q) X.xe s := by
  obtain ⟨hh, g, d, t, os⟩ := s
  have hq := h (hh.objs.size + 1) (I.hok.fresh (Nat.le_succ _))
  have I1 := I.kept (h' := hh.push { cls := .type "tuple", data := .seq us.toArray }) (t' := t) (fun b u q => Heap.get?_push_of_some _ q)
  have e2 : ((hh.push { cls := .type "tuple", data := .seq us.toArray }).push (newX C hh.objs.size)).get? (hh.objs.size + 1) = some (newX C hh.objs.size) := by heap_get
  have I2 := I1.laid (a := hh.objs.size + 1) (o := Xo (hh.objs.size + 1) C none) (h' := (hh.push { cls := .type "tuple", data := .seq us.toArray }).push (newX C hh.objs.size)) (t' := t)
    (fun b u q => Heap.get?_push_of_some _ q) (Nat.le_of_eq (Heap.size_push _ _)) (xo_ok ⟨_, _, ⟨_, rfl⟩, e2⟩)
  have r2 : Vals (V.ref (hh.objs.size + 1) :: vs) (Value.ref (hh.objs.size + 1) :: us) := .cons rfl r
  have hl : (Value.ref (hh.objs.size + 1) :: us).length = ps.length := by
    have e := r2.length
    rw [F.len _ _ _ _ hq] at e
    exact e.symm
  refine call_init I.kIn M.o M.init M.fn (by rw [← r.length]; exact hz) fun A' eA => ?_
  subst eA
  have bd := hb _ (Value.ref (hh.objs.size + 1) :: us) I2.kIn (by rw [List.append_nil]; exact hl)
  rw [List.append_nil] at bd
  refine codeAny_mono (F.run _ X.stack _ _ ⟨Value.ref (hh.objs.size + 1) :: us, []⟩ (Value.ref (hh.objs.size + 1) :: us) _ _ E (hr.make C us []) (I2.env0.make C us []) bd r2 hq) fun r s' hq' => ?_
  cases r with
  | error e => exact hx pins σ _ _ e s' I2 hq'
  | ok fl =>
    cases fl with
    | ret u =>
      obtain ⟨v, H', I3, rv, ev, q3⟩ := I2.after hq'
      subst ev
      exact ⟨rv, ⟨V.ref (hh.objs.size + 1), H', I3, rfl, q3⟩⟩
    | next => exact False.elim hq'
    | brk => exact False.elim hq'
    | cont => exact False.elim hq'
theorem pe_mkx (M : FnI X.prog X.w X.K X.mg X.base k C ps sp) (hk : k + 1 ≤ k') (hr : Room k' X.A) (hg : Gl X x) (hm : X.mg x = some (.ref C)) (hx : Passes (CXE X.prog X.w) X E)
    (ha : PA X (e :: es) t) (hdb : (x == ("__debug__" : Str)) = false := by decide) (he : starEach (e :: es) X.env = (false, eval e X.env) :: starEach es X.env := by rfl) (hpl : (backTo pos (starEach es X.env)).any (·.1) = false := by rfl) :
    PE X (.Call (.Name x p) (e :: es) [] pos) (tMkx C sp E t) := by
  intro pins s σ H Q I h
  obtain ⟨f, fd, F, MX, bd⟩ := M.ex
  refine wpAny_Call_Name_kw (ld_glob I hg hm ?_ hdb)
  refine PySem.W.callWith_K (h₀ := X.base) I.ok.mod.kin MX.kp (thn (ha pos pins s σ H _ I h) fun us s1 ⟨vs, H1, I1, r, hz, q⟩ => ⟨I1.kIn, ?_⟩) he hpl
  exact run_mkx MX F (hr.mono hk) bd hx I1 r hz q
theorem upd_self {H : Hp} {a : Addr} {o : HO} (h : H a = some o) : upd H a o = H := by
  funext b
  unfold upd
  split
  · rename_i z; rw [z, h]
  · rfl
theorem pe_base {pl : Sem Bool} (hg : Gl X x) (hm : X.mg x = some (.ref CK)) (rd : PySem.W.readsIn X.K CK (.type "type") = true) (fc : PySem.W.findCls X.K (.ref CK) (.type "type") "__init__" = some (.val (.builtin "ValueError.__init__")))
    (gs : PySem.W.specialIn X.K (.ref CK) "__getattribute__" = some (some (.builtin "type.__getattribute__"))) (ha : PA X (e :: es) t) (hdb : (x == ("__debug__" : Str)) = false := by decide)
    (hst : starEach (e :: es) X.env = (false, eval e X.env) :: starEach es X.env := by rfl) (hpl : (backTo pos (starEach es X.env)).any (·.1) = false := by rfl)
    (ht : eval (.Call (.Attribute (.Name x p) "__init__" apos) (e :: es) [] pos) X.env = (do
      let ov ← eval (.Name x p) X.env
      standAt apos.atName
      let (f, first) ← holding [ov] (getMethod ov "__init__" pl)
      callWith pos f first (backTo pos (starEach (e :: es) X.env)) (backToKw pos (keywordEach [] X.env))) := by rfl) :
    PE X (.Call (.Attribute (.Name x p) "__init__" apos) (e :: es) [] pos) (tBase X.K t) := by
  intro pins s σ H Q I h
  refine PySem.W.methodCall_KW (pl := pl) (ld_glob I hg hm ?_ hdb) ht
  refine PySem.W.method_cls I.kIn gs (PySem.W.cls_value I.kIn rd fc rfl ?_)
  refine PyProof.Rows.callWith_builtin1 (thn (ha pos pins _ σ H _ (I.tok _) h) fun us s1 ⟨vs, H1, I1, r, y, C, od, more, ev, hx, ho, hz, q⟩ => ?_) hst hpl
  subst ev
  cases r with
  | @cons _ u0 _ us' r0 r =>
    cases (show u0 = Value.ref y from r0)
    obtain ⟨vs', sl, h0, he⟩ := (show ObjOk X.prog X.w H1 s1.heap y (Xo y C od) from I1.hok y _ hx).1
    obtain ⟨hh, g, d, tk, os⟩ := s1
    obtain ⟨a0, rfl⟩ := h0
    refine base_init I1.kIn ho he rfl rfl (by simp) (by rw [← r.length]; exact hz) fun h' keep ⟨v0, e2⟩ => ⟨.non, H1, ?_, rfl, q⟩
    have J := I1.write (x := y) (e := y) (o := Xo y C od) (h' := h') (t' := tk) (by rw [hx]; exact True.intro) (.inl rfl) keep ⟨_, e2⟩ (xo_ok ⟨_, sl, ⟨v0, rfl⟩, e2⟩)
    rw [upd_self hx] at J
    exact J
theorem Inv.dressed {a C d : Addr} {fs : List (Str × V)} {h' : Heap} {tk' : Nat} (I : Inv X pins σ H s) (hx : H a = some (Xo a C none)) (hd : s.heap.objs.size ≤ d)
    (h1 : XoIs a C (some d) h') (h2 : XdIs d fs h') (keep : ∀ b o, b ≠ a → s.heap.get? b = some o → h'.get? b = some o) : Inv X pins σ (upd (upd H d (Xd d fs)) a (Xo a C (some d))) { s with heap := h', toks := tk' } := by
  have hdn : H d = none := I.hok.fresh hd
  have nda : d ≠ a := fun z => by rw [z, hx] at hdn; cases hdn
  have nl : ∀ b o, s.heap.get? b = some o → b ≠ d := fun b o q => Nat.ne_of_lt (Nat.lt_of_lt_of_le (Heap.lt_size q) hd)
  have na : ∀ b, H b = none → b ≠ a := fun b q z => by rw [z, hx] at q; cases q
  have oth : ∀ b u, H b = some u → (∀ φ, u ≠ .ext φ) → upd (upd H d (Xd d fs)) a (Xo a C (some d)) b = H b := fun b u q nu => by
    rw [upd_ne (fun z => by rw [z, hx] at q; exact nu _ (Option.some.inj q).symm), upd_ne (fun z => by rw [z, hdn] at q; cases q)]
  refine I.un ⟨fun b o q n _ _ => keep b o (na b n) q, fun b o q n _ _ => ⟨o.slots, keep b o (na b n) q⟩, fun b o q n _ => by rw [upd_ne (na b n), upd_ne (nl b o q)]; exact n, fun b o q _ => ?_,
    fun b xs q => by rw [oth b _ q fun φ z => nomatch z]; exact q, fun b o u q => by rw [oth b _ q fun φ z => nomatch z]; exact q, fun b ps q => ⟨#[], by rw [oth b _ q fun φ z => nomatch z]; simpa using q⟩⟩ fun b u q => ?_
  · by_cases z : b = a
    · obtain ⟨vs, sl, _, e⟩ := h1
      exact ⟨_, by rw [z]; exact e⟩
    · exact ⟨o, keep b o z q⟩
  · by_cases z : b = a
    · subst z
      rw [upd_same] at q
      cases q
      exact xo_ok h1
    · rw [upd_ne z] at q
      by_cases y : b = d
      · subst y
        rw [upd_same] at q
        cases q
        exact xd_ok h2
      · rw [upd_ne y] at q
        refine (I.hok b u q).stay (fun c v hc r => keep c v ?_ r) (fun c r => by rw [oth c _ r fun φ z => nomatch z]; exact r) fun c xs r => by rw [oth c _ r fun φ z => nomatch z]; exact r
        rcases hc with rfl | hc
        · exact z
        · rintro rfl
          rw [hx] at hc
          cases hc
theorem xd_put {h' : Heap} {d : Addr} {fs : List (Str × V)} {mA : Str → Option Value} {f : Str} {y : V} {u : Value} (hn : h'.Ns1 d fun g => if g = f then some u else mA g) (r : ∀ g, RelO (fs.lookup g) (mA g)) (wi : PySem.Within mA (fs.map (·.1))) (ry : RelV y u) :
    XdIs d (putF f y fs) h' := by
  refine ⟨_, hn, fun g => ?_, fun g hg => ?_⟩
  · rw [lookup_putF]
    by_cases q : g = f
    · rw [if_pos q, if_pos q]; exact ry
    · rw [if_neg q, if_neg q]; exact r g
  · by_cases q : g = f
    · rw [q]; exact (keys_putF f y fs).1
    · refine (keys_putF f y fs).2 g (wi g fun z => hg ?_)
      show (if g = f then some u else mA g) = none
      rw [if_neg q]; exact z
variable {o value : Expr} {f : Str} {pos' : Pos} {ta tv : TE}
theorem ps_xf (ha : PE X o ta) (hv : PE X value tv) (hs : swapsWith value (some (.Attribute o f pos')) pos.line X.env = pure false := by rfl) : PS X (.Assign [.Attribute o f pos'] value pos) (sXf X.K ta tv f) := by
  intro pins s σ H D I h
  refine plainObj_wpAny_Assign_Attribute (thn (hv pins s σ H _ I h) fun u s1 ⟨y, H1, I1, ry, q⟩ => thn (ha pins s1 σ H1 _ I1 q) fun ov s2 ⟨x, H2, I2, rx, a, C, ex, xc, n, q2⟩ => ?_) hs
  subst ex
  obtain rfl : ov = Value.ref a := rx
  rcases q2 with ⟨hx, q2⟩ | ⟨d, fs, hx, hd, hl, q2⟩
  · obtain ⟨vs, sl, h0, e0⟩ := (show ObjOk X.prog X.w H2 s2.heap a (Xo a C none) from I2.hok a _ hx).1
    refine set_first I2.kIn e0 xc.ov xc.ob xc.sa n fun h' tk' e1 e2 keep => ⟨σ, _, ?_, q2 s2.heap.objs.size (I2.hok.fresh (Nat.le_refl _))⟩
    exact Kw.Inv.dressed I2 hx (Nat.le_refl _) ⟨vs, sl, h0, e1⟩ (xd_put (fs := []) e2 (fun _ => True.intro) (fun g hg => absurd rfl hg) ry) keep
  · obtain ⟨vs, sl, h0, e0⟩ := (show ObjOk X.prog X.w H2 s2.heap a (Xo a C (some d)) from I2.hok a _ hx).1
    obtain ⟨mA, hn, r, wi⟩ := (show ObjOk X.prog X.w H2 s2.heap d (Xd d fs) from I2.hok d _ hd).1
    refine set_more I2.kIn e0 hn wi (by rw [List.length_map, sizeLine_eq]; omega) xc.ov xc.ob xc.sa n fun h' tk' e1 sb => ⟨σ, _, ?_, q2⟩
    have e1' := e1
    obtain ⟨o', _, _, e2, _⟩ := e1'
    exact I2.write (x := d) (e := d) (h' := h') (t' := tk') (by rw [hd]; exact True.intro) (.inl rfl) (fun b v hb z => (sb.2 b hb).trans z) ⟨o', e2⟩ (xd_ok (xd_put e1 r wi ry))
end
noncomputable def xq (K : PySem.W.Frag) (C : Addr) : Bool := PySem.W.findIn K (.ref C) "__getattribute__" == some (some (.builtin "BaseException.__getattribute__")) && PySem.W.findIn K (.ref C) "__getattr__" == some none &&
  PySem.W.findIn K (.ref C) "__class__" == some (some (.builtin "object.__class__")) && PySem.W.specialIn K (.builtin "object.__class__") "__get__" == some (some (.builtin "getset_descriptor.__get__")) &&
  PySem.W.takesIn K (.builtin "object.__class__") == some true && PySem.W.mroIn K C (.type "object") == some true && PySem.W.mroIn K C (.type "BaseException") == some true
theorem xq_ok {K : PySem.W.Frag} {C : Addr} (h : xq K C = true) : ExcQ K C := by
  simp only [xq, Bool.and_eq_true, beq_iff_eq] at h
  obtain ⟨⟨⟨⟨⟨⟨a, b⟩, c⟩, d⟩, e⟩, f⟩, g⟩ := h
  exact ⟨a, b, c, d, e, f, g⟩
noncomputable def xcb (K : PySem.W.Frag) (C : Addr) : Bool := excOver K C && PySem.W.mroIn K C (.type "object") == some true && PySem.W.findIn K (.ref C) "__setattr__" == some (some (.builtin "object.__setattr__")) && PySem.W.hasDictIn K C
theorem xcb_ok {K : PySem.W.Frag} {C : Addr} (h : xcb K C = true) : XCls K C := by
  simp only [xcb, Bool.and_eq_true, beq_iff_eq] at h
  obtain ⟨⟨⟨a, b⟩, c⟩, d⟩ := h
  exact ⟨a, b, c, d⟩
noncomputable def chk1 (K : PySem.W.Frag) (CK : Addr) (C : Nat → Addr) (n m i : Nat) : Bool := xq K (C i) && PySem.W.keepIn K (.ref (C i)) && PySem.W.kitOne K (.ref (C i)) (.ref CK) == some true && PySem.W.kitOne K (.ref (C i)) (.type "ValueError") == some true &&
  ((List.range n).all fun j => PySem.W.kitOne K (.ref (C i)) (.ref (C j)) == some (decide (i = j))) && (if i < m then PySem.W.excIn K (C i) bmV "ValueError.__new__" else excO K (C i) && xcb K (C i))
noncomputable def chkN (K : PySem.W.Frag) (CK : Addr) (C : Nat → Addr) (n m : Nat) : Bool := (List.range n).all (chk1 K CK C n m)
structure Refs (K : PySem.W.Frag) (CK : Addr) (C : Nat → Addr) (n m : Nat) : Prop where
  q : ∀ i, i < n → ExcQ K (C i)
  kp : ∀ i, i < n → PySem.W.keepIn K (.ref (C i)) = true
  k : ∀ i, i < n → PySem.W.kitOne K (.ref (C i)) (.ref CK) = some true
  v : ∀ i, i < n → PySem.W.kitOne K (.ref (C i)) (.type "ValueError") = some true
  mm : ∀ i j, i < n → j < n → PySem.W.kitOne K (.ref (C i)) (.ref (C j)) = some (decide (i = j))
  x : ∀ i, i < m → i < n → ExcC K (C i)
  o : ∀ i, m ≤ i → i < n → excO K (C i) = true
  c : ∀ i, m ≤ i → i < n → XCls K (C i)
theorem refs_ok {K : PySem.W.Frag} {CK : Addr} {C : Nat → Addr} {n m : Nat} (h : chkN K CK C n m = true) : Refs K CK C n m := by
  have g : ∀ i, i < n → chk1 K CK C n m i = true := fun i hi => List.all_eq_true.mp h i (List.mem_range.mpr hi)
  have g' : ∀ i, i < n → (((((xq K (C i) = true ∧ PySem.W.keepIn K (.ref (C i)) = true) ∧ PySem.W.kitOne K (.ref (C i)) (.ref CK) = some true) ∧ PySem.W.kitOne K (.ref (C i)) (.type "ValueError") = some true) ∧
      ((List.range n).all fun j => PySem.W.kitOne K (.ref (C i)) (.ref (C j)) == some (decide (i = j))) = true) ∧ (if i < m then PySem.W.excIn K (C i) bmV "ValueError.__new__" else excO K (C i) && xcb K (C i)) = true) := fun i hi => by
    have z := g i hi
    simp only [chk1, Bool.and_eq_true, beq_iff_eq] at z
    exact z
  refine ⟨fun i hi => xq_ok (g' i hi).1.1.1.1.1, fun i hi => (g' i hi).1.1.1.1.2, fun i hi => (g' i hi).1.1.1.2, fun i hi => (g' i hi).1.1.2, fun i j hi hj => ?_, fun i hm hi => ?_, fun i hm hi => ?_, fun i hm hi => ?_⟩
  · exact beq_iff_eq.mp (List.all_eq_true.mp (g' i hi).1.2 j (List.mem_range.mpr hj))
  · have z := (g' i hi).2
    rw [if_pos hm] at z
    exact z
  · have z := (g' i hi).2
    rw [if_neg (by omega), Bool.and_eq_true] at z
    exact z.1
  · have z := (g' i hi).2
    rw [if_neg (by omega), Bool.and_eq_true] at z
    exact xcb_ok z.2
noncomputable def clsAt (l : List Addr) (n : Nat) : Addr := l.getD n 0
theorem dfi_mk {K : PySem.W.Frag} {C f : Addr} {qual : Str} {st : Stmt} {ps : List Str} {od an : Option Addr} {sl : Array (Option Value)} {oc kV dc pm cd ct : Value} (i : PySem.W.findIn K (.ref C) "__init__" = some (some (.ref f)))
    (t : PySem.W.typeIn K (.ref f) = some (.type "function")) (l : K.lookup f = some ⟨oc, od, .func (PySem.W.fnOf "__init__" qual (defArgs st) (defBody st) (defScope st) .none kV dc pm an cd ct), sl⟩) (q : PySem.W.codeIn K cd qual = true) (o : excO K C = true) (kp : PySem.W.keepIn K (.ref C) = true)
    (b : ∀ us : List Value, us.length = ps.length → bindArgs (PySem.W.fnOf "__init__" qual (defArgs st) (defBody st) (defScope st) .none kV dc pm an cd ct) ⟨us, []⟩ = pure (ps.zip us)) : DfI K C qual st ps :=
  ⟨⟨f, oc, od, kV, dc, pm, an, cd, ct, sl, l, q, ⟨o, i, t, kp⟩, .all b⟩⟩
noncomputable def mthOf (s : Stmt) : Stmt := match s with
  | .ClassDef _ _ _ b _ _ _ _ _ _ _ => b.headD (.Pass ⟨0, 0, 0, 0⟩)
  | _ => .Pass ⟨0, 0, 0, 0⟩
theorem same_of_but {H H' : Hp} {x : Addr} {o : HO} (hx : H x = none) (b : But x (upd H x o) H') : Same H H' := fun a u q => by
  have nx : a ≠ x := ne_of_none q hx
  exact b a u nx (by rw [upd_ne nx]; exact q)
theorem dressO {H : Hp} {x d : Addr} {o0 : HO} (o1 o2 : HO) (hx : H x = some o0) (hd : H d = none) : ∃ H', upd (upd H d o1) x o2 = H' ∧ But x H H' ∧ H' x = some o2 ∧ H' d = some o1 := by
  have nd : d ≠ x := fun z => by rw [z, hx] at hd; cases hd
  exact ⟨_, rfl, fun a o na q => by rw [upd_ne na, upd_ne (ne_of_none q hd)]; exact q, upd_same, by rw [upd_ne nd, upd_same]⟩
noncomputable def XcIs (x C : Addr) (od : Option Addr) (h : Heap) : Prop := ∃ (vs : Array Value) (sl : Array (Option Value)), h.get? x = some ⟨.ref C, od, .fields vs, sl⟩
noncomputable abbrev Xc (x C : Addr) (od : Option Addr) : HO := .ext (XcIs x C od)
theorem xc_ok {P : Program} {w : World} {H : Hp} {h : Heap} {x C : Addr} {od : Option Addr} (e : XcIs x C od h) : ObjOk P w H h x (Xc x C od) := by
  obtain ⟨vs, sl, b⟩ := id e
  exact ⟨e, ⟨_, b⟩, fun _ _ ⟨vs, sl, b⟩ k => ⟨vs, sl, k _ b⟩⟩
theorem xc_exc {h : Heap} {x C : Addr} {od : Option Addr} (e : XcIs x C od h) : ExcIs x (.ref C) h := by
  obtain ⟨vs, sl, b⟩ := e
  exact ⟨_, vs, b, rfl, rfl⟩
noncomputable def ClsX (K : PySem.W.Frag) (C : Addr) : Prop := ∀ h : Heap, K.In h → ∃ bm N nm qn bs hdct sn sub ab col dd k0 k1 k2 k3 k5, h.get? C = some (excClassObj nm qn C N bs bm hdct sn sub ab col dd k0 k1 k2 k3 k5 "ValueError.__new__") ∧ OwnTail h bmV bm
theorem clsx_o {K : PySem.W.Frag} {C : Addr} (q : excO K C = true) : ClsX K C := fun _ X => excO_obj X q
theorem clsx_c {K : PySem.W.Frag} {C : Addr} (q : ExcC K C) : ClsX K C := fun _ X => by
  obtain ⟨bm, N, nm, qn, bs, hdct, sn, sub, ab, col, dd, k0, k1, k2, k3, k5, _, hO, _, _, TL⟩ := exc_obj X q
  exact ⟨bm, N, nm, qn, bs, hdct, sn, sub, ab, col, dd, k0, k1, k2, k3, k5, hO, TL⟩
theorem raise_made {M : Model} {A : Around} {E : Value → Shared → Prop} {s : Shared} {env : Env} {x : Sem Value} {Q : Flow → Shared → Prop} {K : PySem.W.Frag} (hh : A.handled = none)
    (h : wpAny M A x (fun v s1 => ∃ e C od a sl, v = .ref e ∧ K.In s1.heap ∧ ClsX K C ∧ s1.heap.get? e = some ⟨.ref C, od, .fields #[a, .none, .none, .none, .bool false, .none], sl⟩ ∧ E (.ref e) s1) E s) :
    wpAny M A (raiseStmt env (some x) none) Q E s := by
  unfold raiseStmt
  refine wpAny_bind (wpAny_mono h (fun v s1 h1 => ?_) fun _ _ z => z)
  obtain ⟨e, C, od, a, sl, rfl, kx, cx, he, hE⟩ := h1
  obtain ⟨hp, g, d, tk, os⟩ := s1
  obtain ⟨bm, N, nm, qn, bs, hdct, sn, sub, ab, col, dd, k0, k1, k2, k3, k5, hO, TL⟩ := cx hp kx
  have hB : (Value.ref C :: bm).contains (.type "BaseException") = true := by rw [List.contains_cons, TL.hasType PySem.F.excBase_ValueError.hasBase, Bool.or_true]
  repeat (first
    | with_reducible refine wpAny_loadPart_at he ?_
    | with_reducible refine wpAny_loadPart_at hO ?_
    | (with_reducible refine wpAny_isSubtype_exc hO ?_; rw [hB])
    | wp_step)
  exact wpAny_raiseNew_none hh hE
section
variable {X : Cx} {E : XK} {e : Expr} {te : TE} {pos : Pos}
noncomputable def tRaiseX (K : PySem.W.Frag) (H0 : Hp) (E : XK) (te : TE) : TS := fun _ σ H => te σ H fun v H1 => ∃ x C od, v = .ref x ∧ H1 x = some (Xo x C od) ∧ H0 x = none ∧ ClsX K C ∧ E (.ref C) od (del H1 x)
theorem ps_raiseX (pl : Plain X) (L : Leaves X E) (hc : X.calm = true) (he : PE X e te) : PS X (.Raise (some e) none pos) (tRaiseX X.K X.H₀ E te) := by
  intro pins s σ H D I h
  rw [arm_exec_Raise]
  refine wpAny_bind (wpAny_standAt ?_)
  refine raise_made (K := X.K) (I.ok.hd hc) (wpAny_bind (wpAny_mono (he pins s σ H _ I h) (fun v s1 h1 => wpAny_bind (wpAny_standAt (wpAny_pure ?_))) fun _ _ z => z))
  obtain ⟨y, H1, I1, r, x, C, od, rfl, hx, hx0, cx, q⟩ := h1
  cases (show v = Value.ref x from r)
  obtain ⟨vs, sl, ⟨a0, rfl⟩, hox⟩ := (show ObjOk X.prog X.w H1 s1.heap x (Xo x C od) from I1.hok x _ hx).1
  refine ⟨x, C, od, a0, sl, rfl, I1.kIn, cx, hox, ?_⟩
  have n0 : X.s₀.heap.get? x = none := by
    cases z : X.s₀.heap.get? x with
    | none => rfl
    | some o =>
      have y := I1.base.free x o z hx0 (by rw [pl.ex]; simp)
      rw [hx] at y
      cases y
  have I2 := Kw.Inv.drop I1 hx
  refine L _ _ fun Q R hQ => ?_
  refine leave0 (bs := PySem.W.hideAll s1.heap ([x] ++ frs X.stack)) (up := X.outer) (by rw [I2.ok.frames, pl.stk]) pl.fr (fun b o z => PySem.W.of_hideAll _ z) (frames_hid pl I2 _) (PySem.W.hideAll_none _ (by simp)) hox rfl rfl rfl fun h' nt => hQ _ ?_
  have up := nt.up
  have F : Flown X (del H1 x) s1.heap h' [x] := by
    refine ⟨fun b o ho hs hn => nt.st b o (PySem.W.hideAll_get _ ho fun z => (List.mem_append.mp z).elim hn hs), fun b o ho hb => up b o ho (frame_nofields I2 hb ho), fun b hb => ?_⟩
    cases List.mem_singleton.mp hb
    exact ⟨n0, del_same⟩
  refine F.cxe pl I2 rfl rfl I2.bare ⟨n0, del_same, ?_⟩ q
  obtain ⟨oe', vs', T', oT', ts', he', hc', hdc', hd', h0', h1', hnT', hTe', hT', hdT', h3'⟩ := nt.tr
  refine ⟨oe', vs', _, T', oT', ts', he', hc', hdc', hd', h0', h1', ?_, ?_, hTe', hT', hdT', h3'⟩
  all_goals
    cases z : s1.heap.get? T' with
    | none => first | exact old_of pl I2 z | exact free_of_none I2.hok z
    | some o1 =>
      have hmm : T' ∈ [x] ++ frs X.stack := Classical.byContradiction fun hmm => by
        rw [PySem.W.hideAll_get _ z hmm] at hnT'; cases hnT'
      rcases List.mem_append.mp hmm with hm | hm
      · exact absurd (List.mem_singleton.mp hm) hTe'
      · obtain ⟨sl, ee⟩ := up T' o1 z (frame_nofields I2 hm z)
        rw [ee] at hT'
        cases hT'
        exact absurd hdT' (frame_nofields I2 hm z _)
noncomputable def rIsC (K : PySem.W.Frag) : List V → Hp → VK → Prop := fun xs H Q => ∃ x C od c b, xs = [.ref x, c] ∧ ((∃ T, c = .ty T) ∨ ∃ C', c = .ref C') ∧ H x = some (Xc x C od) ∧ ExcQ K C ∧ PySem.W.kitOne K (.ref C) (valC c) = some b ∧ Q (.bl b) H
theorem call_isinstC {K : PySem.W.Frag} (hK : X.K = K) : CallR X (.builtin "isinstance") (rIsC K) := by
  subst hK
  intro pins s σ H xs us Q I r h
  obtain ⟨x, C, od, c, b, rfl, hc, hx, eq, e, q⟩ := h
  obtain ⟨u, w', rfl, rx, rc⟩ := vals2 r
  cases (show u = Value.ref x from rx)
  have ec : w' = valC c := by
    rcases hc with ⟨T, rfl⟩ | ⟨C', rfl⟩
    · exact rc
    · exact rc
  subst ec
  have ok := xc_exc (show ObjOk X.prog X.w H s.heap x (Xc x C od) from I.hok x _ hx).1
  exact PySem.W.kia_one (kitx_exc eq) I.kIn ok e (fun z => nomatch z) fun tk => ⟨.bl b, H, I.tok _, rfl, q⟩
variable {o : Expr} {f : Str} {ta : TE}
noncomputable def tXcf (K : PySem.W.Frag) (ta : TE) (f : Str) : TE := fun σ H Q => ta σ H fun x H1 => ∃ a C d fs v, x = .ref a ∧ H1 a = some (Xc a C (some d)) ∧ H1 d = some (Xd d fs) ∧ ExcQ K C ∧ XCls K C ∧ NoAttr K C f ∧ fs.lookup f = some v ∧ Q v H1
theorem pe_xcf (he : PE X o ta) (hb : attributeBase o f X.env (eval o X.env) = eval o X.env := by rfl) : PE X (.Attribute o f pos) (tXcf X.K ta f) := by
  intro pins s σ H Q I h
  refine attr_of hb (thn (he pins s σ H _ I h) fun u s1 zz => ?_)
  obtain ⟨x, H1, I1, rx, a, C, d, fs, v, ex, hx, hd, eq, xc, n, l, q⟩ := zz
  subst ex
  obtain rfl : u = Value.ref a := rx
  obtain ⟨vs, sl, e0⟩ := (show ObjOk X.prog X.w H1 s1.heap a (Xc a C (some d)) from I1.hok a _ hx).1
  obtain ⟨mA, hn, r, wi⟩ := (show ObjOk X.prog X.w H1 s1.heap d (Xd d fs) from I1.hok d _ hd).1
  obtain ⟨od, e1, e2⟩ := look_ns1 (name := f) hn
  obtain ⟨u, hu, ru⟩ := RelO.some_of (v := v) (o := mA f) (by rw [← l]; exact r f)
  have J : PySem.W.InstAt s1.heap a ⟨.ref C, some d, .fields vs, sl⟩ C (some od) := ⟨e0, rfl, rfl, e1⟩
  exact exc_fld I1.kIn J eq (PySem.W.findObj_own xc.hd n rfl (by rw [e2, hu])) (handed_of ru) ⟨v, H1, I1.tok _, ru, q⟩
theorem pe_xcfK {K : PySem.W.Frag} (hK : X.K = K) (he : PE X o ta) (hb : attributeBase o f X.env (eval o X.env) = eval o X.env := by rfl) : PE X (.Attribute o f pos) (tXcf K ta f) := by
  subst hK
  exact pe_xcf he hb
end
noncomputable abbrev Cx.cat (X : Cx) (pn0 : List (Addr × Obj)) (E0 : Value → Shared → Prop) : Cx := { X with pn := X.pn ++ pn0, xe := E0 }
section
variable {X : Cx} {pins pins' : List (Addr × Obj)} {σ : L2.St} {H : Hp} {s : Shared} {E0 : Value → Shared → Prop}
theorem Inv.cat (I : Inv X pins σ H s) : Inv (Cx.cat X pins E0) [] σ H s := by
  obtain ⟨ok, r1, r2, r3, r4, r5, r6, r7, r8, r9, r10⟩ := I
  obtain ⟨a1, a2, a3, a4, a5, a6, a7, a8, a9, a10, a11, a12, a13, a14, a15, a16, a17, a18⟩ := ok
  exact ⟨⟨a1, a2, a3, a4, a5, a6, a7, a8, a9, a10, a11, a12, a13, a14, a15, a16, a17, a18⟩, r1, r2, r3, r4, r5, r6, r7, fun p hp => r8 p (by rw [List.append_nil] at hp; exact hp), r9, r10⟩
theorem Inv.uncat (I : Inv (Cx.cat X pins E0) pins' σ H s) : Inv X pins σ H s := by
  obtain ⟨ok, r1, r2, r3, r4, r5, r6, r7, r8, r9, r10⟩ := I
  obtain ⟨a1, a2, a3, a4, a5, a6, a7, a8, a9, a10, a11, a12, a13, a14, a15, a16, a17, a18⟩ := ok
  exact ⟨⟨a1, a2, a3, a4, a5, a6, a7, a8, a9, a10, a11, a12, a13, a14, a15, a16, a17, a18⟩, r1, r2, r3, r4, r5, r6, r7, fun p hp => r8 p (List.mem_append_left _ hp), r9, r10⟩
theorem SP.uncat {D : Ends} {f : Flow} (h : SP (Cx.cat X pins E0) [] D f s) : SP X pins D f s := by
  cases f with
  | next => obtain ⟨σ', H', I, q⟩ := h; exact ⟨σ', H', Kw.Inv.uncat I, q⟩
  | brk => obtain ⟨σ', H', I, q⟩ := h; exact ⟨σ', H', Kw.Inv.uncat I, q⟩
  | cont => obtain ⟨σ', H', I, q⟩ := h; exact ⟨σ', H', Kw.Inv.uncat I, q⟩
  | ret u => obtain ⟨v, σ', H', I, r, q⟩ := h; exact ⟨v, σ', H', Kw.Inv.uncat I, r, q⟩
end
noncomputable abbrev blank (X : Cx) : L2.St := List.replicate X.N.length none
structure AtH (X : Cx) (pins : List (Addr × Obj)) (H : Hp) (s : Shared) (hc : Heap) (x CA : Addr) (od : Option Addr) : Prop where
  inv : Inv X pins (blank X) H s
  fly : FlyAt H hc s.heap x (.ref CA) od
  pn : ∀ p ∈ X.pn ++ pins, ∃ o, hc.get? p.1 = some o
  old : ∀ b o, X.s₀.heap.get? b = some o → ∃ o', hc.get? b = some o'
  thr : ∀ b o, hc.get? b = some o → ∃ o', s.heap.get? b = some o'
section
variable {X : Cx} {pins : List (Addr × Obj)} {H : Hp} {s : Shared} {hc : Heap} {x CA : Addr} {od : Option Addr}
theorem AtH.young (a : AtH X pins H s hc x CA od) {b : Addr} (e : hc.get? b = none) : X.s₀.heap.get? b = none := by
  cases q : X.s₀.heap.get? b with
  | none => rfl
  | some o =>
    obtain ⟨o', z⟩ := a.old b o q
    rw [e] at z
    cases z
theorem AtH.go {G : Prop} (pl : Plain X) (hcell : X.env.cells = []) (a : AtH X pins H s hc x CA od)
    (step : ∀ (bs : Heap) (a0 : Value), bs.StaysIn s.heap → s.heap.FunFrames bs (X.env :: X.outer) → bs.get? x = none → TrD s.heap bs x (.ref CA) od a0 .none → (∀ h', Noted bs (X.env :: X.outer) x (.ref CA) od a0 .none s.heap h' → AtH X pins H { s with heap := h' } hc x CA od) → G) : G := by
  obtain ⟨I, ⟨new, free, oe, vs, a0, T, oT, ts, he, hcl, hdc, hd, h0, h1, hT0, hTf, hTx, hT, hdT, h3⟩, pn, old, thr⟩ := id a
  have n0 := a.young new
  have nT := a.young hT0
  refine step (PySem.W.hideAll s.heap ([x, T] ++ frs X.stack)) a0 (fun b o z => PySem.W.of_hideAll _ z) (frames_hid pl I _) (PySem.W.hideAll_none _ (by simp))
    ⟨oe, vs, T, oT, ts, he, hcl, hdc, hd, h0, h1, PySem.W.hideAll_none _ (by simp), hTx, hT, hdT, h3⟩ fun h' nt => ?_
  have up := nt.up
  have F : Flown X H s.heap h' [x, T] := by
    refine ⟨fun b o ho hs hn => nt.st b o (PySem.W.hideAll_get _ ho fun z => (List.mem_append.mp z).elim hn hs), fun b o ho hb => up b o ho (frame_nofields I hb ho), fun b hb => ?_⟩
    simp only [List.mem_cons, List.not_mem_nil, or_false] at hb
    rcases hb with rfl | rfl
    · exact ⟨n0, free⟩
    · exact ⟨nT, hTf⟩
  have np : ∀ p ∈ X.pn ++ pins, p.1 ∉ [x, T] := fun p hp z => by
    obtain ⟨o, y⟩ := pn p hp
    simp only [List.mem_cons, List.not_mem_nil, or_false] at z
    rcases z with z | z
    · rw [z, new] at y; cases y
    · rw [z, hT0] at y; cases y
  refine ⟨F.inv pl hcell I np rfl rfl I.bare, ⟨new, free, ?_⟩, pn, old, fun b o y => ?_⟩
  · obtain ⟨oe', vs', T', oT', ts', he', hc', hdc', hd', h0', h1', hnT', hTe', hT', hdT', h3'⟩ := nt.tr
    have both : hc.get? T' = none ∧ H T' = none := by
      cases z : s.heap.get? T' with
      | none =>
        refine ⟨?_, free_of_none I.hok z⟩
        cases y : hc.get? T' with
        | none => rfl
        | some o =>
          obtain ⟨o', w'⟩ := thr T' o y
          rw [z] at w'
          cases w'
      | some o1 =>
        have hm : T' ∈ [x, T] ++ frs X.stack := Classical.byContradiction fun hm => by
          rw [PySem.W.hideAll_get _ z hm] at hnT'; cases hnT'
        rcases List.mem_append.mp hm with hm | hm
        · simp only [List.mem_cons, List.not_mem_nil, or_false] at hm
          rcases hm with rfl | rfl
          · exact absurd rfl hTe'
          · exact ⟨hT0, hTf⟩
        · obtain ⟨sl, ee⟩ := up T' o1 z (frame_nofields I hm z)
          rw [ee] at hT'
          cases hT'
          exact absurd hdT' (frame_nofields I hm z _)
    exact ⟨oe', vs', a0, T', oT', ts', he', hc', hdc', hd', h0', h1', both.1, both.2, hTe', hT', hdT', h3'⟩
  · obtain ⟨o', y'⟩ := thr b o y
    by_cases hb : b ∈ frs X.stack
    · obtain ⟨sl, ee⟩ := up b o' y' (frame_nofields I hb y')
      exact ⟨_, ee⟩
    · refine ⟨o', nt.st b o' (PySem.W.hideAll_get _ y' fun z => ?_)⟩
      rcases List.mem_append.mp z with z | z
      · simp only [List.mem_cons, List.not_mem_nil, or_false] at z
        rcases z with rfl | rfl
        · rw [new] at y; cases y
        · rw [hT0] at y; cases y
      · exact hb z
theorem AtH.led {R : Value → Shared → Prop} {Q : Unit → Shared → Prop} {A : Around} (pl : Plain X) (hcell : X.env.cells = []) (a : AtH X pins H s hc x CA od) (q : ∀ h', AtH X pins H { s with heap := h' } hc x CA od → Q () { s with heap := h' }) :
    wpAny (model X.prog X.w) A (setFlight (.ref x) none) Q R s :=
  a.go pl hcell fun bs a0 st fr nx tr k => flight0 st fr tr fun h' n => q h' (k h' n)
theorem AtH.noted {R : Value → Shared → Prop} {Q : Unit → Shared → Prop} (pl : Plain X) (hcell : X.env.cells = []) (a : AtH X pins H s hc x CA od) (q : ∀ h', AtH X pins H { s with heap := h' } hc x CA od → Q () { s with heap := h' }) :
    wpAny (model X.prog X.w) X.A (noteFrame (.ref x) X.env) (fun _ s' => wpAny (model X.prog X.w) X.A (setFlight (.ref x) none) Q R s') R s :=
  a.go pl hcell fun bs a0 st fr nx tr k => look1 (up := X.outer) (by rw [a.inv.ok.frames, pl.stk]) pl.fr st fr nx tr fun h1 n1 => flight0 n1.st n1.fr n1.tr fun h2 n2 => q h2 (k h2 (n1.trans n2))
end
theorem excMatches_g {M : Model} {A : Around} {R : Value → Shared → Prop} {Q : Bool → Shared → Prop} {K : PySem.W.Frag} {s : Shared} {x C CK : Addr} {oe : Obj} {b : Bool} (X : K.In s.heap) (he : s.heap.get? x = some oe) (hc : oe.cls = .ref C) (hK : ClsX K CK)
    (hsub : PySem.W.Looks M s.heap (isSubtype (.ref C) (.ref CK)) b) (hq : Q b s) : wpAny M A (excMatches (.ref x) (.ref CK)) Q R s := by
  obtain ⟨hp, gg, dd, tt, oo⟩ := s
  obtain ⟨bm, N, nm, qn, bs, hdct, sn, sub, ab, col, dct, k0, k1, k2, k3, k5, hO, TL⟩ := hK hp X
  have hB : (Value.ref CK :: bm).contains (.type "BaseException") = true := by
    rw [List.contains_cons, TL.hasType PySem.F.excBase_ValueError.hasBase, Bool.or_true]
  have nt := tc_notTuple
  unfold excMatches
  repeat (first
    | (with_reducible refine hsub.at ?_)
    | (with_reducible refine wpAny_loadPart_at he ?_; rw [hc])
    | with_reducible refine wpAny_loadPart_at hO ?_
    | (with_reducible refine wpAny_isSubtype_exc hO ?_; rw [hB])
    | wp_step)
  cases b
  · repeat (first | wp_step)
    exact hq
  · repeat (first | wp_step)
    exact hq
section
variable {X : Cx} {pins : List (Addr × Obj)} {σ : L2.St} {H : Hp} {s : Shared}
theorem Inv.unname (pl : Plain X) (hcell : X.env.cells = []) (hN : X.N.Nodup) {j : Nat} {n : Str} (hj : X.N[j]? = some n) (I : Inv X pins σ H s) {h' : Heap} {m : Str → Option Value} {v : Option Value} {tk : Nat} (hm : s.heap.Ns X.env.locals m)
    (hl : ∀ (i : Nat) (x : Str) (v : V), X.N[i]? = some x → σ[i]? = some (some v) → Vis X.env.scope x → ∃ u, RelV v u ∧ Look X.env s.heap m x u)
    (hn : h'.Ns X.env.locals (fun y => if y = n then v else m y)) (sb : Heap.SameBut X.env.locals s.heap h') : Inv X pins (σ.set j none) H { s with heap := h', toks := tk } := by
  have kp : ∀ b, b ≠ X.env.locals → h'.get? b = s.heap.get? b := fun b hb => sb.2 b hb
  have old : ∀ b o, X.s₀.heap.get? b = some o → b ≠ X.env.locals := fun b o q z => by
    subst z
    exact absurd (Heap.lt_size q) (Nat.not_lt.mpr I.ok.above)
  refine ⟨I.ok, I.os, I.bare, ⟨fun b o q n a c => ?_, fun b o q n a c => ?_, I.base.free, fun b o q c => ?_, I.base.tups, I.base.frzs, I.base.tbls⟩, ⟨_, hn, fun i x v a b c => ?_⟩, fun x c z => ?_, I.free, I.freeC, fun p hp => ?_, fun a o e => ?_, by rw [List.length_set]; exact I.len⟩
  · exact (kp b (old b o q)).trans (I.base.keep b o q n a c)
  · obtain ⟨sl, z⟩ := I.base.slot b o q n a c
    exact ⟨sl, (kp b (old b o q)).trans z⟩
  · obtain ⟨o', z⟩ := I.base.there b o q c
    exact ⟨o', (kp b (old b o q)).trans z⟩
  · have hij : j ≠ i := fun z => by
      subst z
      rw [List.getElem?_set] at b
      simp at b
    rw [List.getElem?_set_ne hij] at b
    obtain ⟨u, r, lk⟩ := hl i x v a b c
    refine ⟨u, r, ?_⟩
    rcases lk with ⟨k1, k2⟩ | ⟨_, c', lk, _⟩
    · refine .inl ⟨k1, ?_⟩
      show (if x = n then _ else m x) = some u
      rw [if_neg fun z => hij (nodup_ix hN hj (by rw [a, z]))]
      exact k2
    · rw [hcell] at lk
      cases lk
  · rw [hcell] at z
    cases z
  · obtain ⟨a, b, c, d, e⟩ := I.pin p hp
    exact ⟨(kp _ c).trans a, b, c, d, e⟩
  · refine (I.hok a o e).stay (fun b u hb ho => ?_) (fun _ z => z) fun _ _ z => z
    have nb : b ≠ X.env.locals := fun z => by
      subst z
      rcases hb with q | q
      · rw [← q, I.free] at e; cases e
      · rw [I.free] at q; cases q
    exact (kp b nb).trans ho
end
noncomputable def PH (X : Cx) (hs : List ExceptHandler) (t : Ends → Addr → Option Addr → Hp → Prop) : Prop :=
  ∀ (pins : List (Addr × Obj)) (s : Shared) (H : Hp) (hc : Heap) (x CA : Addr) (od : Option Addr) (D : Ends), AtH X pins H s hc x CA od → t D CA od H → wpAny (model X.prog X.w) X.A (handleBy (.ref x) X.env hs) (SP X pins D) X.xe s
noncomputable def tHnil : Ends → Addr → Option Addr → Hp → Prop := fun _ _ _ _ => False
noncomputable def tHas (K : PySem.W.Frag) (N : List Str) (CK : Addr) (j : Nat) (ts : TS) (tr : Ends → Addr → Option Addr → Hp → Prop) : Ends → Addr → Option Addr → Hp → Prop := fun D CA od H =>
  (PySem.W.subIn K (.ref CA) (.ref CK) = some true ∧ ∀ x, H x = none → ts { nx := fun σ H' => D.nx (σ.set j none) H', rt := D.rt } ((List.replicate N.length none).set j (some (.ref x))) (upd H x (Xc x CA od))) ∨
  (PySem.W.subIn K (.ref CA) (.ref CK) = some false ∧ tr D CA od H)
section
variable {X : Cx} {j : Nat} {n xK : Str} {CK : Addr} {ts : TS} {b₀ : Stmt} {suite : List Stmt} {kp hpos pos : Pos} {rest : List ExceptHandler} {tr : Ends → Addr → Option Addr → Hp → Prop}
theorem ph_nil : PH X [] tHnil := fun _ _ _ _ _ _ _ _ _ h => h.elim
theorem ph_as (pl : Plain X) (hcell : X.env.cells = []) (hN : X.N.Nodup) (hj : X.N[j]? = some n) (hn : X.env.scope.names.lookup n = some .local) (hgK : Gl X xK) (hmK : X.mg xK = some (.ref CK)) (hCK : ClsX X.K CK)
    (hs : ∀ x, PSs (sut X x) (b₀ :: suite) ts) (hr : PH X rest tr) (hfn : X.fn n = true := by rfl) (hdK : (xK == ("__debug__" : Str)) = false := by decide)
    (hkc : (X.env.scope.kind == .class || (X.env.scope.kind == .module && X.env.locals != X.env.globals)) = false := by rfl) (hkn : X.env.kindOf n = some .local := by rfl) :
    PH X (.ExceptHandler (some (.Name xK kp)) (some n) (b₀ :: suite) hpos :: rest) (tHas X.K X.N CK j ts tr) := by
  intro pins s H hc x CA od D a h
  obtain ⟨o5, ho5, hc5⟩ : ∃ o, s.heap.get? x = some o ∧ o.cls = .ref CA := by
    obtain ⟨oe, _, _, _, _, _, z1, z2, _⟩ := a.fly.tr
    exact ⟨oe, z1, z2⟩
  refine wpAny_handleBy_cons (codeAny_handlers_test (ld_glob (X := sut X x) (Kw.Inv.sut a.inv x) hgK hmK ?_ hdK)) (by intro z; cases z)
  rcases h with ⟨hsub, hq⟩ | ⟨hsub, hq⟩
  · refine excMatches_g (K := X.K) a.inv.kIn ho5 hc5 hCK (PySem.W.looks_subIn a.inv.kIn hsub) ?_
    refine codeAny_handlers_suite_as ?_
    refine a.led pl hcell fun h6 a6 => ?_
    have I6 := a6.inv
    have n0 := a6.young a6.fly.new
    obtain ⟨o6, v6, _, _, _, _, ho6, hc6, hdc6, hd6, _⟩ := a6.fly.tr
    have free := a6.fly.free
    have hxL : x ≠ X.env.locals := fun z => by
      obtain ⟨m, ⟨o, es', ep, e1, e2, _⟩, _⟩ := I6.loc
      rw [← z] at e1
      have e1' : h6.get? x = some o := e1
      have ho6' : h6.get? x = some o6 := ho6
      rw [ho6'] at e1'
      cases e1'
      rw [hd6] at e2
      cases e2
    have ok : XcIs x CA od h6 := by
      obtain ⟨c6, d6, da6, sl6⟩ := o6
      simp only at hc6 hdc6 hd6
      subst hc6 hdc6 hd6
      exact ⟨v6, sl6, ho6⟩
    have I7 : Inv X pins (blank X) (upd H x (Xc x CA od)) { s with heap := h6 } := Kw.Inv.adopt (fun y c z => by rw [hcell] at z; cases z) I6 n0 free hxL (fun p hp z => by
      obtain ⟨o, y⟩ := a6.pn p hp
      rw [z, a6.fly.new] at y
      cases y) (xc_ok ok)
    refine store_ok (X := sut X x) (Kw.Inv.sut I7 x) hN hj (.inl hn) (v := .ref x) rfl (fun s8 I8 => ?_) (.inl hfn)
    refine wpAny_mono (hs x pins s8 _ _ _ I8 (hq x free)) (fun f9 s9 h9 => ?_) fun _ _ z => z.elim
    cases f9 with
    | ret u =>
      obtain ⟨v, σ9, H9, I9, r9, q9⟩ := h9
      have J9 := Kw.Inv.unsut a.inv.ok I9
      obtain ⟨m, hn9, _⟩ := J9.loc
      exact wpAny_nameGoes hkn hn9 hkc fun h10 m10 hn10 sb => ⟨v, _, H9, Kw.Inv.forget pl hcell J9 hn10 sb, r9, q9⟩
    | next =>
      obtain ⟨σ9, H9, I9, q9⟩ := h9
      have J9 := Kw.Inv.unsut a.inv.ok I9
      obtain ⟨m, hn9, hl9⟩ := J9.loc
      exact wpAny_nameGoes_keeps hkn hn9 hkc fun h10 v10 hn10 sb => ⟨_, H9, Kw.Inv.unname pl hcell hN hj J9 hn9 hl9 hn10 sb, q9⟩
    | brk =>
      obtain ⟨_, _, _, z⟩ := h9
      exact False.elim z
    | cont =>
      obtain ⟨_, _, _, z⟩ := h9
      exact False.elim z
  · refine excMatches_g (K := X.K) a.inv.kIn ho5 hc5 hCK (PySem.W.looks_subIn a.inv.kIn hsub) ?_
    exact hr pins s H hc x CA od D a hq
variable {body : List Stmt} {tb : XK → TS} {th : Ends → Addr → Option Addr → Hp → Prop} {h₀ : ExceptHandler} {hs : List ExceptHandler}
noncomputable def tTryG (tb : XK → TS) (th : Ends → Addr → Option Addr → Hp → Prop) : TS := fun D σ H => tb (fun C od H2 => ∃ CA, C = .ref CA ∧ th D CA od H2) D σ H
theorem ps_tryG (pl : Plain X) (hcell : X.env.cells = []) (hb : ∀ (E : XK) (pn0 : List (Addr × Obj)) (E0 : Value → Shared → Prop), Passes (CXE X.prog X.w) (Cx.cat X pn0 E0) E → PSs (Cx.cat X pn0 E0) body (tb E)) (hh : PH X (h₀ :: hs) th) :
    PS X (.Try body (h₀ :: hs) [] [] pos) (tTryG tb th) := by
  intro pins s σ H D I h
  refine wpAny_Try_except ?_
  have pass : Passes (CXE X.prog X.w) (Cx.cat X pins fun e s' => ∃ hc x CA od H2, e = .ref x ∧ AtH X pins H2 s' hc x CA od ∧ th D CA od H2) (fun C od H2 => ∃ CA, C = .ref CA ∧ th D CA od H2) := by
    intro pins' σ' H' s1 e s2 I1 hc1
    obtain ⟨x, C, od, H2, rfl, os, bare, un, hok, fly, CA, rfl, hth⟩ := hc1
    have I2 := I1.call' (ch := []) os un hok bare (fun b hb => absurd hb (by simp))
    have I3 := Kw.Inv.uncat I2
    refine ⟨s1.heap, x, CA, od, H2, rfl, ⟨I3.weak (by rw [List.length_replicate]; exact I3.len.symm) fun i v z => ?_, fly, fun p hp => ⟨_, ((Kw.Inv.uncat I1).pin p hp).1⟩, fun b o z => (Kw.Inv.uncat I1).base.there b o z (by rw [pl.ex]; simp), fun b o z => un.there b o z (by simp)⟩, hth⟩
    rw [List.getElem?_replicate] at z
    split at z <;> cases z
  refine wpAny_mono (hb _ pins _ pass [] s σ H D (Kw.Inv.cat I) h) (fun f s' h' => ?_) fun e s' h' => ?_
  · have h2 := Kw.SP.uncat h'
    cases f with
    | next => exact wpAny_execs_nil h2
    | ret u => exact h2
    | brk => exact h2
    | cont => exact h2
  · obtain ⟨hc, x, CA, od, H2, rfl, a, hth⟩ := h'
    exact a.noted pl hcell fun h2 a2 => hh pins _ H2 hc x CA od D a2 hth
end
section
variable {X : Cx}
end
section
variable {K : PySem.W.Frag} {idx : List Nat} {tt : TT} {te : TE} {σ : L2.St} {H : Hp} {Q : VK}
theorem lc_filter {a : Addr} {xs : List V} (p : V → Bool) (hl : SqL K H a xs) (hz : xs.length ≤ sizeLine) (ht : ∀ x ∈ xs, ∀ Q' : Bool → Hp → Prop, Q' (p x) H → tt (stIn (some x) idx σ) H Q') (he : ∀ x ∈ xs, ∀ Q' : VK, Q' x H → te (stIn (some x) idx σ) H Q')
    (hd : ∀ q, H q = none → Q (.ref q) (upd H q (.lst (xs.filter p)))) : LcBodyT (Itl K a) idx tt te σ Q H := by
  refine ⟨fun i m ys H' => m = xs.length - i ∧ i ≤ xs.length ∧ H' = H ∧ ys = (xs.take i).filter p, ⟨xs.length, by simp, Nat.zero_le _, rfl, by simp⟩, ?_⟩
  rintro i m ys H' ⟨rfl, hi, rfl, rfl⟩
  refine ⟨Nat.le_trans (List.length_filter_le _ _) (by rw [List.length_take]; omega), ?_⟩
  by_cases hlt : i < xs.length
  · refine .inr ⟨⟨xs, xs[i], hl, by simp [hlt]⟩, fun y H' yl => ?_⟩
    obtain ⟨e, yl⟩ := yl
    subst e
    have hy := yl xs hl
    have hm : y ∈ xs := List.mem_of_getElem? hy
    have tk := take_succ_filter p xs i y hy
    refine ht y hm _ ?_
    cases hp : p y with
    | true =>
      rw [hp] at tk
      rw [if_pos rfl]
      exact he y hm _ ⟨xs.length - (i + 1), by omega, rfl, hlt, rfl, by rw [tk]; rfl⟩
    | false =>
      rw [hp] at tk
      rw [if_neg (by decide)]
      exact ⟨xs.length - (i + 1), by omega, rfl, hlt, rfl, by rw [tk]; simp⟩
  · have e : i = xs.length := by omega
    subst e
    refine .inl ⟨⟨xs, hl, Nat.le_refl _⟩, ?_⟩
    rw [List.take_length]
    exact hd
end
noncomputable abbrev Bod := Rat × Rat × Int
theorem atI_z {xs : List V} {j : Nat} {x : V} (h : xs[j]? = some x) : atI xs (0 + (j : Int)) = some x := by
  rw [Int.zero_add]
  exact atI_nat h
section
variable {K : PySem.W.Frag} {te : TE} {tt : TT} {σ : L2.St} {H : Hp} {Q : VK} {idx : List Nat} {n : Nat}
end
section
variable {K : PySem.W.Frag} {H : Hp} {m n : Nat} {x : V} {b : Bod}
theorem BdQ.mono (h : BdQ K H m x b) (l : m ≤ n) : BdQ K H n x b := by
  obtain ⟨p, a, c, e, h1, h2, h3, d1, d2, r⟩ := h
  exact ⟨p, a, c, e, h1, h2, h3, d1.mono l, d2.mono l, r⟩
theorem bds_mono {xs : List V} {bs : List Bod} (h : Al2 (BdQ K H m) xs bs) (l : m ≤ n) : Al2 (BdQ K H n) xs bs := Al2.imp (fun _ _ z => z.mono l) h
theorem Asc.of_places {as bs : List Bod} (h : Asc as) (e : bs.map (·.1) = as.map (·.1)) : Asc bs := by
  have h1 : List.Pairwise (fun a b : Rat => a < b) (as.map (·.1)) := List.pairwise_map.mpr h
  rw [← e] at h1
  exact List.pairwise_map.mp h1
end
noncomputable def Six (B : Int) (x : Rat) : Prop := ∃ n : Int, x = (n : Rat) / 6 ∧ -B ≤ n ∧ n ≤ B
section
variable {B C : Int} {x y : Rat}
theorem Six.add (h : Six B x) (g : Six C y) : Six (B + C) (x + y) := by
  obtain ⟨n, rfl, a, b⟩ := h
  obtain ⟨m, rfl, c, d⟩ := g
  refine ⟨n + m, ?_, by omega, by omega⟩
  rw [Rat.intCast_add]
  grind
theorem Six.sub (h : Six B x) (g : Six C y) : Six (B + C) (x - y) := by
  obtain ⟨n, rfl, a, b⟩ := h
  obtain ⟨m, rfl, c, d⟩ := g
  refine ⟨n - m, ?_, by omega, by omega⟩
  rw [Rat.intCast_sub]
  grind
theorem Six.mono (h : Six B x) (l : B ≤ C) : Six C x := by
  obtain ⟨n, e, a, b⟩ := h
  exact ⟨n, e, by omega, by omega⟩
theorem six_dv (n : Int) : Rat.divInt n 6 = (n : Rat) / 6 := q_dv n 6
theorem Six.fb (h : Six B x) (l : B ≤ 1000000000) : FB 64 x := by
  obtain ⟨n, rfl, a, b⟩ := h
  rw [← six_dv]
  exact FB.fit (by decide) (Bd.small (by omega) (by omega)) (Bd.small (by decide) (by decide))
theorem six_fit {n d N : Int} (d1 : 1 ≤ d) (d3 : d ≤ 3) (a : -N ≤ n) (b : n ≤ N) : Six (6 * N) (Rat.divInt n d) := by
  rw [q_dv]
  rcases (show d = 1 ∨ d = 2 ∨ d = 3 by omega) with rfl | rfl | rfl
  · refine ⟨6 * n, ?_, by omega, by omega⟩
    rw [Rat.intCast_mul]
    show (n : Rat) / 1 = 6 * n / 6
    grind
  · refine ⟨3 * n, ?_, by omega, by omega⟩
    rw [Rat.intCast_mul]
    show (n : Rat) / 2 = 3 * n / 6
    grind
  · refine ⟨2 * n, ?_, by omega, by omega⟩
    rw [Rat.intCast_mul]
    show (n : Rat) / 3 = 2 * n / 6
    grind
theorem six_over {c d : Int} (h : Six B x) (l : B ≤ 1000000000) (c1 : 1 ≤ c) (c9 : c ≤ 100) (d1 : 1 ≤ d) (d9 : d ≤ 100) : FB 64 (x / Rat.divInt c d) := by
  obtain ⟨n, rfl, a, b⟩ := h
  have e : (n : Rat) / 6 / Rat.divInt c d = Rat.divInt (n * d) (6 * c) := by
    rw [q_dv, q_dv, Rat.intCast_mul, Rat.intCast_mul]
    have hc := q_wpos c1
    have hd := q_wpos d1
    show (n : Rat) / 6 / ((c : Rat) / d) = n * d / (6 * c)
    grind
  rw [e]
  have p1 : n * d ≤ 100000000000 := by
    have := Int.mul_le_mul (show n ≤ 1000000000 by omega) d9 (by omega) (by decide)
    omega
  have p2 : -100000000000 ≤ n * d := by
    have := Int.mul_le_mul (show -n ≤ 1000000000 by omega) d9 (by omega) (by decide)
    rw [Int.neg_mul] at this
    omega
  exact FB.fit (by omega) (Bd.small (by omega) (by omega)) (Bd.small (by omega) (by omega))
end
end Kw
namespace Kw
end Kw
namespace Kw
end Kw
namespace Kw
open PySem PySem.Spec PyProof.Rows L2
section
variable {X : Cx}
noncomputable def rBits : V → List V → Hp → VK → Prop := fun x vs H Q => ∃ i : Int, x = .int i ∧ vs = [] ∧ Q (.int ((Builtin.Int.intBits i : Nat) : Int)) H
theorem mt_bits : MtR X "int.bit_length" rBits := by
  intro pins s σ H x vs v us Q I rx rv h
  obtain ⟨i, rfl, rfl, q⟩ := h
  obtain ⟨t, rfl⟩ := rx
  cases rv
  exact call_gives PySem.F.slot_int_bit_length (typeIs_int s i t) PySem.F.entry_int_bit_length (PySem.F.args_int_bit_length_1 _) (PySem.AutoIntG2.int_bit_length_int_0 i t) ⟨.int ((Builtin.Int.intBits i : Nat) : Int), H, I.tok _, ⟨_, rfl⟩, q⟩
end
noncomputable def spGcdB : Sp := fun vs H Q _ => ∃ a b : Int, vs = [.int a, .int b] ∧ Bd 4000 b ∧ Q (.int ((Int.gcd a b : Nat) : Int)) H
theorem short_min {a b : Int} (h : Bd 4000 b) : ¬ (((Builtin.Int.intBits (if (if b < 0 then -b else b) < (if a < 0 then -a else a) then (if b < 0 then -b else b) else (if a < 0 then -a else a)) : Nat) : Int) > 4000) := by
  have l : Bd 4000 (if (if b < 0 then -b else b) < (if a < 0 then -a else a) then (if b < 0 then -b else b) else (if a < 0 then -a else a)) := by
    refine h.of_le ?_
    split <;> split <;> (try split) <;> omega
  have := l.bits
  omega
theorem q_invp {y : Rat} (h : 0 < y.num) : (y⁻¹).num = ((y.den : Nat) : Int) ∧ (((y⁻¹).den : Nat) : Int) = y.num := by
  have e : y⁻¹ = Rat.inv y := rfl
  rw [e]
  unfold Rat.inv
  rw [dif_neg (by omega), dif_pos h]
  exact ⟨rfl, by show ((y.num.natAbs : Nat) : Int) = y.num; omega⟩
theorem q_invn {y : Rat} (h : y.num < 0) : (y⁻¹).num = -((y.den : Nat) : Int) ∧ (((y⁻¹).den : Nat) : Int) = -y.num := by
  have e : y⁻¹ = Rat.inv y := rfl
  rw [e]
  unfold Rat.inv
  rw [dif_pos h]
  exact ⟨rfl, by show ((y.num.natAbs : Nat) : Int) = -y.num; omega⟩
theorem FB.inv {n : Nat} {y : Rat} (h : FB n y) (y0 : y ≠ 0) : FB n y⁻¹ := (FB.fit (q_num_ne y0) h.2 h.1).cast (q_inv y)
noncomputable def mixS (u v : Rat) (m w : Int) (s : Rat) : Rat := u * Rat.divInt (m * ((s.den : Nat) : Int) - w * s.num) ((m + w) * ((s.den : Nat) : Int)) + v * Rat.divInt (w * (((s.den : Nat) : Int) + s.num)) ((m + w) * ((s.den : Nat) : Int))
theorem mixS_one (u v : Rat) (m w : Int) : mixS u v m w ((1 : Int) : Rat) = mixQ u v m w := by
  have e1 : (((1 : Int) : Rat)).num = 1 := rfl
  have e2 : (((((1 : Int) : Rat)).den : Nat) : Int) = 1 := rfl
  unfold mixS mixQ
  rw [e1, e2]
  simp only [Int.mul_one]
  rw [show w * (1 + 1) = 2 * w by omega]
theorem both_ne {m w : Int} {s : Rat} (hm : 1 ≤ m) (hw : 1 ≤ w) : (m + w) * ((s.den : Nat) : Int) ≠ 0 := Int.mul_ne_zero (by omega) (q_ne s)
theorem cap_two {X : Cx} {scope : Scope} {cl : List (Str × Addr)} {y y' : Str} {j j' : Nat} {c c' : Addr} (h1 : X.N[j]? = some y) (h2 : X.env.kindOf y = some .cell) (h3 : X.env.cells.lookup y = some c) (h4 : cl.lookup y = some c)
    (h5 : (relabel scope X.env).names.lookup y = some .cell ∨ (relabel scope X.env).names.lookup y = some .free)
    (g1 : X.N[j']? = some y') (g2 : X.env.kindOf y' = some .cell) (g3 : X.env.cells.lookup y' = some c') (g4 : cl.lookup y' = some c')
    (g5 : (relabel scope X.env).names.lookup y' = some .cell ∨ (relabel scope X.env).names.lookup y' = some .free) : Capt X scope cl [y, y'] [j, j'] :=
  ⟨rfl, fun k z h => by
    match k with
    | 0 => cases h; exact ⟨j, c, rfl, h1, h2, h3, h4, h5⟩
    | 1 => cases h; exact ⟨j', c', rfl, g1, g2, g3, g4, g5⟩
    | k + 2 => simp at h⟩
theorem fit_cmp {a b : Int} (hb : 0 < b) : Rat.divInt a b * (b : Rat) = (a : Rat) := by
  have : (b : Rat) ≠ 0 := fun e => (show b ≠ 0 by omega) (Rat.intCast_eq_zero_iff.mp e)
  rw [q_dv]
  grind
theorem fit_nn {a b : Int} (ha : 0 ≤ a) (hb : 0 < b) : 0 ≤ Rat.divInt a b := by
  have h1 := fit_cmp (a := a) hb
  have h2 : (0 : Rat) < (b : Rat) := Rat.intCast_pos.mpr hb
  have h3 : (0 : Rat) ≤ (a : Rat) := Rat.intCast_nonneg.mpr ha
  apply Rat.not_lt.mp
  intro z
  have := Rat.mul_lt_mul_of_pos_right z h2
  rw [h1, Rat.zero_mul] at this
  grind
end Kw
namespace Kw
theorem cl_two {cells : List (PySem.Str × PySem.Addr)} {y1 y2 : PySem.Str} {c1 c2 : PySem.Addr} (h1 : cells.lookup y1 = some c1) (h2 : cells.lookup y2 = some c2) : ∀ y c, List.lookup y [(y1, c1), (y2, c2)] = some c → cells.lookup y = some c := by
  intro y c e
  rw [List.lookup_cons] at e
  split at e
  · rename_i q
    have e1 : y = y1 := by simpa using q
    cases e
    rw [e1]
    exact h1
  · rw [List.lookup_cons] at e
    split at e
    · rename_i q
      have e1 : y = y2 := by simpa using q
      cases e
      rw [e1]
      exact h2
    · cases e
end Kw
namespace Kw
open PySem PySem.Spec PyProof.Rows L2
section
variable {S : V → Prop} {lt : V → V → Bool} {x y : V} {row : List V}
end
noncomputable def spInitN (C : Addr) (fs : List Str) : Sp := fun vs H Q _ => ∃ x ys, vs = .ref x :: ys ∧ ys.length = fs.length ∧ H x = some (Xo x C none) ∧ ∀ d H', d ≠ x → But x H H' → H' x = some (Xo x C (some d)) → H' d = some (Xd d (fs.zip ys)) → Q .non H'
section
variable {K : PySem.W.Frag} {H H' : Hp} {c : Addr} {x : V} {k k' : Int × Int} {xs ys : List V} {key : V → Int × Int}
end
section
variable {K : PySem.W.Frag} {H H' : Hp} {b c : Addr} {x : V} {xs ys : List V}
end
theorem g_go {i : Nat} {x : V} {σ : L2.St} {H : Hp} {Q : L2.St → Hp → Prop} (h : Q (σ.set i (some x)) H) : gName i x σ H Q := h
theorem cl_one {cells : List (PySem.Str × PySem.Addr)} {y1 : PySem.Str} {c1 : PySem.Addr} (h1 : cells.lookup y1 = some c1) : ∀ y c, List.lookup y [(y1, c1)] = some c → cells.lookup y = some c := by
  intro y c e
  rw [List.lookup_cons] at e
  split at e
  · rename_i q
    have e1 : y = y1 := by simpa using q
    cases e
    rw [e1]
    exact h1
  · cases e
section
variable {idx : List Nat} {tt : TT} {te : TE} {σ : L2.St} {H : Hp} {Q : VK}
theorem lc_rangeF {n : Nat} (f : Nat → Bool) (hz : n ≤ sizeLine) (ht : ∀ i, i < n → ∀ Q' : Bool → Hp → Prop, Q' (f i) H → tt (stIn (some (.int (0 + (i : Int)))) idx σ) H Q') (he : ∀ i, i < n → ∀ Q' : VK, Q' (.int (0 + (i : Int))) H → te (stIn (some (.int (0 + (i : Int)))) idx σ) H Q')
    (hd : ∀ q, H q = none → Q (.ref q) (upd H q (.lst (((List.range n).filter f).map fun i : Nat => V.int (0 + (i : Int)))))) : LcBodyT (Itr 0 n) idx tt te σ Q H := by
  refine ⟨fun i m ys H' => m = n - i ∧ i ≤ n ∧ H' = H ∧ ys = ((List.range i).filter f).map fun i : Nat => V.int (0 + (i : Int)), ⟨n, by simp, Nat.zero_le _, rfl, rfl⟩, ?_⟩
  rintro i m ys H' ⟨rfl, hi, rfl, rfl⟩
  refine ⟨by rw [List.length_map]; exact Nat.le_trans (List.length_filter_le _ _) (by rw [List.length_range]; omega), ?_⟩
  by_cases hlt : i < n
  · refine .inr ⟨hlt, fun y H2 yl => ?_⟩
    obtain ⟨e, yl⟩ := yl
    subst e yl
    have tk : (List.range (i + 1)).filter f = (List.range i).filter f ++ (if f i = true then [i] else []) := by
      rw [List.range_succ, List.filter_append]
      congr 1
      show (match f i with | true => i :: [] | false => []) = _
      cases f i <;> rfl
    refine ht i hlt _ ?_
    cases hp : f i with
    | true =>
      rw [hp] at tk
      rw [if_pos rfl]
      exact he i hlt _ ⟨n - (i + 1), by omega, rfl, hlt, rfl, by rw [tk, if_pos rfl, List.map_append]; rfl⟩
    | false =>
      rw [hp] at tk
      rw [if_neg (by decide)]
      exact ⟨n - (i + 1), by omega, rfl, hlt, rfl, by rw [tk, if_neg (by decide), List.append_nil]⟩
  · have e : i = n := by omega
    subst e
    exact .inl ⟨Nat.le_refl _, hd⟩
end
section
variable {X : Cx}
end
section
variable {X : Cx} {pos : Pos}
end
noncomputable def mthAt (s : Stmt) (j : Nat) : Stmt := match s with
  | .ClassDef _ _ _ b _ _ _ _ _ _ _ => b.getD j (.Pass ⟨0, 0, 0, 0⟩)
  | _ => .Pass ⟨0, 0, 0, 0⟩
noncomputable def DfM (K : PySem.W.Frag) (C : Addr) (m qual : Str) (st : Stmt) (ps : List Str) : Prop :=
  ∃ (f : Addr) (oc : Value) (od : Option Addr) (kV doc pm : Value) (an : Option Addr) (cdv ct : Value) (osl : Array (Option Value)),
    K.lookup f = some ⟨oc, od, .func (PySem.W.fnOf m qual (defArgs st) (defBody st) (defScope st) .none kV doc pm an cdv ct), osl⟩ ∧ PySem.W.codeIn K cdv qual = true ∧ Meth K C m f ∧
    Binds K (PySem.W.fnOf m qual (defArgs st) (defBody st) (defScope st) .none kV doc pm an cdv ct) ps []
noncomputable def FnM (P : Program) (w : World) (K : PySem.W.Frag) (mg : Str → Option Value) (base : Heap) (k : Nat) (C : Addr) (m : Str) (ps : List Str) (sp : Sp) : Prop :=
  ∃ f fd, FnOk P w K mg base (CXE P w) k f fd ps sp ∧ Meth K C m f ∧ Binds K fd ps []
section
variable {P : Program} {w : World} {K : PySem.W.Frag} {mg : Str → Option Value} {base : Heap} {C : Addr} {m qual : Str} {st : Stmt} {N ps : List Str} {k : Nat} {sp : Sp}
theorem DfM.ok0 (D : DfM K C m qual st ps) (S : FnScope N ps (defScope st)) (len : ∀ vs H Q E, sp vs H Q E → vs.length = ps.length)
    (hbody : ∀ (f : Addr) (cdv : Value) (A : Around) (outer : List Env) (s : Shared) (H : Hp) (vs : List V) (Q : VK) (E : XK), Room k (A.deeper (envOfC qual (defScope st) s.heap.objs.size f cdv)) → sp vs H Q E →
      ∃ t, PSs (cxOf (CXE P w) P w K mg base N qual (defScope st) f cdv A outer s H E).nox (defBody st) t ∧ t { nx := fun _ H' => Q .non H', rt := Q } (start N vs) H) : FnM P w K mg base (k + 1) C m ps sp := by
  obtain ⟨f, oc, od, kV, doc, pm, an, cdv, ct, osl, lk, hcd, M, bd⟩ := D
  refine ⟨f, _, fn_of lk hcd S len fun A outer s H vs Q E hr hsp => ?_, M, bd⟩
  obtain ⟨t, h, q⟩ := hbody f cdv A outer s H vs Q E hr hsp
  exact ⟨t, h.nox, q⟩
theorem dfm_mk {f : Addr} {od an : Option Addr} {sl : Array (Option Value)} {oc kV dc pm cd ct : Value} (i : PySem.W.findIn K (.ref C) m = some (some (.ref f)))
    (t : PySem.W.isFn K (.ref f) = true) (l : K.lookup f = some ⟨oc, od, .func (PySem.W.fnOf m qual (defArgs st) (defBody st) (defScope st) .none kV dc pm an cd ct), sl⟩) (q : PySem.W.codeIn K cd qual = true) (kp : PySem.W.keepIn K (.ref f) = true)
    (b : ∀ us : List Value, us.length = ps.length → bindArgs (PySem.W.fnOf m qual (defArgs st) (defBody st) (defScope st) .none kV dc pm an cd ct) ⟨us, []⟩ = pure (ps.zip us)) : DfM K C m qual st ps :=
  ⟨f, oc, od, kV, dc, pm, an, cd, ct, sl, l, q, ⟨i, t, kp⟩, .all b⟩
end
section
variable {X : Cx} {k k' : Nat} {C : Addr} {m x f : Str} {ps : List Str} {sp : Sp} {E : XK} {p pos apos pos' tpos : Pos} {o e value : Expr} {es : List Expr} {t : TA} {ta tv : TE}
theorem pe_mt {pl : Sem Bool} (c : Cls X.K C) (F : FnM X.prog X.w X.K X.mg X.base k C m ps sp) (hk : k ≤ k') (hr : Room k' X.A) (hx : Passes (CXE X.prog X.w) X E) (he : PE X o ta) (ha : PA X (e :: es) t)
    (hst : starEach (e :: es) X.env = (false, eval e X.env) :: starEach es X.env := by rfl) (hpl : (backTo pos (starEach es X.env)).any (·.1) = false := by rfl)
    (ht : eval (.Call (.Attribute o m apos) (e :: es) [] pos) X.env = (do
      let ov ← eval o X.env
      standAt apos.atName
      let (f, first) ← holding [ov] (getMethod ov m pl)
      callWith pos f first (backTo pos (starEach (e :: es) X.env)) (backToKw pos (keywordEach [] X.env))) := by rfl) :
    PE X (.Call (.Attribute o m apos) (e :: es) [] pos) (tMeth C m sp [] E ta t) := by
  obtain ⟨f, fd, G, hm, bd⟩ := F
  exact pe_meth he c hm G (hr.mono hk) bd .nil hx ha hst hpl ht
theorem pe_mt0 {pl : Sem Bool} (c : Cls X.K C) (F : FnM X.prog X.w X.K X.mg X.base k C m ps sp) (hk : k ≤ k') (hr : Room k' X.A) (hx : Passes (CXE X.prog X.w) X E) (he : PE X o ta)
    (ht : eval (.Call (.Attribute o m apos) [] [] pos) X.env = (do
      let ov ← eval o X.env
      standAt apos.atName
      let (f, first) ← holding [ov] (getMethod ov m pl)
      callWith pos f first (backTo pos (starEach [] X.env)) (backToKw pos (keywordEach [] X.env))) := by rfl) :
    PE X (.Call (.Attribute o m apos) [] [] pos) (tMeth C m sp [] E ta tNil) := by
  obtain ⟨f, fd, G, hm, bd⟩ := F
  exact pe_meth0 he c hm G (hr.mono hk) bd .nil hx ht
theorem pe_mko (mk : PySem.W.makesIn X.K C = true) (kp : PySem.W.keepIn X.K (.ref C) = true) (F : FnM X.prog X.w X.K X.mg X.base k C "__init__" ps sp) (hk : k + 1 ≤ k') (hr : Room k' X.A) (hg : Gl X x) (hm : X.mg x = some (.ref C)) (hx : Passes (CXE X.prog X.w) X E)
    (ha : PA X (e :: es) t) (hdb : (x == ("__debug__" : Str)) = false := by decide) (he : starEach (e :: es) X.env = (false, eval e X.env) :: starEach es X.env := by rfl) (hpl : (backTo pos (starEach es X.env)).any (·.1) = false := by rfl) :
    PE X (.Call (.Name x p) (e :: es) [] pos) (tMake C sp [] E t) := by
  obtain ⟨f, fd, G, hf, bd⟩ := F
  exact pe_make ⟨mk, hf.at_, hf.fn, kp⟩ G (hr.mono hk) hg hm bd .nil hx ha hdb he hpl
noncomputable def tFldC (C : Addr) (ta : TE) (f : Str) : TE := fun σ H Q => ta σ H fun x H1 => ∃ a dx fs v, x = .ref a ∧ H1 a = some (.ins C dx fs) ∧ fs.lookup f = some v ∧ Q v H1
theorem pe_fldC (c : Cls X.K C) (n : NoAttr X.K C f) (he : PE X e ta) (hb : attributeBase e f X.env (eval e X.env) = eval e X.env := by rfl) : PE X (.Attribute e f pos) (tFldC C ta f) := by
  intro pins s σ H Q I h
  refine attr_of hb (thn (he pins s σ H _ I h) fun u s1 zz => ?_)
  obtain ⟨x, H1, I1, rx, a, dx, fs, v, ex, ea, l, q⟩ := zz
  subst ex
  obtain rfl : u = Value.ref a := rx
  exact getattr_ok I1 ea c n l fun u' s2 I2 ru => ⟨v, H1, I2, ru, q⟩
noncomputable def sFldC (C : Addr) (ta tv : TE) (f : Str) : TS := fun D σ H => tv σ H fun y H1 => ta σ H1 fun x H2 => ∃ a dx fs, x = .ref a ∧ H2 a = some (.ins C dx fs) ∧ fs.length < 1000 ∧
  D.nx σ (upd H2 a (.ins C dx (putF f y fs)))
theorem ps_fldC (c : Cls X.K C) (n : NoAttr X.K C f) (ha : PE X o ta) (hv : PE X value tv) (hs : swapsWith value (some (.Attribute o f pos')) pos.line X.env = pure false := by rfl) : PS X (.Assign [.Attribute o f pos'] value pos) (sFldC C ta tv f) := by
  intro pins s σ H D I h
  refine plainObj_wpAny_Assign_Attribute (thn (hv pins s σ H _ I h) fun u s1 ⟨y, H1, I1, ry, q⟩ => thn (ha pins s1 σ H1 _ I1 q) fun ov s2 ⟨x, H2, I2, rx, a, dx, fs, ex, ea, l, q2⟩ => ?_) hs
  subst ex
  obtain rfl : ov = Value.ref a := rx
  exact setattr_ok I2 ea c n l ry fun s3 I3 => ⟨σ, _, I3, q2⟩
noncomputable def sFldAdd (C : Addr) (ta tv : TE) (f : Str) : TS := fun D σ H => ta σ H fun x H1 => ∃ a dx fs i, x = .ref a ∧ H1 a = some (.ins C dx fs) ∧ fs.lookup f = some (.int i) ∧
  tv σ H1 fun y H2 => ∃ j, y = .int j ∧ H2 = H1 ∧ fs.length < 1000 ∧ D.nx σ (upd H1 a (.ins C dx (putF f (.int (i + j)) fs)))
theorem ps_fldadd (c : Cls X.K C) (n : NoAttr X.K C f) (hop : InOp X .Add rAdd) (ha : PE X o ta) (hv : PE X value tv) : PS X (.AugAssign (.Attribute o f tpos) .Add value pos) (sFldAdd C ta tv f) := by
  intro pins s σ H D I h
  refine wpAny_AugAssign_AttributeAny (thn (ha pins s σ H _ I h) fun ov s1 zz => ?_)
  obtain ⟨x, H1, I1, rx, a, dx, fs, i, ex, ea, l, q⟩ := zz
  subst ex
  obtain rfl : ov = Value.ref a := rx
  refine getattr_ok I1 ea c n l fun u s2 I2 ru => thn (hv pins s2 σ H1 _ I2 q) fun w3 s3 zz => ?_
  obtain ⟨y, H2, I3, ry, j, ey, eH, l', q4⟩ := zz
  subst ey eH
  refine thn (hop pins s3 σ H2 (.int i) (.int j) u w3 (fun z H3 => z = .int (i + j) ∧ H3 = H2) I3 ru ry ⟨i, j, rfl, rfl, rfl, rfl⟩) fun w4 s4 zz => ?_
  obtain ⟨z, H3, I4, rz, ez, eH3⟩ := zz
  subst ez eH3
  exact setattr_ok I4 ea c n l' rz fun s5 I5 => ⟨σ, _, I5, q4⟩
end
noncomputable def Buts (as : List Addr) (H H' : Hp) : Prop := ∀ a o, a ∉ as → H a = some o → H' a = some o
section
variable {K : PySem.W.Frag} {H H1 H2 : Hp} {as : List Addr}
theorem Buts.refl : Buts as H H := fun _ _ _ h => h
theorem Buts.trans (x : Buts as H H1) (y : Buts as H1 H2) : Buts as H H2 := fun a o n h => y a o n (x a o n h)
theorem Buts.of (x : Same H H1) : Buts as H H1 := fun a o _ h => x a o h
theorem Buts.one {b : Addr} (x : But b H H1) (h : b ∈ as) : Buts as H H1 := fun a o n q => x a o (fun e => n (e ▸ h)) q
theorem Buts.mono {bs : List Addr} (x : Buts as H H1) (h : ∀ a ∈ as, a ∈ bs) : Buts bs H H1 := fun a o n q => x a o (fun e => n (h a e)) q
noncomputable def NoT (as : List Addr) (H : Hp) : Prop := ∀ a ∈ as, (∀ ys, H a ≠ some (.tup ys)) ∧ ∀ o ys, H a ≠ some (.frz o (.tup ys))
theorem Buts.tup {p : Addr} {xs : List V} (x : Buts as H H1) (n : NoT as H) (h : SqT K H p xs) : SqT K H1 p xs := by
  rcases h with (h | ⟨ob, h⟩) | h
  · exact .inl (.inl (x _ _ (fun m => (n _ m).1 _ h) h))
  · exact .inl (.inr ⟨ob, x _ _ (fun m => (n _ m).2 _ _ h) h⟩)
  · exact .inr h
theorem BdQ.buts {n : Nat} {v : V} {b : Rat × Rat × Int} (x : Buts as H H1) (nt : NoT as H) (z : BdQ K H n v b) : BdQ K H1 n v b := by
  obtain ⟨p, a, c, e, h1, h2, h3, r⟩ := z
  exact ⟨p, a, c, e, x.tup nt h1, x.tup nt h2, x.tup nt h3, r⟩
theorem Buts.bds {n : Nat} {xs : List V} {bs : List (Rat × Rat × Int)} (x : Buts as H H1) (nt : NoT as H) (h : Al2 (BdQ K H n) xs bs) : Al2 (BdQ K H1 n) xs bs := Al2.imp (fun _ _ z => z.buts x nt) h
theorem NoT.nil : NoT [] H := fun _ h => nomatch h
theorem NoT.lst {a : Addr} {xs : List V} (h : H a = some (.lst xs)) (r : NoT as H) : NoT (a :: as) H := fun b hb => by
  rcases List.mem_cons.mp hb with rfl | hb
  · rw [h]
    exact ⟨fun _ z => (nomatch z), fun _ _ z => (nomatch z)⟩
  · exact r b hb
theorem NoT.ins {a C dx : Addr} {fs : List (Str × V)} (h : H a = some (.ins C dx fs)) (r : NoT as H) : NoT (a :: as) H := fun b hb => by
  rcases List.mem_cons.mp hb with rfl | hb
  · rw [h]
    exact ⟨fun _ z => (nomatch z), fun _ _ z => (nomatch z)⟩
  · exact r b hb
theorem Buts.fresh (s : Same H H1) (x : Buts as H1 H2) (n : ∀ a ∈ as, H a = none) : Same H H2 := fun a o h => x a o (fun m => by rw [n a m] at h; cases h) (s a o h)
end
section
variable {β : Type} {R : V → β → Prop} {xs : List V} {bs : List β}
theorem Al2.dropR : ∀ {xs : List V} {bs : List β} (k : Nat), Al2 R xs bs → Al2 R (xs.drop k) (bs.drop k)
  | [], [], k, _ => by simp [Al2]
  | _ :: _, _ :: _, 0, z => z
  | _ :: _, _ :: _, k + 1, z => Al2.dropR k z.2
  | [], _ :: _, _, z => z.elim
  | _ :: _, [], _, z => z.elim
end
theorem cut_dropR {xs : List V} {k : Nat} (h : k ≤ xs.length) : cutV xs (some (k : Int)) none = xs.drop k := by
  unfold cutV
  rw [HT.sIx_none, HT.sIx_nat, Nat.min_eq_left h]
  exact List.take_of_length_le (by rw [List.length_drop]; omega)
noncomputable def jntQ (a b : Bod) : Option Rat := if a.2.1 - b.2.1 ≤ 0 then none else some ((b.1 - a.1) / (a.2.1 - b.2.1))
noncomputable def jnts : List Bod → List (Option Rat)
  | a :: b :: r => jntQ a b :: jnts (b :: r)
  | _ => []
theorem jnts_len : ∀ gs : List Bod, (jnts gs).length = gs.length - 1
  | [] => rfl
  | [_] => rfl
  | a :: b :: r => by
    show (jnts (b :: r)).length + 1 = _
    rw [jnts_len (b :: r)]
    simp
theorem jnts_get : ∀ {gs : List Bod} {i : Nat} {a b : Bod}, gs[i]? = some a → gs[i + 1]? = some b → (jnts gs)[i]? = some (jntQ a b)
  | [], _, _, _, h, _ => by simp at h
  | [_], i, _, _, _, h => by simp at h
  | x :: y :: r, 0, a, b, h1, h2 => by
    simp at h1 h2
    subst h1 h2
    rfl
  | x :: y :: r, i + 1, a, b, h1, h2 => by
    show (jnts (y :: r))[i]? = _
    exact jnts_get (by simpa using h1) (by simpa using h2)
noncomputable def less1 (o : Option Rat) (m : Rat) : Option Rat := match o with
  | none => some m
  | some f => if m < f then some m else some f
noncomputable def leastQ (l : List Rat) : Option Rat := l.foldl less1 none
theorem leastQ_snoc (l : List Rat) (m : Rat) : leastQ (l ++ [m]) = less1 (leastQ l) m := by
  unfold leastQ
  rw [List.foldl_append]
  rfl
noncomputable def cmng (gs : List Bod) : Option Rat := leastQ ((jnts gs).filterMap id)
noncomputable def leftsQ (gs : List Bod) : List Nat := match cmng gs with
  | none => []
  | some t => (List.range (jnts gs).length).filter fun i => decide ((jnts gs)[i]? = some (some t))
noncomputable def bodAt (gs : List Bod) (i : Nat) : Bod := gs.getD i (0, 0, 1)
theorem bodAt_of {gs : List Bod} {i : Nat} {b : Bod} (h : gs[i]? = some b) : bodAt gs i = b := by
  unfold bodAt
  rw [List.getD_eq_getElem?_getD, h]
  rfl
theorem bodAt_get {gs : List Bod} {i : Nat} (h : i < gs.length) : gs[i]? = some (bodAt gs i) := by
  rw [bodAt_of (List.getElem?_eq_getElem h)]
  exact List.getElem?_eq_getElem h
noncomputable def plcQ (b : Bod) (t : Rat) : Rat := b.1 + b.2.1 * t
noncomputable def metsQ (gs : List Bod) : List (Rat × Rat × Nat) := match cmng gs with
  | none => []
  | some t => (leftsQ gs).map fun i => (t, plcQ (bodAt gs i) t, i)
noncomputable def alikeQ (a b : Bod) : Prop := a.1 = b.1 ∧ a.2.1 = b.2.1
noncomputable instance (a b : Bod) : Decidable (alikeQ a b) := inferInstanceAs (Decidable (_ ∧ _))
noncomputable def togQ (gs : List Bod) (i : Nat) : Prop := (jnts gs)[i]? = some (cmng gs) ∨ alikeQ (bodAt gs i) (bodAt gs (i + 1))
noncomputable instance (gs : List Bod) (i : Nat) : Decidable (togQ gs i) := inferInstanceAs (Decidable (_ ∨ _))
noncomputable def crwQ (gs : List Bod) : Prop := ∃ i ∈ leftsQ gs, (0 < i ∧ togQ gs (i - 1)) ∨ (i + 1 < (jnts gs).length ∧ togQ gs (i + 1))
noncomputable def behQ (a b : Bod) : Bod := (mixQ a.1 b.1 a.2.2 b.2.2, mixQ a.2.1 b.2.1 a.2.2 b.2.2, a.2.2)
noncomputable def partQ (gs : List Bod) (i : Nat) : List Bod := (gs.set i (behQ (bodAt gs i) (bodAt gs (i + 1)))).set (i + 1) (behQ (bodAt gs (i + 1)) (bodAt gs i))
theorem partQ_len (gs : List Bod) (i : Nat) : (partQ gs i).length = gs.length := by simp [partQ]
noncomputable def onQ (gs : List Bod) : List Bod := (leftsQ gs).foldl partQ gs
inductive RunQ : List Bod → Rat → Nat → String → List (Rat × Rat × Nat) → List Bod → Rat → Prop
  | still {gs : List Bod} {now : Rat} {n : Nat} (h : cmng gs = none) : RunQ gs now n "still" [] gs now
  | more {gs : List Bod} {now t : Rat} (h : cmng gs = some t) : RunQ gs now 0 "more" [] gs now
  | crowd {gs : List Bod} {now t : Rat} {n : Nat} (h : cmng gs = some t) (c : crwQ gs) : RunQ gs now (n + 1) "crowd" [] gs now
  | step {gs : List Bod} {now t : Rat} {n : Nat} {wd : String} {ms : List (Rat × Rat × Nat)} {es : List Bod} {last : Rat} (h : cmng gs = some t) (c : ¬ crwQ gs) (r : RunQ (onQ gs) t n wd ms es last) : RunQ gs now (n + 1) wd (metsQ gs ++ ms) es last
theorem RunQ.one {gs : List Bod} {now : Rat} {n : Nat} {wd : String} {ms : List (Rat × Rat × Nat)} {es : List Bod} {last : Rat} (r : RunQ gs now n wd ms es last) : ∀ {wd' : String} {ms' : List (Rat × Rat × Nat)} {es' : List Bod} {last' : Rat}, RunQ gs now n wd' ms' es' last' → wd = wd' ∧ ms = ms' ∧ es = es' ∧ last = last' := by
  induction r with
  | still h =>
    intro wd' ms' es' last' r'
    cases r' with
    | still => exact ⟨rfl, rfl, rfl, rfl⟩
    | more h' => rw [h] at h'; cases h'
    | crowd h' => rw [h] at h'; cases h'
    | step h' => rw [h] at h'; cases h'
  | more h =>
    intro wd' ms' es' last' r'
    cases r' with
    | still h' => rw [h] at h'; cases h'
    | more h' => exact ⟨rfl, rfl, rfl, rfl⟩
  | crowd h c =>
    intro wd' ms' es' last' r'
    cases r' with
    | still h' => rw [h] at h'; cases h'
    | crowd h' => exact ⟨rfl, rfl, rfl, rfl⟩
    | step h' c' => exact absurd c c'
  | step h c r ih =>
    intro wd' ms' es' last' r'
    cases r' with
    | still h' => rw [h] at h'; cases h'
    | crowd h' c' => exact absurd c' c
    | step h' c' r' =>
      rw [h] at h'
      cases h'
      obtain ⟨e1, e2, e3, e4⟩ := ih r'
      exact ⟨e1, by rw [e2], e3, e4⟩
noncomputable def Com (B : Nat) (gs : List Bod) : Prop := ∃ D : Nat, 1 ≤ D ∧ D < 2 ^ B ∧ ∀ b ∈ gs, ∃ n k : Int, b.1 = (n : Rat) / (D : Rat) ∧ b.2.1 = (k : Rat) / (D : Rat) ∧ n.natAbs < 2 ^ B ∧ k.natAbs < 2 ^ B
theorem com_fb {n : Int} {D B : Nat} (d1 : 1 ≤ D) (dB : D < 2 ^ B) (nB : n.natAbs < 2 ^ B) : FB B ((n : Rat) / (D : Rat)) := by
  have e : (n : Rat) / (D : Rat) = Rat.divInt n (D : Int) := by
    rw [q_dv]
    rfl
  rw [e]
  exact FB.fit (by omega) nB (show ((D : Int)).natAbs < 2 ^ B by rw [Int.natAbs_natCast]; exact dB)
theorem Com.fb {B : Nat} {gs : List Bod} (h : Com B gs) : ∀ b ∈ gs, FB B b.1 ∧ FB B b.2.1 := fun b hb => by
  obtain ⟨D, d1, dB, al⟩ := h
  obtain ⟨n, k, e1, e2, b1, b2⟩ := al b hb
  rw [e1, e2]
  exact ⟨com_fb d1 dB b1, com_fb d1 dB b2⟩
theorem Com.mono {B B' : Nat} {gs : List Bod} (h : Com B gs) (l : B ≤ B') : Com B' gs := by
  obtain ⟨D, d1, dB, al⟩ := h
  have p : 2 ^ B ≤ 2 ^ B' := Nat.pow_le_pow_right (by decide) l
  refine ⟨D, d1, by omega, fun b hb => ?_⟩
  obtain ⟨n, k, e1, e2, b1, b2⟩ := al b hb
  exact ⟨n, k, e1, e2, by omega, by omega⟩
theorem rat_ne {D : Nat} (h : 1 ≤ D) : (D : Rat) ≠ 0 := by
  intro e
  have z : ((D : Nat) : Rat) = ((0 : Nat) : Rat) := e
  have z2 := Rat.natCast_inj.mp z
  omega
theorem Com.jnt {B : Nat} {gs : List Bod} (h : Com B gs) {a b : Bod} (ha : a ∈ gs) (hb : b ∈ gs) {t : Rat} (e : jntQ a b = some t) : FB (B + 1) t := by
  obtain ⟨D, d1, dB, al⟩ := h
  obtain ⟨n, k, e1, e2, b1, b2⟩ := al a ha
  obtain ⟨n', k', e1', e2', b1', b2'⟩ := al b hb
  unfold jntQ at e
  split at e
  · cases e
  · rename_i c
    injection e with e
    have D0 := rat_ne d1
    have kne : k - k' ≠ 0 := fun z => by
      have z2 : k = k' := by omega
      rw [e2, e2', z2] at c
      exact c (by grind)
    have v : t = Rat.divInt (n' - n) (k - k') := by
      rw [← e, e1, e2, e1', e2', q_dv, Rat.intCast_sub, Rat.intCast_sub]
      have kr : (k : Rat) - (k' : Rat) ≠ 0 := fun z => by
        have z2 : ((k - k' : Int) : Rat) = ((0 : Int) : Rat) := by rw [Rat.intCast_sub]; exact z
        exact kne (Rat.intCast_inj.mp z2)
      rw [Rat.div_def, Rat.div_def, Rat.div_def, Rat.div_def, Rat.div_def, Rat.div_def]
      have i1 := Rat.mul_inv_cancel (D : Rat) D0
      have i2 := Rat.mul_inv_cancel _ kr
      have f : ((k : Rat) * (D : Rat)⁻¹ - (k' : Rat) * (D : Rat)⁻¹) ≠ 0 := fun z => kr (by grind)
      have i3 := Rat.mul_inv_cancel _ f
      grind
    rw [v]
    have p : 2 ^ (B + 1) = 2 ^ B * 2 := Nat.pow_succ ..
    refine FB.fit kne ?_ ?_
    · show (n' - n).natAbs < 2 ^ (B + 1)
      omega
    · show (k - k').natAbs < 2 ^ (B + 1)
      omega
theorem inv_two {a b : Rat} (ha : a ≠ 0) (hb : b ≠ 0) : (a * b)⁻¹ = a⁻¹ * b⁻¹ := by
  have i1 := Rat.mul_inv_cancel a ha
  have i2 := Rat.mul_inv_cancel b hb
  have n : a * b ≠ 0 := fun z => by
    rcases Rat.mul_eq_zero.mp z with z | z
    · exact ha z
    · exact hb z
  have i3 := Rat.mul_inv_cancel (a * b) n
  grind
theorem mem_set {α : Type} {l : List α} {i : Nat} {a x : α} (h : x ∈ l.set i a) : x ∈ l ∨ x = a := List.mem_or_eq_of_mem_set h
theorem Com.part {B : Nat} {gs : List Bod} (h : Com B gs) (hw : ∀ b ∈ gs, 1 ≤ b.2.2 ∧ b.2.2 ≤ 10000) {i : Nat} (hi : i + 1 < gs.length) : Com (B + 15) (partQ gs i) := by
  obtain ⟨D, d1, dB, al⟩ := h
  have ma : bodAt gs i ∈ gs := List.mem_of_getElem? (bodAt_get (by omega))
  have mb : bodAt gs (i + 1) ∈ gs := List.mem_of_getElem? (bodAt_get hi)
  obtain ⟨m, em⟩ : ∃ m : Nat, (bodAt gs i).2.2 = (m : Int) := ⟨(bodAt gs i).2.2.toNat, by have := hw _ ma; omega⟩
  obtain ⟨u, eu⟩ : ∃ u : Nat, (bodAt gs (i + 1)).2.2 = (u : Int) := ⟨(bodAt gs (i + 1)).2.2.toNat, by have := hw _ mb; omega⟩
  have wm := hw _ ma
  have wu := hw _ mb
  rw [em] at wm
  rw [eu] at wu
  have p : 2 ^ (B + 15) = 2 ^ B * 32768 := Nat.pow_add ..
  have mix : ∀ (a b : Nat) (n n' : Int), 1 ≤ a → a ≤ 10000 → 1 ≤ b → b ≤ 10000 → n.natAbs < 2 ^ B → n'.natAbs < 2 ^ B → (((a : Int) - b) * n + 2 * b * n').natAbs < 2 ^ (B + 15) := fun a b n n' a1 a2 b1 b2 h1 h2 => by
    have z1 : (((a : Int) - b) * n).natAbs ≤ 10000 * n.natAbs := by
      rw [Int.natAbs_mul]
      exact Nat.mul_le_mul_right _ (by omega)
    have z2 : (2 * (b : Int) * n').natAbs ≤ 20000 * n'.natAbs := by
      rw [Int.natAbs_mul]
      exact Nat.mul_le_mul_right _ (by omega)
    have z3 := Int.natAbs_add_le (((a : Int) - b) * n) (2 * b * n')
    omega
  have val : ∀ (a b : Nat) (x y : Rat) (n n' : Int), 1 ≤ a → 1 ≤ b → x = (n : Rat) / (D : Rat) → y = (n' : Rat) / (D : Rat) → mixQ x y (a : Int) (b : Int) = ((((a : Int) - b) * n + 2 * b * n' : Int) : Rat) / ((D * (a + b) : Nat) : Rat) := fun a b x y n n' a1 b1 e1 e2 => by
    rw [mixQ_eq, e1, e2]
    have ab : ((a + b : Nat) : Rat) ≠ 0 := rat_ne (by omega)
    have D0 := rat_ne d1
    have c1 : ((D * (a + b) : Nat) : Rat) = (D : Rat) * ((a : Rat) + (b : Rat)) := by push_cast; rfl
    have c2 : ((a + b : Nat) : Rat) = (a : Rat) + (b : Rat) := by push_cast; rfl
    have c3 : (((a : Int)) : Rat) = (a : Rat) := rfl
    have c4 : (((b : Int)) : Rat) = (b : Rat) := rfl
    rw [c1, Rat.intCast_add, Rat.intCast_mul, Rat.intCast_mul, Rat.intCast_sub, Rat.intCast_mul, c3, c4]
    rw [c2] at ab
    have two : ((2 : Int) : Rat) = 2 := rfl
    rw [two]
    rw [Rat.div_def, Rat.div_def, Rat.div_def, Rat.div_def, Rat.div_def, inv_two D0 ab]
    have i1 := Rat.mul_inv_cancel _ ab
    have i2 := Rat.mul_inv_cancel _ D0
    grind
  refine ⟨D * (m + u), Nat.mul_pos d1 (by omega), ?_, fun c hc => ?_⟩
  · rw [p]
    exact Nat.lt_of_lt_of_le (Nat.mul_lt_mul_of_pos_right dB (by omega)) (Nat.mul_le_mul_left _ (by omega))
  · unfold partQ at hc
    obtain ⟨na, ka, ea1, ea2, ba1, ba2⟩ := al _ ma
    obtain ⟨nb, kb, eb1, eb2, bb1, bb2⟩ := al _ mb
    rcases mem_set hc with hc | rfl
    · rcases mem_set hc with hc | rfl
      · obtain ⟨n, k, e1, e2, b1, b2⟩ := al c hc
        have D0 := rat_ne d1
        have s0 : ((m + u : Nat) : Rat) ≠ 0 := rat_ne (by omega)
        have up : ∀ n : Int, (n : Rat) / (D : Rat) = ((n * ((m + u : Nat) : Int) : Int) : Rat) / ((D * (m + u) : Nat) : Rat) := fun n => by
          have c1 : ((D * (m + u) : Nat) : Rat) = (D : Rat) * ((m + u : Nat) : Rat) := by rw [Rat.natCast_mul]
          have c2 : (((m + u : Nat) : Int) : Rat) = ((m + u : Nat) : Rat) := rfl
          rw [c1, Rat.intCast_mul, c2]
          rw [Rat.div_def, Rat.div_def, inv_two D0 s0]
          have i1 := Rat.mul_inv_cancel _ s0
          grind
        have bd : ∀ n : Int, n.natAbs < 2 ^ B → (n * ((m + u : Nat) : Int)).natAbs < 2 ^ (B + 15) := fun n h => by
          rw [Int.natAbs_mul, Int.natAbs_natCast, p]
          exact Nat.lt_of_lt_of_le (Nat.mul_lt_mul_of_pos_right h (by omega)) (Nat.mul_le_mul_left _ (by omega))
        exact ⟨_, _, by rw [e1]; exact up n, by rw [e2]; exact up k, bd n b1, bd k b2⟩
      · refine ⟨((m : Int) - u) * na + 2 * u * nb, ((m : Int) - u) * ka + 2 * u * kb, ?_, ?_, mix m u na nb (by omega) (by omega) (by omega) (by omega) ba1 bb1, mix m u ka kb (by omega) (by omega) (by omega) (by omega) ba2 bb2⟩
        · show mixQ _ _ (bodAt gs i).2.2 (bodAt gs (i + 1)).2.2 = _
          rw [em, eu]
          exact val m u _ _ na nb (by omega) (by omega) ea1 eb1
        · show mixQ _ _ (bodAt gs i).2.2 (bodAt gs (i + 1)).2.2 = _
          rw [em, eu]
          exact val m u _ _ ka kb (by omega) (by omega) ea2 eb2
    · have cm : m + u = u + m := Nat.add_comm ..
      rw [cm]
      refine ⟨((u : Int) - m) * nb + 2 * m * na, ((u : Int) - m) * kb + 2 * m * ka, ?_, ?_, mix u m nb na (by omega) (by omega) (by omega) (by omega) bb1 ba1, mix u m kb ka (by omega) (by omega) (by omega) (by omega) bb2 ba2⟩
      · show mixQ _ _ (bodAt gs (i + 1)).2.2 (bodAt gs i).2.2 = _
        rw [em, eu]
        exact val u m _ _ nb na (by omega) (by omega) eb1 ea1
      · show mixQ _ _ (bodAt gs (i + 1)).2.2 (bodAt gs i).2.2 = _
        rw [em, eu]
        exact val u m _ _ kb ka (by omega) (by omega) eb2 ea2
theorem part_w {gs : List Bod} {i : Nat} (hw : ∀ b ∈ gs, 1 ≤ b.2.2 ∧ b.2.2 ≤ 10000) (hi : i + 1 < gs.length) : ∀ b ∈ partQ gs i, 1 ≤ b.2.2 ∧ b.2.2 ≤ 10000 := fun b hb => by
  unfold partQ at hb
  rcases mem_set hb with hb | rfl
  · rcases mem_set hb with hb | rfl
    · exact hw b hb
    · exact hw (bodAt gs i) (List.mem_of_getElem? (bodAt_get (by omega)))
  · exact hw (bodAt gs (i + 1)) (List.mem_of_getElem? (bodAt_get hi))
theorem lefts_lt {gs : List Bod} {i : Nat} (h : i ∈ leftsQ gs) : i + 1 < gs.length ∧ (jnts gs)[i]? = some (cmng gs) := by
  unfold leftsQ at h
  split at h
  · exact nomatch h
  · rename_i t e
    rw [List.mem_filter, List.mem_range, jnts_len] at h
    rw [e]
    exact ⟨by omega, of_decide_eq_true h.2⟩
open AutoSeq1 (wpAny_loadPart')
section
variable {prog : Program} {w : World} {A : Around} {E : Value → Shared → Prop} {s : Shared}
theorem iadd_range {R : Result → Shared → Prop} {S r : Addr} {a b c : Int} {t u v : Tok} {n : Nat} (hh : A.handled = none) (hr : IsRange s.heap r a b c t u v) (hsmall : Builtin.Range.small a b c = true)
    (hn : Builtin.Range.rangeSize a b c = n) (hlen : n ≤ 2 ^ 24) (hS : s.heap.get? S = some { cls := .type "list", data := .seq #[] })
    (hR : ∀ h' tk acc' c', (∀ b o, b ≠ S → s.heap.get? b = some o → h'.get? b = some o) → h'.get? S = some { cls := .type "list", dict := none, data := .seq acc' c', slots := #[] } →
      ItemsOf (fun i v => ∃ t, v = .int (a + i * c) t) acc' n → R (.ok (.ret (.ref S))) { s with heap := h', toks := tk }) :
    codeAny (model prog w) A (.builtin "list.__iadd__" ⟨[.ref S, .ref r], []⟩) R s := by
  refine codeAny_builtin F.entry_list_iadd ?_
  rw [Around.under_plainId F.plain_list_iadd _]
  show wpAny _ A.in1 (Builtin.List.listExtendWith (.ref S) (.ref r) (.ref S)) _ _ _
  exact wpAny_extend_range hh hr hsmall hn hlen S _ 0 hS hR
theorem collect_range {Q : List Value → Shared → Prop} {r : Addr} {a b c : Int} {t u v : Tok} {n : Nat} (hh : A.handled = none) (hr : IsRange s.heap r a b c t u v) (hsmall : Builtin.Range.small a b c = true)
    (hn : Builtin.Range.rangeSize a b c = n) (hlen : n ≤ 2 ^ 24)
    (hQ : ∀ h' tk acc, (∀ b o, s.heap.get? b = some o → h'.get? b = some o) → ItemsOf (fun i v => ∃ t, v = .int (a + i * c) t) acc n → Q acc.toList { s with heap := h', toks := tk }) :
    wpAny (model prog w) A (collect (.ref r)) Q E s := by
  unfold collect
  refine wpAny_bind (wpAny_runValue (codeAny_builtin F.entry_proto_collect ?_))
  rw [Around.under_plainId F.plain_proto_collect _]
  show wpAny _ A.in1 (newList [] >>= fun l => again (.builtin "list.__iadd__" ⟨[l, .ref r], []⟩)) _ _ s
  refine wpAny_bind (wpAny_newObj_type ?_)
  refine wpAny_pure ⟨plainId_quiet F.plain_list_iadd _, iadd_range hh (Heap.get?_push_of_some _ hr) hsmall hn hlen (Heap.get?_push_size _ rfl) fun h' tk acc' c' hk hS' hacc => ?_⟩
  show wpAny _ A (load s.heap.objs.size >>= _) _ _ _
  refine wpAny_bind (wpAny_load hS' ?_)
  exact wpAny_pure (hQ h' tk acc' (fun b o e => hk b o (Nat.ne_of_lt (Heap.lt_size e)) (Heap.get?_push_of_some _ e)) hacc)
end
theorem meets_tuple_range (r : Addr) (a b c : Int) (t u v : Tok) (n : Nat) (hsmall : Builtin.Range.small a b c = true) (hn : Builtin.Range.rangeSize a b c = n) (hlen : n ≤ 1000) :
    Meets (Builtin.«tuple.__new__» ⟨[.type "tuple", .ref r], []⟩)
      (fun A R s => A.handled = none ∧ IsRange s.heap r a b c t u v ∧ ∀ (h' : Heap) (tk : Nat) (acc : Array Value), (∀ b o, s.heap.get? b = some o → h'.get? b = some o) → ItemsOf (fun i v => ∃ t, v = .int (a + i * c) t) acc n →
        R (.ok (.ret (.ref h'.objs.size))) { s with heap := h'.push { cls := .type "tuple", data := .seq acc }, toks := tk }) :=
  .of_wp fun prog w A R s h => by
    obtain ⟨hh, hr, h⟩ := h
    have hsub := sub_tuple_self
    have hinit := init_tuple_lookup
    have hmh := madeHere_tuple
    have hT : s.TypeIs (.ref r) "range" := ⟨_, hr, rfl⟩
    have hh1 : A.in1.handled = none := hh
    wp_walk using wpAny_typeOf hT, collect_range (n := n) hh1 hr hsmall hn (Nat.le_trans hlen (by decide))
    intro h' tk acc hk hacc
    show wpAny _ _ (Builtin.Tuple.tupleExact acc.toList.toArray >>= fun v => ret v) _ _ _
    unfold Builtin.Tuple.tupleExact
    refine wpAny_bind (wpAny_newObj_type ?_ (show acc.toList.toArray.size ≤ sizeLine by simp only [Array.toArray_toList]; rw [hacc.1]; exact Nat.le_trans hlen (by decide)))
    refine wpAny_pure ⟨_, rfl, ?_⟩
    have e : acc.toList.toArray = acc := by simp
    rw [e]
    exact h h' tk acc hk hacc
section
variable {prog : Program} {w : World} {A : Around} {E : Value → Shared → Prop} {s : Shared}
theorem call_tuple_range {Q : Value → Shared → Prop} {r : Addr} {a b c : Int} {t u v : Tok} {n : Nat} (hh : A.handled = none) (hr : IsRange s.heap r a b c t u v) (hsmall : Builtin.Range.small a b c = true)
    (hn : Builtin.Range.rangeSize a b c = n) (hlen : n ≤ 1000)
    (h : ∀ (h' : Heap) (tk : Nat) (acc : Array Value), (∀ b o, s.heap.get? b = some o → h'.get? b = some o) → ItemsOf (fun i v => ∃ t, v = .int (a + i * c) t) acc n → Q (.ref h'.objs.size) { s with heap := h'.push { cls := .type "tuple", data := .seq acc }, toks := tk }) :
    wpAny (model prog w) A (call (.type "tuple") [.ref r]) Q E s := by
  exact callType_new F.called_tuple (by decide) (F.typeCall_tuple_1 _) (F.newCall_tuple_1 _) (fun obj => F.args_object_init_2 obj _) F.entry_tuple_new
    (meets_tuple_range r a b c t u v n hsmall hn hlen) ⟨hh, hr, fun h' tk acc hk hacc => ⟨⟨_, Heap.get?_push_size _ rfl, rfl⟩, h h' tk acc hk hacc⟩⟩
end
theorem vals_of : ∀ {vs : List V} {us : List Value}, vs.length = us.length → (∀ (j : Nat) (x : Value), us[j]? = some x → ∃ v, vs[j]? = some v ∧ RelV v x) → Vals vs us
  | [], [], _, _ => .nil
  | [], _ :: _, h, _ => by simp at h
  | _ :: _, [], h, _ => by simp at h
  | v :: vs, u :: us, h, g => by
    obtain ⟨v', e, r⟩ := g 0 u rfl
    simp at e
    subst e
    exact .cons r (vals_of (by simpa using h) fun j x hj => by
      obtain ⟨v2, e2, r2⟩ := g (j + 1) x (by simpa using hj)
      exact ⟨v2, by simpa using e2, r2⟩)
section
variable {X : Cx}
noncomputable def tTR (ta : TA) : TE := fun σ H Q => ta σ H fun vs H1 => ∃ (i : Int) (n : Nat), vs = [.int i, .int (i + (n : Int))] ∧ 0 ≤ i ∧ i ≤ 1000 ∧ n ≤ 1000 ∧ ∀ l, H1 l = none → Q (.ref l) (upd H1 l (.tup ((List.range n).map fun k : Nat => V.int (i + (k : Int)))))
theorem pe_tupRange {a b : Expr} {ta : TA} {p p2 pos pos2 : Pos} (hc : X.calm = true) (hgl : Gl X "tuple") (hml : X.mg "tuple" = none) (hgr : Gl X "range") (hmr : X.mg "range" = none) (ha : PA X [a, b] ta)
    (hs : starEach [a, b] X.env = (false, eval a X.env)   :: starEach [b] X.env := by rfl) (hpl : (backTo pos2 (starEach [b] X.env)).any (·.1) = false := by rfl) (hs2 : starEach [.Call (.Name "range" p2) [a, b] [] pos2] X.env = [(false, eval (.Call (.Name "range" p2) [a, b] [] pos2) X.env)] := by rfl) :
    PE X (.Call (.Name "tuple" p) [.Call (.Name "range" p2) [a, b] [] pos2] [] pos) (tTR ta) := by
  intro pins s σ H Q I h
  refine wpAny_Call_Name_kw (ld_blt I hgl hml PyProof.Rows.Boot.«tuple» ?_)
  refine PyProof.Rows.callWith_type1 ?_ hs2 rfl
  rw [hs2]
  show wpAny _ _ (spliced ((false, eval (.Call (.Name "range" p2) [a, b] [] pos2) X.env) :: [])) _ _ s
  refine Calls.spliced_cons ?_
  refine wpAny_Call_Name_kw (ld_blt I hgr hmr boot_range ?_)
  refine PyProof.Rows.callWith_type1 (thn (ha pos2 pins s σ H _ I h) fun us s1 ⟨vs, H1, I1, r1, i, n, e, i0, i1, hn, q⟩ => ?_) hs hpl
  subst e
  cases r1 with
  | cons r rr =>
    cases rr with
    | cons r2 rr2 =>
      cases rr2
      obtain ⟨t, rfl⟩ := r
      obtain ⟨t2, rfl⟩ := r2
      refine call_range_2 ?_
      refine Calls.spliced_nil ?_
      have sz : Builtin.Range.rangeSize i (i + (n : Int)) 1 = n := by
        rw [rangeSize_one]
        split <;> omega
      refine call_tuple_range (n := n) (I.ok.hd hc) (IsRange.new ..) (small_one (by omega) (by omega) (by omega) (by omega)) sz hn fun h' tk acc kp items => ?_
      obtain ⟨j1, j2⟩ := items
      have I2 := I1.kept (t' := tk) fun b o e => kp b o (Heap.get?_push_of_some _ e)
      have v : Vals ((List.range n).map fun k : Nat => V.int (i + (k : Int))) acc.toList := by
        refine vals_of ?_ ?_
        · rw [List.length_map, List.length_range, Array.length_toList, j1]
        · intro j x hj
          rw [Array.getElem?_toList] at hj
          obtain ⟨t', e'⟩ := j2 j x hj
          have hl : j < n := by
            rw [← j1]
            exact (Array.getElem?_eq_some_iff.mp hj).1
          refine ⟨V.int (i + (j : Int)), ?_, t', ?_⟩
          · rw [List.getElem?_map, List.getElem?_range hl]
            rfl
          · rw [e', Int.mul_one]
      refine ⟨.ref h'.objs.size, _, I2.laid (t' := tk) (fun b o e => Heap.get?_push_of_some _ e) (Nat.le_refl _) (show ObjOk X.prog X.w _ _ _ (.tup _) from ⟨?_, acc.toList, v, ?_⟩), rfl, q _ (I2.hok.fresh (Nat.le_refl _))⟩
      · rw [List.length_map, List.length_range]
        exact Nat.le_trans hn (by decide)
      · rw [Array.toArray_toList]
        exact IsTup.new _ _
end
end Kw
namespace L2
open PySem PySem.Spec PyProof.Rows
section
variable {κ : Type} [DecidableEq κ]
end
section
variable {P : Program} {w : World} {H : Hp} {h : Heap} {a : Addr}
end
section
variable {X : Cx} {pins : List (Addr × Obj)} {σ : St} {H : Hp} {s : Shared} {a : Addr} {y v : V} {u r : Value} {o : Option V} {A : Around} {E : Value → Shared → Prop}
end
section
variable {X : Cx} {pins : List (Addr × Obj)} {σ : St} {H : Hp} {s : Shared} {a : Addr} {kvs : List (Key × V)} {k : Key} {u : Value} {A : Around} {E : Value → Shared → Prop}
end
section
variable {X : Cx} {o i e value : Expr} {pos pos' tpos : Pos} {td ty tv : TE}
end
section
variable {X : Cx} {pos : Pos}
end
end L2
namespace Kw
open PySem PySem.Spec PyProof.Rows L2
section
variable {prog : Program} {w : World} {K : Type} [DecidableEq K] {knd : HeapKind prog w K} {A : Around} {E : Value → Shared → Prop} {s : Shared}
end
theorem eqv_2 (a b c d : Int) : PyData.eqv (.tuple [.int a, .int b]) (.tuple [.int c, .int d]) = (decide (a = c) && decide (b = d)) := by
  show ((a == c) && ((b == d) && true)) = _
  rw [Bool.and_true]
  congr 1
theorem ixN_nat {n j : Nat} (h : j < n) : ixN n (j : Int) = some j := by
  unfold ixN
  simp
  omega
noncomputable def OptR (K : PySem.W.Frag) (H : Hp) (v : V) (o : Option Rat) : Prop := (o = none ∧ v = .non) ∨ ∃ (q : Rat) (p : Addr), o = some q ∧ v = .ref p ∧ FQ K H p q ∧ FB 1990 q
section
variable {K : PySem.W.Frag} {H H' : Hp} {v u : V} {o o' : Option Rat} {as : List Addr}
theorem OptR.same (h : OptR K H v o) (s : Same H H') : OptR K H' v o := by
  rcases h with h | ⟨q, p, e1, e2, g, d⟩
  · exact .inl h
  · exact .inr ⟨q, p, e1, e2, Kw.Same.tup s g, d⟩
theorem OptR.buts (h : OptR K H v o) (s : Buts as H H') (n : NoT as H) : OptR K H' v o := by
  rcases h with h | ⟨q, p, e1, e2, g, d⟩
  · exact .inl h
  · exact .inr ⟨q, p, e1, e2, s.tup n g, d⟩
theorem opts_same {vs : List V} {os : List (Option Rat)} (h : Al2 (OptR K H) vs os) (s : Same H H') : Al2 (OptR K H') vs os := Al2.imp (fun _ _ z => z.same s) h
theorem opts_buts {vs : List V} {os : List (Option Rat)} (h : Al2 (OptR K H) vs os) (s : Buts as H H') (n : NoT as H) : Al2 (OptR K H') vs os := Al2.imp (fun _ _ z => z.buts s n) h
theorem OptR.non (h : OptR K H v o) : v = .non ↔ o = none := by
  rcases h with ⟨rfl, rfl⟩ | ⟨q, p, rfl, rfl, _⟩
  · simp
  · constructor
    · intro z; cases z
    · intro z; cases z
theorem OptR.dp (h : OptR K H v o) (g : OptR K H u o') : ∃ d d', Dp K H v d ∧ Dp K H u d' ∧ d.canLay0 = true ∧ d'.canLay0 = true ∧ min d.depth d'.depth ≤ 60 ∧ PyData.eqv d d' = decide (o = o') := by
  rcases h with ⟨rfl, rfl⟩ | ⟨q, p, rfl, rfl, gq, _⟩
  · rcases g with ⟨rfl, rfl⟩ | ⟨q', p', rfl, rfl, gq', _⟩
    · exact ⟨_, _, .non, .non, rfl, rfl, Nat.zero_le _, rfl⟩
    · exact ⟨_, _, .non, gq'.dp, rfl, rfl, Nat.zero_le _, rfl⟩
  · rcases g with ⟨rfl, rfl⟩ | ⟨q', p', rfl, rfl, gq', _⟩
    · exact ⟨_, _, gq.dp, .non, rfl, rfl, Nat.le_trans (Nat.min_le_right _ _) (Nat.zero_le _), rfl⟩
    · refine ⟨_, _, gq.dp, gq'.dp, rfl, rfl, Nat.le_trans (Nat.min_le_left _ _) (show (1 : Nat) ≤ 60 by decide), ?_⟩
      rw [eqv_2, ← Bool.decide_and]
      exact decide_eq_decide.mpr ⟨fun h => by rw [Rat.ext h.1 (by omega)], fun h => by injection h with h; rw [h]; exact ⟨rfl, rfl⟩⟩
end
theorem op_eqOR {X : Cx} {K : PySem.W.Frag} (hK : X.K = K) (hu : X.A.units + 100 < cLine) : OpR X (compareOp .Eq) (fun a b H Q => ∃ o o', OptR K H a o ∧ OptR K H b o' ∧ Q (.bl (decide (o = o'))) H) := by
  intro pins s σ H a b v u Q I rx ry h
  obtain ⟨o, o', h1, h2, k⟩ := h
  obtain ⟨d, d', e1, e2, c1, c2, dep, e⟩ := h1.dp h2
  refine op_eqD hK hu pins s σ H _ _ v u Q I rx ry ⟨d, d', e1, e2, c1, c2, dep, ?_⟩
  rw [e]
  exact k
noncomputable def crs (g sh nw : Addr) (n : Int) (j : Addr) (co : V) : List (Str × V) := [("goings", .ref g), ("share", .ref sh), ("now", .ref nw), ("gone_through", .int n), ("joints", .ref j), ("coming", co)]
section
variable {g sh nw x : Addr} {n i : Int} {j : Addr} {co v : V}
theorem crs_g : (crs g sh nw n j co).lookup ("goings" : Str) = some (V.ref g) := rfl
theorem crs_s : (crs g sh nw n j co).lookup ("share" : Str) = some (V.ref sh) := rfl
theorem crs_n : (crs g sh nw n j co).lookup ("now" : Str) = some (V.ref nw) := rfl
theorem crs_t : (crs g sh nw n j co).lookup ("gone_through" : Str) = some (V.int n) := rfl
theorem crs_j : (crs g sh nw n j co).lookup ("joints" : Str) = some (V.ref j) := rfl
theorem crs_c : (crs g sh nw n j co).lookup ("coming" : Str) = some co := rfl
end
noncomputable def CrsAt (K : PySem.W.Frag) (H : Hp) (C p : Addr) (gs : List Bod) (now : Rat) (n : Nat) (g j : Addr) : Prop := ∃ (dx sh nw : Addr) (co : V) (xs ys : List V), H p = some (.ins C dx (crs g sh nw (n : Int) j co)) ∧ H g = some (.lst xs) ∧ Al2 (BdQ K H 1990) xs gs ∧ FQ K H sh ((1 : Int) : Rat) ∧ FQ K H nw now ∧ FB 1990 now ∧ H j = some (.lst ys) ∧ Al2 (OptR K H) ys (jnts gs) ∧ OptR K H co (cmng gs) ∧ g ≠ j
theorem CrsAt.same {K : PySem.W.Frag} {H H' : Hp} {C p : Addr} {gs : List Bod} {now : Rat} {n : Nat} {g j : Addr} (h : CrsAt K H C p gs now n g j) (s : Same H H') : CrsAt K H' C p gs now n g j := by
  obtain ⟨dx, sh, nw, co, xs, ys, h1, h2, h3, h4, h5, h6, h7, h8, h9, h10⟩ := h
  exact ⟨dx, sh, nw, co, xs, ys, s _ _ h1, s _ _ h2, bds_same h3 s, Kw.Same.tup s h4, Kw.Same.tup s h5, h6, s _ _ h7, opts_same h8 s, h9.same s, h10⟩
theorem opts_filter {K : PySem.W.Frag} {H : Hp} : ∀ {vs : List V} {os : List (Option Rat)}, Al2 (OptR K H) vs os → Al2 (FrQ K H 1990) (vs.filter fun v => !decide (v = .non)) (os.filterMap id)
  | [], [], _ => trivial
  | v :: vs, o :: os, h => by
    have ih := opts_filter h.2
    rcases h.1 with ⟨rfl, rfl⟩ | ⟨q, p, rfl, rfl, g, d⟩
    · exact ih
    · exact ⟨⟨p, rfl, g, d⟩, ih⟩
  | [], _ :: _, h => h.elim
  | _ :: _, [], h => h.elim
noncomputable def MtQ (K : PySem.W.Frag) (H : Hp) (v : V) (m : Rat × Rat × Nat) : Prop := ∃ p a b : Addr, v = .ref p ∧ SqT K H p [.ref a, .ref b, .int (m.2.2 : Int)] ∧ FQ K H a m.1 ∧ FQ K H b m.2.1 ∧ FB 1990 m.1 ∧ FB 5990 m.2.1
section
variable {K : PySem.W.Frag} {H H' : Hp} {v : V} {m : Rat × Rat × Nat} {as : List Addr}
theorem MtQ.same (h : MtQ K H v m) (s : Same H H') : MtQ K H' v m := by
  obtain ⟨p, a, b, e, h1, h2, h3, d⟩ := h
  exact ⟨p, a, b, e, Kw.Same.tup s h1, Kw.Same.tup s h2, Kw.Same.tup s h3, d⟩
theorem MtQ.buts (h : MtQ K H v m) (s : Buts as H H') (n : NoT as H) : MtQ K H' v m := by
  obtain ⟨p, a, b, e, h1, h2, h3, d⟩ := h
  exact ⟨p, a, b, e, s.tup n h1, s.tup n h2, s.tup n h3, d⟩
theorem mts_same {vs : List V} {ms : List (Rat × Rat × Nat)} (h : Al2 (MtQ K H) vs ms) (s : Same H H') : Al2 (MtQ K H') vs ms := Al2.imp (fun _ _ z => z.same s) h
theorem mts_buts {vs : List V} {ms : List (Rat × Rat × Nat)} (h : Al2 (MtQ K H) vs ms) (s : Buts as H H') (n : NoT as H) : Al2 (MtQ K H') vs ms := Al2.imp (fun _ _ z => z.buts s n) h
end
noncomputable def GathQ (gs : List Bod) (i a n : Nat) : Prop := a ≤ i ∧ i + 2 ≤ a + n ∧ a + n ≤ gs.length ∧ (∀ k, a ≤ k → k < i → togQ gs k) ∧ (a = 0 ∨ ¬ togQ gs (a - 1)) ∧ (∀ k, i < k → k + 1 < a + n → togQ gs k) ∧ (a + n = gs.length ∨ ¬ togQ gs (a + n - 1))
theorem GathQ.two {gs : List Bod} {i a n : Nat} (h : GathQ gs i a n) : 2 < n ↔ (0 < i ∧ togQ gs (i - 1)) ∨ (i + 1 < (jnts gs).length ∧ togQ gs (i + 1)) := by
  obtain ⟨h1, h2, h3, h4, h5, h6, h7⟩ := h
  rw [jnts_len]
  constructor
  · intro hn
    by_cases c : a < i
    · exact .inl ⟨by omega, h4 (i - 1) (by omega) (by omega)⟩
    · exact .inr ⟨by omega, h6 (i + 1) (by omega) (by omega)⟩
  · rintro (⟨c, t⟩ | ⟨c, t⟩)
    · rcases h5 with e | e
      · omega
      · by_cases q : a = i
        · rw [q] at e
          exact absurd t e
        · omega
    · by_cases q : a + n = i + 2
      · rcases h7 with e | e
        · omega
        · have z : a + n - 1 = i + 1 := by omega
          rw [z] at e
          exact absurd t e
      · omega
theorem jnt_none {a b : Bod} : ¬ b.2.1 < a.2.1 → jntQ a b = none := fun h => by
  unfold jntQ
  rw [if_pos (by grind)]
theorem jnt_some {a b : Bod} : b.2.1 < a.2.1 → jntQ a b = some ((b.1 - a.1) / (a.2.1 - b.2.1)) := fun h => by
  unfold jntQ
  rw [if_neg (by grind)]
theorem jnts_at {gs : List Bod} {k : Nat} (h : k + 1 < gs.length) : (jnts gs)[k]? = some (jntQ (bodAt gs k) (bodAt gs (k + 1))) := jnts_get (bodAt_get (by omega)) (bodAt_get h)
theorem jnts_no {gs : List Bod} {k : Nat} (h : ¬ k + 1 < gs.length) : (jnts gs)[k]? = none := by
  rw [List.getElem?_eq_none]
  rw [jnts_len]
  omega
theorem part_at {gs : List Bod} {i : Nat} (hi : i + 1 < gs.length) (k : Nat) : bodAt (partQ gs i) k = if k = i then behQ (bodAt gs i) (bodAt gs (i + 1)) else if k = i + 1 then behQ (bodAt gs (i + 1)) (bodAt gs i) else bodAt gs k := by
  unfold partQ
  unfold bodAt
  rw [List.getD_eq_getElem?_getD, List.getElem?_set, List.getElem?_set]
  by_cases c1 : k = i
  · subst c1
    rw [if_pos rfl, if_neg (by omega), if_pos rfl, if_pos (by omega)]
    rfl
  · rw [if_neg c1]
    by_cases c2 : k = i + 1
    · subst c2
      rw [if_pos rfl, if_pos rfl, if_pos (by rw [List.length_set]; exact hi)]
      rfl
    · rw [if_neg c2, if_neg (by omega), if_neg (by omega), List.getD_eq_getElem?_getD]
theorem part_far {gs : List Bod} {i k : Nat} (hi : i + 1 < gs.length) (h1 : k + 1 ≠ i) (h2 : k ≠ i) (h3 : k ≠ i + 1) : (jnts (partQ gs i))[k]? = (jnts gs)[k]? := by
  by_cases c : k + 1 < gs.length
  · rw [jnts_at c, jnts_at (by rw [partQ_len]; exact c), part_at hi, part_at hi, if_neg h2, if_neg h3, if_neg h1, if_neg (by omega)]
  · rw [jnts_no c, jnts_no (by rw [partQ_len]; exact c)]
theorem bds_w {K : PySem.W.Frag} {H : Hp} {n : Nat} : ∀ {xs : List V} {bs : List Bod}, Al2 (BdQ K H n) xs bs → ∀ b ∈ bs, 1 ≤ b.2.2 ∧ b.2.2 ≤ 10000
  | [], [], _ => fun _ h => nomatch h
  | _ :: _, _ :: _, z => fun b hb => by
    rcases List.mem_cons.mp hb with rfl | hb
    · obtain ⟨_, _, _, _, _, _, _, _, _, w1, w2⟩ := z.1
      exact ⟨w1, w2⟩
    · exact bds_w z.2 b hb
  | [], _ :: _, z => z.elim
  | _ :: _, [], z => z.elim
theorem fold_len (l : List Nat) : ∀ gs : List Bod, (l.foldl partQ gs).length = gs.length := by
  induction l with
  | nil => intro gs; rfl
  | cons i l ih => intro gs; rw [List.foldl_cons, ih, partQ_len]
theorem on_len (gs : List Bod) : (onQ gs).length = gs.length := fold_len _ _
theorem RunQ.len {gs : List Bod} {now : Rat} {n : Nat} {wd : String} {ms : List (Rat × Rat × Nat)} {es : List Bod} {last : Rat} (r : RunQ gs now n wd ms es last) : es.length = gs.length := by
  induction r with
  | still => rfl
  | more => rfl
  | crowd => rfl
  | step h c r ih => rw [ih, on_len]
theorem CrsAt.buts {K : PySem.W.Frag} {H H' : Hp} {C p : Addr} {gs : List Bod} {now : Rat} {n : Nat} {g j : Addr} {as : List Addr} (h : CrsAt K H C p gs now n g j) (s : Buts as H H') (nt : NoT as H) (ap : p ∉ as ∧ g ∉ as ∧ j ∉ as) : CrsAt K H' C p gs now n g j := by
  obtain ⟨dx, sh, nw, co, xs, ys, h1, h2, h3, h4, h5, h6, h7, h8, h9, h10⟩ := h
  exact ⟨dx, sh, nw, co, xs, ys, s _ _ ap.1 h1, s _ _ ap.2.1 h2, s.bds nt h3, s.tup nt h4, s.tup nt h5, h6, s _ _ ap.2.2 h7, opts_buts h8 s nt, h9.buts s nt, h10⟩
end Kw
namespace Kw
theorem al_app {β : Type} {R : L2.V → β → Prop} : ∀ {xs xs' : List L2.V} {ys ys' : List β}, Al2 R xs ys → Al2 R xs' ys' → Al2 R (xs ++ xs') (ys ++ ys')
  | [], _, [], _, _, h => h
  | _ :: _, _, _ :: _, _, h, g => ⟨h.1, al_app h.2 g⟩
  | [], _, _ :: _, _, h, _ => h.elim
  | _ :: _, _, [], _, h, _ => h.elim
end Kw
namespace Kw
open PySem PySem.Spec PyProof.Rows L2
section
variable {a d b : Rat} {c : Int}
theorem lefts_is (gs : List Bod) : leftsQ gs = if cmng gs = none then [] else (List.range (jnts gs).length).filter fun i => decide ((jnts gs)[i]? = some (cmng gs)) := by
  unfold leftsQ
  split
  · rename_i e
    rw [if_pos e]
  · rename_i t e
    rw [if_neg (by rw [e]; exact fun z => nomatch z), e]
theorem foldp_w : ∀ (l : List Nat) {gs : List Bod}, (∀ p ∈ gs, 1 ≤ p.2.2 ∧ p.2.2 ≤ 10000) → (∀ i ∈ l, i + 1 < gs.length) → ∀ p ∈ l.foldl partQ gs, 1 ≤ p.2.2 ∧ p.2.2 ≤ 10000
  | [], _, hw, _ => hw
  | i :: l, gs, hw, hl => by
    rw [List.foldl_cons]
    exact foldp_w l (part_w hw (hl i (List.mem_cons_self ..))) fun k hk => by rw [partQ_len]; exact hl k (List.mem_cons_of_mem _ hk)
theorem on_w {gs : List Bod} (hw : ∀ p ∈ gs, 1 ≤ p.2.2 ∧ p.2.2 ≤ 10000) : ∀ p ∈ onQ gs, 1 ≤ p.2.2 ∧ p.2.2 ≤ 10000 := foldp_w _ hw fun i hi => (lefts_lt hi).1
end
noncomputable def Frn (N B : Int) (x : Rat) : Prop := ∃ n : Int, x = (n : Rat) / (N : Rat) ∧ -B ≤ n ∧ n ≤ B
theorem Six.frn {B : Int} {x : Rat} (h : Six B x) : Frn 72 (12 * B) x := by
  obtain ⟨n, e, a, b⟩ := h
  refine ⟨12 * n, ?_, by omega, by omega⟩
  rw [e, Rat.intCast_mul]
  show (n : Rat) / 6 = 12 * n / 72
  grind
theorem Frn.mono {N B B' : Int} {x : Rat} (h : Frn N B x) (l : B ≤ B') : Frn N B' x := by
  obtain ⟨n, e, a, b⟩ := h
  exact ⟨n, e, by omega, by omega⟩
theorem six_by {B c d : Int} {x : Rat} (h : Six B x) (c1 : 1 ≤ c) (c4 : c ≤ 4) (d1 : 1 ≤ d) (d3 : d ≤ 3) (B0 : 0 ≤ B) : Frn 72 (36 * B) (x / Rat.divInt c d) := by
  obtain ⟨n, e, a, b⟩ := h
  rw [q_dv, e]
  have key : ∀ k : Int, k * c = 12 → (n : Rat) / 6 / ((c : Rat) / (d : Rat)) = ((n * d * k : Int) : Rat) / ((72 : Int) : Rat) := fun k hk => by
    have k0 : (k : Rat) * (c : Rat) = 12 := by rw [← Rat.intCast_mul, hk]; rfl
    have c0 : (c : Rat) ≠ 0 := fun z => by rw [z] at k0; grind
    have d0 : (d : Rat) ≠ 0 := fun z => by
      have z2 : ((d : Int) : Rat) = ((0 : Int) : Rat) := z
      have := Rat.intCast_inj.mp z2
      omega
    rw [Rat.intCast_mul, Rat.intCast_mul]
    have s : ((72 : Int) : Rat) = 72 := rfl
    rw [s]
    have i1 := Rat.mul_inv_cancel _ c0
    have i2 := Rat.mul_inv_cancel _ d0
    have q0 : (c : Rat) / (d : Rat) ≠ 0 := fun z => by
      rw [Rat.div_def] at z
      rcases Rat.mul_eq_zero.mp z with z | z
      · exact c0 z
      · rw [z] at i2
        grind
    have i3 := Rat.mul_inv_cancel _ q0
    rw [Rat.div_def] at i3 ⊢
    rw [Rat.div_def, Rat.div_def]
    grind
  have bound : ∀ k : Int, 3 ≤ k → k ≤ 12 → -(36 * B) ≤ n * d * k ∧ n * d * k ≤ 36 * B := fun k k3 k12 => by
    have hdk : 0 ≤ d * k := Int.mul_nonneg (by omega) (by omega)
    have hle : d * k ≤ 36 := by
      have := Int.mul_le_mul d3 k12 (by omega) (by omega)
      omega
    rw [Int.mul_assoc]
    constructor
    · have z1 : -(B * (d * k)) ≤ n * (d * k) := by
        have := Int.mul_le_mul_of_nonneg_right a hdk
        rw [Int.neg_mul] at this
        exact this
      have z2 : B * (d * k) ≤ B * 36 := Int.mul_le_mul_of_nonneg_left hle B0
      omega
    · have z1 : n * (d * k) ≤ B * (d * k) := Int.mul_le_mul_of_nonneg_right b hdk
      have z2 : B * (d * k) ≤ B * 36 := Int.mul_le_mul_of_nonneg_left hle B0
      omega
  rcases (show c = 1 ∨ c = 2 ∨ c = 3 ∨ c = 4 by omega) with rfl | rfl | rfl | rfl
  · exact ⟨_, key 12 (by decide), bound 12 (by decide) (by decide)⟩
  · exact ⟨_, key 6 (by decide), bound 6 (by decide) (by decide)⟩
  · exact ⟨_, key 4 (by decide), bound 4 (by decide) (by decide)⟩
  · exact ⟨_, key 3 (by decide), bound 3 (by decide) (by decide)⟩
theorem Frn.up {B : Int} {x : Rat} (h : Frn 72 B x) : Frn 432 (6 * B) x := by
  obtain ⟨n, e, a, b⟩ := h
  refine ⟨6 * n, ?_, by omega, by omega⟩
  rw [e, Rat.intCast_mul]
  show (n : Rat) / 72 = 6 * n / 432
  grind
theorem frn_com {gs : List Bod} (h : ∀ b ∈ gs, Frn 432 500000000 b.1 ∧ Frn 432 500000000 b.2.1) : Com 30 gs := by
  refine ⟨432, by decide, by decide, fun b hb => ?_⟩
  obtain ⟨⟨n, e1, a1, b1⟩, ⟨k, e2, a2, b2⟩⟩ := h b hb
  have p : (2 : Nat) ^ 30 = 1073741824 := by decide
  exact ⟨n, k, e1, e2, by omega, by omega⟩
theorem RunQ.word {gs : List Bod} {now : Rat} {n : Nat} {wd : String} {ms : List (Rat × Rat × Nat)} {es : List Bod} {last : Rat} (r : RunQ gs now n wd ms es last) : wd = "still" ∨ wd = "more" ∨ wd = "crowd" := by
  induction r with
  | still => exact .inl rfl
  | more => exact .inr (.inl rfl)
  | crowd => exact .inr (.inr rfl)
  | step h c r ih => exact ih
theorem wd_lay {wd : String} (h : wd = "still" ∨ wd = "more" ∨ wd = "crowd") : (PyData.str wd).canLay0 = true := by
  rcases h with rfl | rfl | rfl <;> decide +kernel
theorem all_snoc {α : Type} {P : α → Prop} {l : List α} {b : α} (h : ∀ c ∈ l, P c) (g : P b) : ∀ c ∈ l ++ [b], P c := fun c hc => by
  rcases List.mem_append.mp hc with z | z
  · exact h c z
  · rw [List.mem_singleton.mp z]
    exact g
theorem part_P {P : Int → Prop} {gs : List Bod} {i : Nat} (h : ∀ b ∈ gs, P b.2.2) (hi : i + 1 < gs.length) : ∀ b ∈ partQ gs i, P b.2.2 := fun b hb => by
  unfold partQ at hb
  rcases mem_set hb with hb | rfl
  · rcases mem_set hb with hb | rfl
    · exact h b hb
    · exact h (bodAt gs i) (List.mem_of_getElem? (bodAt_get (by omega)))
  · exact h (bodAt gs (i + 1)) (List.mem_of_getElem? (bodAt_get hi))
theorem fold_P {P : Int → Prop} : ∀ (l : List Nat) {gs : List Bod}, (∀ b ∈ gs, P b.2.2) → (∀ i ∈ l, i + 1 < gs.length) → ∀ b ∈ l.foldl partQ gs, P b.2.2
  | [], _, h, _ => h
  | i :: l, gs, h, hl => by
    rw [List.foldl_cons]
    exact fold_P l (part_P h (hl i (List.mem_cons_self ..))) fun k hk => by rw [partQ_len]; exact hl k (List.mem_cons_of_mem _ hk)
noncomputable def OrdT (gs : List Bod) (now : Rat) : Prop := ∀ k, k + 1 < gs.length → plcQ (bodAt gs k) now < plcQ (bodAt gs (k + 1)) now ∨ (plcQ (bodAt gs k) now = plcQ (bodAt gs (k + 1)) now ∧ (bodAt gs k).2.1 < (bodAt gs (k + 1)).2.1)
theorem asc_at {gs : List Bod} (h : Asc gs) {k : Nat} (hk : k + 1 < gs.length) : (bodAt gs k).1 < (bodAt gs (k + 1)).1 := by
  unfold Asc at h
  have z := List.pairwise_iff_getElem.mp h k (k + 1) (by omega) hk (by omega)
  rw [bodAt_of (List.getElem?_eq_getElem (show k < gs.length by omega)), bodAt_of (List.getElem?_eq_getElem hk)]
  exact z
theorem ord_start {gs : List Bod} (h : Asc gs) : OrdT gs 0 := fun k hk => by
  have z := asc_at h hk
  left
  unfold plcQ
  grind
theorem least_spec : ∀ (l : List Rat) (o : Option Rat), ∀ m, l.foldl less1 o = some m → ((m ∈ l ∨ o = some m) ∧ (∀ y ∈ l, m ≤ y) ∧ ∀ f, o = some f → m ≤ f)
  | [], o, m, h => ⟨.inr h, fun _ z => (nomatch z), fun f hf => by
      have z : o = some m := h
      rw [z] at hf
      cases hf
      exact Rat.le_refl⟩
  | x :: l, o, m, h => by
    rw [List.foldl_cons] at h
    obtain ⟨h1, h2, h3⟩ := least_spec l (less1 o x) m h
    cases o with
    | none =>
      have e : less1 none x = some x := rfl
      rw [e] at h1 h3
      have mx := h3 x rfl
      refine ⟨.inl ?_, fun y hy => ?_, fun f hf => nomatch hf⟩
      · rcases h1 with h1 | h1
        · exact List.mem_cons_of_mem _ h1
        · cases h1
          exact List.mem_cons_self ..
      · rcases List.mem_cons.mp hy with rfl | hy
        · exact mx
        · exact h2 y hy
    | some f =>
      by_cases c : x < f
      · have e : less1 (some f) x = some x := if_pos c
        rw [e] at h1 h3
        have mx := h3 x rfl
        refine ⟨.inl ?_, fun y hy => ?_, fun g hg => ?_⟩
        · rcases h1 with h1 | h1
          · exact List.mem_cons_of_mem _ h1
          · cases h1
            exact List.mem_cons_self ..
        · rcases List.mem_cons.mp hy with rfl | hy
          · exact mx
          · exact h2 y hy
        · cases hg
          grind
      · have e : less1 (some f) x = some f := if_neg c
        rw [e] at h1 h3
        have mf := h3 f rfl
        refine ⟨?_, fun y hy => ?_, fun g hg => ?_⟩
        · rcases h1 with h1 | h1
          · exact .inl (List.mem_cons_of_mem _ h1)
          · exact .inr h1
        · rcases List.mem_cons.mp hy with rfl | hy
          · grind
          · exact h2 y hy
        · cases hg
          exact mf
theorem least_some {l : List Rat} {m : Rat} (h : leastQ l = some m) : m ∈ l ∧ ∀ y ∈ l, m ≤ y := by
  obtain ⟨h1, h2, _⟩ := least_spec l none m h
  refine ⟨?_, h2⟩
  rcases h1 with h1 | h1
  · exact h1
  · cases h1
theorem fold_none : ∀ (l : List Rat) (f : Rat), l.foldl less1 (some f) ≠ none
  | [], f => by intro h; cases h
  | x :: l, f => by
    rw [List.foldl_cons]
    by_cases c : x < f
    · have e : less1 (some f) x = some x := if_pos c
      rw [e]
      exact fold_none l x
    · have e : less1 (some f) x = some f := if_neg c
      rw [e]
      exact fold_none l f
theorem least_none {l : List Rat} : leastQ l = none ↔ l = [] := by
  cases l with
  | nil => exact ⟨fun _ => rfl, fun _ => rfl⟩
  | cons x l =>
    constructor
    · intro h
      exact absurd h (fold_none l x)
    · intro h
      cases h
theorem mem_jn {l : List (Option Rat)} {q : Rat} : q ∈ l.filterMap id ↔ some q ∈ l := by
  rw [List.mem_filterMap]
  constructor
  · rintro ⟨o, h, e⟩
    have e' : o = some q := e
    rw [← e']
    exact h
  · intro h
    exact ⟨some q, h, rfl⟩
theorem cmng_some {gs : List Bod} {t : Rat} (h : cmng gs = some t) : (∃ k, k + 1 < gs.length ∧ jntQ (bodAt gs k) (bodAt gs (k + 1)) = some t) ∧ ∀ k q, k + 1 < gs.length → jntQ (bodAt gs k) (bodAt gs (k + 1)) = some q → t ≤ q := by
  obtain ⟨h1, h2⟩ := least_some h
  constructor
  · obtain ⟨k, hk, e⟩ := List.mem_iff_getElem.mp (mem_jn.mp h1)
    have lk : k + 1 < gs.length := by rw [jnts_len] at hk; omega
    refine ⟨k, lk, ?_⟩
    have z := jnts_at lk
    rw [List.getElem?_eq_getElem hk, e] at z
    exact (Option.some.inj z).symm
  · intro k q hk hq
    refine h2 q (mem_jn.mpr ?_)
    have z := jnts_at hk
    rw [hq] at z
    exact List.mem_of_getElem? z
theorem jnt_gap {a b : Bod} {q : Rat} (h : jntQ a b = some q) : b.2.1 < a.2.1 ∧ ∀ s, plcQ b s - plcQ a s = (a.2.1 - b.2.1) * (q - s) := by
  unfold jntQ at h
  split at h
  · cases h
  · rename_i c
    injection h with h
    have V : a.2.1 - b.2.1 ≠ 0 := by grind
    refine ⟨by grind, fun s => ?_⟩
    have i := Rat.mul_inv_cancel _ V
    rw [← h, Rat.div_def]
    unfold plcQ
    grind
theorem jnt_not {a b : Bod} (h : jntQ a b = none) : a.2.1 ≤ b.2.1 := by
  unfold jntQ at h
  split at h
  · grind
  · cases h
theorem ord_till {gs : List Bod} {now t : Rat} (o : OrdT gs now) (h : cmng gs = some t) : now < t ∧ (∀ s, now < s → s < t → ∀ k, k + 1 < gs.length → plcQ (bodAt gs k) s < plcQ (bodAt gs (k + 1)) s) ∧ ∀ k, k + 1 < gs.length → plcQ (bodAt gs k) t ≤ plcQ (bodAt gs (k + 1)) t ∧ (plcQ (bodAt gs k) t = plcQ (bodAt gs (k + 1)) t ↔ jntQ (bodAt gs k) (bodAt gs (k + 1)) = some t) := by
  obtain ⟨⟨k0, hk0, e0⟩, low⟩ := cmng_some h
  have later : ∀ k q, k + 1 < gs.length → jntQ (bodAt gs k) (bodAt gs (k + 1)) = some q → now < q := fun k q hk hq => by
    obtain ⟨v, gap⟩ := jnt_gap hq
    have g := gap now
    have pos : 0 < plcQ (bodAt gs (k + 1)) now - plcQ (bodAt gs k) now := by
      rcases o k hk with z | ⟨_, z⟩
      · grind
      · grind
    rw [g] at pos
    by_cases c : now < q
    · exact c
    · exfalso
      have z := Rat.mul_nonneg (show 0 ≤ (bodAt gs k).2.1 - (bodAt gs (k + 1)).2.1 by grind) (show 0 ≤ now - q by grind)
      grind
  have still : ∀ k s, k + 1 < gs.length → jntQ (bodAt gs k) (bodAt gs (k + 1)) = none → now < s → plcQ (bodAt gs k) s < plcQ (bodAt gs (k + 1)) s := fun k s hk hn hs => by
    have v := jnt_not hn
    have e : plcQ (bodAt gs (k + 1)) s - plcQ (bodAt gs k) s = (plcQ (bodAt gs (k + 1)) now - plcQ (bodAt gs k) now) + ((bodAt gs (k + 1)).2.1 - (bodAt gs k).2.1) * (s - now) := by
      unfold plcQ
      grind
    rcases o k hk with z | ⟨z, z2⟩
    · have z3 := Rat.mul_nonneg (show 0 ≤ (bodAt gs (k + 1)).2.1 - (bodAt gs k).2.1 by grind) (show 0 ≤ s - now by grind)
      grind
    · have z3 := Rat.mul_pos (show 0 < (bodAt gs (k + 1)).2.1 - (bodAt gs k).2.1 by grind) (show 0 < s - now by grind)
      grind
  have nt := later k0 t hk0 e0
  refine ⟨nt, fun s s1 s2 k hk => ?_, fun k hk => ?_⟩
  · cases q : jntQ (bodAt gs k) (bodAt gs (k + 1)) with
    | none => exact still k s hk q s1
    | some j =>
      obtain ⟨v, gap⟩ := jnt_gap q
      have tj := low k j hk q
      have z := Rat.mul_pos (show 0 < (bodAt gs k).2.1 - (bodAt gs (k + 1)).2.1 by grind) (show 0 < j - s by grind)
      have g := gap s
      grind
  · cases q : jntQ (bodAt gs k) (bodAt gs (k + 1)) with
    | none =>
      have z := still k t hk q nt
      exact ⟨by grind, fun e => absurd e (by grind), fun e => nomatch e⟩
    | some j =>
      obtain ⟨v, gap⟩ := jnt_gap q
      have tj := low k j hk q
      have g := gap t
      have z := Rat.mul_nonneg (show 0 ≤ (bodAt gs k).2.1 - (bodAt gs (k + 1)).2.1 by grind) (show 0 ≤ j - t by grind)
      refine ⟨by grind, fun e => ?_, fun e => ?_⟩
      · have z0 : ((bodAt gs k).2.1 - (bodAt gs (k + 1)).2.1) * (j - t) = 0 := by grind
        rcases Rat.mul_eq_zero.mp z0 with y | y
        · grind
        · rw [show j = t by grind]
      · injection e with e
        rw [e] at g
        grind
theorem mem_lefts {gs : List Bod} {t : Rat} (h : cmng gs = some t) {i : Nat} : i ∈ leftsQ gs ↔ i + 1 < gs.length ∧ jntQ (bodAt gs i) (bodAt gs (i + 1)) = some t := by
  constructor
  · intro hi
    obtain ⟨h1, h2⟩ := lefts_lt hi
    rw [jnts_at h1, h] at h2
    exact ⟨h1, Option.some.inj h2⟩
  · rintro ⟨h1, h2⟩
    rw [lefts_is, if_neg (by rw [h]; exact fun z => nomatch z), List.mem_filter, List.mem_range, jnts_len]
    refine ⟨by omega, decide_eq_true ?_⟩
    rw [jnts_at h1, h2, h]
theorem lefts_apart {gs : List Bod} (c : ¬ crwQ gs) {i : Nat} (h : i ∈ leftsQ gs) : i + 1 ∉ leftsQ gs := fun h' => by
  obtain ⟨l1, e1⟩ := lefts_lt h
  obtain ⟨l2, e2⟩ := lefts_lt h'
  exact c ⟨i, h, .inr ⟨by rw [jnts_len]; omega, .inl e2⟩⟩
theorem lefts_nodup (gs : List Bod) : (leftsQ gs).Nodup := by
  rw [lefts_is]
  split
  · exact List.nodup_nil
  · exact List.Pairwise.filter _ List.nodup_range
theorem fold_at : ∀ (l : List Nat) {gs : List Bod}, l.Nodup → (∀ i ∈ l, i + 1 < gs.length) → (∀ i ∈ l, i + 1 ∉ l) → ∀ k, bodAt (l.foldl partQ gs) k = if k ∈ l then behQ (bodAt gs k) (bodAt gs (k + 1)) else if 1 ≤ k ∧ k - 1 ∈ l then behQ (bodAt gs k) (bodAt gs (k - 1)) else bodAt gs k
  | [], gs, _, _, _, k => by
    rw [if_neg (fun z => nomatch z), if_neg (fun z => nomatch z.2)]
    rfl
  | i :: l, gs, nd, hl, ap, k => by
    have hi := hl i (List.mem_cons_self ..)
    have nd' := List.nodup_cons.mp nd
    have ih := fold_at l (gs := partQ gs i) nd'.2 (fun j hj => by rw [partQ_len]; exact hl j (List.mem_cons_of_mem _ hj)) (fun j hj hj' => ap j (List.mem_cons_of_mem _ hj) (List.mem_cons_of_mem _ hj')) k
    rw [List.foldl_cons, ih]
    have pa := part_at hi
    have i1 : i + 1 ∉ l := fun z => ap i (List.mem_cons_self ..) (List.mem_cons_of_mem _ z)
    have i0 : ∀ j, j + 1 = i → j ∉ l := fun j e z => ap j (List.mem_cons_of_mem _ z) (by rw [e]; exact List.mem_cons_self ..)
    by_cases c1 : k ∈ l
    · have ki : k ≠ i := fun z => nd'.1 (z ▸ c1)
      have ki1 : k ≠ i + 1 := fun z => i1 (z ▸ c1)
      have k1i : k + 1 ≠ i := fun z => i0 k z c1
      rw [if_pos c1, if_pos (List.mem_cons_of_mem _ c1), pa k, pa (k + 1), if_neg ki, if_neg ki1, if_neg k1i, if_neg (by omega)]
    · rw [if_neg c1]
      by_cases c2 : k = i
      · subst c2
        have n2 : ¬ (1 ≤ k ∧ k - 1 ∈ l) := fun z => i0 (k - 1) (by omega) z.2
        rw [if_neg n2, if_pos (List.mem_cons_self ..), pa k, if_pos rfl]
      · have c3 : k ∉ i :: l := fun z => by
          rcases List.mem_cons.mp z with z | z
          · exact c2 z
          · exact c1 z
        rw [if_neg c3]
        by_cases c4 : 1 ≤ k ∧ k - 1 ∈ l
        · have e1 : k - 1 ≠ i := fun z => nd'.1 (z ▸ c4.2)
          have e2 : k ≠ i + 1 := fun z => e1 (by omega)
          have e3 : k - 1 ≠ i + 1 := fun z => i1 (z ▸ c4.2)
          rw [if_pos c4, if_pos ⟨c4.1, List.mem_cons_of_mem _ c4.2⟩, pa k, pa (k - 1), if_neg c2, if_neg e2, if_neg e1, if_neg e3]
        · rw [if_neg c4]
          by_cases c5 : k = i + 1
          · subst c5
            rw [if_pos ⟨by omega, by rw [Nat.add_sub_cancel]; exact List.mem_cons_self ..⟩, pa (i + 1), if_neg (by omega), if_pos rfl, Nat.add_sub_cancel]
          · have c6 : ¬ (1 ≤ k ∧ k - 1 ∈ i :: l) := fun z => by
              rcases List.mem_cons.mp z.2 with y | y
              · exact c5 (by omega)
              · exact c4 ⟨z.1, y⟩
            rw [if_neg c6, pa k, if_neg c2, if_neg c5]
theorem on_at {gs : List Bod} (c : ¬ crwQ gs) (k : Nat) : bodAt (onQ gs) k = if k ∈ leftsQ gs then behQ (bodAt gs k) (bodAt gs (k + 1)) else if 1 ≤ k ∧ k - 1 ∈ leftsQ gs then behQ (bodAt gs k) (bodAt gs (k - 1)) else bodAt gs k :=
  fold_at _ (lefts_nodup gs) (fun i hi => (lefts_lt hi).1) (fun i hi => lefts_apart c hi) k
theorem beh_plc {a b : Bod} {t : Rat} (ma : 1 ≤ a.2.2) (mb : 1 ≤ b.2.2) (e : plcQ a t = plcQ b t) : plcQ (behQ a b) t = plcQ a t := by
  unfold plcQ at e ⊢
  unfold behQ
  dsimp only
  rw [mixQ_eq, mixQ_eq]
  have s : ((a.2.2 : Rat) + (b.2.2 : Rat)) ≠ 0 := by
    have z : ((a.2.2 + b.2.2 : Int) : Rat) ≠ ((0 : Int) : Rat) := fun z => by have := Rat.intCast_inj.mp z; omega
    rw [Rat.intCast_add] at z
    exact z
  have i := Rat.mul_inv_cancel _ s
  rw [Rat.div_def, Rat.div_def]
  grind
theorem beh_rel {a b : Bod} (ma : 1 ≤ a.2.2) (mb : 1 ≤ b.2.2) : (behQ a b).2.1 - (behQ b a).2.1 = b.2.1 - a.2.1 := by
  unfold behQ
  dsimp only
  rw [mixQ_eq, mixQ_eq]
  have s : ((a.2.2 : Rat) + (b.2.2 : Rat)) ≠ 0 := by
    have z : ((a.2.2 + b.2.2 : Int) : Rat) ≠ ((0 : Int) : Rat) := fun z => by have := Rat.intCast_inj.mp z; omega
    rw [Rat.intCast_add] at z
    exact z
  have cm : (b.2.2 : Rat) + (a.2.2 : Rat) = (a.2.2 : Rat) + (b.2.2 : Rat) := by grind
  have i := Rat.mul_inv_cancel _ s
  rw [cm, Rat.div_def, Rat.div_def, Rat.div_def, Rat.div_def]
  grind
theorem w_at {gs : List Bod} (hw : ∀ b ∈ gs, 1 ≤ b.2.2 ∧ b.2.2 ≤ 10000) {k : Nat} (hk : k < gs.length) : 1 ≤ (bodAt gs k).2.2 := (hw _ (List.mem_of_getElem? (bodAt_get hk))).1
theorem on_plc {gs : List Bod} {now t : Rat} (o : OrdT gs now) (h : cmng gs = some t) (c : ¬ crwQ gs) (hw : ∀ b ∈ gs, 1 ≤ b.2.2 ∧ b.2.2 ≤ 10000) {k : Nat} (hk : k < gs.length) : plcQ (bodAt (onQ gs) k) t = plcQ (bodAt gs k) t := by
  obtain ⟨_, _, at'⟩ := ord_till o h
  rw [on_at c]
  split
  · rename_i hl
    obtain ⟨l1, e1⟩ := (mem_lefts h).mp hl
    exact beh_plc (w_at hw hk) (w_at hw l1) (((at' k l1).2).mpr e1)
  · split
    · rename_i hl
      obtain ⟨l1, e1⟩ := (mem_lefts h).mp hl.2
      have kk : k - 1 + 1 = k := by omega
      rw [kk] at l1 e1
      have z := ((at' (k - 1) (by omega)).2)
      rw [kk] at z
      exact beh_plc (w_at hw hk) (w_at hw (by omega)) (z.mpr e1).symm
    · rfl
theorem ord_on {gs : List Bod} {now t : Rat} (o : OrdT gs now) (h : cmng gs = some t) (c : ¬ crwQ gs) (hw : ∀ b ∈ gs, 1 ≤ b.2.2 ∧ b.2.2 ≤ 10000) : OrdT (onQ gs) t := fun k hk => by
  rw [on_len] at hk
  obtain ⟨_, _, at'⟩ := ord_till o h
  obtain ⟨le, iff'⟩ := at' k hk
  rw [on_plc o h c hw (by omega), on_plc o h c hw hk]
  by_cases hl : k ∈ leftsQ gs
  · right
    obtain ⟨l1, e1⟩ := (mem_lefts h).mp hl
    refine ⟨iff'.mpr e1, ?_⟩
    have n1 : k + 1 ∉ leftsQ gs := lefts_apart c hl
    rw [on_at c k, on_at c (k + 1), if_pos hl, if_neg n1, if_pos ⟨by omega, by rw [Nat.add_sub_cancel]; exact hl⟩, Nat.add_sub_cancel]
    have rel := beh_rel (w_at hw (show k < gs.length by omega)) (w_at hw hk)
    have v := (jnt_gap e1).1
    grind
  · left
    by_cases e : plcQ (bodAt gs k) t = plcQ (bodAt gs (k + 1)) t
    · exact absurd ((mem_lefts h).mpr ⟨hk, iff'.mp e⟩) hl
    · grind
section
variable {u : Rat}
end
noncomputable def mirL (gs : List Bod) : List Bod := gs.reverse.map mir1
theorem mirL_len (gs : List Bod) : (mirL gs).length = gs.length := by simp [mirL]
theorem bod_mir (gs : List Bod) {k : Nat} (h : k < gs.length) : bodAt (mirL gs) k = mir1 (bodAt gs (gs.length - 1 - k)) := by
  refine bodAt_of ?_
  unfold mirL
  rw [List.getElem?_map, List.getElem?_reverse h, bodAt_get (by omega)]
  rfl
theorem jnt_mir (a b : Bod) : jntQ (mir1 b) (mir1 a) = jntQ a b := by
  unfold jntQ mir1
  dsimp only
  rw [show -b.2.1 - -a.2.1 = a.2.1 - b.2.1 by grind, show -a.1 - -b.1 = b.1 - a.1 by grind]
theorem jnts_mir (gs : List Bod) {k : Nat} (h : k + 1 < gs.length) : (jnts (mirL gs))[k]? = (jnts gs)[gs.length - 2 - k]? := by
  rw [jnts_at (by rw [mirL_len]; exact h), jnts_at (show gs.length - 2 - k + 1 < gs.length by omega), bod_mir gs (by omega), bod_mir gs h, show gs.length - 1 - (k + 1) = gs.length - 2 - k by omega, show gs.length - 1 - k = gs.length - 2 - k + 1 by omega, jnt_mir]
theorem cmng_mir (gs : List Bod) : cmng (mirL gs) = cmng gs := by
  have same : ∀ q, some q ∈ jnts (mirL gs) ↔ some q ∈ jnts gs := fun q => by
    constructor
    · intro hq
      obtain ⟨k, hk, e⟩ := List.mem_iff_getElem.mp hq
      rw [jnts_len, mirL_len] at hk
      have z := jnts_mir gs (k := k) (by omega)
      rw [List.getElem?_eq_getElem (by rw [jnts_len, mirL_len]; exact hk), e] at z
      exact List.mem_of_getElem? z.symm
    · intro hq
      obtain ⟨k, hk, e⟩ := List.mem_iff_getElem.mp hq
      have hk' := hk
      rw [jnts_len] at hk'
      have z := jnts_mir gs (k := gs.length - 2 - k) (by omega)
      rw [show gs.length - 2 - (gs.length - 2 - k) = k by omega, List.getElem?_eq_getElem hk, e] at z
      exact List.mem_of_getElem? z
  cases q : cmng gs with
  | none =>
    have z : (jnts gs).filterMap id = [] := least_none.mp q
    refine least_none.mpr ?_
    cases y : (jnts (mirL gs)).filterMap id with
    | nil => rfl
    | cons m l =>
      exfalso
      have hm : m ∈ (jnts (mirL gs)).filterMap id := by rw [y]; exact List.mem_cons_self ..
      have h2 := mem_jn.mpr ((same m).mp (mem_jn.mp hm))
      rw [z] at h2
      exact nomatch h2
  | some t =>
    obtain ⟨h1, h2⟩ := least_some (show leastQ ((jnts gs).filterMap id) = some t from q)
    cases y : cmng (mirL gs) with
    | none =>
      have z : (jnts (mirL gs)).filterMap id = [] := least_none.mp y
      have h3 := mem_jn.mpr ((same t).mpr (mem_jn.mp h1))
      rw [z] at h3
      exact nomatch h3
    | some t' =>
      obtain ⟨g1, g2⟩ := least_some (show leastQ ((jnts (mirL gs)).filterMap id) = some t' from y)
      have a := h2 t' (mem_jn.mpr ((same t').mp (mem_jn.mp g1)))
      have b := g2 t (mem_jn.mpr ((same t).mpr (mem_jn.mp h1)))
      rw [show t' = t by grind]
theorem range_rev (N : Nat) : (List.range N).reverse = (List.range N).map (N - 1 - ·) := by
  refine List.ext_getElem (by simp) fun i h1 h2 => ?_
  simp
theorem lefts_mir (gs : List Bod) : leftsQ (mirL gs) = ((leftsQ gs).map (gs.length - 2 - ·)).reverse := by
  rw [lefts_is, lefts_is, cmng_mir]
  by_cases c : cmng gs = none
  · rw [if_pos c, if_pos c]
    rfl
  · rw [if_neg c, if_neg c, jnts_len, jnts_len, mirL_len]
    obtain ⟨N, hN⟩ : ∃ N, gs.length - 1 = N := ⟨_, rfl⟩
    rw [hN]
    have e1 : (List.range N).filter (fun i => decide ((jnts (mirL gs))[i]? = some (cmng gs))) = (List.range N).filter (fun i => decide ((jnts gs)[N - 1 - i]? = some (cmng gs))) := by
      refine List.filter_congr fun i hi => ?_
      have hi' := List.mem_range.mp hi
      rw [jnts_mir gs (by omega), show gs.length - 2 - i = N - 1 - i by omega]
    have e2 : (List.range N).filter (fun i => decide ((jnts gs)[N - 1 - i]? = some (cmng gs))) = (((List.range N).filter (fun i => decide ((jnts gs)[i]? = some (cmng gs)))).map (N - 1 - ·)).reverse := by
      have r : List.range N = ((List.range N).map (N - 1 - ·)).reverse := by rw [← range_rev, List.reverse_reverse]
      have h : (List.range N).filter (fun i => decide ((jnts gs)[N - 1 - i]? = some (cmng gs))) = (((List.range N).map (N - 1 - ·)).reverse).filter (fun i => decide ((jnts gs)[N - 1 - i]? = some (cmng gs))) := by rw [← r]
      rw [h, List.filter_reverse, List.filter_map]
      congr 2
      refine List.filter_congr fun i hi => ?_
      have hi' := List.mem_range.mp hi
      show decide ((jnts gs)[N - 1 - (N - 1 - i)]? = some (cmng gs)) = _
      rw [show N - 1 - (N - 1 - i) = i by omega]
    rw [e1, e2]
    have f : (fun x => N - 1 - x) = (fun x => gs.length - 2 - x) := by
      funext x
      omega
    rw [f]
theorem mem_mir {gs : List Bod} {k : Nat} (h : k + 1 < gs.length) : k ∈ leftsQ (mirL gs) ↔ gs.length - 2 - k ∈ leftsQ gs := by
  rw [lefts_mir, List.mem_reverse, List.mem_map]
  constructor
  · rintro ⟨j, hj, e⟩
    have lt := (lefts_lt hj).1
    rw [show gs.length - 2 - k = j by omega]
    exact hj
  · intro hj
    exact ⟨_, hj, by omega⟩
theorem alike_mir (a b : Bod) : alikeQ (mir1 a) (mir1 b) ↔ alikeQ b a := by
  unfold alikeQ mir1
  dsimp only
  constructor
  · rintro ⟨h1, h2⟩
    exact ⟨by grind, by grind⟩
  · rintro ⟨h1, h2⟩
    exact ⟨by grind, by grind⟩
theorem tog_mir {gs : List Bod} {k : Nat} (h : k + 1 < gs.length) : togQ (mirL gs) k ↔ togQ gs (gs.length - 2 - k) := by
  unfold togQ
  rw [jnts_mir gs h, cmng_mir, bod_mir gs (by omega), bod_mir gs h, alike_mir, show gs.length - 1 - (k + 1) = gs.length - 2 - k by omega, show gs.length - 1 - k = gs.length - 2 - k + 1 by omega]
theorem crw_half {gs : List Bod} (h : crwQ (mirL gs)) : crwQ gs := by
  obtain ⟨i, hi, c⟩ := h
  have lt := (lefts_lt hi).1
  rw [mirL_len] at lt
  rw [jnts_len, mirL_len] at c
  refine ⟨gs.length - 2 - i, (mem_mir lt).mp hi, ?_⟩
  rw [jnts_len]
  rcases c with ⟨c1, c2⟩ | ⟨c1, c2⟩
  · right
    refine ⟨by omega, ?_⟩
    have z := (tog_mir (gs := gs) (k := i - 1) (by omega)).mp c2
    rw [show gs.length - 2 - (i - 1) = gs.length - 2 - i + 1 by omega] at z
    exact z
  · left
    refine ⟨by omega, ?_⟩
    have z := (tog_mir (gs := gs) (k := i + 1) (by omega)).mp c2
    rw [show gs.length - 2 - (i + 1) = gs.length - 2 - i - 1 by omega] at z
    exact z
theorem mirL_mirL (gs : List Bod) : mirL (mirL gs) = gs := by
  unfold mirL
  rw [← List.map_reverse, List.reverse_reverse, List.map_map]
  have e : (mir1 ∘ mir1) = id := by
    funext b
    obtain ⟨x, v, m⟩ := b
    show (- -x, - -v, m) = (x, v, m)
    rw [show - -x = x by grind, show - -v = v by grind]
  rw [e, List.map_id]
theorem crw_mir (gs : List Bod) : crwQ (mirL gs) ↔ crwQ gs := by
  refine ⟨crw_half, fun h => ?_⟩
  rw [← mirL_mirL gs] at h
  exact crw_half h
theorem ext_bod {l m : List Bod} (h : l.length = m.length) (g : ∀ k, k < l.length → bodAt l k = bodAt m k) : l = m := by
  refine List.ext_getElem h fun k h1 h2 => ?_
  have z := g k h1
  rw [bodAt_of (List.getElem?_eq_getElem h1), bodAt_of (List.getElem?_eq_getElem h2)] at z
  exact z
theorem beh_mir (a b : Bod) : behQ (mir1 a) (mir1 b) = mir1 (behQ a b) := by
  unfold behQ mir1
  dsimp only
  rw [mixQ_eq, mixQ_eq, mixQ_eq, mixQ_eq, Rat.div_def, Rat.div_def]
  congr 1
  · grind
  · congr 1
    grind
theorem on_mir {gs : List Bod} (c : ¬ crwQ gs) : onQ (mirL gs) = mirL (onQ gs) := by
  have c' : ¬ crwQ (mirL gs) := fun z => c ((crw_mir gs).mp z)
  refine ext_bod (by rw [on_len, mirL_len, mirL_len, on_len]) fun k hk => ?_
  rw [on_len, mirL_len] at hk
  rw [bod_mir (onQ gs) (by rw [on_len]; exact hk), on_len, on_at c', on_at c]
  obtain ⟨j, hj⟩ : ∃ j, gs.length - 1 - k = j := ⟨_, rfl⟩
  rw [hj]
  have right : k ∈ leftsQ (mirL gs) ↔ 1 ≤ j ∧ j - 1 ∈ leftsQ gs := by
    constructor
    · intro h
      have lt := (lefts_lt h).1
      rw [mirL_len] at lt
      have z := (mem_mir lt).mp h
      refine ⟨by omega, ?_⟩
      rw [show j - 1 = gs.length - 2 - k by omega]
      exact z
    · rintro ⟨h1, h2⟩
      refine (mem_mir (by omega)).mpr ?_
      rw [show gs.length - 2 - k = j - 1 by omega]
      exact h2
  have left : (1 ≤ k ∧ k - 1 ∈ leftsQ (mirL gs)) ↔ j ∈ leftsQ gs := by
    constructor
    · rintro ⟨h1, h2⟩
      have lt := (lefts_lt h2).1
      rw [mirL_len] at lt
      have z := (mem_mir (by omega)).mp h2
      rw [show gs.length - 2 - (k - 1) = j by omega] at z
      exact z
    · intro h
      have lt := (lefts_lt h).1
      refine ⟨by omega, (mem_mir (by omega)).mpr ?_⟩
      rw [show gs.length - 2 - (k - 1) = j by omega]
      exact h
  by_cases a1 : j ∈ leftsQ gs
  · have lt := (lefts_lt a1).1
    have l' := left.mpr a1
    have r' : k ∉ leftsQ (mirL gs) := fun z => by
      have y := right.mp z
      have ap := lefts_apart c y.2
      rw [show j - 1 + 1 = j by omega] at ap
      exact ap a1
    rw [if_neg r', if_pos l', if_pos a1, bod_mir gs hk, bod_mir gs (by omega), hj, show gs.length - 1 - (k - 1) = j + 1 by omega, beh_mir]
  · have l' : ¬ (1 ≤ k ∧ k - 1 ∈ leftsQ (mirL gs)) := fun z => a1 (left.mp z)
    rw [if_neg a1]
    by_cases a2 : 1 ≤ j ∧ j - 1 ∈ leftsQ gs
    · rw [if_pos (right.mpr a2), if_pos a2, bod_mir gs hk, bod_mir gs (by omega), hj, show gs.length - 1 - (k + 1) = j - 1 by omega, beh_mir]
    · rw [if_neg (fun z => a2 (right.mp z)), if_neg l', if_neg a2, bod_mir gs hk, hj]
theorem Frn.neg {N B : Int} {x : Rat} (h : Frn N B x) : Frn N B (-x) := by
  obtain ⟨n, e, a, b⟩ := h
  refine ⟨-n, ?_, by omega, by omega⟩
  rw [e, Rat.intCast_neg, Rat.div_def, Rat.div_def]
  grind
section
variable {K : PySem.W.Frag} {tt : TT} {te : TE} {idx : List Nat} {σ : L2.St} {Q : VK} {H : Hp}
theorem lc_listF {a : Addr} {xs : List V} (Pv : Nat → List V → Hp → Prop) (h0 : Pv 0 [] H) (hz : xs.length ≤ sizeLine) (hy : ∀ i ys H, Pv i ys H → ys.length ≤ i) (hl : ∀ i ys H, Pv i ys H → SqL K H a xs)
    (hs : ∀ i x ys H (Qn : List V → Hp → Prop), xs[i]? = some x → Pv i ys H → (∀ zs H2, Pv (i + 1) zs H2 → Qn zs H2) → tt (stIn (some x) idx σ) H fun b H3 => if b = true then te (stIn (some x) idx σ) H3 fun v H2 => Qn (ys ++ [v]) H2 else Qn ys H3) (hd : ∀ ys H, Pv xs.length ys H → ∀ p, H p = none → Q (.ref p) (upd H p (.lst ys))) :
    LcBodyT (Itl K a) idx tt te σ Q H := by
  refine ⟨fun i m ys H => m = xs.length - i ∧ i ≤ xs.length ∧ Pv i ys H, ⟨xs.length, by simp, Nat.zero_le _, h0⟩, ?_⟩
  rintro i m ys H ⟨rfl, hi, p⟩
  have q := hl i ys H p
  refine ⟨by have := hy i ys H p; omega, ?_⟩
  by_cases hlt : i < xs.length
  · refine .inr ⟨⟨xs, xs[i], q, by simp [hlt]⟩, fun y H' yl => ?_⟩
    obtain ⟨e, yl⟩ := yl
    subst e
    exact hs i y ys _ (fun zs H2 => ∃ m', m' < xs.length - i ∧ m' = xs.length - (i + 1) ∧ i + 1 ≤ xs.length ∧ Pv (i + 1) zs H2) (yl xs q) p fun zs H2 z => ⟨xs.length - (i + 1), by omega, rfl, hlt, z⟩
  · have e : i = xs.length := by omega
    subst e
    exact .inl ⟨⟨xs, q, Nat.le_refl _⟩, hd ys H p⟩
end
theorem mirL_app (a b : List Bod) : mirL (a ++ b) = mirL b ++ mirL a := by
  unfold mirL
  rw [List.reverse_append, List.map_append]
theorem both_sym (ws : List Bod) : mirL (mirL ws ++ ws) = mirL ws ++ ws := by
  rw [mirL_app, mirL_mirL]
theorem sym_on {gs : List Bod} (h : mirL gs = gs) (c : ¬ crwQ gs) : mirL (onQ gs) = onQ gs := by
  rw [← on_mir c, h]
theorem plc_mirW (b : Bod) (t : Rat) : plcQ (mir1 b) t = - plcQ b t := by
  unfold plcQ mir1
  dsimp only
  grind
noncomputable def halfQ (N : Nat) (ms : List (Rat × Rat × Nat)) : List (Rat × Rat × Nat) := ms.filter fun m => decide (N ≤ m.2.2 + 1)
theorem half_snoc {N : Nat} {ms : List (Rat × Rat × Nat)} {i : Nat} {m : Rat × Rat × Nat} (h : ms[i]? = some m) : halfQ N (ms.take (i + 1)) = halfQ N (ms.take i) ++ if decide (N ≤ m.2.2 + 1) = true then [m] else [] := by
  unfold halfQ
  rw [take_snoc h, List.filter_append]
  congr 1
  rw [List.filter_cons]
  rfl
noncomputable def hfD (N : Nat) (m : Rat × Rat × Nat) : PyData := .tuple [frD m.1, frD m.2.1, .int ((m.2.2 : Int) - (N : Int))]
noncomputable def HfQ (K : PySem.W.Frag) (H : Hp) (N : Nat) (v : V) (m : Rat × Rat × Nat) : Prop := ∃ p a b : Addr, v = .ref p ∧ SqT K H p [.ref a, .ref b, .int ((m.2.2 : Int) - (N : Int))] ∧ FQ K H a m.1 ∧ FQ K H b m.2.1
theorem hfs_same {K : PySem.W.Frag} {H H' : Hp} {N : Nat} {ys : List V} {ms : List (Rat × Rat × Nat)} (h : Al2 (HfQ K H N) ys ms) (s : Same H H') : Al2 (HfQ K H' N) ys ms := Al2.imp (fun _ _ z => by
  obtain ⟨p, a, b, e, h1, h2, h3⟩ := z
  exact ⟨p, a, b, e, Kw.Same.tup s h1, Kw.Same.tup s h2, Kw.Same.tup s h3⟩) h
theorem hfs_dp {K : PySem.W.Frag} {H : Hp} {N : Nat} : ∀ {vs : List V} {ms : List (Rat × Rat × Nat)}, Al2 (HfQ K H N) vs ms → Dps K H vs (ms.map (hfD N))
  | [], [], _ => .nil
  | _ :: _, _ :: _, z => by
    obtain ⟨⟨p, a, b, rfl, h1, h2, h3⟩, r⟩ := z
    exact .cons (.tup h1 (.cons h2.dp (.cons h3.dp (.cons (.int _) .nil)))) (hfs_dp r)
  | [], _ :: _, z => z.elim
  | _ :: _, [], z => z.elim
theorem hfs_lay {N : Nat} : ∀ ms : List (Rat × Rat × Nat), PyData.canLayAll0 (ms.map (hfD N)) = true
  | [] => rfl
  | m :: ms => by
    show (PyData.canLay0 (hfD N m) && PyData.canLayAll0 (ms.map (hfD N))) = true
    rw [hfs_lay ms]
    rfl
theorem hfs_deep {N : Nat} : ∀ ms : List (Rat × Rat × Nat), PyData.depthAll (ms.map (hfD N)) ≤ 2
  | [] => Nat.zero_le _
  | m :: ms => by
    show max (PyData.depth (hfD N m)) (PyData.depthAll (ms.map (hfD N))) ≤ 2
    have e : PyData.depth (hfD N m) = 2 := rfl
    have := hfs_deep (N := N) ms
    omega
noncomputable def wlD (N : Nat) (wd : String) (ms : List (Rat × Rat × Nat)) (bs : List Bod) (last : Rat) : PyData := .tuple [.str wd, .list ((halfQ N ms).map (hfD N)), .list ((bs.drop N).map bdD), frD last]
theorem wl_ok {N : Nat} {wd : String} (hw : wd = "still" ∨ wd = "more" ∨ wd = "crowd") (ms : List (Rat × Rat × Nat)) (bs : List Bod) (last : Rat) : (wlD N wd ms bs last).canLay0 = true ∧ Nat.ble (wlD N wd ms bs last).depth 60 = true := by
  constructor
  · show (PyData.canLay0 (.str wd) && (PyData.canLayAll0 ((halfQ N ms).map (hfD N)) && (PyData.canLayAll0 ((bs.drop N).map bdD) && (PyData.canLay0 (frD last) && true)))) = true
    rw [hfs_lay, bds_lay, wd_lay hw]
    rfl
  · refine Nat.ble_eq_true_of_le ?_
    have h1 := hfs_deep (N := N) (halfQ N ms)
    have h2 := bds_deep (bs.drop N)
    have e : (wlD N wd ms bs last).depth = max 0 (max (PyData.depthAll ((halfQ N ms).map (hfD N)) + 1) (max (PyData.depthAll ((bs.drop N).map bdD) + 1) (max 1 0))) + 1 := rfl
    omega
section
variable {X : Cx}
end
section
variable {K : PySem.W.Frag} {idx : List Nat} {te : TE} {σ : L2.St} {H : Hp} {Q : VK}
end
theorem com_fold : ∀ (l : List Nat) {B : Nat} {gs : List Bod}, Com B gs → (∀ p ∈ gs, 1 ≤ p.2.2 ∧ p.2.2 ≤ 10000) → (∀ i ∈ l, i + 1 < gs.length) → Com (B + 15 * l.length) (l.foldl partQ gs)
  | [], _, _, h, _, _ => h
  | i :: l, B, gs, h, hw, hl => by
    have hi := hl i (List.mem_cons_self ..)
    have z := com_fold l (h.part hw hi) (part_w hw hi) fun k hk => by rw [partQ_len]; exact hl k (List.mem_cons_of_mem _ hk)
    rw [List.length_cons, Nat.mul_add, ← Nat.add_assoc]
    rw [show B + 15 * l.length + 15 * 1 = B + 15 + 15 * l.length by omega]
    exact z
theorem mets_num {es : List Bod} {t : Rat} (h : cmng es = some t) : (metsQ es).map (fun m => m.2.2) = leftsQ es := by
  unfold metsQ
  rw [h]
  show ((leftsQ es).map _).map _ = _
  rw [List.map_map]
  exact List.map_id _
theorem Com.part3 {B : Nat} {gs : List Bod} (h : Com B gs) (hw : ∀ b ∈ gs, 1 ≤ b.2.2 ∧ b.2.2 ≤ 3) {i : Nat} (hi : i + 1 < gs.length) : Com (B + 4) (partQ gs i) := by
  obtain ⟨D, d1, dB, al⟩ := h
  have ma : bodAt gs i ∈ gs := List.mem_of_getElem? (bodAt_get (by omega))
  have mb : bodAt gs (i + 1) ∈ gs := List.mem_of_getElem? (bodAt_get hi)
  obtain ⟨m, em⟩ : ∃ m : Nat, (bodAt gs i).2.2 = (m : Int) := ⟨(bodAt gs i).2.2.toNat, by have := hw _ ma; omega⟩
  obtain ⟨u, eu⟩ : ∃ u : Nat, (bodAt gs (i + 1)).2.2 = (u : Int) := ⟨(bodAt gs (i + 1)).2.2.toNat, by have := hw _ mb; omega⟩
  have wm := hw _ ma
  have wu := hw _ mb
  rw [em] at wm
  rw [eu] at wu
  have p : 2 ^ (B + 4) = 2 ^ B * 16 := Nat.pow_add ..
  have mix : ∀ (a b : Nat) (n n' : Int), 1 ≤ a → a ≤ 3 → 1 ≤ b → b ≤ 3 → n.natAbs < 2 ^ B → n'.natAbs < 2 ^ B → (((a : Int) - b) * n + 2 * b * n').natAbs < 2 ^ (B + 4) := fun a b n n' a1 a2 b1 b2 h1 h2 => by
    have z1 : (((a : Int) - b) * n).natAbs ≤ 3 * n.natAbs := by
      rw [Int.natAbs_mul]
      exact Nat.mul_le_mul_right _ (by omega)
    have z2 : (2 * (b : Int) * n').natAbs ≤ 6 * n'.natAbs := by
      rw [Int.natAbs_mul]
      exact Nat.mul_le_mul_right _ (by omega)
    have z3 := Int.natAbs_add_le (((a : Int) - b) * n) (2 * b * n')
    omega
  have val : ∀ (a b : Nat) (x y : Rat) (n n' : Int), 1 ≤ a → 1 ≤ b → x = (n : Rat) / (D : Rat) → y = (n' : Rat) / (D : Rat) → mixQ x y (a : Int) (b : Int) = ((((a : Int) - b) * n + 2 * b * n' : Int) : Rat) / ((D * (a + b) : Nat) : Rat) := fun a b x y n n' a1 b1 e1 e2 => by
    rw [mixQ_eq, e1, e2]
    have ab : ((a + b : Nat) : Rat) ≠ 0 := rat_ne (by omega)
    have D0 := rat_ne d1
    have c1 : ((D * (a + b) : Nat) : Rat) = (D : Rat) * ((a : Rat) + (b : Rat)) := by push_cast; rfl
    have c2 : ((a + b : Nat) : Rat) = (a : Rat) + (b : Rat) := by push_cast; rfl
    have c3 : (((a : Int)) : Rat) = (a : Rat) := rfl
    have c4 : (((b : Int)) : Rat) = (b : Rat) := rfl
    rw [c1, Rat.intCast_add, Rat.intCast_mul, Rat.intCast_mul, Rat.intCast_sub, Rat.intCast_mul, c3, c4]
    rw [c2] at ab
    have two : ((2 : Int) : Rat) = 2 := rfl
    rw [two]
    rw [Rat.div_def, Rat.div_def, Rat.div_def, Rat.div_def, Rat.div_def, inv_two D0 ab]
    have i1 := Rat.mul_inv_cancel _ ab
    have i2 := Rat.mul_inv_cancel _ D0
    grind
  refine ⟨D * (m + u), Nat.mul_pos d1 (by omega), ?_, fun c hc => ?_⟩
  · rw [p]
    exact Nat.lt_of_lt_of_le (Nat.mul_lt_mul_of_pos_right dB (by omega)) (Nat.mul_le_mul_left _ (by omega))
  · unfold partQ at hc
    obtain ⟨na, ka, ea1, ea2, ba1, ba2⟩ := al _ ma
    obtain ⟨nb, kb, eb1, eb2, bb1, bb2⟩ := al _ mb
    rcases mem_set hc with hc | rfl
    · rcases mem_set hc with hc | rfl
      · obtain ⟨n, k, e1, e2, b1, b2⟩ := al c hc
        have D0 := rat_ne d1
        have s0 : ((m + u : Nat) : Rat) ≠ 0 := rat_ne (by omega)
        have up : ∀ n : Int, (n : Rat) / (D : Rat) = ((n * ((m + u : Nat) : Int) : Int) : Rat) / ((D * (m + u) : Nat) : Rat) := fun n => by
          have c1 : ((D * (m + u) : Nat) : Rat) = (D : Rat) * ((m + u : Nat) : Rat) := by rw [Rat.natCast_mul]
          have c2 : (((m + u : Nat) : Int) : Rat) = ((m + u : Nat) : Rat) := rfl
          rw [c1, Rat.intCast_mul, c2]
          rw [Rat.div_def, Rat.div_def, inv_two D0 s0]
          have i1 := Rat.mul_inv_cancel _ s0
          grind
        have bd : ∀ n : Int, n.natAbs < 2 ^ B → (n * ((m + u : Nat) : Int)).natAbs < 2 ^ (B + 4) := fun n h => by
          rw [Int.natAbs_mul, Int.natAbs_natCast, p]
          exact Nat.lt_of_lt_of_le (Nat.mul_lt_mul_of_pos_right h (by omega)) (Nat.mul_le_mul_left _ (by omega))
        exact ⟨_, _, by rw [e1]; exact up n, by rw [e2]; exact up k, bd n b1, bd k b2⟩
      · refine ⟨((m : Int) - u) * na + 2 * u * nb, ((m : Int) - u) * ka + 2 * u * kb, ?_, ?_, mix m u na nb (by omega) (by omega) (by omega) (by omega) ba1 bb1, mix m u ka kb (by omega) (by omega) (by omega) (by omega) ba2 bb2⟩
        · show mixQ _ _ (bodAt gs i).2.2 (bodAt gs (i + 1)).2.2 = _
          rw [em, eu]
          exact val m u _ _ na nb (by omega) (by omega) ea1 eb1
        · show mixQ _ _ (bodAt gs i).2.2 (bodAt gs (i + 1)).2.2 = _
          rw [em, eu]
          exact val m u _ _ ka kb (by omega) (by omega) ea2 eb2
    · have cm : m + u = u + m := Nat.add_comm ..
      rw [cm]
      refine ⟨((u : Int) - m) * nb + 2 * m * na, ((u : Int) - m) * kb + 2 * m * ka, ?_, ?_, mix u m nb na (by omega) (by omega) (by omega) (by omega) bb1 ba1, mix u m kb ka (by omega) (by omega) (by omega) (by omega) bb2 ba2⟩
      · show mixQ _ _ (bodAt gs (i + 1)).2.2 (bodAt gs i).2.2 = _
        rw [em, eu]
        exact val u m _ _ nb na (by omega) (by omega) eb1 ea1
      · show mixQ _ _ (bodAt gs (i + 1)).2.2 (bodAt gs i).2.2 = _
        rw [em, eu]
        exact val u m _ _ kb ka (by omega) (by omega) eb2 ea2
theorem com_fold3 : ∀ (l : List Nat) {B : Nat} {gs : List Bod}, Com B gs → (∀ p ∈ gs, 1 ≤ p.2.2 ∧ p.2.2 ≤ 3) → (∀ i ∈ l, i + 1 < gs.length) → Com (B + 4 * l.length) (l.foldl partQ gs)
  | [], _, _, h, _, _ => h
  | i :: l, B, gs, h, hw, hl => by
    have hi := hl i (List.mem_cons_self ..)
    have z := com_fold3 l (h.part3 hw hi) (part_P (P := fun z => 1 ≤ z ∧ z ≤ 3) hw hi) fun k hk => by rw [partQ_len]; exact hl k (List.mem_cons_of_mem _ hk)
    rw [List.length_cons, Nat.mul_add, ← Nat.add_assoc]
    rw [show B + 4 * l.length + 4 * 1 = B + 4 + 4 * l.length by omega]
    exact z
noncomputable def FitN (N : Nat) : Nat → List Bod → Prop
  | 0, gs => Com N gs
  | m + 1, gs => Com N gs ∧ ∀ t, cmng gs = some t → ¬ crwQ gs → FitN N m (onQ gs)
theorem FitN.com {N m : Nat} {gs : List Bod} (h : FitN N m gs) : Com N gs := by
  cases m with
  | zero => exact h
  | succ m => exact h.1
theorem lefts_less (gs : List Bod) : (leftsQ gs).length ≤ gs.length - 1 := by
  unfold leftsQ
  split
  · exact Nat.zero_le _
  · refine Nat.le_trans (List.length_filter_le _ _) ?_
    rw [List.length_range, jnts_len]
    exact Nat.le_refl _
noncomputable def sftB (s : Rat) (b : Bod) : Bod := (b.1 + b.2.1 * s, b.2.1, b.2.2)
section
variable {s : Rat}
theorem jnt_sft (a b : Bod) : jntQ (sftB s a) (sftB s b) = (jntQ a b).map (· - s) := by
  unfold jntQ sftB
  dsimp only
  by_cases h : a.2.1 - b.2.1 ≤ 0
  · rw [if_pos h, if_pos h]
    rfl
  · rw [if_neg h, if_neg h]
    show some _ = some _
    congr 1
    have i := Rat.mul_inv_cancel (a.2.1 - b.2.1) (by grind)
    rw [Rat.div_def, Rat.div_def]
    grind
theorem jnts_sft : ∀ gs : List Bod, jnts (gs.map (sftB s)) = (jnts gs).map (Option.map (· - s))
  | [] => rfl
  | [_] => rfl
  | p :: q :: r => by
    have ih := jnts_sft (q :: r)
    show jntQ (sftB s p) (sftB s q) :: jnts ((q :: r).map (sftB s)) = _
    rw [jnt_sft, ih]
    rfl
theorem less1_sft (o : Option Rat) (m : Rat) : less1 (o.map (· - s)) (m - s) = (less1 o m).map (· - s) := by
  cases o with
  | none => rfl
  | some f =>
    show (if m - s < f - s then some (m - s) else some (f - s)) = _
    by_cases h : m < f
    · have e : less1 (some f) m = some m := if_pos h
      rw [if_pos (by grind), e]
      rfl
    · have e : less1 (some f) m = some f := if_neg h
      rw [if_neg (by grind), e]
      rfl
theorem fold_sft : ∀ (l : List Rat) (o : Option Rat), (l.map (· - s)).foldl less1 (o.map (· - s)) = (l.foldl less1 o).map (· - s)
  | [], _ => rfl
  | m :: l, o => by
    rw [List.map_cons, List.foldl_cons, List.foldl_cons, less1_sft, fold_sft l]
theorem fm_sft : ∀ l : List (Option Rat), (l.map (Option.map (· - s))).filterMap id = (l.filterMap id).map (· - s)
  | [] => rfl
  | none :: l => by
    show (l.map (Option.map (· - s))).filterMap id = _
    rw [fm_sft l]
    rfl
  | some q :: l => by
    show (q - s) :: (l.map (Option.map (· - s))).filterMap id = _
    rw [fm_sft l]
    rfl
theorem cmng_sft (gs : List Bod) : cmng (gs.map (sftB s)) = (cmng gs).map (· - s) := by
  unfold cmng leastQ
  rw [jnts_sft, fm_sft]
  exact fold_sft _ none
theorem bod_sft (gs : List Bod) {i : Nat} (h : i < gs.length) : bodAt (gs.map (sftB s)) i = sftB s (bodAt gs i) := by
  refine bodAt_of ?_
  rw [List.getElem?_map, bodAt_get h]
  rfl
theorem beh_sft (p q : Bod) : behQ (sftB s p) (sftB s q) = sftB s (behQ p q) := by
  unfold behQ sftB
  dsimp only
  rw [mixQ_eq, mixQ_eq, mixQ_eq]
  congr 1
  grind
end
theorem lefts_meet {gs : List Bod} {now t : Rat} (o : OrdT gs now) (h : cmng gs = some t) : leftsQ gs = (List.range (gs.length - 1)).filter fun k => decide (plcQ (bodAt gs k) t = plcQ (bodAt gs (k + 1)) t) := by
  rw [lefts_is, if_neg (by rw [h]; exact fun z => (nomatch z)), jnts_len]
  refine List.filter_congr fun k hk => ?_
  have lt : k + 1 < gs.length := by have := List.mem_range.mp hk; omega
  refine decide_eq_decide.mpr ?_
  rw [jnts_at lt, h, ((ord_till o h).2.2 k lt).2]
  exact ⟨fun z => by injection z, fun z => by rw [z]⟩
theorem no_alike {gs : List Bod} {now : Rat} (o : OrdT gs now) {k : Nat} (hk : k + 1 < gs.length) : ¬ alikeQ (bodAt gs k) (bodAt gs (k + 1)) := fun z => by
  obtain ⟨h1, h2⟩ := z
  have := o k hk
  unfold plcQ at this
  rw [h1, h2] at this
  grind
theorem crw_two {gs : List Bod} {now : Rat} (o : OrdT gs now) : crwQ gs ↔ ∃ k ∈ leftsQ gs, k + 1 ∈ leftsQ gs := by
  have jl := jnts_len gs
  have tog : ∀ {i : Nat}, i + 1 < gs.length → cmng gs ≠ none → (togQ gs i ↔ i ∈ leftsQ gs) := fun {i} hi hn => by
    unfold togQ
    rw [lefts_is, if_neg hn, List.mem_filter, List.mem_range, jl]
    constructor
    · rintro (z | z)
      · exact ⟨by omega, decide_eq_true z⟩
      · exact absurd z (no_alike o hi)
    · exact fun z => .inl (of_decide_eq_true z.2)
  constructor
  · rintro ⟨i, hi, h⟩
    have lt := (lefts_lt hi).1
    have hn : cmng gs ≠ none := fun z => by rw [lefts_is, if_pos z] at hi; cases hi
    rcases h with ⟨h1, h2⟩ | ⟨h1, h2⟩
    · refine ⟨i - 1, (tog (by omega) hn).mp h2, ?_⟩
      rw [show i - 1 + 1 = i by omega]
      exact hi
    · exact ⟨i, hi, (tog (by omega) hn).mp h2⟩
  · rintro ⟨k, hk, h⟩
    have lt := (lefts_lt h).1
    have hn : cmng gs ≠ none := fun z => by rw [lefts_is, if_pos z] at hk; cases hk
    exact ⟨k, hk, .inr ⟨by omega, (tog lt hn).mpr h⟩⟩
variable {X : Cx} {pos : Pos}
noncomputable def tPar3 (i j k : Nat) (ta : TA) : TS := fun D σ H => ta σ H fun vs H1 => ∃ v w u, vs = [v, w, u] ∧ D.nx (((σ.set i (some v)).set j (some w)).set k (some u)) H1
theorem ps_par3 {i j k : Nat} {x y z : Str} {a b c : Expr} {ta : TA} {px py pz pt : Pos} {kt k2 pt2} (hc : X.calm = true) (hN : X.N.Nodup) (hi : X.N[i]? = some x) (hj : X.N[j]? = some y) (hk : X.N[k]? = some z) (hij : i ≠ j) (hik : i ≠ k) (hjk : j ≠ k)
    (hx : X.env.scope.names.lookup x = some .local) (hy : X.env.scope.names.lookup y = some .local) (hz : X.env.scope.names.lookup z = some .local) (ha : PA X [a, b, c] ta)
    (sw : swappedStores [.Tuple [.Name x px, .Name y py, .Name z pz] kt pt] (.Tuple [a, b, c] k2 pt2) X.env = pure (some [x, y, z]))
    (ss : swapsWithSole [.Tuple [.Name x px, .Name y py, .Name z pz] kt pt] (.Tuple [a, b, c] k2 pt2) pos.line X.env = pure false := by rfl) :
    PS X (.Assign [.Tuple [.Name x px, .Name y py, .Name z pz] kt pt] (.Tuple [a, b, c] k2 pt2) pos) (tPar3 i j k ta) := by
  intro pins s σ H D I h
  rw [exec_Assign_arm]
  refine wpAny_bind (wpAny_standAt ?_)
  rw [ss]
  refine wpAny_bind (wpAny_pure ?_)
  rw [if_neg (by decide)]
  refine wpAny_bind (Tuple_ (thn (ha _ pins s σ H _ I h) fun us s1 zz => ?_))
  obtain ⟨vs, H1, I1, r1, q1⟩ := zz
  obtain ⟨v, w, u, e1, q1⟩ := q1
  subst e1
  obtain ⟨u1, u2, u3, rfl, rv, rw', ru⟩ : ∃ u1 u2 u3, us = [u1, u2, u3] ∧ RelV v u1 ∧ RelV w u2 ∧ RelV u u3 := by
    cases r1 with
    | cons p q => cases q with
      | cons p' q' => cases q' with
        | cons p2 q2 =>
          cases q2
          exact ⟨_, _, _, rfl, p, p', p2⟩
  refine wpAny_newObj_type ?_ (by show 3 ≤ sizeLine; decide)
  have I2 : Inv X pins σ H1 { s1 with heap := s1.heap.push { cls := .type "tuple", data := .seq [u1, u2, u3].toArray } } := I1.kept (t' := s1.toks) fun b o e => Heap.get?_push_of_some _ e
  rw [sw]
  refine wpAny_bind (wpAny_pure ?_)
  show wpAny (model X.prog X.w) X.A (do rule "assign.swapped-stores"; let its ← unpackItems (.ref s1.heap.objs.size) 3 none; assignInOrder [fun v => bindName X.env z v, fun v => bindName X.env y v, fun v => bindName X.env x v] its.reverse; pure Flow.next) _ _ _
  refine wpAny_bind (wpAny_rule (wpAny_bind (unpackItems_tuple (items := #[u1, u2, u3]) (I.ok.hd hc) (IsTup.new s1.heap _) fun h' hx' => ?_)))
  have I3 := I2.kept (h' := h') (t' := s1.toks) fun b o e => hx' b o (Nat.ne_of_lt (Heap.lt_size e)) e
  show wpAny _ _ (assignInOrder [fun v => bindName X.env z v, fun v => bindName X.env y v, fun v => bindName X.env x v] [u3, u2, u1] >>= fun _ => pure Flow.next) _ _ _
  refine wpAny_bind (assignInOrder_cons (wpAny_bindName (store_ok I3 hN hk (.inl hz) ru (fun s2 I4 => ?_) (.inr hz))))
  refine assignInOrder_cons (wpAny_bindName (store_ok I4 hN hj (.inl hy) rw' (fun s3 I5 => ?_) (.inr hy)))
  refine assignInOrder_cons (wpAny_bindName (store_ok I5 hN hi (.inl hx) rv (fun s4 I6 => assignInOrder_nil (wpAny_pure ?_)) (.inr hx)))
  rw [List.set_comm _ _ (Ne.symm hij), List.set_comm _ _ (Ne.symm hik), List.set_comm _ _ (Ne.symm hjk)] at I6
  exact ⟨_, H1, I6, q1⟩
end Kw
namespace Kw
open PySem PySem.Spec PyProof.Rows L2
theorem sft_zero (gs : List Bod) : gs.map (sftB 0) = gs := by
  have e : ∀ b ∈ gs, sftB 0 b = id b := fun b _ => by
    show (b.1 + b.2.1 * 0, b.2.1, b.2.2) = b
    rw [show b.1 + b.2.1 * 0 = b.1 by grind]
  rw [List.map_congr_left e, List.map_id]
theorem lefts_asc (gs : List Bod) : (leftsQ gs).Pairwise (· < ·) := by
  rw [lefts_is]
  split
  · exact List.Pairwise.nil
  · exact List.Pairwise.filter _ List.pairwise_lt_range
theorem lefts_same {gs : List Bod} {now t : Rat} (o : OrdT gs now) (h : cmng gs = some t) {i : Nat} (hi : i ∈ leftsQ gs) : plcQ (bodAt gs i) t = plcQ (bodAt gs (i + 1)) t := by
  obtain ⟨l1, e1⟩ := (mem_lefts h).mp hi
  exact (((ord_till o h).2.2 i l1).2).mpr e1
noncomputable def FitS : Nat → List Bod → Prop
  | 0, gs => Com 1110 gs
  | m + 1, gs => Com 930 gs ∧ ∀ t, cmng gs = some t → ¬ crwQ gs → FitS m (onQ gs)
theorem FitS.com {m : Nat} {gs : List Bod} (h : FitS m gs) : Com 1110 gs := by
  cases m with
  | zero => exact h
  | succ m => exact h.1.mono (by decide)
theorem fits_small : ∀ (m : Nat) {B : Nat} {gs : List Bod}, Com B gs → (∀ p ∈ gs, 1 ≤ p.2.2 ∧ p.2.2 ≤ 3) → gs.length ≤ 4 → B + 12 * m ≤ 930 → FitS m gs
  | 0, _, _, h, _, _, l => h.mono (by omega)
  | m + 1, B, gs, h, hw, l4, l => by
    refine ⟨h.mono (by omega), fun t ht hc => ?_⟩
    have y := com_fold3 (leftsQ gs) h hw fun i hi => (lefts_lt hi).1
    have few := lefts_less gs
    have w := fold_P (P := fun z => 1 ≤ z ∧ z ≤ 3) (leftsQ gs) hw fun i hi => (lefts_lt hi).1
    exact fits_small m (B := B + 12) (y.mono (by omega)) w (by rw [on_len]; exact l4) (by omega)
section
variable {K : PySem.W.Frag} {H : Hp}
end
section
variable {t : Rat} {gs : List Bod} {now : Rat} {n : Nat} {ms : List (Rat × Rat × Nat)} {b : Bool} {es : List Bod} {last : Rat}
end
section
variable {gs : List Bod} {now : Rat} {n : Nat} {cs : List Rat} {b : Bool}
end
section
variable {X : Cx}
end
section
variable {K : PySem.W.Frag} {H H' : Hp} {v : V} {m : Pm} {as : List Addr}
end
section
variable {t : Rat} {gs : List Bod} {now : Rat} {n : Nat} {ms : List (Rat × Rat × Nat)} {b : Bool} {es : List Bod} {last : Rat}
end
section
variable {gs : List Bod} {now : Rat} {n : Nat} {wd : String} {ms : List (Rat × Rat × Nat)} {es : List Bod} {last : Rat}
end
theorem lefts_two {gs : List Bod} (c : ¬ crwQ gs) : ∀ k x, (leftsQ gs)[k]? = some x → 2 * k ≤ x
  | 0, _, _ => by omega
  | k + 1, x, h => by
    obtain ⟨hl, e⟩ := List.getElem?_eq_some_iff.mp h
    have h0 : (leftsQ gs)[k]? = some (leftsQ gs)[k] := List.getElem?_eq_getElem (by omega)
    have ih := lefts_two c k _ h0
    have lt := List.pairwise_iff_getElem.mp (lefts_asc gs) k (k + 1) (by omega) hl (by omega)
    have ap := lefts_apart c (List.mem_of_getElem? h0)
    have ne : x ≠ (leftsQ gs)[k] + 1 := fun z => ap (by rw [← z]; exact List.mem_of_getElem? h)
    rw [e] at lt
    omega
section
variable {gs : List Bod} {now : Rat} {n : Nat} {wd : String} {ms : List (Rat × Rat × Nat)} {es : List Bod} {last : Rat}
end
section
variable {t : Rat}
end
theorem mix_like {x y : Rat} {m : Int} (m1 : 1 ≤ m) : mixQ x y m m = y := by
  rw [mixQ_eq]
  have s : ((m : Rat) + (m : Rat)) ≠ 0 := by
    have z : ((m + m : Int) : Rat) ≠ ((0 : Int) : Rat) := fun z => by have := Rat.intCast_inj.mp z; omega
    rw [Rat.intCast_add] at z
    exact z
  have i := Rat.mul_inv_cancel _ s
  rw [Rat.div_def, Rat.div_def]
  grind
theorem beh_like {a b : Bod} (h : a.2.2 = b.2.2) (m1 : 1 ≤ a.2.2) : behQ a b = b := by
  unfold behQ
  rw [← h, mix_like m1, mix_like m1]
  show (b.1, b.2.1, a.2.2) = b
  rw [h]
section
variable {α : Type}
end
section
variable {K : PySem.W.Frag} {H H' : Hp} {p b c : Addr} {x y : Rat} {v : V} {ys : List V}
end
section
variable {X : Cx}
end
section
variable {K : PySem.W.Frag} {H H' : Hp} {b c : Addr} {z : V} {k l : Bx} {ys : List V}
end
end Kw
namespace Kw
end Kw
namespace Kw
open PySem PySem.Spec PyProof.Rows L2
section
variable {X : Cx} {es1 es2 es3 es4 es5 es6 : List Expr} {x1 x2 x3 x4 x5 x6 : Nat} {q1 q2 q3 q4 q5 q6 q7 pos : Pos} {t1 t2 t3 t4 t5 t6 t7 : TE}
end
section
variable {K : PySem.W.Frag} {H H' : Hp} {v : V} {c : Clm} {as : List Addr} {n m : Nat}
end
section
variable {K : PySem.W.Frag} {H H' : Hp} {bs : List Bod} {kvs : List (List Key × V)} {as : List Addr}
end
section
variable {K : PySem.W.Frag} {H H' : Hp} {v : V} {m : Rat × Rat × Nat × Nat} {as : List Addr}
end
section
variable {K : PySem.W.Frag} {H H' : Hp} {v : V} {c : Clm} {as : List Addr}
end
section
variable {s u : List Bod} {t p : Rat}
end
section
variable {X : Cx}
end
section
variable {K : PySem.W.Frag} {H H' : Hp} {v : V} {c : Int × Rat} {as : List Addr} {n : Nat}
end
section
variable {X : Cx}
end
section
variable {K : PySem.W.Frag} {H H' : Hp} {v : V} {c : Clm} {as : List Addr}
end
section
variable {K : PySem.W.Frag} {H H' : Hp} {v : V} {m : Rat × Nat × Nat} {as : List Addr}
end
section
variable {α β : Type} (f : α → β)
end
section
variable {sv : Rat}
end
section
variable {K : PySem.W.Frag} {H H' : Hp} {C p : Addr} {gs : List Bod} {now : Rat} {n : Nat} {g j : Addr} {sv : Rat}
end
section
variable {sv s : Rat}
end
section
variable {idx : List Nat} {tt : TT} {te : TE} {σ : L2.St} {H : Hp} {Q : VK}
end
section
variable {sv : Rat}
end
theorem lefts_few24 {gs : List Bod} (h : gs.length ≤ 24) : (leftsQ gs).length ≤ 24 := by
  unfold leftsQ
  split
  · exact Nat.zero_le _
  · exact Nat.le_trans (List.length_filter_le _ _) (by rw [List.length_range, jnts_len]; omega)
theorem lefts_half {gs : List Bod} (c : ¬ crwQ gs) {N : Nat} (l : gs.length ≤ 2 * N) : (leftsQ gs).length ≤ N := by
  rcases Nat.lt_or_ge N (leftsQ gs).length with z | z
  · exfalso
    have h := lefts_two c N _ (List.getElem?_eq_getElem z)
    have lt := (lefts_lt (List.mem_of_getElem? (List.getElem?_eq_getElem z))).1
    omega
  · exact z
theorem com_onN {B N : Nat} {gs : List Bod} (cm : Com B gs) (w : ∀ p ∈ gs, 1 ≤ p.2.2 ∧ p.2.2 ≤ 10000) (c : ¬ crwQ gs) (l : gs.length ≤ 2 * N) : Com (B + 15 * N) (onQ gs) := by
  have y := com_fold (leftsQ gs) cm w fun i hi => (lefts_lt hi).1
  have few := lefts_half c l
  exact y.mono (by have := Nat.mul_le_mul_left 15 few; omega)
theorem run_fewN {N : Nat} {gs : List Bod} {now : Rat} {n : Nat} {wd : String} {ms : List (Rat × Rat × Nat)} {es : List Bod} {last : Rat} (r : RunQ gs now n wd ms es last) : gs.length ≤ 2 * N → ms.length ≤ N * n := by
  induction r with
  | still => exact fun _ => Nat.zero_le _
  | more => exact fun _ => Nat.zero_le _
  | crowd => exact fun _ => Nat.zero_le _
  | @step gs now t n wd ms es last h c r ih =>
    intro l
    have z := ih (by rw [on_len]; exact l)
    have ln := congrArg List.length (mets_num h)
    rw [List.length_map] at ln
    have few := lefts_half c l
    rw [List.length_append, Nat.mul_add]
    omega
section
variable {es : List Bod} {N : Nat}
theorem sym_near (h : mirL es = es) (l : es.length = 2 * N) (n1 : 1 ≤ N) : bodAt es (N - 1) = mir1 (bodAt es N) := by
  have z := bod_mir es (k := N - 1) (by omega)
  rw [h, l, show 2 * N - 1 - (N - 1) = N by omega] at z
  exact z
theorem bod_drop {k : Nat} : bodAt (es.drop N) k = bodAt es (N + k) := by
  unfold bodAt
  rw [List.getD_eq_getElem?_getD, List.getD_eq_getElem?_getD, List.getElem?_drop]
end
noncomputable def WTold (K : PySem.W.Frag) (H : Hp) (N : Nat) (r : Addr) (wd : String) (ms : List (Rat × Rat × Nat)) (bs : List Bod) (last : Rat) : Prop := ∃ (rr rb rn : Addr) (zs ws : List V), SqT K H r [.str (Str.ofString wd), .ref rr, .ref rb, .ref rn] ∧ H rr = some (.lst zs) ∧ Al2 (HfQ K H N) zs (halfQ N ms) ∧ H rb = some (.lst ws) ∧ Al2 (BdQ K H 5990) ws (bs.drop N) ∧ FQ K H rn last ∧ FB 1990 last ∧ rr ≠ rb
theorem wtold_dp {K : PySem.W.Frag} {H : Hp} {N : Nat} {r : Addr} {wd : String} {ms : List (Rat × Rat × Nat)} {bs : List Bod} {last : Rat} (h : WTold K H N r wd ms bs last) : Dp K H (.ref r) (wlD N wd ms bs last) := by
  obtain ⟨rr, rb, rn, zs, ws, h1, h2, h3, h4, h5, h6, _⟩ := h
  exact .tup h1 (.cons (.str _) (.cons (.lst (SqL.of h2) (hfs_dp h3)) (.cons (.lst (SqL.of h4) (bds_dp h5)) (.cons (FQ.dp h6) .nil))))
theorem half_app {N : Nat} (a b : List (Rat × Rat × Nat)) : halfQ N (a ++ b) = halfQ N a ++ halfQ N b := List.filter_append ..
section
variable {W : Int} {gs es : List Bod} {now last : Rat} {n : Nat} {wd : String} {ms : List (Rat × Rat × Nat)}
end
section
variable {W : Int} {bs es : List Bod} {last : Rat} {n : Nat} {wd : String} {ms : List (Rat × Rat × Nat)}
end
section
variable {X : Cx} {a b : Expr} {rest : List Expr} {pos : Pos} {ta tb : TE}
end
theorem jnt_mirs (a c : Bod) : jntQ (mir1 c) (mir1 a) = jntQ a c := by
  unfold jntQ mir1
  dsimp only
  have e : -c.2.1 - -a.2.1 = a.2.1 - c.2.1 := by grind
  have e2 : -a.1 - -c.1 = c.1 - a.1 := by grind
  rw [e, e2]
theorem jnt_wall {a : Bod} : jntQ (mir1 a) a = none ↔ 0 ≤ a.2.1 := by
  unfold jntQ mir1
  dsimp only
  by_cases c : -a.2.1 - a.2.1 ≤ 0
  · rw [if_pos c]
    exact ⟨fun _ => by grind, fun _ => rfl⟩
  · rw [if_neg c]
    exact ⟨(fun h => nomatch h), fun h => absurd (show -a.2.1 - a.2.1 ≤ 0 by grind) c⟩
theorem least_set {l l' : List Rat} (h : ∀ x, x ∈ l ↔ x ∈ l') : leastQ l = leastQ l' := by
  cases q : leastQ l with
  | none =>
    have e := least_none.mp q
    have e' : l' = [] := by
      cases l' with
      | nil => rfl
      | cons x r => exact absurd ((h x).mpr (List.mem_cons_self ..)) (by rw [e]; exact fun z => nomatch z)
    rw [e']
    rfl
  | some m =>
    obtain ⟨m1, m2⟩ := least_some q
    cases q' : leastQ l' with
    | none =>
      have e := least_none.mp q'
      have z := (h m).mp m1
      rw [e] at z
      cases z
    | some m' =>
      obtain ⟨m3, m4⟩ := least_some q'
      have z1 := m2 m' ((h m').mpr m3)
      have z2 := m4 m ((h m).mp m1)
      congr 1
      grind
noncomputable def wallJ : List Bod → Option Rat
  | [] => none
  | a :: _ => jntQ (mir1 a) a
noncomputable def lstW (hs : List Bod) (i : Nat) : Option Rat := (((jnts hs).take i).filterMap id).foldl less1 (wallJ hs)
theorem lstW_snoc {hs : List Bod} {i : Nat} {a b : Bod} (ha : hs[i]? = some a) (hb : hs[i + 1]? = some b) : (jntQ a b = none → lstW hs (i + 1) = lstW hs i) ∧ ∀ q, jntQ a b = some q → lstW hs (i + 1) = less1 (lstW hs i) q := by
  have z := jnts_get ha hb
  unfold lstW
  rw [take_snoc z, List.filterMap_append, List.foldl_append]
  exact ⟨fun h => by rw [h]; rfl, fun q h => by rw [h]; rfl⟩
theorem mem_jnts {gs : List Bod} {q : Rat} : q ∈ (jnts gs).filterMap id ↔ ∃ k, k + 1 < gs.length ∧ jntQ (bodAt gs k) (bodAt gs (k + 1)) = some q := by
  rw [mem_jn]
  constructor
  · intro h
    obtain ⟨k, hk, e⟩ := List.mem_iff_getElem.mp h
    have lk : k + 1 < gs.length := by rw [jnts_len] at hk; omega
    refine ⟨k, lk, ?_⟩
    have z := jnts_at lk
    rw [List.getElem?_eq_getElem hk, e] at z
    exact (Option.some.inj z).symm
  · rintro ⟨k, hk, e⟩
    have z := jnts_at hk
    rw [e] at z
    exact List.mem_of_getElem? z
section
variable {gs : List Bod} {N : Nat}
theorem sym_at (h : mirL gs = gs) (l : gs.length = 2 * N) {k : Nat} (hk : k < 2 * N) : bodAt gs k = mir1 (bodAt gs (2 * N - 1 - k)) := by
  have z := bod_mir gs (k := k) (by omega)
  rw [h, l] at z
  exact z
theorem sym_jnt (h : mirL gs = gs) (l : gs.length = 2 * N) {k : Nat} (hk : k + 1 < 2 * N) : jntQ (bodAt gs k) (bodAt gs (k + 1)) = jntQ (bodAt gs (2 * N - 2 - k)) (bodAt gs (2 * N - 2 - k + 1)) := by
  rw [sym_at h l (show k < 2 * N by omega), sym_at h l hk, jnt_mirs, show 2 * N - 1 - (k + 1) = 2 * N - 2 - k by omega, show 2 * N - 1 - k = 2 * N - 2 - k + 1 by omega]
theorem wallJ_is (h : mirL gs = gs) (l : gs.length = 2 * N) (n1 : 1 ≤ N) : wallJ (gs.drop N) = jntQ (bodAt gs (N - 1)) (bodAt gs (N - 1 + 1)) := by
  have d : gs.drop N = bodAt gs N :: gs.drop (N + 1) := by
    rw [bodAt_of (List.getElem?_eq_getElem (show N < gs.length by omega))]
    exact List.drop_eq_getElem_cons (by omega)
  rw [d, show N - 1 + 1 = N by omega, sym_near h l n1]
  rfl
theorem cmngW (h : mirL gs = gs) (l : gs.length = 2 * N) (n1 : 1 ≤ N) : lstW (gs.drop N) (N - 1) = cmng gs := by
  have e1 : lstW (gs.drop N) (N - 1) = leastQ ((wallJ (gs.drop N)).toList ++ (jnts (gs.drop N)).filterMap id) := by
    unfold lstW leastQ
    rw [List.take_of_length_le (by rw [jnts_len, List.length_drop]; omega), List.foldl_append]
    congr 1
    cases wallJ (gs.drop N) with
    | none => rfl
    | some q => rfl
  rw [e1]
  unfold cmng
  refine least_set fun q => ?_
  rw [List.mem_append, mem_jnts, mem_jnts, Option.mem_toList, wallJ_is h l n1]
  constructor
  · rintro (z | ⟨k, hk, e⟩)
    · exact ⟨N - 1, by omega, z⟩
    · rw [List.length_drop] at hk
      rw [bod_drop, bod_drop] at e
      exact ⟨N + k, by omega, e⟩
  · rintro ⟨k, hk, e⟩
    have right : ∀ j, N ≤ j → j + 1 < gs.length → jntQ (bodAt gs j) (bodAt gs (j + 1)) = some q → ∃ k, k + 1 < (gs.drop N).length ∧ jntQ (bodAt (gs.drop N) k) (bodAt (gs.drop N) (k + 1)) = some q := fun j hj1 hj2 e => by
      refine ⟨j - N, by rw [List.length_drop]; omega, ?_⟩
      rw [bod_drop, bod_drop, show N + (j - N) = j by omega, show N + (j - N + 1) = j + 1 by omega]
      exact e
    rcases Nat.lt_trichotomy (k + 1) N with c | c | c
    · rw [sym_jnt h l (by omega)] at e
      exact .inr (right (2 * N - 2 - k) (by omega) (by omega) e)
    · rw [show k = N - 1 by omega] at e
      exact .inl e
    · exact .inr (right k (by omega) hk e)
theorem sym_sft (h : mirL gs = gs) (s : Rat) : mirL (gs.map (sftB s)) = gs.map (sftB s) := by
  have e : mirL (gs.map (sftB s)) = (mirL gs).map (sftB s) := by
    unfold mirL
    rw [← List.map_reverse, List.map_map, List.map_map]
    refine List.map_congr_left fun b _ => ?_
    show (-(b.1 + b.2.1 * s), -b.2.1, b.2.2) = (-b.1 + -b.2.1 * s, -b.2.1, b.2.2)
    rw [show -(b.1 + b.2.1 * s) = -b.1 + -b.2.1 * s by grind]
  rw [e, h]
noncomputable def nW (N : Nat) (gs : List Bod) : List Nat := (List.range N).filter fun k => decide (N - 1 + k ∈ leftsQ gs)
theorem mem_nW {k : Nat} : k ∈ nW N gs ↔ k < N ∧ N - 1 + k ∈ leftsQ gs := by
  unfold nW
  rw [List.mem_filter, List.mem_range, decide_eq_true_eq]
theorem lefts_sym (h : mirL gs = gs) (l : gs.length = 2 * N) {t : Rat} (ct : cmng gs = some t) {i : Nat} (hi : i ∈ leftsQ gs) : 2 * N - 2 - i ∈ leftsQ gs := by
  obtain ⟨l1, e1⟩ := (mem_lefts ct).mp hi
  refine (mem_lefts ct).mpr ⟨by omega, ?_⟩
  rw [sym_jnt h l (by omega)] at e1
  exact e1
theorem crwW {now t : Rat} (o : OrdT gs now) (h : mirL gs = gs) (l : gs.length = 2 * N) (n1 : 1 ≤ N) (ct : cmng gs = some t) : crwQ gs ↔ ∃ k ∈ nW N gs, k + 1 ∈ nW N gs := by
  rw [crw_two o]
  constructor
  · rintro ⟨k, h1, h2⟩
    have b2 := (lefts_lt h2).1
    by_cases c : N ≤ k + 1
    · refine ⟨k + 1 - N, mem_nW.mpr ⟨by omega, ?_⟩, mem_nW.mpr ⟨by omega, ?_⟩⟩
      · rw [show N - 1 + (k + 1 - N) = k by omega]
        exact h1
      · rw [show N - 1 + (k + 1 - N + 1) = k + 1 by omega]
        exact h2
    · have s1 := lefts_sym h l ct h1
      have s2 := lefts_sym h l ct h2
      refine ⟨N - 2 - k, mem_nW.mpr ⟨by omega, ?_⟩, mem_nW.mpr ⟨by omega, ?_⟩⟩
      · rw [show N - 1 + (N - 2 - k) = 2 * N - 2 - (k + 1) by omega]
        exact s2
      · rw [show N - 1 + (N - 2 - k + 1) = 2 * N - 2 - k by omega]
        exact s1
  · rintro ⟨k, h1, h2⟩
    exact ⟨N - 1 + k, (mem_nW.mp h1).2, (mem_nW.mp h2).2⟩
theorem halfW {now t : Rat} (o : OrdT gs now) (l : gs.length = 2 * N) (n1 : 1 ≤ N) (ct : cmng gs = some t) : halfQ N (metsQ gs) = (nW N gs).map fun k => (t, plcQ (bodAt gs (N - 1 + k)) t, N - 1 + k) := by
  have ml : metsQ gs = (leftsQ gs).map fun i => (t, plcQ (bodAt gs i) t, i) := by
    unfold metsQ
    rw [ct]
  have lm := lefts_meet o ct
  unfold halfQ
  rw [ml, List.filter_map]
  have fl : (leftsQ gs).filter ((fun m : Rat × Rat × Nat => decide (N ≤ m.2.2 + 1)) ∘ fun i => (t, plcQ (bodAt gs i) t, i)) = (nW N gs).map fun k => N - 1 + k := by
    unfold nW
    have e : ∀ i, i < gs.length - 1 → (decide (i ∈ leftsQ gs) = decide (plcQ (bodAt gs i) t = plcQ (bodAt gs (i + 1)) t)) := fun i hi => by
      rw [lm]
      refine decide_eq_decide.mpr ?_
      rw [List.mem_filter, List.mem_range, decide_eq_true_eq]
      exact ⟨fun z => z.2, fun z => ⟨hi, z⟩⟩
    conv => lhs; rw [lm]
    rw [List.filter_filter, show gs.length - 1 = (N - 1) + N by omega, List.range_add, List.filter_append]
    have f0 : (List.range (N - 1)).filter (fun a => ((fun m : Rat × Rat × Nat => decide (N ≤ m.2.2 + 1)) ∘ fun i => (t, plcQ (bodAt gs i) t, i)) a && decide (plcQ (bodAt gs a) t = plcQ (bodAt gs (a + 1)) t)) = [] := by
      refine List.filter_eq_nil_iff.mpr fun a ha => ?_
      have := List.mem_range.mp ha
      have z : decide (N ≤ a + 1) = false := decide_eq_false (by omega)
      show ¬ (decide (N ≤ a + 1) && _) = true
      rw [z]
      exact Bool.false_ne_true
    rw [f0, List.nil_append, List.filter_map]
    congr 1
    refine List.filter_congr fun k hk => ?_
    have := List.mem_range.mp hk
    rw [e (N - 1 + k) (by omega)]
    show (decide (N ≤ N - 1 + k + 1) && decide (plcQ (bodAt gs (N - 1 + k)) t = plcQ (bodAt gs (N - 1 + k + 1)) t)) = _
    rw [decide_eq_true (show N ≤ N - 1 + k + 1 by omega), Bool.true_and]
  rw [fl, List.map_map]
  rfl
noncomputable def flipB (b : Bod) : Bod := (b.1, -b.2.1, b.2.2)
noncomputable def partW (X : List Bod) : Nat → List Bod
  | 0 => X.set 0 (flipB (bodAt X 0))
  | k + 1 => partQ X k
theorem partW_len (X : List Bod) (k : Nat) : (partW X k).length = X.length := by
  cases k with
  | zero => exact List.length_set
  | succ k => exact partQ_len X k
theorem bod_set {X : List Bod} {i : Nat} {b : Bod} (hi : i < X.length) (j : Nat) : bodAt (X.set i b) j = if j = i then b else bodAt X j := by
  unfold bodAt
  rw [List.getD_eq_getElem?_getD, List.getD_eq_getElem?_getD]
  by_cases e : j = i
  · subst e
    rw [if_pos rfl, List.getElem?_set_self hi]
    rfl
  · rw [if_neg e, List.getElem?_set_ne (fun z => e z.symm)]
theorem partW_at {X : List Bod} {k : Nat} (hk : k < X.length) (j : Nat) : bodAt (partW X k) j = if j + 1 = k then behQ (bodAt X j) (bodAt X (j + 1)) else if j = k then (if j = 0 then flipB (bodAt X 0) else behQ (bodAt X j) (bodAt X (j - 1))) else bodAt X j := by
  cases k with
  | zero =>
    show bodAt (X.set 0 _) j = _
    rw [bod_set hk, if_neg (show ¬ j + 1 = 0 by omega)]
    by_cases e : j = 0
    · rw [if_pos e, if_pos e, if_pos e]
    · rw [if_neg e, if_neg e]
  | succ k =>
    show bodAt (partQ X k) j = _
    rw [part_at hk]
    by_cases e : j = k
    · subst e
      rw [if_pos rfl, if_pos rfl]
    · rw [if_neg e, if_neg (show ¬ j + 1 = k + 1 by omega)]
      by_cases e2 : j = k + 1
      · subst e2
        rw [if_pos rfl, if_pos rfl, if_neg (by omega)]
        rfl
      · rw [if_neg e2, if_neg e2]
theorem foldW_at : ∀ (l : List Nat) {X : List Bod}, l.Nodup → (∀ k ∈ l, k < X.length) → (∀ k ∈ l, k + 1 ∉ l) → ∀ j, bodAt (l.foldl partW X) j = if j + 1 ∈ l then behQ (bodAt X j) (bodAt X (j + 1)) else if j ∈ l then (if j = 0 then flipB (bodAt X 0) else behQ (bodAt X j) (bodAt X (j - 1))) else bodAt X j
  | [], X, _, _, _, j => by
    rw [if_neg (fun z => nomatch z), if_neg (fun z => nomatch z)]
    rfl
  | k :: l, X, nd, hl, ap, j => by
    have hk := hl k (List.mem_cons_self ..)
    obtain ⟨nk, nd'⟩ := List.nodup_cons.mp nd
    have ih := foldW_at l (X := partW X k) nd' (fun i hi => by rw [partW_len]; exact hl i (List.mem_cons_of_mem _ hi)) (fun i hi z => ap i (List.mem_cons_of_mem _ hi) (List.mem_cons_of_mem _ z))
    have n1 : k + 1 ∉ l := fun z => ap k (List.mem_cons_self ..) (List.mem_cons_of_mem _ z)
    have n2 : ∀ i, i ∈ l → i + 1 ≠ k := fun i hi e => ap i (List.mem_cons_of_mem _ hi) (e ▸ List.mem_cons_self ..)
    rw [List.foldl_cons, ih j]
    by_cases c1 : j + 1 ∈ l
    · have a1 : j + 1 ≠ k := fun e => nk (e ▸ c1)
      have a2 : j ≠ k := fun e => n1 (e ▸ c1)
      have a3 : j + 1 + 1 ≠ k := n2 _ c1
      rw [if_pos c1, if_pos (List.mem_cons_of_mem _ c1), partW_at hk, partW_at hk, if_neg a1, if_neg a2, if_neg a3, if_neg (by omega)]
    · rw [if_neg c1]
      by_cases c2 : j ∈ l
      · have b1 : j ≠ k := fun e => nk (e ▸ c2)
        have b2 : j + 1 ≠ k := n2 _ c2
        have m1 : j + 1 ∉ k :: l := fun z => by
          rcases List.mem_cons.mp z with z | z
          · exact b2 z
          · exact c1 z
        have m2 : j ∈ k :: l := List.mem_cons_of_mem _ c2
        rw [if_pos c2, if_neg m1, if_pos m2]
        by_cases j0 : j = 0
        · rw [if_pos j0, if_pos j0]
          subst j0
          rw [partW_at hk, if_neg b2, if_neg b1]
        · rw [if_neg j0, if_neg j0, partW_at hk, partW_at hk, if_neg b2, if_neg b1]
          have b3 : j - 1 + 1 ≠ k := by omega
          have b4 : j - 1 ≠ k := fun e => n1 (by rw [← e, show j - 1 + 1 = j by omega]; exact c2)
          rw [if_neg b3, if_neg b4]
      · rw [if_neg c2, partW_at hk]
        by_cases d1 : j + 1 = k
        · rw [if_pos d1, if_pos (by rw [d1]; exact List.mem_cons_self ..)]
        · have m1 : j + 1 ∉ k :: l := fun z => by
            rcases List.mem_cons.mp z with z | z
            · exact d1 z
            · exact c1 z
          rw [if_neg d1, if_neg m1]
          by_cases d2 : j = k
          · have m2 : j ∈ k :: l := by
              rw [d2]
              exact List.mem_cons_self ..
            rw [if_pos d2, if_pos m2]
          · have m2 : j ∉ k :: l := fun z => by
              rcases List.mem_cons.mp z with z | z
              · exact d2 z
              · exact c2 z
            rw [if_neg d2, if_neg m2]
theorem foldW_len (l : List Nat) : ∀ X : List Bod, (l.foldl partW X).length = X.length := by
  induction l with
  | nil => intro X; rfl
  | cons k l ih => intro X; rw [List.foldl_cons, ih, partW_len]
theorem nW_asc : (nW N gs).Pairwise (· < ·) := List.Pairwise.filter _ List.pairwise_lt_range
theorem nW_nodup : (nW N gs).Nodup := List.Pairwise.imp (fun h => Nat.ne_of_lt h) nW_asc
theorem nW_apart (c : ¬ crwQ gs) : ∀ k ∈ nW N gs, k + 1 ∉ nW N gs := fun k h1 h2 => lefts_apart c (mem_nW.mp h1).2 (mem_nW.mp h2).2
theorem onW {now t : Rat} (o : OrdT gs now) (h : mirL gs = gs) (l : gs.length = 2 * N) (n1 : 1 ≤ N) (hw : ∀ p ∈ gs, 1 ≤ p.2.2 ∧ p.2.2 ≤ 10000) (ct : cmng gs = some t) (c : ¬ crwQ gs) : ((onQ gs).map (sftB t)).drop N = (nW N gs).foldl partW ((gs.map (sftB t)).drop N) := by
  have lg : ((gs.map (sftB t)).drop N).length = N := by rw [List.length_drop, List.length_map]; omega
  have ll : (((onQ gs).map (sftB t)).drop N).length = N := by rw [List.length_drop, List.length_map, on_len]; omega
  refine List.ext_getElem? fun j => ?_
  by_cases hj : j < N
  · rw [bodAt_get (show j < (((onQ gs).map (sftB t)).drop N).length by omega), bodAt_get (show j < ((nW N gs).foldl partW ((gs.map (sftB t)).drop N)).length by rw [foldW_len]; omega)]
    congr 1
    rw [foldW_at _ nW_nodup (fun k hk => by rw [lg]; exact (mem_nW.mp hk).1) (nW_apart c) j, bod_drop, bod_sft _ (by rw [on_len]; omega), on_at c]
    have e0 : ∀ k, k < N → bodAt ((gs.map (sftB t)).drop N) k = sftB t (bodAt gs (N + k)) := fun k hk => by rw [bod_drop, bod_sft _ (by omega)]
    by_cases c1 : N + j ∈ leftsQ gs
    · have lt := (lefts_lt c1).1
      have m1 : j + 1 ∈ nW N gs := mem_nW.mpr ⟨by omega, by rw [show N - 1 + (j + 1) = N + j by omega]; exact c1⟩
      rw [if_pos c1, if_pos m1, e0 j hj, e0 (j + 1) (by omega), beh_sft]
      rfl
    · have m1 : j + 1 ∉ nW N gs := fun z => c1 (by have := (mem_nW.mp z).2; rwa [show N - 1 + (j + 1) = N + j by omega] at this)
      rw [if_neg c1, if_neg m1]
      by_cases c2 : N + j - 1 ∈ leftsQ gs
      · have m2 : j ∈ nW N gs := mem_nW.mpr ⟨hj, by rw [show N - 1 + j = N + j - 1 by omega]; exact c2⟩
        rw [if_pos ⟨by omega, c2⟩, if_pos m2]
        by_cases j0 : j = 0
        · subst j0
          rw [if_pos rfl, e0 0 (by omega)]
          show sftB t (behQ (bodAt gs (N + 0)) (bodAt gs (N + 0 - 1))) = flipB (sftB t (bodAt gs (N + 0)))
          rw [Nat.add_zero, sym_near h l n1]
          have wN := hw _ (List.mem_of_getElem? (bodAt_get (show N < gs.length by omega)))
          have be : behQ (bodAt gs N) (mir1 (bodAt gs N)) = mir1 (bodAt gs N) := beh_like rfl wN.1
          rw [be]
          have pl : plcQ (bodAt gs N) t = 0 := by
            have z := lefts_same o ct (show N - 1 ∈ leftsQ gs from c2)
            rw [show N - 1 + 1 = N by omega, sym_near h l n1] at z
            have y := plc_mirW (bodAt gs N) t
            rw [y] at z
            grind
          generalize bodAt gs N = b at pl
          unfold plcQ at pl
          show (-b.1 + -b.2.1 * t, -b.2.1, b.2.2) = (b.1 + b.2.1 * t, -b.2.1, b.2.2)
          rw [show -b.1 + -b.2.1 * t = b.1 + b.2.1 * t by grind]
        · rw [if_neg j0, e0 j hj, e0 (j - 1) (by omega), beh_sft, show N + (j - 1) = N + j - 1 by omega]
      · have m2 : j ∉ nW N gs := fun z => c2 (by have := (mem_nW.mp z).2; rwa [show N - 1 + j = N + j - 1 by omega] at this)
        rw [if_neg (fun z => c2 z.2), if_neg m2, e0 j hj]
  · rw [List.getElem?_eq_none (by omega), List.getElem?_eq_none (by rw [foldW_len]; omega)]
theorem foldW_same (c : ¬ crwQ gs) {X : List Bod} (lx : X.length = N) {m k : Nat} (hk : (nW N gs)[m]? = some k) : bodAt (((nW N gs).take m).foldl partW X) k = bodAt X k ∧ (1 ≤ k → bodAt (((nW N gs).take m).foldl partW X) (k - 1) = bodAt X (k - 1)) := by
  have mk := List.mem_of_getElem? hk
  have sub : ∀ {x}, x ∈ (nW N gs).take m → x ∈ nW N gs := fun h => List.mem_of_mem_take h
  have nk : k ∉ (nW N gs).take m := fun z => by
    obtain ⟨a, ha, ea⟩ := List.mem_iff_getElem.mp z
    rw [List.length_take] at ha
    rw [List.getElem_take] at ea
    obtain ⟨hl, eh⟩ := List.getElem?_eq_some_iff.mp hk
    have := List.pairwise_iff_getElem.mp nW_asc a m (by omega) hl (by omega)
    omega
  have n1 : k + 1 ∉ (nW N gs).take m := fun z => nW_apart c k mk (sub z)
  have at' := foldW_at ((nW N gs).take m) (X := X) ((List.take_sublist _ _).nodup nW_nodup) (fun j hj => by rw [lx]; exact (mem_nW.mp (sub hj)).1) (fun j hj hj' => nW_apart c j (sub hj) (sub hj'))
  refine ⟨by rw [at' k, if_neg n1, if_neg nk], fun h1 => ?_⟩
  have n2 : k - 1 ∉ (nW N gs).take m := fun z => nW_apart c (k - 1) (sub z) (by rw [show k - 1 + 1 = k by omega]; exact mk)
  rw [at' (k - 1), if_neg (by rw [show k - 1 + 1 = k by omega]; exact nk), if_neg n2]
end
theorem fits24 : ∀ (m : Nat) {B : Nat} {gs : List Bod}, Com B gs → (∀ p ∈ gs, 1 ≤ p.2.2 ∧ p.2.2 ≤ 10000) → gs.length ≤ 24 → B + 180 * m ≤ 1110 → FitS m gs
  | 0, _, _, h, _, _, l => h.mono (by omega)
  | m + 1, B, gs, h, hw, l24, l => ⟨h.mono (by omega), fun t ht hc => fits24 m (B := B + 180) (com_onN (N := 12) h hw hc (by omega)) (on_w hw) (by rw [on_len]; exact l24) (by omega)⟩
theorem FitS.fit16 : ∀ {m : Nat} {gs : List Bod}, FitS m gs → FitN 1614 m gs
  | 0, _, h => Com.mono h (by decide)
  | _ + 1, _, h => ⟨h.1.mono (by decide), fun t ht hc => (h.2 t ht hc).fit16⟩
section
variable {K : PySem.W.Frag} {tt : TT} {te : TE} {idx : List Nat} {σ : L2.St} {Q : VK} {H : Hp}
theorem lc_rangeG {n : Nat} (f : Nat → Bool) (g : Nat → V) (hz : n ≤ sizeLine) (ht : ∀ i, i < n → ∀ Q' : Bool → Hp → Prop, Q' (f i) H → tt (stIn (some (.int (0 + (i : Int)))) idx σ) H Q') (he : ∀ i, i < n → ∀ Q' : VK, Q' (g i) H → te (stIn (some (.int (0 + (i : Int)))) idx σ) H Q')
    (hd : ∀ q, H q = none → Q (.ref q) (upd H q (.lst (((List.range n).filter f).map g)))) : LcBodyT (Itr 0 n) idx tt te σ Q H := by
  refine ⟨fun i m ys H' => m = n - i ∧ i ≤ n ∧ H' = H ∧ ys = ((List.range i).filter f).map g, ⟨n, by simp, Nat.zero_le _, rfl, rfl⟩, ?_⟩
  rintro i m ys H' ⟨rfl, hi, rfl, rfl⟩
  refine ⟨by rw [List.length_map]; exact Nat.le_trans (List.length_filter_le _ _) (by rw [List.length_range]; omega), ?_⟩
  by_cases hlt : i < n
  · refine .inr ⟨hlt, fun y H2 yl => ?_⟩
    obtain ⟨e, yl⟩ := yl
    subst e yl
    have tk : (List.range (i + 1)).filter f = (List.range i).filter f ++ (if f i = true then [i] else []) := by
      rw [List.range_succ, List.filter_append]
      congr 1
      show (match f i with | true => i :: [] | false => []) = _
      cases f i <;> rfl
    refine ht i hlt _ ?_
    cases c : f i with
    | true =>
      refine iteT (he i hlt _ ⟨n - (i + 1), by omega, rfl, hlt, rfl, ?_⟩)
      rw [tk, c, if_pos rfl, List.map_append]
      rfl
    | false =>
      refine iteF ⟨n - (i + 1), by omega, rfl, hlt, rfl, ?_⟩
      rw [tk, c, if_neg Bool.false_ne_true, List.append_nil]
  · have e : i = n := by omega
    subst e
    exact .inl ⟨Nat.le_refl _, hd⟩
end
end Kw
namespace Prf
open PySem PySem.Spec PyProof.Rows L2 Kw
noncomputable def top (i : Nat) : Stmt := PySem.Challenge.pw_knockwright_k61_walled_runs.main.body.getD i (.Pass ⟨0, 0, 0, 0⟩)
structure Tx (K : PySem.W.Frag) (mg : Str → Option Value) (CK : Addr) (C : Nat → Addr) : Prop where
  b_isinstance : mg "isinstance" = none
  b_int : mg "int" = none
  b_bool : mg "bool" = none
  b_tuple : mg "tuple" = none
  b_list : mg "list" = none
  b_abs : mg "abs" = none
  b_len : mg "len" = none
  b_divmod : mg "divmod" = none
  b_range : mg "range" = none
  b_max : mg "max" = none
  b_min : mg "min" = none
  b_reversed : mg "reversed" = none
  b_enumerate : mg "enumerate" = none
  c_KnockError : mg "KnockError" = some (.ref CK)
  c_TooMany : mg "TooMany" = some (.ref (C 0))
  c_NoWorld : mg "NoWorld" = some (.ref (C 1))
  R : Refs K CK C 2 1
  rd : PySem.W.readsIn K CK (.type "type") = true
  fc : PySem.W.findCls K (.ref CK) (.type "type") "__init__" = some (.val (.builtin "ValueError.__init__"))
  gs : PySem.W.specialIn K (.ref CK) "__getattribute__" = some (some (.builtin "type.__getattribute__"))
  n_NoWorld_at : NoAttr K (C 1) "at"
  s_TooMany_TooMany : PySem.W.subIn K (.ref (C 0)) (.ref (C 0)) = some true
  s_NoWorld_NoWorld : PySem.W.subIn K (.ref (C 1)) (.ref (C 1)) = some true
  c_Course : mg "Course" = some (.ref (C 2))
  cl_Course : Cls K (C 2)
  mk_Course : PySem.W.makesIn K (C 2) = true
  kp_Course : PySem.W.keepIn K (.ref (C 2)) = true
  n_Course_goings : NoAttr K (C 2) "goings"
  n_Course_share : NoAttr K (C 2) "share"
  n_Course_now : NoAttr K (C 2) "now"
  n_Course_gone_through : NoAttr K (C 2) "gone_through"
  n_Course_joints : NoAttr K (C 2) "joints"
  n_Course_coming : NoAttr K (C 2) "coming"
  z_NoWorld_TooMany : PySem.W.subIn K (.ref (C 1)) (.ref (C 0)) = some false
  k_LONG_BITS : ∃ t, mg "LONG_BITS" = some (.int 4000 t)
  k_NOUGHT : ∃ N, mg "NOUGHT" = some (.ref N) ∧ ∀ H, SqT K H N [.int 0, .int 1]
  k_ALL : ∃ N, mg "ALL" = some (.ref N) ∧ ∀ H, SqT K H N [.int 1, .int 1]
  k_MOST_MOMENTS : ∃ t, mg "MOST_MOMENTS" = some (.int 40 t)
section
variable {P : Program} {w : World} {K : PySem.W.Frag} {mg : Str → Option Value} {base : Heap} {CK : Addr} {C : Nat → Addr}
theorem Tx.x_TooMany (T : Tx K mg CK C) : ExcC K (C 0) := T.R.x 0 (by decide) (by decide)
theorem Tx.g_TooMany (T : Tx K mg CK C) : ClsX K (C 0) := clsx_c T.x_TooMany
theorem Tx.o_NoWorld (T : Tx K mg CK C) : excO K (C 1) = true := T.R.o 1 (by decide) (by decide)
theorem Tx.p_NoWorld (T : Tx K mg CK C) : PySem.W.keepIn K (.ref (C 1)) = true := T.R.kp 1 (by decide)
theorem Tx.g_NoWorld (T : Tx K mg CK C) : ClsX K (C 1) := clsx_o T.o_NoWorld
theorem sc_NoWorld___init__ : FnScope ["self", "at"] ["self", "at"] (defScope (mthOf (top 5))) := ⟨rfl, rfl, rfl, by decide +kernel, rfl, by decide +kernel, by decide +kernel⟩
theorem ok_NoWorld___init__ (D : DfI K (C 1) "NoWorld.__init__" (mthOf (top 5)) ["self", "at"]) (T : Tx K mg CK C) : FnI P w K mg base 1 (C 1) ["self", "at"] (spInitN (C 1) ["at"]) := by
  refine D.ok sc_NoWorld___init__ (fun vs H Q E h => ?_) (fun f cdv A outer s H vs Q E hr h => ?_)
  · obtain ⟨x, ys, rfl, hl, _⟩ := h
    exact congrArg Nat.succ hl
  obtain ⟨x, ys, rfl, hl, hx, q⟩ := h
  obtain ⟨y0, rfl⟩ : ∃ y0, ys = [y0] := List.length_eq_one_iff.mp hl
  refine ⟨_, (pss_cons (ps_expr (pe_base (by rfl) T.c_KnockError T.rd T.fc T.gs (pa_cons (pv 0) (pa_cons (pv 1) pa_nil))))
      (pss_one (ps_xf (pv 0) (pv 1)))), ?_⟩
  refine ⟨_, rfl, _, rfl, x, C 1, none, [y0], rfl, hx, T.o_NoWorld, (by show 1 ≤ sizeLine; decide), ?_⟩
  refine ⟨_, rfl, _, rfl, x, C 1, rfl, T.R.c 1 (by decide) (by decide), T.n_NoWorld_at, .inl ⟨hx, fun d hd => ?_⟩⟩
  obtain ⟨H0, q0, b0, x0, d0⟩ := dressO (Xd d [("at", y0)]) (Xo x (C 1) (some d)) hx hd
  dsimp only
  rw [q0]
  exact q d H0 (fun z => by rw [z, hx] at hd; cases hd) b0 x0 d0
theorem sc_is_whole : FnScope ["thing"] ["thing"] (defScope (top 9)) := ⟨rfl, rfl, rfl, by decide +kernel, rfl, by decide +kernel, by decide +kernel⟩
theorem ok_is_whole (D : Df K mg "is_whole" (top 9) ["thing"]) (T : Tx K mg CK C) : Fn P w K mg base 1 "is_whole" ["thing"] (spWhole K) := by
  refine D.ok0 sc_is_whole (fun vs H Q E h => ?_) (fun f cdv A outer s H vs Q E hr h => ?_)
  · obtain ⟨x, t, b1, b2, rfl, _⟩ := h
    rfl
  obtain ⟨x, t, b1, b2, rfl, ty, k1, k2, q⟩ := h
  refine ⟨_, (pss_one (ps_ret (pe_and (pe_callB call_isinst (by rfl) T.b_isinstance PyProof.Rows.Boot.«isinstance» (pa_cons (pv 0) (pa_cons (pe_bty (by rfl) T.b_int PyProof.Rows.Boot.«int») pa_nil))) (pe_one (pe_not (pe_callB call_isinst (by rfl) T.b_isinstance PyProof.Rows.Boot.«isinstance» (pa_cons (pv 0) (pa_cons (pe_bty (by rfl) T.b_bool PyProof.Rows.Boot.«bool») pa_nil)))))))), ?_⟩
  refine ⟨_, rfl, x, _, b1, rfl, .inl ⟨_, rfl⟩, ⟨t, ty, k1⟩, b1, rfl, ?_⟩
  cases b1 with
  | false => exact iteF q
  | true => exact iteT ⟨_, rfl, x, _, b2, rfl, .inl ⟨_, rfl⟩, ⟨t, ty, k2⟩, b2, rfl, q⟩
theorem sc_common_divisor : FnScope ["one", "other", "great", "small", "steps", "rest"] ["one", "other"] (defScope (top 11)) := ⟨rfl, rfl, rfl, by decide +kernel, rfl, by decide +kernel, by decide +kernel⟩
theorem ok_common_divisor (D : Df K mg "common_divisor" (top 11) ["one", "other"]) (T : Tx K mg CK C) : Fn P w K mg base 1 "common_divisor" ["one", "other"] spGcdB := by
  refine D.ok0 sc_common_divisor (fun vs H Q E h => ?_) (fun f cdv A outer s H vs Q E hr h => ?_)
  · obtain ⟨a, b, rfl, _⟩ := h
    rfl
  obtain ⟨a, b, rfl, hb, q⟩ := h
  refine ⟨_, (pss_cons (ps_set (i := 2) sc_common_divisor.nd rfl (Or.inl rfl) (pe_callB call_abs (by rfl) T.b_abs PyProof.Rows.Boot.«abs» (pa_cons (pv 0) pa_nil)))
      (pss_cons (ps_set (i := 3) sc_common_divisor.nd rfl (Or.inl rfl) (pe_callB call_abs (by rfl) T.b_abs PyProof.Rows.Boot.«abs» (pa_cons (pv 1) pa_nil)))
      (pss_cons (ps_while PassesOwn.never (pt_cmpR op_gt (pe_bm0 PySem.F.plainAttrs_int PySem.F.slot_int_bit_length PySem.F.type_int_bit_length mt_bits (pe_callB (call_min2 rfl) (by rfl) T.b_min PyProof.Rows.Boot.«min» (pa_cons (pv 2) (pa_cons (pv 3) pa_nil)))) (pe_globI (by rfl) T.k_LONG_BITS) (nomark _)) pss_never)
      (pss_cons (ps_while PassesOwn.never (pt_cmpR op_gt (pv 3) pe_int (nomark _)) (pss_cons (ps_set (i := 5) sc_common_divisor.nd rfl (Or.inl rfl) (pe_op op_mod (pv 2) (pv 3)))
      (pss_cons (ps_set (i := 2) sc_common_divisor.nd rfl (Or.inl rfl) (pv 3))
      (pss_one (ps_set (i := 3) sc_common_divisor.nd rfl (Or.inl rfl) (pv 5))))))
      (pss_one (ps_ret (pv 2))))))), ?_⟩
  refine ⟨_, rfl, _, rfl, _, rfl, _, rfl, ?_⟩
  refine ⟨fun m σ' H' => ∃ r1 r2 : Option V, σ' = [some (.int a), some (.int b), some (.int (if a < 0 then -a else a)), some (.int (if b < 0 then -b else b)), r1, r2] ∧ H' = H, ⟨0, _, _, rfl, rfl⟩, ?_⟩
  rintro m σ' H' ⟨r1, r2, rfl, rfl⟩
  refine ⟨_, rfl, _, rfl, _, _, rfl, rfl, _, rfl, rfl, _, _, rfl, rfl, _, rfl, ?_⟩
  refine if_dec (fun c => absurd c (short_min hb)) (fun _ => ?_)
  refine ⟨fun m σ' H2 => ∃ g s : Int, ∃ r1 r2 : Option V, σ' = [some (.int a), some (.int b), some (.int g), some (.int s), r1, r2] ∧ H2 = H' ∧ 0 ≤ g ∧ 0 ≤ s ∧ m = s.toNat ∧ Int.gcd g s = Int.gcd a b, ⟨_, _, _, _, _, rfl, rfl, abs_nn a, abs_nn b, rfl, gcd_abs a b⟩, ?_⟩
  rintro m σ' H2 ⟨g, s, r1, r2, rfl, rfl, hg, hs, rfl, e⟩
  refine ⟨_, rfl, _, _, rfl, rfl, _, rfl, ?_⟩
  refine if_dec (fun c => ?_) (fun c => ?_)
  · refine ⟨_, fun _ _ n => n, ?_⟩
    refine ⟨_, rfl, _, rfl, _, _, rfl, rfl, c, _, rfl, _, rfl, ?_⟩
    have l := Int.emod_lt_of_pos g c
    have l0 := Int.emod_nonneg g (show s ≠ 0 by omega)
    exact ⟨_, by omega, s, g % s, _, _, rfl, rfl, by omega, l0, rfl, (gcd_step g s hg c).trans e⟩
  · refine ⟨_, rfl, ?_⟩
    have s0 : s = 0 := by omega
    subst s0
    have z := gcd_end g hg
    rw [e] at z
    rw [← z]
    exact q
noncomputable def sp_fraction (K : PySem.W.Frag) : Sp := fun vs H Q _ => ∃ (a : Int) (b : Int), vs = [.int a, .int b] ∧ Bd 4000 b ∧ b ≠ 0 ∧ (∀ (p_r : Addr) (H1 : Hp), Same H H1 → FQ K H1 p_r (Rat.divInt a b) → Q (.ref p_r) H1)
theorem sc_fraction : FnScope ["top", "bottom", "divisor"] ["top", "bottom"] (defScope (top 12)) := ⟨rfl, rfl, rfl, by decide +kernel, rfl, by decide +kernel, by decide +kernel⟩
theorem ok_fraction (D : Df K mg "fraction" (top 12) ["top", "bottom"]) (T : Tx K mg CK C) (F_is_whole : Fn P w K mg base 1 "is_whole" ["thing"] (spWhole K)) (F_common_divisor : Fn P w K mg base 1 "common_divisor" ["one", "other"] spGcdB) :
    Fn P w K mg base 2 "fraction" ["top", "bottom"] (sp_fraction K) := by
  refine D.ok0 sc_fraction (fun vs H Q E h => ?_) (fun f cdv A outer s H vs Q E hr h => ?_)
  · obtain ⟨a, b, rfl, _⟩ := h
    rfl
  obtain ⟨a, b, rfl, hb, c, hq⟩ := h
  refine ⟨_, (pss_cons (ps_if (pw_or (pt_not (pt_val (pe_fn F_is_whole (by decide) hr (by rfl) passE0 (pa_cons (pv 0) pa_nil)) (fun _ => rfl))) (pw_or1 (pt_not (pt_val (pe_fn F_is_whole (by decide) hr (by rfl) passE0 (pa_cons (pv 1) pa_nil)) (fun _ => rfl))))).pt (pss_one ps_never) pss_nil)
      (pss_cons (ps_if (pt_cmpR op_eq (pv 1) pe_int (nomark _)) (pss_one ps_never) pss_nil)
      (pss_cons (ps_set (i := 2) sc_fraction.nd rfl (Or.inl rfl) (pe_fn F_common_divisor (by decide) hr (by rfl) passE0 (pa_cons (pv 0) (pa_cons (pv 1) pa_nil))))
      (pss_cons (ps_if (pt_cmpR op_lt (pv 1) pe_int (nomark _)) (pss_one (ps_set (i := 2) sc_fraction.nd rfl (Or.inl rfl) (pe_un un_neg (pv 2)))) pss_nil)
      (pss_one (ps_ret (pe_tup (pa_cons (pe_op op_fdivB (pv 0) (pv 2)) (pa_cons (pe_op op_fdivB (pv 1) (pv 2)) pa_nil))))))))), ?_⟩
  refine ⟨_, rfl, _, _, true, false, rfl, .int a, kit_int_int, kit_int_bool, _, rfl, ?_⟩
  refine iteF ⟨_, rfl, _, _, true, false, rfl, .int b, kit_int_int, kit_int_bool, _, rfl, ?_⟩
  refine iteF ⟨_, rfl, rfl, _, rfl, ?_⟩
  refine if_decI (fun z => absurd z c) (fun _ => ?_)
  refine ⟨_, rfl, _, rfl, a, b, rfl, hb, ?_⟩
  have hd : (if b < 0 then -((Int.gcd a b : Nat) : Int) else ((Int.gcd a b : Nat) : Int)) = dv a b := rfl
  have lg := (bd_dv (t := a) c (hb.mono (n := 9000) (by decide))).log
  refine ⟨_, rfl, _, _, rfl, rfl, _, rfl, ?_⟩
  refine if_dec (fun n => ?_) (fun n => ?_)
  · rw [if_pos n] at hd
    refine ⟨_, rfl, _, rfl, ?_⟩
    dsimp only
    rw [hd]
    refine ⟨_, rfl, _, rfl, _, _, rfl, rfl, ⟨dv_ne c, lg⟩, _, rfl, _, rfl, _, _, rfl, rfl, ⟨dv_ne c, lg⟩, by show 2 ≤ sizeLine; decide, ?_⟩
    exact rd_new fun p H' sm hp => hq p H' sm (FQ.fit c (SqT.of hp))
  · rw [if_neg n] at hd
    rw [hd]
    refine ⟨_, rfl, _, rfl, _, _, rfl, rfl, ⟨dv_ne c, lg⟩, _, rfl, _, rfl, _, _, rfl, rfl, ⟨dv_ne c, lg⟩, by show 2 ≤ sizeLine; decide, ?_⟩
    exact rd_new fun p H' sm hp => hq p H' sm (FQ.fit c (SqT.of hp))
noncomputable def sp_plus (K : PySem.W.Frag) : Sp := fun vs H Q _ => ∃ (p_x : Addr) (x : Rat) (p_y : Addr) (y : Rat), vs = [.ref p_x, .ref p_y] ∧ FQ K H p_x x ∧ FB 8900 x ∧ FQ K H p_y y ∧ FB 4000 y ∧ (∀ (p_r : Addr) (H1 : Hp), Same H H1 → FQ K H1 p_r (x + y) → Q (.ref p_r) H1)
theorem sc_plus : FnScope ["one", "other", "shared", "top", "divisor"] ["one", "other"] (defScope (top 13)) := ⟨rfl, rfl, rfl, by decide +kernel, rfl, by decide +kernel, by decide +kernel⟩
theorem ok_plus (D : Df K mg "plus" (top 13) ["one", "other"]) (T : Tx K mg CK C) (F_common_divisor : Fn P w K mg base 1 "common_divisor" ["one", "other"] spGcdB) : Fn P w K mg base 2 "plus" ["one", "other"] (sp_plus K) := by
  refine D.ok0 sc_plus (fun vs H Q E h => ?_) (fun f cdv A outer s H vs Q E hr h => ?_)
  · obtain ⟨p, x, q, y, rfl, _⟩ := h
    rfl
  obtain ⟨p, x, q, y, rfl, hp, ⟨ha, hb⟩, hq, ⟨hc, hd⟩, k⟩ := h
  refine ⟨_, (pss_cons (ps_set (i := 2) sc_plus.nd rfl (Or.inl rfl) (pe_fn F_common_divisor (by decide) hr (by rfl) passE0 (pa_cons (pe_ix ix_tup (pv 0) pe_int (fun _ _ => rfl)) (pa_cons (pe_ix ix_tup (pv 1) pe_int (fun _ _ => rfl)) pa_nil))))
      (pss_cons (ps_set (i := 3) sc_plus.nd rfl (Or.inl rfl) (pe_op op_add (pe_op op_mulB (pe_ix ix_tup (pv 0) pe_int (fun _ _ => rfl)) (pe_op op_fdivB (pe_ix ix_tup (pv 1) pe_int (fun _ _ => rfl)) (pv 2))) (pe_op op_mulB (pe_ix ix_tup (pv 1) pe_int (fun _ _ => rfl)) (pe_op op_fdivB (pe_ix ix_tup (pv 0) pe_int (fun _ _ => rfl)) (pv 2)))))
      (pss_cons (ps_set (i := 4) sc_plus.nd rfl (Or.inl rfl) (pe_fn F_common_divisor (by decide) hr (by rfl) passE0 (pa_cons (pv 3) (pa_cons (pv 2) pa_nil))))
      (pss_one (ps_ret (pe_tup (pa_cons (pe_op op_fdivB (pv 3) (pv 4)) (pa_cons (pe_op op_mulB (pe_op op_fdivB (pe_ix ix_tup (pv 0) pe_int (fun _ _ => rfl)) (pv 2)) (pe_op op_fdivB (pe_ix ix_tup (pv 1) pe_int (fun _ _ => rfl)) (pv 4))) pa_nil)))))))), ?_⟩
  refine ⟨_, rfl, p, _, _, _, rfl, rfl, hp, rfl, _, rfl, q, _, _, _, rfl, rfl, hq, rfl, _, _, rfl, hd, ?_⟩
  have g0 := gpos (a := ((x.den : Nat) : Int)) (q_ne y)
  have bg := bd_gcdR (a := ((x.den : Nat) : Int)) (q_ne y) hd
  have dg1 : (((Int.gcd ((x.den : Nat) : Int) ((y.den : Nat) : Int) : Nat) : Int)) ∣ ((x.den : Nat) : Int) := Int.gcd_dvd_left ..
  have dg2 : (((Int.gcd ((x.den : Nat) : Int) ((y.den : Nat) : Int) : Nat) : Int)) ∣ ((y.den : Nat) : Int) := Int.gcd_dvd_right ..
  generalize hg : ((Int.gcd ((x.den : Nat) : Int) ((y.den : Nat) : Int) : Nat) : Int) = g at g0 bg dg1 dg2 ⊢
  have g1 : g ≠ 0 := by omega
  have lg := (bg.mono (n := 9000) (by decide)).log
  have b1 := bd_quot hd dg2 g1
  have b2 := bd_quot hb dg1 g1
  refine ⟨_, rfl, p, _, _, _, rfl, rfl, hp, rfl, _, rfl, q, _, _, _, rfl, rfl, hq, rfl, _, rfl, _, _, rfl, rfl, ⟨g1, lg⟩, _, _, rfl, rfl, ha.ok b1 (by decide), _, rfl, q, _, _, _, rfl, rfl, hq, rfl, _, rfl, p, _, _, _, rfl, rfl, hp, rfl, _, rfl, _, _, rfl, rfl, ⟨g1, lg⟩, _, _, rfl, rfl, hc.ok b2 (by decide), _, _, rfl, rfl, ?_⟩
  dsimp only
  have bt := (ha.mul b1).add (hc.mul b2)
  generalize ht : x.num * ((y.den : Nat) : Int).fdiv g + y.num * ((x.den : Nat) : Int).fdiv g = t at bt ⊢
  refine ⟨_, rfl, _, rfl, _, _, rfl, bg, ?_⟩
  have h0 := gpos (a := t) g1
  have bh := bd_gcdR (a := t) g1 bg
  have dh : ((Int.gcd t g : Nat) : Int) ∣ g := Int.gcd_dvd_right ..
  generalize hh : ((Int.gcd t g : Nat) : Int) = h at h0 bh dh ⊢
  have h1 : h ≠ 0 := by omega
  have lh := (bh.mono (n := 9000) (by decide)).log
  have b3 := bd_quot hd (Int.dvd_trans dh dg2) h1
  refine ⟨_, rfl, _, rfl, _, _, rfl, rfl, ⟨h1, lh⟩, _, rfl, p, _, _, _, rfl, rfl, hp, rfl, _, rfl, _, _, rfl, rfl, ⟨g1, lg⟩, _, rfl, q, _, _, _, rfl, rfl, hq, rfl, _, rfl, _, _, rfl, rfl, ⟨h1, lh⟩, _, _, rfl, rfl, b2.ok b3 (by decide), by show 2 ≤ sizeLine; decide, ?_⟩
  refine rd_new fun r H1 sm hr1 => k r H1 sm ?_
  obtain ⟨e1, e2⟩ := q_plus x y g t h hg.symm ht.symm hh.symm
  have z := SqT.of (K := K) hr1
  dsimp only at z
  rw [e1, e2] at z
  exact z
noncomputable def sp_minus (K : PySem.W.Frag) : Sp := fun vs H Q _ => ∃ (p_x : Addr) (x : Rat) (p_y : Addr) (y : Rat), vs = [.ref p_x, .ref p_y] ∧ FQ K H p_x x ∧ FB 8900 x ∧ FQ K H p_y y ∧ FB 4000 y ∧ (∀ (p_r : Addr) (H1 : Hp), Same H H1 → FQ K H1 p_r (x - y) → Q (.ref p_r) H1)
theorem sc_minus : FnScope ["one", "other"] ["one", "other"] (defScope (top 14)) := ⟨rfl, rfl, rfl, by decide +kernel, rfl, by decide +kernel, by decide +kernel⟩
theorem ok_minus (D : Df K mg "minus" (top 14) ["one", "other"]) (T : Tx K mg CK C) (F_plus : Fn P w K mg base 2 "plus" ["one", "other"] (sp_plus K)) : Fn P w K mg base 3 "minus" ["one", "other"] (sp_minus K) := by
  refine D.ok0 sc_minus (fun vs H Q E h => ?_) (fun f cdv A outer s H vs Q E hr h => ?_)
  · obtain ⟨p_x, x, p_y, y, rfl, _⟩ := h
    rfl
  obtain ⟨p_x, x, p_y, y, rfl, g_x, d_x, g_y, d_y, k0⟩ := h
  refine ⟨_, (pss_one (ps_ret (pe_fn F_plus (by decide) hr (by rfl) passE0 (pa_cons (pv 0) (pa_cons (pe_tup (pa_cons (pe_un un_neg (pe_ix ix_tup (pv 1) pe_int (fun _ _ => rfl))) (pa_cons (pe_ix ix_tup (pv 1) pe_int (fun _ _ => rfl)) pa_nil))) pa_nil))))), ?_⟩
  refine ⟨_, rfl, _, rfl, p_y, _, _, _, rfl, rfl, g_y, rfl, _, rfl, _, rfl, p_y, _, _, _, rfl, rfl, g_y, rfl, by show 2 ≤ sizeLine; decide, ?_⟩
  intro p1 n1
  obtain ⟨H1, q1, s1, e1⟩ := newO n1 (.tup [.int ((-(y).num)), .int ((((y).den : Nat) : Int))])
  rw [q1]
  clear q1
  have h1 := SqT.of (K := K) e1
  have g1 : FQ K H1 p1 (-(y)) := by exact FQ.ofNeg h1 (by omega)
  replace g_x := (Kw.Same.tup s1 g_x)
  refine ⟨_, _, _, _, rfl, g_x, (FB.mono d_x (by decide)), g1, (FB.mono (FB.neg d_y) (by decide)), fun p_r2 H2 s2 g_r2 => ?_⟩
  have d_r2 : FB 12901 (x + ((-(y)))) := (FB.mono (FB.add d_x (FB.neg d_y)) (by decide))
  have e3 : ((x + ((-(y)))) : Rat) = x - y := by grind
  exact k0 _ _ (s1.trans s2) (FQ.cast g_r2 e3)
noncomputable def sp_times (K : PySem.W.Frag) : Sp := fun vs H Q _ => ∃ (p_x : Addr) (x : Rat) (p_y : Addr) (y : Rat), vs = [.ref p_x, .ref p_y] ∧ FQ K H p_x x ∧ FB 4000 x ∧ FQ K H p_y y ∧ FB 4000 y ∧ (∀ (p_r : Addr) (H1 : Hp), Same H H1 → FQ K H1 p_r (x * y) → Q (.ref p_r) H1)
theorem sc_times : FnScope ["one", "other", "first", "second"] ["one", "other"] (defScope (top 15)) := ⟨rfl, rfl, rfl, by decide +kernel, rfl, by decide +kernel, by decide +kernel⟩
theorem ok_times (D : Df K mg "times" (top 15) ["one", "other"]) (T : Tx K mg CK C) (F_common_divisor : Fn P w K mg base 1 "common_divisor" ["one", "other"] spGcdB) : Fn P w K mg base 2 "times" ["one", "other"] (sp_times K) := by
  refine D.ok0 sc_times (fun vs H Q E h => ?_) (fun f cdv A outer s H vs Q E hr h => ?_)
  · obtain ⟨p, x, q, y, rfl, _⟩ := h
    rfl
  obtain ⟨p, x, q, y, rfl, hp, ⟨ha, hb⟩, hq, ⟨hc, hd⟩, k⟩ := h
  refine ⟨_, (pss_cons (ps_set (i := 2) sc_times.nd rfl (Or.inl rfl) (pe_fn F_common_divisor (by decide) hr (by rfl) passE0 (pa_cons (pe_ix ix_tup (pv 0) pe_int (fun _ _ => rfl)) (pa_cons (pe_ix ix_tup (pv 1) pe_int (fun _ _ => rfl)) pa_nil))))
      (pss_cons (ps_set (i := 3) sc_times.nd rfl (Or.inl rfl) (pe_fn F_common_divisor (by decide) hr (by rfl) passE0 (pa_cons (pe_ix ix_tup (pv 1) pe_int (fun _ _ => rfl)) (pa_cons (pe_ix ix_tup (pv 0) pe_int (fun _ _ => rfl)) pa_nil))))
      (pss_one (ps_ret (pe_tup (pa_cons (pe_op op_mulB (pe_op op_fdivB (pe_ix ix_tup (pv 0) pe_int (fun _ _ => rfl)) (pv 2)) (pe_op op_fdivB (pe_ix ix_tup (pv 1) pe_int (fun _ _ => rfl)) (pv 3))) (pa_cons (pe_op op_mulB (pe_op op_fdivB (pe_ix ix_tup (pv 0) pe_int (fun _ _ => rfl)) (pv 3)) (pe_op op_fdivB (pe_ix ix_tup (pv 1) pe_int (fun _ _ => rfl)) (pv 2))) pa_nil))))))), ?_⟩
  refine ⟨_, rfl, p, _, _, _, rfl, rfl, hp, rfl, _, rfl, q, _, _, _, rfl, rfl, hq, rfl, _, _, rfl, hd, ?_⟩
  have f0 := gpos (a := x.num) (q_ne y)
  have bf := bd_gcdR (a := x.num) (q_ne y) hd
  have df1 : ((Int.gcd x.num ((y.den : Nat) : Int) : Nat) : Int) ∣ x.num := Int.gcd_dvd_left ..
  have df2 : ((Int.gcd x.num ((y.den : Nat) : Int) : Nat) : Int) ∣ ((y.den : Nat) : Int) := Int.gcd_dvd_right ..
  generalize hf : ((Int.gcd x.num ((y.den : Nat) : Int) : Nat) : Int) = f1 at f0 bf df1 df2 ⊢
  refine ⟨_, rfl, q, _, _, _, rfl, rfl, hq, rfl, _, rfl, p, _, _, _, rfl, rfl, hp, rfl, _, _, rfl, hb, ?_⟩
  have s0 := gpos (a := y.num) (q_ne x)
  have bs := bd_gcdR (a := y.num) (q_ne x) hb
  have ds1 : ((Int.gcd y.num ((x.den : Nat) : Int) : Nat) : Int) ∣ y.num := Int.gcd_dvd_left ..
  have ds2 : ((Int.gcd y.num ((x.den : Nat) : Int) : Nat) : Int) ∣ ((x.den : Nat) : Int) := Int.gcd_dvd_right ..
  generalize hs : ((Int.gcd y.num ((x.den : Nat) : Int) : Nat) : Int) = s1 at s0 bs ds1 ds2 ⊢
  have f1' : f1 ≠ 0 := by omega
  have s1' : s1 ≠ 0 := by omega
  have lf := (bf.mono (n := 9000) (by decide)).log
  have ls := (bs.mono (n := 9000) (by decide)).log
  refine ⟨_, rfl, p, _, _, _, rfl, rfl, hp, rfl, _, rfl, _, _, rfl, rfl, ⟨f1', lf⟩, _, rfl, q, _, _, _, rfl, rfl, hq, rfl, _, rfl, _, _, rfl, rfl, ⟨s1', ls⟩, _, _, rfl, rfl, (bd_quot ha df1 f1').ok (bd_quot hc ds1 s1') (by decide), _, rfl, p, _, _, _, rfl, rfl, hp, rfl, _, rfl, _, _, rfl, rfl, ⟨s1', ls⟩, _, rfl, q, _, _, _, rfl, rfl, hq, rfl, _, rfl, _, _, rfl, rfl, ⟨f1', lf⟩, _, _, rfl, rfl, (bd_quot hb ds2 s1').ok (bd_quot hd df2 f1') (by decide), by show 2 ≤ sizeLine; decide, ?_⟩
  refine rd_new fun r H1 sm hr1 => k r H1 sm ?_
  obtain ⟨e1, e2⟩ := q_times x y f1 s1 hf.symm hs.symm
  have z := SqT.of (K := K) hr1
  dsimp only at z
  rw [e1, e2] at z
  exact z
noncomputable def sp_over (K : PySem.W.Frag) : Sp := fun vs H Q _ => ∃ (p_x : Addr) (x : Rat) (p_y : Addr) (y : Rat), vs = [.ref p_x, .ref p_y] ∧ FQ K H p_x x ∧ FB 4000 x ∧ FQ K H p_y y ∧ FB 4000 y ∧ y ≠ 0 ∧ (∀ (p_r : Addr) (H1 : Hp), Same H H1 → FQ K H1 p_r (x / y) → Q (.ref p_r) H1)
theorem sc_over : FnScope ["one", "other", "flipped"] ["one", "other"] (defScope (top 16)) := ⟨rfl, rfl, rfl, by decide +kernel, rfl, by decide +kernel, by decide +kernel⟩
theorem ok_over (D : Df K mg "over" (top 16) ["one", "other"]) (T : Tx K mg CK C) (F_times : Fn P w K mg base 2 "times" ["one", "other"] (sp_times K)) : Fn P w K mg base 3 "over" ["one", "other"] (sp_over K) := by
  refine D.ok0 sc_over (fun vs H Q E h => ?_) (fun f cdv A outer s H vs Q E hr h => ?_)
  · obtain ⟨p, x, q, y, rfl, _⟩ := h
    rfl
  obtain ⟨p, x, q, y, rfl, hp, dx, hq, dy, y0, k⟩ := h
  refine ⟨_, (pss_cons (ps_if (pt_cmpR op_eq (pe_ix ix_tup (pv 1) pe_int (fun _ _ => rfl)) pe_int (nomark _)) (pss_one ps_never) pss_nil)
      (pss_cons (ps_set (i := 2) sc_over.nd rfl (Or.inl rfl) (pe_ifExp (pt_cmpR op_gt (pe_ix ix_tup (pv 1) pe_int (fun _ _ => rfl)) pe_int (nomark _)) (pe_tup (pa_cons (pe_ix ix_tup (pv 1) pe_int (fun _ _ => rfl)) (pa_cons (pe_ix ix_tup (pv 1) pe_int (fun _ _ => rfl)) pa_nil))) (pe_tup (pa_cons (pe_un un_neg (pe_ix ix_tup (pv 1) pe_int (fun _ _ => rfl))) (pa_cons (pe_un un_neg (pe_ix ix_tup (pv 1) pe_int (fun _ _ => rfl))) pa_nil)))))
      (pss_one (ps_ret (pe_fn F_times (by decide) hr (by rfl) passE0 (pa_cons (pv 0) (pa_cons (pv 2) pa_nil))))))), ?_⟩
  have n0 := q_num_ne y0
  refine ⟨_, rfl, q, _, _, _, rfl, rfl, hq, rfl, rfl, _, rfl, ?_⟩
  refine if_decI (fun z => absurd z n0) (fun _ => ?_)
  refine ⟨_, rfl, q, _, _, _, rfl, rfl, hq, rfl, _, _, rfl, rfl, _, rfl, ?_⟩
  refine if_dec (fun c => ?_) (fun c => ?_)
  · refine ⟨_, rfl, q, _, _, _, rfl, rfl, hq, rfl, _, rfl, q, _, _, _, rfl, rfl, hq, rfl, by show 2 ≤ sizeLine; decide, ?_⟩
    intro p1 n1
    obtain ⟨H1, q1, s1, e1⟩ := newO n1 (.tup [.int ((y.den : Nat) : Int), .int y.num])
    rw [q1]
    clear q1
    have g1 : FQ K H1 p1 y⁻¹ := by
      have z := SqT.of (K := K) e1
      rw [← (q_invp c).1, ← (q_invp c).2] at z
      exact z
    refine ⟨_, rfl, _, rfl, p, x, p1, y⁻¹, rfl, Kw.Same.tup s1 hp, dx, g1, FB.inv dy y0, fun r H3 s3 g3 => ?_⟩
    exact k r H3 (s1.trans s3) (g3.cast (Rat.div_def x y).symm)
  · have c' : y.num < 0 := by omega
    refine ⟨_, rfl, q, _, _, _, rfl, rfl, hq, rfl, _, rfl, _, rfl, q, _, _, _, rfl, rfl, hq, rfl, _, rfl, by show 2 ≤ sizeLine; decide, ?_⟩
    intro p2 n2
    obtain ⟨H2, q2, s2, e2⟩ := newO n2 (.tup [.int (-((y.den : Nat) : Int)), .int (-y.num)])
    rw [q2]
    clear q2
    have g1 : FQ K H2 p2 y⁻¹ := by
      have z := SqT.of (K := K) e2
      rw [← (q_invn c').1, ← (q_invn c').2] at z
      exact z
    refine ⟨_, rfl, _, rfl, p, x, p2, y⁻¹, rfl, Kw.Same.tup s2 hp, dx, g1, FB.inv dy y0, fun r H3 s3 g3 => ?_⟩
    exact k r H3 (s2.trans s3) (g3.cast (Rat.div_def x y).symm)
noncomputable def sp_under (K : PySem.W.Frag) : Sp := fun vs H Q _ => ∃ (p_x : Addr) (x : Rat) (p_y : Addr) (y : Rat), vs = [.ref p_x, .ref p_y] ∧ FQ K H p_x x ∧ FB 8900 x ∧ FQ K H p_y y ∧ FB 8900 y ∧ (∀  (H1 : Hp), Same H H1 → Q (.bl (decide (x < y))) H1)
theorem sc_under : FnScope ["one", "other"] ["one", "other"] (defScope (top 17)) := ⟨rfl, rfl, rfl, by decide +kernel, rfl, by decide +kernel, by decide +kernel⟩
theorem ok_under (D : Df K mg "under" (top 17) ["one", "other"]) (T : Tx K mg CK C) : Fn P w K mg base 1 "under" ["one", "other"] (sp_under K) := by
  refine D.ok0 sc_under (fun vs H Q E h => ?_) (fun f cdv A outer s H vs Q E hr h => ?_)
  · obtain ⟨p_x, x, p_y, y, rfl, _⟩ := h
    rfl
  obtain ⟨p_x, x, p_y, y, rfl, g_x, d_x, g_y, d_y, k0⟩ := h
  refine ⟨_, (pss_one (ps_ret (pe_cmpR op_lt (pe_op op_mulB (pe_ix ix_tup (pv 0) pe_int (fun _ _ => rfl)) (pe_ix ix_tup (pv 1) pe_int (fun _ _ => rfl))) (pe_op op_mulB (pe_ix ix_tup (pv 1) pe_int (fun _ _ => rfl)) (pe_ix ix_tup (pv 0) pe_int (fun _ _ => rfl))) (nomark _)))), ?_⟩
  refine ⟨_, rfl, p_x, _, _, _, rfl, rfl, g_x, rfl, _, rfl, p_y, _, _, _, rfl, rfl, g_y, rfl, _, _, rfl, rfl, (d_x.1.ok d_y.2 (by decide)), _, rfl, p_y, _, _, _, rfl, rfl, g_y, rfl, _, rfl, p_x, _, _, _, rfl, rfl, g_x, rfl, _, _, rfl, rfl, (d_y.1.ok d_x.2 (by decide)), _, _, rfl, rfl, ?_⟩
  try dsimp only
  rw [show decide (((x).num * (((y).den : Nat) : Int)) < ((y).num * (((x).den : Nat) : Int))) = decide (x < y) from decide_eq_decide.mpr (by exact (q_lt x y).symm)]
  exact k0 _ (Same.refl _)
noncomputable def sp_joint_moment (K : PySem.W.Frag) : Sp := fun vs H Q _ => ∃ (p_i a_i b_i : Addr) (x_i v_i : Rat) (m_i : Int) (p_j a_j b_j : Addr) (x_j v_j : Rat) (m_j : Int), vs = [.ref p_i, .ref p_j] ∧ SqT K H p_i [.ref a_i, .ref b_i, .int m_i] ∧ FQ K H a_i x_i ∧ FQ K H b_i v_i ∧ FB 1990 x_i ∧ FB 1990 v_i ∧ 1 ≤ m_i ∧ m_i ≤ 10000 ∧ SqT K H p_j [.ref a_j, .ref b_j, .int m_j] ∧ FQ K H a_j x_j ∧ FQ K H b_j v_j ∧ FB 1990 x_j ∧ FB 1990 v_j ∧ 1 ≤ m_j ∧ m_j ≤ 10000 ∧ (¬ v_j < v_i → ∀  (H1 : Hp), Same H H1 → Q (.non) H1) ∧ (v_j < v_i → ∀ (p_r : Addr) (H1 : Hp), Same H H1 → FQ K H1 p_r ((x_j - x_i) / (v_i - v_j)) → Q (.ref p_r) H1)
theorem sc_joint_moment : FnScope ["one", "other", "gain"] ["one", "other"] (defScope (top 25)) := ⟨rfl, rfl, rfl, by decide +kernel, rfl, by decide +kernel, by decide +kernel⟩
theorem ok_joint_moment (D : Df K mg "joint_moment" (top 25) ["one", "other"]) (T : Tx K mg CK C) (F_minus : Fn P w K mg base 3 "minus" ["one", "other"] (sp_minus K)) (F_over : Fn P w K mg base 3 "over" ["one", "other"] (sp_over K)) : Fn P w K mg base 4 "joint_moment" ["one", "other"] (sp_joint_moment K) := by
  refine D.ok0 sc_joint_moment (fun vs H Q E h => ?_) (fun f cdv A outer s H vs Q E hr h => ?_)
  · obtain ⟨p_i, a_i, b_i, x_i, v_i, m_i, p_j, a_j, b_j, x_j, v_j, m_j, rfl, _⟩ := h
    rfl
  obtain ⟨p_i, a_i, b_i, x_i, v_i, m_i, p_j, a_j, b_j, x_j, v_j, m_j, rfl, h_i, gx_i, gv_i, dx_i, dv_i, lo_i, hi_i, h_j, gx_j, gv_j, dx_j, dv_j, lo_j, hi_j, k0, k1⟩ := h
  refine ⟨_, (pss_cons (ps_set (i := 2) sc_joint_moment.nd rfl (Or.inl rfl) (pe_fn F_minus (by decide) hr (by rfl) passE0 (pa_cons (pe_ix ix_tup (pv 0) pe_int (fun _ _ => rfl)) (pa_cons (pe_ix ix_tup (pv 1) pe_int (fun _ _ => rfl)) pa_nil))))
      (pss_cons (ps_if (pt_cmpR op_le (pe_ix ix_tup (pv 2) pe_int (fun _ _ => rfl)) pe_int (nomark _)) (pss_one (ps_ret pe_non)) pss_nil)
      (pss_one (ps_ret (pe_fn F_over (by decide) hr (by rfl) passE0 (pa_cons (pe_fn F_minus (by decide) hr (by rfl) passE0 (pa_cons (pe_ix ix_tup (pv 1) pe_int (fun _ _ => rfl)) (pa_cons (pe_ix ix_tup (pv 0) pe_int (fun _ _ => rfl)) pa_nil))) (pa_cons (pv 2) pa_nil))))))), ?_⟩
  refine ⟨_, rfl, p_i, _, _, _, rfl, rfl, h_i, rfl, _, rfl, p_j, _, _, _, rfl, rfl, h_j, rfl, _, _, _, _, rfl, gv_i, (FB.mono dv_i (by decide)), gv_j, (FB.mono dv_j (by decide)), fun p_r4 H4 s4 g_r4 => ?_⟩
  have d_r4 : FB 3981 (v_i - v_j) := (FB.mono (FB.sub dv_i dv_j) (by decide))
  refine ⟨_, rfl, p_r4, _, _, _, rfl, rfl, g_r4, rfl, _, _, rfl, rfl, _, rfl, ?_⟩
  refine if_dec (fun c5 => ?_) (fun c5 => ?_)
  · skip
    exact k0 (by have := (q_le0 (v_i - v_j)).mp ‹_›; grind) _ s4
  · skip
    replace h_j := (Kw.Same.tup s4 h_j)
    replace h_i := (Kw.Same.tup s4 h_i)
    replace gx_j := (Kw.Same.tup s4 gx_j)
    replace gx_i := (Kw.Same.tup s4 gx_i)
    refine ⟨_, rfl, p_j, _, _, _, rfl, rfl, h_j, rfl, _, rfl, p_i, _, _, _, rfl, rfl, h_i, rfl, _, _, _, _, rfl, gx_j, (FB.mono dx_j (by decide)), gx_i, (FB.mono dx_i (by decide)), fun p_r6 H6 s6 g_r6 => ?_⟩
    have d_r6 : FB 3981 (x_j - x_i) := (FB.mono (FB.sub dx_j dx_i) (by decide))
    replace g_r4 := (Kw.Same.tup s6 g_r4)
    refine ⟨_, rfl, _, _, _, _, rfl, g_r6, (FB.mono d_r6 (by decide)), g_r4, (FB.mono d_r4 (by decide)), (by have := mt (q_le0 (v_i - v_j)).mpr ‹_›; grind), fun p_r7 H7 s7 g_r7 => ?_⟩
    have d_r7 : FB 7962 (((x_j - x_i)) / ((v_i - v_j))) := (FB.mono (FB.div d_r6 d_r4 (by have := mt (q_le0 (v_i - v_j)).mpr ‹_›; grind)) (by decide))
    exact k1 (by have := mt (q_le0 (v_i - v_j)).mpr ‹_›; grind) _ _ (s4.trans (s6.trans s7)) g_r7
noncomputable def sp_least (K : PySem.W.Frag) : Sp := fun vs H Q _ => ∃ (p : Addr) (zs : List V) (qs : List Rat), vs = [.ref p] ∧ H p = some (.lst zs) ∧ Al2 (FrQ K H 1990) zs qs ∧ qs.length ≤ 100 ∧ ∀ (v : V) (H1 : Hp), Same H H1 → OptR K H1 v (leastQ qs) → Q v H1
theorem sc_least : FnScope ["moments", "found", "moment"] ["moments"] (defScope (top 29)) := ⟨rfl, rfl, rfl, by decide +kernel, rfl, by decide +kernel, by decide +kernel⟩
theorem ok_least (D : Df K mg "least" (top 29) ["moments"]) (T : Tx K mg CK C) (F_under : Fn P w K mg base 1 "under" ["one", "other"] (sp_under K)) : Fn P w K mg base 2 "least" ["moments"] (sp_least K) := by
  refine D.ok0 sc_least (fun vs H Q E h => ?_) (fun f cdv A outer s H vs Q E hr h => ?_)
  · obtain ⟨p, zs, qs, rfl, _⟩ := h
    rfl
  obtain ⟨p, zs, qs, rfl, hp, al, l100, k⟩ := h
  refine ⟨_, (pss_cons (ps_set (i := 1) sc_least.nd rfl (Or.inl rfl) pe_non)
      (pss_cons (ps_for PassesOwn.never rfl (pi_list (pv 0)) (pg_name (i := 2) sc_least.nd rfl (Or.inl rfl)) (pss_one (ps_if (pw_or (pt_cmpR op_isN (pv 1) pe_non (nomark _)) (pw_or1 (pt_val (pe_fn F_under (by decide) hr (by rfl) passE0 (pa_cons (pv 2) (pa_cons (pv 1) pa_nil))) (fun _ => rfl)))).pt (pss_one (ps_set (i := 1) sc_least.nd rfl (Or.inl rfl) (pv 2))) pss_nil)))
      (pss_one (ps_ret (pv 1))))), ?_⟩
  have hz := Al2.len al
  refine ⟨_, rfl, p, rfl, ⟨_, SqL.of hp⟩, for_list (K := K) (a := p) (xs := zs) (fun i σ1 H1 => ∃ (v : V) (u2 : Option V), σ1 = [some (.ref p), some v, u2] ∧ Same H H1 ∧ OptR K H1 v (leastQ (qs.take i))) ⟨.non, _, rfl, Same.refl _, .inl ⟨rfl, rfl⟩⟩ (by rintro _ _ _ _ ⟨_, _, _, g, _⟩; exact SqL.of (g _ _ hp)) ?_ ?_⟩
  · rintro i x σ1 H3 hx ⟨v, u2, rfl, s3, ov⟩
    obtain ⟨q, hq, pq, rfl, gq, dq⟩ := Al2.get (frs_same al s3) hx
    have nx := leastQ_snoc (qs.take i) q
    rw [← take_snoc hq] at nx
    rcases ov with ⟨e0, rfl⟩ | ⟨l, pl, e0, rfl, gl, dl⟩
    · refine ⟨_, rfl, rfl, _, rfl, iteT ?_⟩
      refine iteT ?_
      rw [e0] at nx
      exact ⟨_, rfl, .ref pq, _, rfl, s3, .inr ⟨q, pq, nx, rfl, gq, dq⟩⟩
    · refine ⟨_, rfl, rfl, _, rfl, iteF ?_⟩
      refine ⟨_, rfl, _, rfl, _, _, _, _, rfl, gq, dq.mono (by decide), gl, dl.mono (by decide), fun H4 s4 => ⟨_, rfl, ?_⟩⟩
      rw [e0] at nx
      refine if_dec (fun c => ?_) (fun c => ?_)
      · have e1 : less1 (some l) q = some q := if_pos c
        rw [e1] at nx
        exact ⟨_, rfl, .ref pq, _, rfl, s3.trans s4, .inr ⟨q, pq, nx, rfl, Kw.Same.tup s4 gq, dq⟩⟩
      · have e1 : less1 (some l) q = some l := if_neg c
        rw [e1] at nx
        exact ⟨.ref pl, _, rfl, s3.trans s4, .inr ⟨l, pl, nx, rfl, Kw.Same.tup s4 gl, dl⟩⟩
  · rintro σ1 H3 ⟨v, u2, rfl, s3, ov⟩
    rw [hz, List.take_length] at ov
    exact ⟨_, rfl, k v H3 s3 ov⟩
noncomputable def spC_look_ahead (K : PySem.W.Frag) (C : Addr) : Sp := fun vs H Q _ => ∃ (p dx : Addr) (fs : List (Str × V)) (j : Addr) (ys : List V) (js : List (Option Rat)), vs = [.ref p] ∧ H p = some (.ins C dx fs) ∧ fs.lookup ("joints" : Str) = some (V.ref j) ∧ fs.length < 900 ∧ H j = some (.lst ys) ∧ Al2 (OptR K H) ys js ∧ js.length ≤ 24 ∧ ∀ (co : V) (H1 : Hp), But p H H1 → H1 p = some (.ins C dx (putF ("coming" : Str) co fs)) → OptR K H1 co (leastQ (js.filterMap id)) → Q .non H1
theorem sc_Course_look_ahead : FnScope ["self"] ["self"] (defScope (mthAt (top 30) 1)) := ⟨rfl, rfl, rfl, by decide +kernel, rfl, by decide +kernel, by decide +kernel⟩
theorem ok_Course_look_ahead (D : DfM K (C 2) "look_ahead" "Course.look_ahead" (mthAt (top 30) 1) ["self"]) (T : Tx K mg CK C) (F_least : Fn P w K mg base 2 "least" ["moments"] (sp_least K)) : FnM P w K mg base 3 (C 2) "look_ahead" ["self"] (spC_look_ahead K (C 2)) := by
  refine D.ok0 sc_Course_look_ahead (fun vs H Q E h => ?_) (fun f cdv A outer s H vs Q E hr h => ?_)
  · obtain ⟨p, dx, fs, j, ys, js, rfl, _⟩ := h
    rfl
  obtain ⟨p, dx, fs, j, ys, js, rfl, hp, hl, hf, hj, al, l12, k⟩ := h
  refine ⟨_, (pss_one (ps_fldC T.cl_Course T.n_Course_coming (pv 0) (pe_fn F_least (by decide) hr (by rfl) passE0 (pa_cons (@pe_lcT _ _ _ _ _ _ _ _ _ _ _ _ [] [] rfl (pi_list (pe_fldC T.cl_Course T.n_Course_joints (pv 0))) rfl (by decide) rfl (by decide) rfl (by decide) cap_none (fun _ _ h => nomatch h) (no_free rfl) (fun C z Hc fp => pts_one (pt_cmpR op_notN (pv 0) pe_non (nomark _))) (fun C z Hc fp => (pv 0)) (fun _ => rfl)) pa_nil)))), ?_⟩
  have hz := Al2.len al
  refine ⟨_, rfl, p, _, _, _, rfl, hp, hl, j, rfl, ⟨_, SqL.of hj⟩, lc_filter (K := K) (fun v => !decide (v = .non)) (SqL.of hj) (Nat.le_trans (show ys.length ≤ 24 by omega) (by decide)) ?_ ?_ ?_⟩
  · intro x hx Q1 q1
    exact ⟨_, rfl, rfl, _, rfl, q1⟩
  · intro x hx Q1 q1
    exact ⟨_, rfl, q1⟩
  · intro l hln
    obtain ⟨H2, q2, s2, e2⟩ := newO hln (.lst (ys.filter fun v => !decide (v = .non)))
    rw [q2]
    clear q2
    have l100 : (js.filterMap id).length ≤ 100 := Nat.le_trans (List.length_filterMap_le _ _) (by omega)
    refine ⟨l, _, _, rfl, e2, frs_same (opts_filter al) s2, l100, fun v H3 s3 ov => ?_⟩
    have hp3 := s3 _ _ (s2 _ _ hp)
    refine ⟨_, rfl, p, dx, fs, rfl, hp3, by omega, ?_⟩
    obtain ⟨H4, q4, s4, e4⟩ := newB (H := H3) (p := p) (.ins (C 2) dx (putF ("coming" : Str) v fs))
    dsimp only
    rw [q4]
    clear q4
    have b4 : Buts [p] H3 H4 := Buts.one s4 (List.mem_singleton.mpr rfl)
    exact k v H4 ((But.of (s2.trans s3)).trans s4) e4 (ov.buts b4 (NoT.ins hp3 NoT.nil))
noncomputable def spC_init (K : PySem.W.Frag) (C : Addr) : Sp := fun vs H Q _ => ∃ (x dx p : Addr) (xs : List V) (gs : List Bod) (sh : Addr), vs = [.ref x, .ref p, .ref sh] ∧ H x = some (.ins C dx []) ∧ H p = some (.lst xs) ∧ Al2 (BdQ K H 1990) xs gs ∧ gs.length ≤ 24 ∧ Com 1989 gs ∧ FQ K H sh ((1 : Int) : Rat) ∧ ∀ (g j : Addr) (H1 : Hp), But x H H1 → H g = none → H j = none → CrsAt K H1 C x gs 0 0 g j → Q .non H1
theorem sc_Course___init__ : FnScope ["self", "world", "share"] ["self", "world", "share"] (defScope (mthAt (top 30) 0)) := ⟨rfl, rfl, rfl, by decide +kernel, rfl, by decide +kernel, by decide +kernel⟩
theorem ok_Course___init__ (D : DfM K (C 2) "__init__" "Course.__init__" (mthAt (top 30) 0) ["self", "world", "share"]) (T : Tx K mg CK C) (F_joint_moment : Fn P w K mg base 4 "joint_moment" ["one", "other"] (sp_joint_moment K)) (F_Course_look_ahead : FnM P w K mg base 3 (C 2) "look_ahead" ["self"] (spC_look_ahead K (C 2))) : FnM P w K mg base 5 (C 2) "__init__" ["self", "world", "share"] (spC_init K (C 2)) := by
  refine D.ok0 sc_Course___init__ (fun vs H Q E h => ?_) (fun f cdv A outer s H vs Q E hr h => ?_)
  · obtain ⟨x, dx, p, xs, gs, sh, rfl, _⟩ := h
    rfl
  obtain ⟨x, dx, p, xs, gs, sh, rfl, hx, hp, al, l12, com, gsh, k⟩ := h
  refine ⟨_, (pss_cons (ps_fldC T.cl_Course T.n_Course_goings (pv 0) (pe_callTy call_list_of (by rfl) T.b_list PyProof.Rows.Boot.«list» (pa_cons (pv 1) pa_nil)))
      (pss_cons (ps_fldC T.cl_Course T.n_Course_share (pv 0) (pv 2))
      (pss_cons (ps_fldC T.cl_Course T.n_Course_now (pv 0) (pe_globT (K := K) rfl (by rfl) T.k_NOUGHT))
      (pss_cons (ps_fldC T.cl_Course T.n_Course_gone_through (pv 0) pe_int)
      (pss_cons (ps_fldC T.cl_Course T.n_Course_joints (pv 0) (@pe_lc _ _ _ _ _ _ _ _ _ _ ["world"] [1] rfl (pi_range1 (by rfl) T.b_range (pa_cons (pe_op op_sub (pe_callB call_len (by rfl) T.b_len PyProof.Rows.Boot.«len» (pa_cons (pv 1) pa_nil)) pe_int) pa_nil)) rfl (by decide) rfl (by decide) rfl (by decide) (cap_one (j := 1) rfl rfl rfl rfl (.inl rfl)) (fun y c h => h) (cap_fr rfl) (fun C z Hc fp => (pe_fn F_joint_moment (by decide) hr (by rfl) passE0 (pa_cons (pe_ix (ixL (K := K) rfl) (pv 1) (pv 0) (fun _ _ => rfl)) (pa_cons (pe_ix (ixL (K := K) rfl) (pv 1) (pe_op op_add (pv 0) pe_int) (fun _ _ => rfl)) pa_nil)))) (fun _ => rfl)))
      (pss_one (ps_expr (pe_mt0 T.cl_Course F_Course_look_ahead (by decide) hr passE0 (pv 0))))))))), ?_⟩
  have hz := Al2.len al
  refine ⟨_, rfl, p, xs, rfl, .inl (SqL.of hp), ?_⟩
  intro p2 n2
  obtain ⟨H2, q2, s2, e2⟩ := newO n2 (.lst xs)
  rw [q2]
  clear q2
  have px : p2 ≠ x := Ne.symm (ne_of_none hx n2)
  refine ⟨_, rfl, x, dx, [], rfl, s2 _ _ hx, by decide, ?_⟩
  obtain ⟨H3, q3, s3, e3⟩ := newB (H := H2) (p := x) (.ins (C 2) dx (putF ("goings" : Str) (V.ref p2) []))
  dsimp only
  rw [q3]
  clear q3
  replace e3 : H3 x = some (.ins (C 2) dx [("goings", .ref p2)]) := e3
  refine ⟨_, rfl, _, rfl, x, dx, _, rfl, e3, by show (1 : Nat) < 1000; decide, ?_⟩
  obtain ⟨H4, q4, s4, e4⟩ := newB (H := H3) (p := x) (.ins (C 2) dx (putF ("share" : Str) (V.ref sh) [("goings", .ref p2)]))
  dsimp only
  rw [q4]
  clear q4
  replace e4 : H4 x = some (.ins (C 2) dx [("goings", .ref p2), ("share", .ref sh)]) := e4
  refine fun N hN => ?_
  refine ⟨_, rfl, x, dx, _, rfl, e4, by show (2 : Nat) < 1000; decide, ?_⟩
  obtain ⟨H5, q5, s5, e5⟩ := newB (H := H4) (p := x) (.ins (C 2) dx (putF ("now" : Str) (V.ref N) [("goings", .ref p2), ("share", .ref sh)]))
  dsimp only
  rw [q5]
  clear q5
  replace e5 : H5 x = some (.ins (C 2) dx [("goings", .ref p2), ("share", .ref sh), ("now", .ref N)]) := e5
  refine ⟨_, rfl, x, dx, _, rfl, e5, by show (3 : Nat) < 1000; decide, ?_⟩
  obtain ⟨H6, q6, s6, e6⟩ := newB (H := H5) (p := x) (.ins (C 2) dx (putF ("gone_through" : Str) (V.int 0) [("goings", .ref p2), ("share", .ref sh), ("now", .ref N)]))
  dsimp only
  rw [q6]
  clear q6
  replace e6 : H6 x = some (.ins (C 2) dx [("goings", .ref p2), ("share", .ref sh), ("now", .ref N), ("gone_through", .int 0)]) := e6
  have b26 : But x H2 H6 := s3.trans (s4.trans (s5.trans s6))
  have hx2 := s2 _ _ hx
  have nt2 : NoT [x] H2 := NoT.ins hx2 NoT.nil
  have bs26 : Buts [x] H2 H6 := Buts.one b26 (List.mem_singleton.mpr rfl)
  have npx : p ≠ x := ne_of hp hx (by intro z; cases z)
  have hp6 := b26 _ _ npx (s2 _ _ hp)
  have hg6 := b26 _ _ px e2
  have al6 := bs26.bds nt2 (bds_same al s2)
  have gsh6 := bs26.tup nt2 (Kw.Same.tup s2 gsh)
  refine ⟨_, rfl, _, _, rfl, .inl ⟨_, SqL.of hp6, rfl⟩, _, _, rfl, rfl, _, rfl, by omega, by omega, lc_range (lo := 0) (n := (((xs.length : Nat) : Int) - 1).toNat) (fun i ys H' => i ≤ gs.length - 1 ∧ Same H6 H' ∧ Al2 (OptR K H') ys ((jnts gs).take i)) ⟨Nat.zero_le _, Same.refl _, trivial⟩ (Nat.le_trans (show (((xs.length : Nat) : Int) - 1).toNat ≤ 24 by omega) (by decide)) (fun i ys H' z => by obtain ⟨l, _, e⟩ := z; have := Al2.len e; rw [List.length_take, jnts_len] at this; omega) ?_ ?_⟩
  · rintro i ys H7 Q7 hi ⟨hl, s7, hy⟩ kq
    have i1 : i + 1 < xs.length := by omega
    obtain ⟨va, hva⟩ : ∃ va, xs[i]? = some va := ⟨_, List.getElem?_eq_getElem (by omega)⟩
    obtain ⟨vb, hvb⟩ : ∃ vb, xs[i + 1]? = some vb := ⟨_, List.getElem?_eq_getElem i1⟩
    have al7 := bds_same al6 s7
    obtain ⟨a, ha, pa, a1, c1, rfl, x1, x2, x3, x4, x5, x6, x7⟩ := Al2.get al7 hva
    obtain ⟨b, hb, pb, a2, c2, rfl, y1, y2, y3, y4, y5, y6, y7⟩ := Al2.get al7 hvb
    have hp7 := s7 _ _ hp6
    have atb : atI xs ((0 : Int) + (i : Int) + 1) = some (.ref pb) := by
      have z := atI_nat hvb
      rwa [show (((i + 1 : Nat)) : Int) = 0 + (i : Int) + 1 by omega] at z
    have nx : (jnts gs).take (i + 1) = (jnts gs).take i ++ [jntQ a b] := take_snoc (jnts_get ha hb)
    have ma := List.mem_of_getElem? ha
    have mb := List.mem_of_getElem? hb
    refine ⟨_, rfl, _, rfl, p, _, _, _, rfl, rfl, SqL.of hp7, atI_z hva, _, rfl, _, rfl, _, _, rfl, rfl, p, _, _, _, rfl, rfl, SqL.of hp7, atb, pa, a1, c1, _, _, _, pb, a2, c2, _, _, _, rfl, x1, x2, x3, x4, x5, x6, x7, y1, y2, y3, y4, y5, y6, y7, fun c H8 s8 => ?_, fun c r H8 s8 g8 => ?_⟩
    · refine kq _ _ ⟨by omega, s7.trans s8, ?_⟩
      rw [nx, jnt_none c]
      exact Al2.snoc (opts_same hy s8) (.inl ⟨rfl, rfl⟩)
    · refine kq _ _ ⟨by omega, s7.trans s8, ?_⟩
      rw [nx, jnt_some c]
      exact Al2.snoc (opts_same hy s8) (.inr ⟨_, r, rfl, rfl, g8, com.jnt ma mb (jnt_some c)⟩)
  · rintro ys H7 ⟨_, s7, hy⟩ pl hpl
    have en : (jnts gs).take (((xs.length : Nat) : Int) - 1).toNat = jnts gs := by
      refine List.take_of_length_le ?_
      rw [jnts_len]
      omega
    rw [en] at hy
    obtain ⟨H8, q8, s8, e8⟩ := newO hpl (.lst ys)
    rw [q8]
    clear q8
    have s68 := s7.trans s8
    refine ⟨_, rfl, x, dx, _, rfl, s68 _ _ e6, by show (4 : Nat) < 1000; decide, ?_⟩
    obtain ⟨H9, q9, s9, e9⟩ := newB (H := H8) (p := x) (.ins (C 2) dx (putF ("joints" : Str) (V.ref pl) [("goings", .ref p2), ("share", .ref sh), ("now", .ref N), ("gone_through", .int 0)]))
    dsimp only
    rw [q9]
    clear q9
    replace e9 : H9 x = some (.ins (C 2) dx [("goings", .ref p2), ("share", .ref sh), ("now", .ref N), ("gone_through", .int 0), ("joints", .ref pl)]) := e9
    have hx8 := s68 _ _ e6
    have plx : pl ≠ x := fun z => by rw [z, s7 _ _ e6] at hpl; cases hpl
    have plg : p2 ≠ pl := fun z => by rw [← z, s7 _ _ hg6] at hpl; cases hpl
    have bs89 : Buts [x] H8 H9 := Buts.one s9 (List.mem_singleton.mpr rfl)
    have nt8 : NoT [x] H8 := NoT.ins hx8 NoT.nil
    have hj9 := s9 _ _ plx e8
    have hy9 := opts_buts (opts_same hy s8) bs89 nt8
    have lj : (jnts gs).length ≤ 24 := by rw [jnts_len]; omega
    refine ⟨_, rfl, x, dx, _, rfl, e9, rfl, x, dx, _, pl, ys, _, rfl, e9, rfl, by show (5 : Nat) < 900; decide, hj9, hy9, lj, fun co H10 s10 e10 oc => ?_⟩
    replace e10 : H10 x = some (.ins (C 2) dx (crs p2 sh N ((0 : Nat) : Int) pl co)) := e10
    have bs910 : Buts [x] H9 H10 := Buts.one s10 (List.mem_singleton.mpr rfl)
    have nt9 : NoT [x] H9 := NoT.ins e9 NoT.nil
    have B6 : But x H H6 := (But.of s2).trans b26
    have B10 : But x H H10 := B6.trans ((But.of s68).trans (s9.trans s10))
    have npl : H pl = none := by
      cases q : H pl with
      | none => rfl
      | some o =>
        have z := s7 _ _ (B6 _ _ plx q)
        rw [hpl] at z
        cases z
    refine k p2 pl H10 B10 n2 npl ⟨dx, sh, N, co, xs, ys, e10, ?_, ?_, ?_, ?_, ?_, s10 _ _ plx hj9, opts_buts hy9 bs910 nt9, oc, plg⟩
    · exact s10 _ _ px (s9 _ _ px (s68 _ _ hg6))
    · exact bs910.bds nt9 (bs89.bds nt8 (bds_same al6 s68))
    · exact bs910.tup nt9 (bs89.tup nt8 (Kw.Same.tup s68 gsh6))
    · exact hN _
    · exact (FB.ofInt (n := 64) (Bd.small (i := 0) (by decide) (by decide)) (by decide)).mono (by decide)
noncomputable def sp_place_at (K : PySem.W.Frag) : Sp := fun vs H Q _ => ∃ (p_i a_i b_i : Addr) (x_i v_i : Rat) (m_i : Int) (p_t : Addr) (t : Rat), vs = [.ref p_i, .ref p_t] ∧ SqT K H p_i [.ref a_i, .ref b_i, .int m_i] ∧ FQ K H a_i x_i ∧ FQ K H b_i v_i ∧ FB 1990 x_i ∧ FB 1990 v_i ∧ 1 ≤ m_i ∧ m_i ≤ 10000 ∧ FQ K H p_t t ∧ FB 1990 t ∧ (∀ (p_r : Addr) (H1 : Hp), Same H H1 → FQ K H1 p_r (x_i + v_i * t) → Q (.ref p_r) H1)
theorem sc_place_at : FnScope ["body", "moment"] ["body", "moment"] (defScope (top 23)) := ⟨rfl, rfl, rfl, by decide +kernel, rfl, by decide +kernel, by decide +kernel⟩
theorem ok_place_at (D : Df K mg "place_at" (top 23) ["body", "moment"]) (T : Tx K mg CK C) (F_times : Fn P w K mg base 2 "times" ["one", "other"] (sp_times K)) (F_plus : Fn P w K mg base 2 "plus" ["one", "other"] (sp_plus K)) : Fn P w K mg base 3 "place_at" ["body", "moment"] (sp_place_at K) := by
  refine D.ok0 sc_place_at (fun vs H Q E h => ?_) (fun f cdv A outer s H vs Q E hr h => ?_)
  · obtain ⟨p_i, a_i, b_i, x_i, v_i, m_i, p_t, t, rfl, _⟩ := h
    rfl
  obtain ⟨p_i, a_i, b_i, x_i, v_i, m_i, p_t, t, rfl, h_i, gx_i, gv_i, dx_i, dv_i, lo_i, hi_i, g_t, d_t, k0⟩ := h
  refine ⟨_, (pss_one (ps_ret (pe_fn F_plus (by decide) hr (by rfl) passE0 (pa_cons (pe_ix ix_tup (pv 0) pe_int (fun _ _ => rfl)) (pa_cons (pe_fn F_times (by decide) hr (by rfl) passE0 (pa_cons (pe_ix ix_tup (pv 0) pe_int (fun _ _ => rfl)) (pa_cons (pv 1) pa_nil))) pa_nil))))), ?_⟩
  refine ⟨_, rfl, p_i, _, _, _, rfl, rfl, h_i, rfl, _, rfl, p_i, _, _, _, rfl, rfl, h_i, rfl, _, rfl, _, _, _, _, rfl, gv_i, (FB.mono dv_i (by decide)), g_t, (FB.mono d_t (by decide)), fun p_r8 H8 s8 g_r8 => ?_⟩
  have d_r8 : FB 3980 (v_i * t) := (FB.mono (FB.mul dv_i d_t) (by decide))
  replace gx_i := (Kw.Same.tup s8 gx_i)
  refine ⟨_, _, _, _, rfl, gx_i, (FB.mono dx_i (by decide)), g_r8, (FB.mono d_r8 (by decide)), fun p_r9 H9 s9 g_r9 => ?_⟩
  have d_r9 : FB 5971 (x_i + ((v_i * t))) := (FB.mono (FB.add dx_i d_r8) (by decide))
  exact k0 _ _ (s8.trans s9) g_r9
noncomputable def sp_led (K : PySem.W.Frag) : Sp := fun vs H Q _ => ∃ (p a c : Addr) (x v : Rat) (m : Int) (u : Addr) (t : Rat), vs = [.ref p, .ref u] ∧ SqT K H p [.ref a, .ref c, .int m] ∧ FQ K H a x ∧ FQ K H c v ∧ FB 1990 x ∧ FB 1990 v ∧ 1 ≤ m ∧ m ≤ 10000 ∧ FQ K H u t ∧ FB 1990 t ∧ ∀ (r : Addr) (H1 : Hp), Same H H1 → BdQ K H1 5990 (.ref r) (x + v * t, v, m) → Q (.ref r) H1
theorem sc_led : FnScope ["body", "moment"] ["body", "moment"] (defScope (top 24)) := ⟨rfl, rfl, rfl, by decide +kernel, rfl, by decide +kernel, by decide +kernel⟩
theorem ok_led (D : Df K mg "led" (top 24) ["body", "moment"]) (T : Tx K mg CK C) (F_place_at : Fn P w K mg base 3 "place_at" ["body", "moment"] (sp_place_at K)) : Fn P w K mg base 4 "led" ["body", "moment"] (sp_led K) := by
  refine D.ok0 sc_led (fun vs H Q E h => ?_) (fun f cdv A outer s H vs Q E hr h => ?_)
  · obtain ⟨p, a, c, x, v, m, u, t, rfl, _⟩ := h
    rfl
  obtain ⟨p, a, c, x, v, m, u, t, rfl, hp, ga, gc, da, dc, m1, m2, gt, dt, k⟩ := h
  refine ⟨_, (pss_one (ps_ret (pe_tup (pa_cons (pe_fn F_place_at (by decide) hr (by rfl) passE0 (pa_cons (pv 0) (pa_cons (pv 1) pa_nil))) (pa_cons (pe_ix ix_tup (pv 0) pe_int (fun _ _ => rfl)) (pa_cons (pe_ix ix_tup (pv 0) pe_int (fun _ _ => rfl)) pa_nil)))))), ?_⟩
  refine ⟨_, rfl, _, rfl, p, a, c, x, v, m, u, t, rfl, hp, ga, gc, da, dc, m1, m2, gt, dt, fun r1 H1 s1 g1 => ?_⟩
  have hp1 := Kw.Same.tup s1 hp
  refine ⟨_, rfl, p, _, _, _, rfl, rfl, hp1, rfl, _, rfl, p, _, _, _, rfl, rfl, hp1, rfl, by show 3 ≤ sizeLine; decide, ?_⟩
  intro p2 n2
  obtain ⟨H2, q2, s2, e2⟩ := newO n2 (.tup [.ref r1, .ref c, .int m])
  rw [q2]
  clear q2
  exact k p2 H2 (s1.trans s2) ⟨p2, r1, c, rfl, SqT.of e2, Kw.Same.tup s2 g1, Kw.Same.tup (s1.trans s2) gc, (FB.add da (FB.mul dc dt)).mono (by decide), dc.mono (by decide), m1, m2⟩
theorem none_of_sm {H H1 : Hp} {a : Addr} (s : Same H H1) (n : H1 a = none) : H a = none := by
  cases e : H a with
  | none => rfl
  | some o => have := s _ _ e; rw [n] at this; cases this
noncomputable def atT (t : Rat) (b : Bod) : Bod := (b.1 + b.2.1 * t, b.2.1, b.2.2)
noncomputable def spC_bodies_at (K : PySem.W.Frag) (C : Addr) : Sp := fun vs H Q _ => ∃ (p : Addr) (gs : List Bod) (now : Rat) (n : Nat) (g j u : Addr) (t : Rat), vs = [.ref p, .ref u] ∧ CrsAt K H C p gs now n g j ∧ gs.length ≤ 24 ∧ FQ K H u t ∧ FB 1990 t ∧ ∀ (r : Addr) (zs : List V) (H1 : Hp), Same H H1 → H r = none → H1 r = some (.lst zs) → Al2 (BdQ K H1 5990) zs (gs.map (atT t)) → Q (.ref r) H1
theorem sc_Course_bodies_at : FnScope ["self", "moment"] ["self", "moment"] (defScope (mthAt (top 30) 2)) := ⟨rfl, rfl, rfl, by decide +kernel, rfl, by decide +kernel, by decide +kernel⟩
theorem ok_Course_bodies_at (D : DfM K (C 2) "bodies_at" "Course.bodies_at" (mthAt (top 30) 2) ["self", "moment"]) (T : Tx K mg CK C) (F_led : Fn P w K mg base 4 "led" ["body", "moment"] (sp_led K)) : FnM P w K mg base 5 (C 2) "bodies_at" ["self", "moment"] (spC_bodies_at K (C 2)) := by
  refine D.ok0 sc_Course_bodies_at (fun vs H Q E h => ?_) (fun f cdv A outer s H vs Q E hr h => ?_)
  · obtain ⟨p, gs, now, n, g, j, u, t, rfl, _⟩ := h
    rfl
  obtain ⟨p, gs, now, n, g, j, u, t, rfl, ⟨dx, sh, nw, co, xs, ys, hp, hg, al, gsh, gnw, dnw, hj, aj, oc, ne⟩, l12, gt, dt, k⟩ := h
  refine ⟨_, (pss_one (ps_ret (@pe_lc _ _ _ _ _ _ _ _ _ _ ["moment"] [1] rfl (pi_list (pe_fldC T.cl_Course T.n_Course_goings (pv 0))) rfl (by decide) rfl (by decide) rfl (by decide) (cap_one (j := 1) rfl rfl rfl rfl (.inl rfl)) (fun y c h => h) (cap_fr rfl) (fun C z Hc fp => (pe_fn F_led (by decide) hr (by rfl) passE0 (pa_cons (pv 0) (pa_cons (pv 1) pa_nil)))) (fun _ => rfl)))), ?_⟩
  have hz := Al2.len al
  refine ⟨_, rfl, p, _, _, _, rfl, hp, crs_g, g, rfl, ⟨_, SqL.of hg⟩, lc_list (K := K) (xs := xs) (fun i zs H' => i ≤ xs.length ∧ Same H H' ∧ Al2 (BdQ K H' 5990) zs ((gs.take i).map (atT t))) ⟨Nat.zero_le _, Same.refl _, trivial⟩ (by rw [hz]; exact Nat.le_trans l12 (by decide)) (fun i zs H1 z => by obtain ⟨l, _, e⟩ := z; have := Al2.len e; simp at this; omega) (fun i zs H1 z => by obtain ⟨_, g, _⟩ := z; exact SqL.of (g _ _ hg)) ?_ ?_⟩
  · rintro i x zs H1 Q1 hx ⟨hl, s1, hy⟩ kq
    have hi : i < xs.length := (List.getElem?_eq_some_iff.mp hx).1
    obtain ⟨b, hb, pb, pa, pc, rfl, x1, x2, x3, x4, x5, x6, x7⟩ := Al2.get (bds_same al s1) hx
    refine ⟨_, rfl, _, rfl, pb, pa, pc, _, _, _, u, t, rfl, x1, x2, x3, x4, x5, x6, x7, Kw.Same.tup s1 gt, dt, fun r2 H2 s2 one => ?_⟩
    refine kq _ _ ⟨hi, s1.trans s2, ?_⟩
    rw [take_snoc hb, List.map_append]
    exact Al2.snoc (bds_same hy s2) one
  · rintro zs H1 ⟨_, s1, hy⟩ pl hpl
    rw [hz, List.take_length] at hy
    obtain ⟨H2, q2, s2, e2⟩ := newO hpl (.lst zs)
    rw [q2]
    clear q2
    exact k pl zs H2 (s1.trans s2) (none_of_sm s1 hpl) e2 (bds_same hy s2)
noncomputable def intsN (l : List Nat) : List V := l.map fun i : Nat => V.int (i : Int)
noncomputable def spC_lefts (K : PySem.W.Frag) (C : Addr) : Sp := fun vs H Q _ => ∃ (p : Addr) (gs : List Bod) (now : Rat) (n : Nat) (g j : Addr), vs = [.ref p] ∧ CrsAt K H C p gs now n g j ∧ gs.length ≤ 24 ∧ ∀ (r : Addr) (H1 : Hp), Same H H1 → H r = none → H1 r = some (.lst (intsN (leftsQ gs))) → Q (.ref r) H1
theorem sc_Course_lefts : FnScope ["self"] ["self"] (defScope (mthAt (top 30) 4)) := ⟨rfl, rfl, rfl, by decide +kernel, rfl, by decide +kernel, by decide +kernel⟩
theorem ok_Course_lefts (D : DfM K (C 2) "lefts" "Course.lefts" (mthAt (top 30) 4) ["self"]) (T : Tx K mg CK C) : FnM P w K mg base 1 (C 2) "lefts" ["self"] (spC_lefts K (C 2)) := by
  refine D.ok0 sc_Course_lefts (fun vs H Q E h => ?_) (fun f cdv A outer s H vs Q E hr h => ?_)
  · obtain ⟨p, gs, now, n, g, j, rfl, _⟩ := h
    rfl
  obtain ⟨p, gs, now, n, g, j, rfl, ⟨dx, sh, nw, co, xs, ys, hp, hg, al, gsh, gnw, dnw, hj, aj, oc, ne⟩, l12, k⟩ := h
  refine ⟨_, (pss_cons (ps_if (pt_cmpR op_isN (pe_fldC T.cl_Course T.n_Course_coming (pv 0)) pe_non (nomark _)) (pss_one (ps_ret (pe_lst pa_nil))) pss_nil)
      (pss_one (ps_ret (@pe_lcT _ _ _ _ _ _ _ _ _ _ _ _ ["self"] [0] rfl (pi_range1 (by rfl) T.b_range (pa_cons (pe_callB call_len (by rfl) T.b_len PyProof.Rows.Boot.«len» (pa_cons (pe_fldC T.cl_Course T.n_Course_joints (pv 0)) pa_nil)) pa_nil)) rfl (by decide) rfl (by decide) rfl (by decide) (cap_one (j := 0) rfl rfl rfl rfl (.inl rfl)) (fun y c h => h) (cap_fr rfl) (fun C z Hc fp => pts_one (pt_cmpR (op_eqOR (K := K) rfl (u100 hr)) (pe_ix (ixL (K := K) rfl) (pe_fldC T.cl_Course T.n_Course_joints (pv 1)) (pv 0) (fun _ _ => rfl)) (pe_fldC T.cl_Course T.n_Course_coming (pv 1)) (nomark _))) (fun C z Hc fp => (pv 0)) (fun _ => rfl))))), ?_⟩
  have lj := Al2.len aj
  have lg := jnts_len gs
  refine ⟨_, rfl, p, _, _, _, rfl, hp, crs_c, rfl, _, rfl, ?_⟩
  refine if_dec (fun c => ?_) (fun c => ?_)
  · have cn := oc.non.mp c
    refine ⟨by show 0 ≤ sizeLine; decide, ?_⟩
    intro p2 n2
    obtain ⟨H2, q2, s2, e2⟩ := newO n2 (.lst [])
    rw [q2]
    clear q2
    refine k p2 H2 s2 n2 ?_
    unfold leftsQ
    rw [cn]
    exact e2
  · obtain ⟨t, et⟩ : ∃ t, cmng gs = some t := by
      cases q : cmng gs with
      | none => exact absurd (oc.non.mpr q) c
      | some t => exact ⟨t, rfl⟩
    refine ⟨_, rfl, p, _, _, _, rfl, hp, crs_j, _, _, rfl, .inl ⟨_, SqL.of hj, rfl⟩, _, rfl, by omega, by omega, lc_rangeF (n := ((ys.length : Nat) : Int).toNat) (fun i => decide ((jnts gs)[i]? = some (cmng gs))) (Nat.le_trans (show ((ys.length : Nat) : Int).toNat ≤ 24 by omega) (by decide)) ?_ ?_ ?_⟩
    · intro i hi Q1 q1
      obtain ⟨v, hv⟩ : ∃ v, ys[i]? = some v := ⟨_, List.getElem?_eq_getElem (by omega)⟩
      obtain ⟨o, ho, ro⟩ := Al2.get aj hv
      refine ⟨_, rfl, p, _, _, _, rfl, hp, crs_j, _, rfl, j, _, _, _, rfl, rfl, SqL.of hj, atI_z hv, _, rfl, p, _, _, _, rfl, hp, crs_c, o, cmng gs, ro, oc, _, rfl, ?_⟩
      have e : decide (o = cmng gs) = decide ((jnts gs)[i]? = some (cmng gs)) := by
        rw [ho]
        exact decide_eq_decide.mpr ⟨fun h => by rw [h], fun h => Option.some.inj h⟩
      rw [e]
      exact q1
    · intro i hi Q1 q1
      exact ⟨_, rfl, q1⟩
    · intro l hln
      have e : (((List.range ((ys.length : Nat) : Int).toNat).filter fun i => decide ((jnts gs)[i]? = some (cmng gs))).map fun i : Nat => V.int (0 + (i : Int))) = intsN (leftsQ gs) := by
        unfold leftsQ intsN
        rw [et]
        have z : ((ys.length : Nat) : Int).toNat = (jnts gs).length := by omega
        rw [z]
        refine List.map_congr_left fun i _ => ?_
        rw [Int.zero_add]
      rw [e]
      obtain ⟨H2, q2, s2, e2⟩ := newO hln (.lst (intsN (leftsQ gs)))
      rw [q2]
      clear q2
      exact k l H2 s2 hln e2
noncomputable def spC_meetings (K : PySem.W.Frag) (C : Addr) : Sp := fun vs H Q _ => ∃ (p : Addr) (gs : List Bod) (now : Rat) (n : Nat) (g j : Addr), vs = [.ref p] ∧ CrsAt K H C p gs now n g j ∧ gs.length ≤ 24 ∧ ∀ (r : Addr) (zs : List V) (H1 : Hp), Same H H1 → H r = none → H1 r = some (.lst zs) → Al2 (MtQ K H1) zs (metsQ gs) → Q (.ref r) H1
theorem sc_Course_meetings : FnScope ["self"] ["self"] (defScope (mthAt (top 30) 5)) := ⟨rfl, rfl, rfl, by decide +kernel, rfl, by decide +kernel, by decide +kernel⟩
theorem ok_Course_meetings (D : DfM K (C 2) "meetings" "Course.meetings" (mthAt (top 30) 5) ["self"]) (T : Tx K mg CK C) (F_place_at : Fn P w K mg base 3 "place_at" ["body", "moment"] (sp_place_at K)) (F_Course_lefts : FnM P w K mg base 1 (C 2) "lefts" ["self"] (spC_lefts K (C 2))) : FnM P w K mg base 4 (C 2) "meetings" ["self"] (spC_meetings K (C 2)) := by
  refine D.ok0 sc_Course_meetings (fun vs H Q E h => ?_) (fun f cdv A outer s H vs Q E hr h => ?_)
  · obtain ⟨p, gs, now, n, g, j, rfl, _⟩ := h
    rfl
  obtain ⟨p, gs, now, n, g, j, rfl, cr, l12, k⟩ := h
  refine ⟨_, (pss_one (ps_ret (@pe_lc _ _ _ _ _ _ _ _ _ _ ["self"] [0] rfl (pi_list (pe_mt0 T.cl_Course F_Course_lefts (by decide) hr passE0 (pv 0))) rfl (by decide) rfl (by decide) rfl (by decide) (cap_one (j := 0) rfl rfl rfl rfl (.inl rfl)) (fun y c h => h) (cap_fr rfl) (fun C z Hc fp => (pe_tup (pa_cons (pe_fldC T.cl_Course T.n_Course_coming (pv 1)) (pa_cons (pe_fn F_place_at (by decide) hr (by rfl) passE0 (pa_cons (pe_ix (ixL (K := K) rfl) (pe_fldC T.cl_Course T.n_Course_goings (pv 1)) (pv 0) (fun _ _ => rfl)) (pa_cons (pe_fldC T.cl_Course T.n_Course_coming (pv 1)) pa_nil))) (pa_cons (pv 0) pa_nil))))) (fun _ => rfl)))), ?_⟩
  obtain ⟨dx, sh, nw, co, xs, ys, hp, hg, al, gsh, gnw, dnw, hj, aj, oc, ne⟩ := id cr
  have hz := Al2.len al
  refine ⟨_, rfl, p, _, _, rfl, hp, rfl, p, gs, now, n, g, j, rfl, cr, l12, fun r1 H1 s1 n1 e1 => ?_⟩
  have ll : (leftsQ gs).length ≤ 24 := by
    unfold leftsQ
    split
    · exact Nat.zero_le _
    · exact Nat.le_trans (List.length_filter_le _ _) (by rw [List.length_range, jnts_len]; omega)
  have mq : metsQ gs = (leftsQ gs).map fun i => ((cmng gs).getD 0, plcQ (bodAt gs i) ((cmng gs).getD 0), i) := by
    unfold metsQ
    cases q : cmng gs with
    | none =>
      unfold leftsQ
      rw [q]
      rfl
    | some t => rfl
  have len : (intsN (leftsQ gs)).length = (leftsQ gs).length := List.length_map _
  refine ⟨r1, rfl, ⟨_, SqL.of e1⟩, lc_list (K := K) (xs := intsN (leftsQ gs)) (fun i zs H' => i ≤ (leftsQ gs).length ∧ Same H1 H' ∧ Al2 (MtQ K H') zs ((metsQ gs).take i)) ⟨Nat.zero_le _, Same.refl _, trivial⟩ (by rw [len]; exact Nat.le_trans ll (by decide)) (fun i zs H1 z => by obtain ⟨l, _, e⟩ := z; have := Al2.len e; rw [mq, List.length_take, List.length_map] at this; omega) (fun i zs H' z => by obtain ⟨_, g, _⟩ := z; exact SqL.of (g _ _ e1)) ?_ ?_⟩
  · rintro i x zs H2 Q2 hx ⟨hl, s2, hy⟩ kq
    have hi : i < (leftsQ gs).length := by rw [← len]; exact (List.getElem?_eq_some_iff.mp hx).1
    unfold intsN at hx
    rw [List.getElem?_map] at hx
    obtain ⟨l, hlm, rfl⟩ := Option.map_eq_some_iff.mp hx
    have lm := List.mem_of_getElem? hlm
    obtain ⟨lg, jt⟩ := lefts_lt lm
    obtain ⟨t, et⟩ : ∃ t, cmng gs = some t := by
      cases q : cmng gs with
      | none =>
        unfold leftsQ at lm
        rw [q] at lm
        exact nomatch lm
      | some t => exact ⟨t, rfl⟩
    have s12 := s1.trans s2
    obtain ⟨_, pt, e0, rfl, gt, dt⟩ : ∃ (q : Rat) (pt : Addr), cmng gs = some q ∧ co = .ref pt ∧ FQ K H2 pt t ∧ FB 1990 t := by
      rcases oc.same s12 with ⟨e, _⟩ | ⟨q, pt, e, e', g', d'⟩
      · rw [et] at e
        cases e
      · rw [et] at e
        injection e with e
        subst e
        exact ⟨t, pt, et, e', g', d'⟩
    obtain ⟨va, hva⟩ : ∃ va, xs[l]? = some va := ⟨_, List.getElem?_eq_getElem (by omega)⟩
    obtain ⟨b, hb, pb, pa, pc, rfl, x1, x2, x3, x4, x5, x6, x7⟩ := Al2.get (bds_same al s12) hva
    have hp2 := s12 _ _ hp
    have hg2 := s12 _ _ hg
    refine ⟨_, rfl, p, _, _, _, rfl, hp2, crs_c, _, rfl, p, _, _, _, rfl, hp2, crs_g, _, rfl, g, _, _, _, rfl, rfl, SqL.of hg2, atI_nat hva, _, rfl, p, _, _, _, rfl, hp2, crs_c, pb, pa, pc, _, _, _, pt, t, rfl, x1, x2, x3, x4, x5, x6, x7, gt, dt, fun r3 H3 s3 g3 => ?_⟩
    refine ⟨_, rfl, by show 3 ≤ sizeLine; decide, ?_⟩
    intro p4 n4
    obtain ⟨H4, q4, s4, e4⟩ := newO n4 (.tup [.ref pt, .ref r3, .int (l : Int)])
    rw [q4]
    clear q4
    refine kq _ _ ⟨hi, s2.trans (s3.trans s4), ?_⟩
    have nx : (metsQ gs)[i]? = some (t, plcQ b t, l) := by
      rw [mq, List.getElem?_map, hlm, et]
      show some (t, plcQ (bodAt gs l) t, l) = _
      rw [bodAt_of hb]
    rw [take_snoc nx]
    exact Al2.snoc (mts_same hy (s3.trans s4)) ⟨p4, pt, r3, rfl, SqT.of e4, Kw.Same.tup (s3.trans s4) gt, Kw.Same.tup s4 g3, dt, (FB.add x4 (FB.mul x5 dt)).mono (by decide)⟩
  · rintro zs H2 ⟨_, s2, hy⟩ pl hpl
    have en : (metsQ gs).take (intsN (leftsQ gs)).length = metsQ gs := List.take_of_length_le (by rw [mq, List.length_map, len]; exact Nat.le_refl _)
    rw [en] at hy
    obtain ⟨H3, q3, s3, e3⟩ := newO hpl (.lst zs)
    rw [q3]
    clear q3
    exact k pl zs H3 (s1.trans (s2.trans s3)) (none_of_sm (s1.trans s2) hpl) e3 (mts_same hy s3)
noncomputable def sp_go_alike (K : PySem.W.Frag) : Sp := fun vs H Q _ => ∃ (p a c : Addr) (x v : Rat) (m : Int) (p' a' c' : Addr) (x' v' : Rat) (m' : Int), vs = [.ref p, .ref p'] ∧ SqT K H p [.ref a, .ref c, .int m] ∧ FQ K H a x ∧ FQ K H c v ∧ SqT K H p' [.ref a', .ref c', .int m'] ∧ FQ K H a' x' ∧ FQ K H c' v' ∧ Q (.bl (decide (x = x' ∧ v = v'))) H
theorem sc_go_alike : FnScope ["one", "other"] ["one", "other"] (defScope (top 28)) := ⟨rfl, rfl, rfl, by decide +kernel, rfl, by decide +kernel, by decide +kernel⟩
theorem ok_go_alike (D : Df K mg "go_alike" (top 28) ["one", "other"]) (T : Tx K mg CK C) : Fn P w K mg base 1 "go_alike" ["one", "other"] (sp_go_alike K) := by
  refine D.ok0 sc_go_alike (fun vs H Q E h => ?_) (fun f cdv A outer s H vs Q E hr h => ?_)
  · obtain ⟨p, a, c, x, v, m, p', a', c', x', v', m', rfl, _⟩ := h
    rfl
  obtain ⟨p, a, c, x, v, m, p', a', c', x', v', m', rfl, hp, ga, gc, hp', ga', gc', k⟩ := h
  refine ⟨_, (pss_one (ps_ret (pe_and (pe_cmpR (op_eqQ (K := K) rfl (u100 hr)) (pe_ix ix_tup (pv 0) pe_int (fun _ _ => rfl)) (pe_ix ix_tup (pv 1) pe_int (fun _ _ => rfl)) (nomark _)) (pe_one (pe_cmpR (op_eqQ (K := K) rfl (u100 hr)) (pe_ix ix_tup (pv 0) pe_int (fun _ _ => rfl)) (pe_ix ix_tup (pv 1) pe_int (fun _ _ => rfl)) (nomark _)))))), ?_⟩
  refine ⟨_, rfl, p, _, _, _, rfl, rfl, hp, rfl, _, rfl, p', _, _, _, rfl, rfl, hp', rfl, a, a', x, x', rfl, rfl, ga, ga', ?_⟩
  by_cases e : x = x'
  · refine ⟨_, rfl, ?_⟩
    rw [decide_eq_true e]
    refine iteT ?_
    refine ⟨_, rfl, p, _, _, _, rfl, rfl, hp, rfl, _, rfl, p', _, _, _, rfl, rfl, hp', rfl, c, c', v, v', rfl, rfl, gc, gc', ?_⟩
    have z : decide (x = x' ∧ v = v') = decide (v = v') := decide_eq_decide.mpr ⟨fun h => h.2, fun h => ⟨e, h⟩⟩
    rw [z] at k
    exact k
  · refine ⟨_, rfl, ?_⟩
    rw [decide_eq_false e]
    refine iteF ?_
    have z : decide (x = x' ∧ v = v') = false := decide_eq_false fun h => e h.1
    rw [z] at k
    exact k
noncomputable def spC_are_together (K : PySem.W.Frag) (C : Addr) : Sp := fun vs H Q _ => ∃ (p : Addr) (gs : List Bod) (now : Rat) (n : Nat) (g j : Addr) (i : Nat), vs = [.ref p, .int (i : Int)] ∧ CrsAt K H C p gs now n g j ∧ i + 1 < gs.length ∧ Q (.bl (decide (togQ gs i))) H
theorem sc_Course_are_together : FnScope ["self", "left"] ["self", "left"] (defScope (mthAt (top 30) 6)) := ⟨rfl, rfl, rfl, by decide +kernel, rfl, by decide +kernel, by decide +kernel⟩
theorem ok_Course_are_together (D : DfM K (C 2) "are_together" "Course.are_together" (mthAt (top 30) 6) ["self", "left"]) (T : Tx K mg CK C) (F_go_alike : Fn P w K mg base 1 "go_alike" ["one", "other"] (sp_go_alike K)) : FnM P w K mg base 2 (C 2) "are_together" ["self", "left"] (spC_are_together K (C 2)) := by
  refine D.ok0 sc_Course_are_together (fun vs H Q E h => ?_) (fun f cdv A outer s H vs Q E hr h => ?_)
  · obtain ⟨p, gs, now, n, g, j, i, rfl, _⟩ := h
    rfl
  obtain ⟨p, gs, now, n, g, j, i, rfl, ⟨dx, sh, nw, co, xs, ys, hp, hg, al, gsh, gnw, dnw, hj, aj, oc, ne⟩, i1, k⟩ := h
  refine ⟨_, (pss_one (ps_ret (pe_or (pe_cmpR (op_eqOR (K := K) rfl (u100 hr)) (pe_ix ix_list (pe_fldC T.cl_Course T.n_Course_joints (pv 0)) (pv 1) (fun _ _ => rfl)) (pe_fldC T.cl_Course T.n_Course_coming (pv 0)) (nomark _)) (pe_one (pe_fn F_go_alike (by decide) hr (by rfl) passE0 (pa_cons (pe_ix ix_list (pe_fldC T.cl_Course T.n_Course_goings (pv 0)) (pv 1) (fun _ _ => rfl)) (pa_cons (pe_ix ix_list (pe_fldC T.cl_Course T.n_Course_goings (pv 0)) (pe_op op_add (pv 1) pe_int) (fun _ _ => rfl)) pa_nil))))))), ?_⟩
  have hz := Al2.len al
  have lj := Al2.len aj
  have lg := jnts_len gs
  obtain ⟨v, hv⟩ : ∃ v, ys[i]? = some v := ⟨_, List.getElem?_eq_getElem (by omega)⟩
  obtain ⟨o, ho, ro⟩ := Al2.get aj hv
  refine ⟨_, rfl, p, _, _, _, rfl, hp, crs_j, _, rfl, j, _, _, _, rfl, rfl, SqL.of hj, atI_nat hv, _, rfl, p, _, _, _, rfl, hp, crs_c, o, cmng gs, ro, oc, ?_⟩
  by_cases e : o = cmng gs
  · refine ⟨_, rfl, ?_⟩
    rw [decide_eq_true e]
    refine iteT ?_
    have z : decide (togQ gs i) = true := decide_eq_true (.inl (by rw [ho, e]))
    rw [z] at k
    exact k
  · refine ⟨_, rfl, ?_⟩
    rw [decide_eq_false e]
    refine iteF ?_
    obtain ⟨va, hva⟩ : ∃ va, xs[i]? = some va := ⟨_, List.getElem?_eq_getElem (by omega)⟩
    obtain ⟨vb, hvb⟩ : ∃ vb, xs[i + 1]? = some vb := ⟨_, List.getElem?_eq_getElem (by omega)⟩
    obtain ⟨a, ha, pa, a1, c1, rfl, x1, x2, x3, _⟩ := Al2.get al hva
    obtain ⟨b, hb, pb, a2, c2, rfl, y1, y2, y3, _⟩ := Al2.get al hvb
    refine ⟨_, rfl, p, _, _, _, rfl, hp, crs_g, _, rfl, g, _, _, _, rfl, rfl, SqL.of hg, atI_nat hva, _, rfl, p, _, _, _, rfl, hp, crs_g, _, rfl, _, _, rfl, rfl, g, _, _, _, rfl, rfl, SqL.of hg, atI_nat hvb, pa, a1, c1, _, _, _, pb, a2, c2, _, _, _, rfl, x1, x2, x3, y1, y2, y3, ?_⟩
    have z : decide (togQ gs i) = decide (a.1 = b.1 ∧ a.2.1 = b.2.1) := by
      refine decide_eq_decide.mpr ⟨fun h => ?_, fun h => .inr ?_⟩
      · rcases h with h | h
        · rw [ho] at h
          exact absurd (Option.some.inj h) e
        · rw [bodAt_of ha, bodAt_of hb] at h
          exact h
      · rw [bodAt_of ha, bodAt_of hb]
        exact h
    rw [z] at k
    exact k
noncomputable def spC_gathered (K : PySem.W.Frag) (C : Addr) : Sp := fun vs H Q _ => ∃ (p : Addr) (gs : List Bod) (now : Rat) (n : Nat) (g j : Addr) (i : Nat), vs = [.ref p, .int (i : Int)] ∧ CrsAt K H C p gs now n g j ∧ gs.length ≤ 24 ∧ i + 1 < gs.length ∧ ∀ (r : Addr) (a m : Nat) (H1 : Hp), Same H H1 → GathQ gs i a m → H1 r = some (.tup ((List.range m).map fun k : Nat => V.int ((a : Int) + (k : Int)))) → Q (.ref r) H1
theorem sc_Course_gathered : FnScope ["self", "left", "first", "last"] ["self", "left"] (defScope (mthAt (top 30) 7)) := ⟨rfl, rfl, rfl, by decide +kernel, rfl, by decide +kernel, by decide +kernel⟩
theorem ok_Course_gathered (D : DfM K (C 2) "gathered" "Course.gathered" (mthAt (top 30) 7) ["self", "left"]) (T : Tx K mg CK C) (F_Course_are_together : FnM P w K mg base 2 (C 2) "are_together" ["self", "left"] (spC_are_together K (C 2))) : FnM P w K mg base 3 (C 2) "gathered" ["self", "left"] (spC_gathered K (C 2)) := by
  refine D.ok0 sc_Course_gathered (fun vs H Q E h => ?_) (fun f cdv A outer s H vs Q E hr h => ?_)
  · obtain ⟨p, gs, now, n, g, j, i, rfl, _⟩ := h
    rfl
  obtain ⟨p, gs, now, n, g, j, i, rfl, cr, l12, i1, k⟩ := h
  refine ⟨_, (pss_cons (ps_set (i := 2) sc_Course_gathered.nd rfl (Or.inl rfl) (pv 1))
      (pss_cons (ps_while PassesOwn.never (pw_and (pt_cmpR op_gt (pv 2) pe_int (nomark _)) (pw_and1 (pt_val (pe_mt T.cl_Course F_Course_are_together (by decide) hr passE0 (pv 0) (pa_cons (pe_op op_sub (pv 2) pe_int) pa_nil)) (fun _ => rfl)))).pt (pss_one (ps_aug (i := 2) sc_Course_gathered.nd rfl (Or.inl rfl) pe_int ip_sub)))
      (pss_cons (ps_set (i := 3) sc_Course_gathered.nd rfl (Or.inl rfl) (pe_op op_add (pv 1) pe_int))
      (pss_cons (ps_while PassesOwn.never (pw_and (pt_cmpR op_lt (pv 3) (pe_callB call_len (by rfl) T.b_len PyProof.Rows.Boot.«len» (pa_cons (pe_fldC T.cl_Course T.n_Course_joints (pv 0)) pa_nil)) (nomark _)) (pw_and1 (pt_val (pe_mt T.cl_Course F_Course_are_together (by decide) hr passE0 (pv 0) (pa_cons (pv 3) pa_nil)) (fun _ => rfl)))).pt (pss_one (ps_aug (i := 3) sc_Course_gathered.nd rfl (Or.inl rfl) pe_int ip_add)))
      (pss_one (ps_ret (pe_tupRange rfl (by rfl) T.b_tuple (by rfl) T.b_range (pa_cons (pv 2) (pa_cons (pe_op op_add (pv 3) pe_int) pa_nil))))))))), ?_⟩
  obtain ⟨dx, sh, nw, co, xs, ys, hp, hg, al, gsh, gnw, dnw, hj, aj, oc, ne⟩ := id cr
  have lj := Al2.len aj
  have lg := jnts_len gs
  refine ⟨_, rfl, ?_⟩
  refine g_go ?_
  dsimp only
  refine cut1 (fun σ' H' => ∃ a : Nat, σ' = [some (.ref p), some (.int (i : Int)), some (.int (a : Int)), none] ∧ H' = H ∧ a ≤ i ∧ (∀ k, a ≤ k → k < i → togQ gs k) ∧ (a = 0 ∨ ¬ togQ gs (a - 1))) (fun N hN => ?_) ?_
  · refine ⟨fun m σ' H' => ∃ a : Nat, σ' = [some (.ref p), some (.int (i : Int)), some (.int (a : Int)), none] ∧ H' = H ∧ m = a ∧ a ≤ i ∧ ∀ k, a ≤ k → k < i → togQ gs k, ⟨_, i, rfl, rfl, rfl, Nat.le_refl _, fun k h1 h2 => absurd h1 (by omega)⟩, ?_⟩
    rintro m σ' H' ⟨a, rfl, rfl, rfl, ai, up⟩
    refine ⟨_, rfl, _, _, rfl, rfl, _, rfl, ?_⟩
    refine if_dec (fun c => ?_) (fun c => ?_)
    · have m0 : 0 < m := by omega
      refine ⟨_, rfl, p, _, _, rfl, hp, rfl, _, rfl, _, _, rfl, rfl, p, gs, now, n, g, j, m - 1, by rw [show ((m - 1 : Nat) : Int) = (m : Int) - 1 by omega]; rfl, cr, by omega, _, rfl, ?_⟩
      refine if_dec (fun tg => ?_) (fun tg => ?_)
      · refine ⟨_, fun _ _ n => n, ?_⟩
        refine ⟨_, rfl, _, _, rfl, rfl, ?_⟩
        refine ⟨m - 1, by omega, m - 1, by rw [show ((m - 1 : Nat) : Int) = (m : Int) - 1 by omega]; rfl, rfl, rfl, by omega, fun k h1 h2 => ?_⟩
        by_cases e : k = m - 1
        · rw [e]
          exact tg
        · exact up k (by omega) h2
      · exact hN _ _ ⟨m, rfl, rfl, ai, up, .inr tg⟩
    · exact hN _ _ ⟨m, rfl, rfl, ai, up, .inl (by omega)⟩
  · rintro σ' H' ⟨a, rfl, rfl, ai, up, low⟩
    refine ⟨_, rfl, _, _, rfl, rfl, ?_⟩
    refine g_go ?_
    dsimp only
    refine cut1 (fun σ' H1 => ∃ b : Nat, σ' = [some (.ref p), some (.int (i : Int)), some (.int (a : Int)), some (.int (b : Int))] ∧ H1 = H' ∧ i + 1 ≤ b ∧ b + 1 ≤ gs.length ∧ (∀ k, i < k → k < b → togQ gs k) ∧ (b + 1 = gs.length ∨ ¬ togQ gs b)) (fun N hN => ?_) ?_
    · refine ⟨fun m σ' H1 => ∃ b : Nat, σ' = [some (.ref p), some (.int (i : Int)), some (.int (a : Int)), some (.int (b : Int))] ∧ H1 = H' ∧ m = gs.length - b ∧ i + 1 ≤ b ∧ b + 1 ≤ gs.length ∧ ∀ k, i < k → k < b → togQ gs k, ⟨_, i + 1, rfl, rfl, rfl, Nat.le_refl _, by omega, fun k h1 h2 => absurd h1 (by omega)⟩, ?_⟩
      rintro m σ' H1 ⟨b, rfl, rfl, rfl, bi, bl, dn⟩
      refine ⟨_, rfl, _, rfl, p, _, _, _, rfl, hp, crs_j, _, _, rfl, .inl ⟨_, SqL.of hj, rfl⟩, _, _, rfl, rfl, _, rfl, ?_⟩
      refine if_dec (fun c => ?_) (fun c => ?_)
      · have bl' : b + 1 < gs.length := by omega
        refine ⟨_, rfl, p, _, _, rfl, hp, rfl, _, rfl, p, gs, now, n, g, j, b, rfl, cr, bl', _, rfl, ?_⟩
        refine if_dec (fun tg => ?_) (fun tg => ?_)
        · refine ⟨_, fun _ _ n => n, ?_⟩
          refine ⟨_, rfl, _, _, rfl, rfl, ?_⟩
          refine ⟨gs.length - (b + 1), by omega, b + 1, rfl, rfl, rfl, by omega, by omega, fun k h1 h2 => ?_⟩
          by_cases e : k = b
          · rw [e]
            exact tg
          · exact dn k h1 (by omega)
        · exact hN _ _ ⟨b, rfl, rfl, bi, bl, dn, .inr tg⟩
      · exact hN _ _ ⟨b, rfl, rfl, bi, bl, dn, .inl (by omega)⟩
    · rintro σ' H1 ⟨b, rfl, rfl, bi, bl, dn, hi⟩
      refine ⟨_, rfl, _, rfl, _, _, rfl, rfl, (a : Int), b + 1 - a, by rw [show (a : Int) + ((b + 1 - a : Nat) : Int) = (b : Int) + 1 by omega], by omega, by omega, by omega, ?_⟩
      intro p5 n5
      obtain ⟨H5, q5, s5, e5⟩ := newO n5 (.tup ((List.range (b + 1 - a)).map fun k : Nat => V.int ((a : Int) + (k : Int))))
      rw [q5]
      clear q5
      refine k p5 a (b + 1 - a) H5 s5 ⟨ai, by omega, by omega, up, low, fun k h1 h2 => dn k h1 (by omega), ?_⟩ e5
      rcases hi with e | e
      · exact .inl (by omega)
      · refine .inr ?_
        rw [show a + (b + 1 - a) - 1 = b by omega]
        exact e
noncomputable def CrwAt (gs : List Bod) (i : Nat) : Prop := (0 < i ∧ togQ gs (i - 1)) ∨ (i + 1 < (jnts gs).length ∧ togQ gs (i + 1))
noncomputable def FrsC (gs : List Bod) (i : Nat) : Prop := ∃ k : Nat, (leftsQ gs)[k]? = some i ∧ CrwAt gs i ∧ ∀ k' i' : Nat, k' < k → (leftsQ gs)[k']? = some i' → ¬ CrwAt gs i'
noncomputable def spC_crowd (K : PySem.W.Frag) (C : Addr) : Sp := fun vs H Q _ => ∃ (p : Addr) (gs : List Bod) (now : Rat) (n : Nat) (g j : Addr), vs = [.ref p] ∧ CrsAt K H C p gs now n g j ∧ gs.length ≤ 24 ∧ (¬ crwQ gs → ∀ H1, Same H H1 → Q .non H1) ∧ (crwQ gs → ∀ (r : Addr) (i a m : Nat) (H1 : Hp), Same H H1 → FrsC gs i → GathQ gs i a m → H1 r = some (.tup ((List.range m).map fun k : Nat => V.int ((a : Int) + (k : Int)))) → Q (.ref r) H1)
theorem sc_Course_crowd : FnScope ["self", "left", "numbers"] ["self"] (defScope (mthAt (top 30) 8)) := ⟨rfl, rfl, rfl, by decide +kernel, rfl, by decide +kernel, by decide +kernel⟩
theorem ok_Course_crowd (D : DfM K (C 2) "crowd" "Course.crowd" (mthAt (top 30) 8) ["self"]) (T : Tx K mg CK C) (F_Course_lefts : FnM P w K mg base 1 (C 2) "lefts" ["self"] (spC_lefts K (C 2))) (F_Course_gathered : FnM P w K mg base 3 (C 2) "gathered" ["self", "left"] (spC_gathered K (C 2))) : FnM P w K mg base 4 (C 2) "crowd" ["self"] (spC_crowd K (C 2)) := by
  refine D.ok0 sc_Course_crowd (fun vs H Q E h => ?_) (fun f cdv A outer s H vs Q E hr h => ?_)
  · obtain ⟨p, gs, now, n, g, j, rfl, _⟩ := h
    rfl
  obtain ⟨p, gs, now, n, g, j, rfl, cr, l12, kn, kc⟩ := h
  refine ⟨_, (pss_cons (ps_for PassesOwn.never rfl (pi_list (pe_mt0 T.cl_Course F_Course_lefts (by decide) hr passE0 (pv 0))) (pg_name (i := 1) sc_Course_crowd.nd rfl (Or.inl rfl)) (pss_cons (ps_set (i := 2) sc_Course_crowd.nd rfl (Or.inl rfl) (pe_mt T.cl_Course F_Course_gathered (by decide) hr passE0 (pv 0) (pa_cons (pv 1) pa_nil)))
      (pss_one (ps_if (pt_cmpR op_gt (pe_callB call_len (by rfl) T.b_len PyProof.Rows.Boot.«len» (pa_cons (pv 2) pa_nil)) pe_int (nomark _)) (pss_one (ps_ret (pv 2))) pss_nil))))
      (pss_one (ps_ret pe_non))), ?_⟩
  obtain ⟨dx, sh, nw, co, xs, ys, hp, hg, al, gsh, gnw, dnw, hj, aj, oc, ne⟩ := id cr
  refine ⟨_, rfl, p, _, _, rfl, hp, rfl, p, gs, now, n, g, j, rfl, cr, l12, fun r1 H1 s1 n1 e1 => ?_⟩
  have len : (intsN (leftsQ gs)).length = (leftsQ gs).length := List.length_map _
  refine ⟨r1, rfl, ⟨_, SqL.of e1⟩, for_list (K := K) (a := r1) (xs := intsN (leftsQ gs)) (fun k σ' H' => ∃ u1 u2 : Option V, σ' = [some (.ref p), u1, u2] ∧ Same H1 H' ∧ ∀ k' i' : Nat, k' < k → (leftsQ gs)[k']? = some i' → ¬ CrwAt gs i') ⟨_, _, rfl, Same.refl _, fun k' i' h => absurd h (by omega)⟩ (by rintro _ _ _ _ ⟨_, _, _, g, _⟩; exact SqL.of (g _ _ e1)) ?_ ?_⟩
  · rintro k x σ' H2 hx ⟨u1, u2, rfl, s2, below⟩
    unfold intsN at hx
    rw [List.getElem?_map] at hx
    obtain ⟨i, hi, rfl⟩ := Option.map_eq_some_iff.mp hx
    have lm := List.mem_of_getElem? hi
    obtain ⟨lg, _⟩ := lefts_lt lm
    have s12 := s1.trans s2
    refine ⟨_, rfl, p, _, _, rfl, s12 _ _ hp, rfl, _, rfl, p, gs, now, n, g, j, i, rfl, cr.same s12, l12, lg, fun r3 a m H3 s3 gq e3 => ?_⟩
    have two := gq.two
    refine ⟨_, rfl, _, _, rfl, .inr ⟨_, SqT.of e3, rfl⟩, _, _, rfl, rfl, _, rfl, ?_⟩
    refine if_dec (fun c => ?_) (fun c => ?_)
    · rw [List.length_map, List.length_range] at c
      have ca : CrwAt gs i := two.mp (by omega)
      exact ⟨_, rfl, kc ⟨i, lm, ca⟩ r3 i a m H3 (s12.trans s3) ⟨k, hi, ca, below⟩ gq e3⟩
    · rw [List.length_map, List.length_range] at c
      refine ⟨_, _, rfl, s2.trans s3, fun k' i' h1 h2 => ?_⟩
      by_cases e : k' = k
      · subst e
        cases hi.symm.trans h2
        exact fun z => c (by have := two.mpr z; omega)
      · exact below k' i' (by omega) h2
  · rintro σ' H2 ⟨u1, u2, rfl, s2, below⟩
    refine kn (fun z => ?_) H2 (s1.trans s2)
    obtain ⟨i, hi, ca⟩ := z
    obtain ⟨k, hk, ek⟩ := List.mem_iff_getElem.mp hi
    exact below k i (by rw [len]; exact hk) (by rw [List.getElem?_eq_getElem hk, ek]) ca
noncomputable def spC_is_crowded (K : PySem.W.Frag) (C : Addr) : Sp := fun vs H Q _ => ∃ (p : Addr) (gs : List Bod) (now : Rat) (n : Nat) (g j : Addr), vs = [.ref p] ∧ CrsAt K H C p gs now n g j ∧ gs.length ≤ 24 ∧ ∀ (b : Bool) (H1 : Hp), (b = true ↔ crwQ gs) → Same H H1 → Q (.bl b) H1
theorem sc_Course_is_crowded : FnScope ["self"] ["self"] (defScope (mthAt (top 30) 9)) := ⟨rfl, rfl, rfl, by decide +kernel, rfl, by decide +kernel, by decide +kernel⟩
theorem ok_Course_is_crowded (D : DfM K (C 2) "is_crowded" "Course.is_crowded" (mthAt (top 30) 9) ["self"]) (T : Tx K mg CK C) (F_Course_crowd : FnM P w K mg base 4 (C 2) "crowd" ["self"] (spC_crowd K (C 2))) : FnM P w K mg base 5 (C 2) "is_crowded" ["self"] (spC_is_crowded K (C 2)) := by
  refine D.ok0 sc_Course_is_crowded (fun vs H Q E h => ?_) (fun f cdv A outer s H vs Q E hr h => ?_)
  · obtain ⟨p, gs, now, n, g, j, rfl, _⟩ := h
    rfl
  obtain ⟨p, gs, now, n, g, j, rfl, cr, l12, k⟩ := h
  refine ⟨_, (pss_one (ps_ret (pe_cmpR op_notN (pe_mt0 T.cl_Course F_Course_crowd (by decide) hr passE0 (pv 0)) pe_non (nomark _)))), ?_⟩
  obtain ⟨dx, sh, nw, co, xs, ys, hp, _⟩ := id cr
  refine ⟨_, rfl, p, _, _, rfl, hp, rfl, p, gs, now, n, g, j, rfl, cr, l12, fun nc H1 s1 => ⟨rfl, ?_⟩, fun c r i a m H1 s1 fc gq e1 => ⟨rfl, ?_⟩⟩
  · exact k _ H1 ⟨fun z => Bool.noConfusion z, fun z => absurd z nc⟩ s1
  · exact k _ H1 ⟨fun _ => c, fun _ => rfl⟩ s1
noncomputable def sp_mixed (K : PySem.W.Frag) : Sp := fun vs H Q _ => ∃ (p_x : Addr) (x : Rat) (p_y : Addr) (y : Rat) (m : Int) (u : Int) (p_s : Addr) (s : Rat), vs = [.ref p_x, .ref p_y, .int m, .int u, .ref p_s] ∧ FQ K H p_x x ∧ FB 1990 x ∧ FQ K H p_y y ∧ FB 1990 y ∧ 1 ≤ m ∧ m ≤ 10000 ∧ 1 ≤ u ∧ u ≤ 10000 ∧ FQ K H p_s s ∧ FB 64 s ∧ (∀ (p_r : Addr) (H1 : Hp), Same H H1 → FQ K H1 p_r (mixS x y m u s) → Q (.ref p_r) H1)
theorem sc_mixed : FnScope ["own", "far", "weight", "mass", "share", "both", "kept", "taken"] ["own", "far", "weight", "mass", "share"] (defScope (top 26)) := ⟨rfl, rfl, rfl, by decide +kernel, rfl, by decide +kernel, by decide +kernel⟩
theorem ok_mixed (D : Df K mg "mixed" (top 26) ["own", "far", "weight", "mass", "share"]) (T : Tx K mg CK C) (F_fraction : Fn P w K mg base 2 "fraction" ["top", "bottom"] (sp_fraction K)) (F_times : Fn P w K mg base 2 "times" ["one", "other"] (sp_times K)) (F_plus : Fn P w K mg base 2 "plus" ["one", "other"] (sp_plus K)) : Fn P w K mg base 3 "mixed" ["own", "far", "weight", "mass", "share"] (sp_mixed K) := by
  refine D.ok0 sc_mixed (fun vs H Q E h => ?_) (fun f cdv A outer s H vs Q E hr h => ?_)
  · obtain ⟨p_x, x, p_y, y, m, u, p_s, s, rfl, _⟩ := h
    rfl
  obtain ⟨p_x, x, p_y, y, m, u, p_s, s, rfl, g_x, d_x, g_y, d_y, lo_m, hi_m, lo_u, hi_u, g_s, d_s, k0⟩ := h
  refine ⟨_, (pss_cons (ps_set (i := 5) sc_mixed.nd rfl (Or.inl rfl) (pe_op op_mulB (pe_op op_add (pv 2) (pv 3)) (pe_ix ix_tup (pv 4) pe_int (fun _ _ => rfl))))
      (pss_cons (ps_set (i := 6) sc_mixed.nd rfl (Or.inl rfl) (pe_fn F_times (by decide) hr (by rfl) passE0 (pa_cons (pv 0) (pa_cons (pe_fn F_fraction (by decide) hr (by rfl) passE0 (pa_cons (pe_op op_sub (pe_op op_mulB (pv 2) (pe_ix ix_tup (pv 4) pe_int (fun _ _ => rfl))) (pe_op op_mulB (pv 3) (pe_ix ix_tup (pv 4) pe_int (fun _ _ => rfl)))) (pa_cons (pv 5) pa_nil))) pa_nil))))
      (pss_cons (ps_set (i := 7) sc_mixed.nd rfl (Or.inl rfl) (pe_fn F_times (by decide) hr (by rfl) passE0 (pa_cons (pv 1) (pa_cons (pe_fn F_fraction (by decide) hr (by rfl) passE0 (pa_cons (pe_op op_mulB (pv 3) (pe_op op_add (pe_ix ix_tup (pv 4) pe_int (fun _ _ => rfl)) (pe_ix ix_tup (pv 4) pe_int (fun _ _ => rfl)))) (pa_cons (pv 5) pa_nil))) pa_nil))))
      (pss_one (ps_ret (pe_fn F_plus (by decide) hr (by rfl) passE0 (pa_cons (pv 6) (pa_cons (pv 7) pa_nil)))))))), ?_⟩
  refine ⟨_, rfl, _, rfl, _, _, rfl, rfl, _, rfl, p_s, _, _, _, rfl, rfl, g_s, rfl, _, _, rfl, rfl, ((Bd.add ((Bd.small (i := m) (by omega) (by omega)).mono (n := 64) (by decide)) ((Bd.small (i := u) (by omega) (by omega)).mono (n := 64) (by decide))).ok d_s.2 (by decide)), ?_⟩
  refine ⟨_, rfl, _, rfl, _, rfl, p_s, _, _, _, rfl, rfl, g_s, rfl, _, _, rfl, rfl, ((Bd.small (i := m) (by omega) (by omega)).ok d_s.2 (by decide)), _, rfl, _, rfl, p_s, _, _, _, rfl, rfl, g_s, rfl, _, _, rfl, rfl, ((Bd.small (i := u) (by omega) (by omega)).ok d_s.1 (by decide)), _, _, rfl, rfl, _, rfl, _, _, rfl, ((Bd.mul (Bd.add ((Bd.small (i := m) (by omega) (by omega)).mono (n := 64) (by decide)) ((Bd.small (i := u) (by omega) (by omega)).mono (n := 64) (by decide))) d_s.2).mono (by decide)), (by exact both_ne (by omega) (by omega)), fun p_r10 H10 s10 g_r10 => ?_⟩
  have d_r10 : FB 129 (Rat.divInt (((m * (((s).den : Nat) : Int)) - (u * (s).num))) (((m + u) * (((s).den : Nat) : Int)))) := (FB.mono (FB.fit (by exact both_ne (by omega) (by omega)) ((Bd.sub ((Bd.mul (Bd.small (i := m) (by omega) (by omega)) d_s.2).mono (n := 128) (by decide)) ((Bd.mul (Bd.small (i := u) (by omega) (by omega)) d_s.1).mono (n := 128) (by decide))).mono (n := 129) (by decide)) ((Bd.mul (Bd.add ((Bd.small (i := m) (by omega) (by omega)).mono (n := 64) (by decide)) ((Bd.small (i := u) (by omega) (by omega)).mono (n := 64) (by decide))) d_s.2).mono (n := 129) (by decide))) (by decide))
  replace g_x := (Kw.Same.tup s10 g_x)
  refine ⟨_, _, _, _, rfl, g_x, (FB.mono d_x (by decide)), g_r10, (FB.mono d_r10 (by decide)), fun p_r11 H11 s11 g_r11 => ?_⟩
  have d_r11 : FB 2119 (x * ((Rat.divInt (((m * (((s).den : Nat) : Int)) - (u * (s).num))) (((m + u) * (((s).den : Nat) : Int)))))) := (FB.mono (FB.mul d_x d_r10) (by decide))
  replace g_s := (Kw.Same.tup s11 (Kw.Same.tup s10 g_s))
  refine ⟨_, rfl, _, rfl, _, rfl, p_s, _, _, _, rfl, rfl, g_s, rfl, _, rfl, p_s, _, _, _, rfl, rfl, g_s, rfl, _, _, rfl, rfl, _, _, rfl, rfl, ((Bd.small (i := u) (by omega) (by omega)).ok (Bd.add (d_s.2.mono (n := 64) (by decide)) (d_s.1.mono (n := 64) (by decide))) (by decide)), _, rfl, _, _, rfl, ((Bd.mul (Bd.add ((Bd.small (i := m) (by omega) (by omega)).mono (n := 64) (by decide)) ((Bd.small (i := u) (by omega) (by omega)).mono (n := 64) (by decide))) d_s.2).mono (by decide)), (by exact both_ne (by omega) (by omega)), fun p_r12 H12 s12 g_r12 => ?_⟩
  have d_r12 : FB 129 (Rat.divInt ((u * ((((s).den : Nat) : Int) + (s).num))) (((m + u) * (((s).den : Nat) : Int)))) := (FB.mono (FB.fit (by exact both_ne (by omega) (by omega)) ((Bd.mul (Bd.small (i := u) (by omega) (by omega)) (Bd.add (d_s.2.mono (n := 64) (by decide)) (d_s.1.mono (n := 64) (by decide)))).mono (n := 129) (by decide)) ((Bd.mul (Bd.add ((Bd.small (i := m) (by omega) (by omega)).mono (n := 64) (by decide)) ((Bd.small (i := u) (by omega) (by omega)).mono (n := 64) (by decide))) d_s.2).mono (n := 129) (by decide))) (by decide))
  replace g_y := (Kw.Same.tup s12 (Kw.Same.tup s11 (Kw.Same.tup s10 g_y)))
  refine ⟨_, _, _, _, rfl, g_y, (FB.mono d_y (by decide)), g_r12, (FB.mono d_r12 (by decide)), fun p_r13 H13 s13 g_r13 => ?_⟩
  have d_r13 : FB 2119 (y * ((Rat.divInt ((u * ((((s).den : Nat) : Int) + (s).num))) (((m + u) * (((s).den : Nat) : Int)))))) := (FB.mono (FB.mul d_y d_r12) (by decide))
  replace g_r11 := (Kw.Same.tup s13 (Kw.Same.tup s12 g_r11))
  refine ⟨_, rfl, _, rfl, _, _, _, _, rfl, g_r11, (FB.mono d_r11 (by decide)), g_r13, (FB.mono d_r13 (by decide)), fun p_r14 H14 s14 g_r14 => ?_⟩
  have d_r14 : FB 4239 (((x * ((Rat.divInt (((m * (((s).den : Nat) : Int)) - (u * (s).num))) (((m + u) * (((s).den : Nat) : Int))))))) + ((y * ((Rat.divInt ((u * ((((s).den : Nat) : Int) + (s).num))) (((m + u) * (((s).den : Nat) : Int)))))))) := (FB.mono (FB.add d_r11 d_r13) (by decide))
  have e15 : ((((x * ((Rat.divInt (((m * (((s).den : Nat) : Int)) - (u * (s).num))) (((m + u) * (((s).den : Nat) : Int))))))) + ((y * ((Rat.divInt ((u * ((((s).den : Nat) : Int) + (s).num))) (((m + u) * (((s).den : Nat) : Int)))))))) : Rat) = mixS x y m u s := by rfl
  exact k0 _ _ (s10.trans (s11.trans (s12.trans (s13.trans s14)))) (FQ.cast g_r14 e15)
noncomputable def sp_behind (K : PySem.W.Frag) : Sp := fun vs H Q _ => ∃ (p a c : Addr) (x v : Rat) (m : Int) (p' a' c' : Addr) (x' v' : Rat) (m' : Int) (sh : Addr), vs = [.ref p, .ref p', .ref sh] ∧ SqT K H p [.ref a, .ref c, .int m] ∧ FQ K H a x ∧ FQ K H c v ∧ FB 1990 x ∧ FB 1990 v ∧ 1 ≤ m ∧ m ≤ 10000 ∧ SqT K H p' [.ref a', .ref c', .int m'] ∧ FQ K H a' x' ∧ FQ K H c' v' ∧ FB 1990 x' ∧ FB 1990 v' ∧ 1 ≤ m' ∧ m' ≤ 10000 ∧ FQ K H sh ((1 : Int) : Rat) ∧ ∀ (r f1 f2 : Addr) (H1 : Hp), Same H H1 → SqT K H1 r [.ref f1, .ref f2, .int m] → FQ K H1 f1 (mixQ x x' m m') → FQ K H1 f2 (mixQ v v' m m') → Q (.ref r) H1
theorem sc_behind : FnScope ["one", "other", "share", "place", "speed"] ["one", "other", "share"] (defScope (top 27)) := ⟨rfl, rfl, rfl, by decide +kernel, rfl, by decide +kernel, by decide +kernel⟩
theorem ok_behind (D : Df K mg "behind" (top 27) ["one", "other", "share"]) (T : Tx K mg CK C) (F_mixed : Fn P w K mg base 3 "mixed" ["own", "far", "weight", "mass", "share"] (sp_mixed K)) : Fn P w K mg base 4 "behind" ["one", "other", "share"] (sp_behind K) := by
  refine D.ok0 sc_behind (fun vs H Q E h => ?_) (fun f cdv A outer s H vs Q E hr h => ?_)
  · obtain ⟨p, a, c, x, v, m, p', a', c', x', v', m', sh, rfl, _⟩ := h
    rfl
  obtain ⟨p, a, c, x, v, m, p', a', c', x', v', m', sh, rfl, hp, ga, gc, da, dc, m1, m2, hp', ga', gc', da', dc', m1', m2', gsh, k⟩ := h
  refine ⟨_, (pss_cons (ps_set (i := 3) sc_behind.nd rfl (Or.inl rfl) (pe_fn F_mixed (by decide) hr (by rfl) passE0 (pa_cons (pe_ix ix_tup (pv 0) pe_int (fun _ _ => rfl)) (pa_cons (pe_ix ix_tup (pv 1) pe_int (fun _ _ => rfl)) (pa_cons (pe_ix ix_tup (pv 0) pe_int (fun _ _ => rfl)) (pa_cons (pe_ix ix_tup (pv 1) pe_int (fun _ _ => rfl)) (pa_cons (pv 2) pa_nil)))))))
      (pss_cons (ps_set (i := 4) sc_behind.nd rfl (Or.inl rfl) (pe_fn F_mixed (by decide) hr (by rfl) passE0 (pa_cons (pe_ix ix_tup (pv 0) pe_int (fun _ _ => rfl)) (pa_cons (pe_ix ix_tup (pv 1) pe_int (fun _ _ => rfl)) (pa_cons (pe_ix ix_tup (pv 0) pe_int (fun _ _ => rfl)) (pa_cons (pe_ix ix_tup (pv 1) pe_int (fun _ _ => rfl)) (pa_cons (pv 2) pa_nil)))))))
      (pss_one (ps_ret (pe_tup (pa_cons (pv 3) (pa_cons (pv 4) (pa_cons (pe_ix ix_tup (pv 0) pe_int (fun _ _ => rfl)) pa_nil)))))))), ?_⟩
  have ds : FB 64 ((1 : Int) : Rat) := FB.ofInt (Bd.small (i := 1) (by decide) (by decide)) (by decide)
  refine ⟨_, rfl, p, _, _, _, rfl, rfl, hp, rfl, _, rfl, p', _, _, _, rfl, rfl, hp', rfl, _, rfl, p, _, _, _, rfl, rfl, hp, rfl, _, rfl, p', _, _, _, rfl, rfl, hp', rfl, _, rfl, a, x, a', x', m, m', sh, _, rfl, ga, da, ga', da', m1, m2, m1', m2', gsh, ds, fun r1 H1 s1 g1 => ?_⟩
  have hp1 := Kw.Same.tup s1 hp
  have hp1' := Kw.Same.tup s1 hp'
  refine ⟨_, rfl, p, _, _, _, rfl, rfl, hp1, rfl, _, rfl, p', _, _, _, rfl, rfl, hp1', rfl, _, rfl, p, _, _, _, rfl, rfl, hp1, rfl, _, rfl, p', _, _, _, rfl, rfl, hp1', rfl, _, rfl, c, v, c', v', m, m', sh, _, rfl, Kw.Same.tup s1 gc, dc, Kw.Same.tup s1 gc', dc', m1, m2, m1', m2', Kw.Same.tup s1 gsh, ds, fun r2 H2 s2 g2 => ?_⟩
  have hp2 := Kw.Same.tup s2 hp1
  refine ⟨_, rfl, _, rfl, _, rfl, p, _, _, _, rfl, rfl, hp2, rfl, by show 3 ≤ sizeLine; decide, ?_⟩
  intro p3 n3
  obtain ⟨H3, q3, s3, e3⟩ := newO n3 (.tup [.ref r1, .ref r2, .int m])
  rw [q3]
  clear q3
  exact k p3 r1 r2 H3 (s1.trans (s2.trans s3)) (SqT.of e3) (FQ.cast (Kw.Same.tup (s2.trans s3) g1) (mixS_one _ _ _ _)) (FQ.cast (Kw.Same.tup s3 g2) (mixS_one _ _ _ _))
noncomputable def spC_part (K : PySem.W.Frag) (C : Addr) : Sp := fun vs H Q _ => ∃ (p dx g sh nw : Addr) (n : Int) (j : Addr) (co : V) (xs ys : List V) (gs : List Bod) (i : Nat), vs = [.ref p, .int (i : Int)] ∧ H p = some (.ins C dx (crs g sh nw n j co)) ∧ H g = some (.lst xs) ∧ Al2 (BdQ K H 1990) xs gs ∧ FQ K H sh ((1 : Int) : Rat) ∧ H j = some (.lst ys) ∧ Al2 (OptR K H) ys (jnts gs) ∧ g ≠ j ∧ gs.length ≤ 24 ∧ i + 1 < gs.length ∧ Com 1974 gs ∧ ∀ (xs' ys' : List V) (H1 : Hp), Buts [g, j] H H1 → H1 g = some (.lst xs') → Al2 (BdQ K H1 1990) xs' (partQ gs i) → H1 j = some (.lst ys') → Al2 (OptR K H1) ys' (jnts (partQ gs i)) → Q .non H1
theorem sc_Course_part : FnScope ["self", "left", "one", "other", "near"] ["self", "left"] (defScope (mthAt (top 30) 12)) := ⟨rfl, rfl, rfl, by decide +kernel, rfl, by decide +kernel, by decide +kernel⟩
theorem ok_Course_part (D : DfM K (C 2) "part" "Course.part" (mthAt (top 30) 12) ["self", "left"]) (T : Tx K mg CK C) (F_behind : Fn P w K mg base 4 "behind" ["one", "other", "share"] (sp_behind K)) (F_joint_moment : Fn P w K mg base 4 "joint_moment" ["one", "other"] (sp_joint_moment K)) : FnM P w K mg base 5 (C 2) "part" ["self", "left"] (spC_part K (C 2)) := by
  refine D.ok0 sc_Course_part (fun vs H Q E h => ?_) (fun f cdv A outer s H vs Q E hr h => ?_)
  · obtain ⟨p, dx, g, sh, nw, n, j, co, xs, ys, gs, i, rfl, _⟩ := h
    rfl
  obtain ⟨p, dx, g, sh, nw, n, j, co, xs, ys, gs, i, rfl, hp, hg, al, gsh, hj, aj, ne, l12, i1, com, k⟩ := h
  refine ⟨_, (pss_cons (ps_set (i := 2) sc_Course_part.nd rfl (Or.inl rfl) (pe_ix ix_list (pe_fldC T.cl_Course T.n_Course_goings (pv 0)) (pv 1) (fun _ _ => rfl)))
      (pss_cons (ps_set (i := 3) sc_Course_part.nd rfl (Or.inl rfl) (pe_ix ix_list (pe_fldC T.cl_Course T.n_Course_goings (pv 0)) (pe_op op_add (pv 1) pe_int) (fun _ _ => rfl)))
      (pss_cons (ps_asg (pe_fn F_behind (by decide) hr (by rfl) passE0 (pa_cons (pv 2) (pa_cons (pv 3) (pa_cons (pe_fldC T.cl_Course T.n_Course_share (pv 0)) pa_nil)))) (pg_sub (pe_fldC T.cl_Course T.n_Course_goings (pv 0)) (pv 1) set_list))
      (pss_cons (ps_asg (pe_fn F_behind (by decide) hr (by rfl) passE0 (pa_cons (pv 3) (pa_cons (pv 2) (pa_cons (pe_fldC T.cl_Course T.n_Course_share (pv 0)) pa_nil)))) (pg_sub (pe_fldC T.cl_Course T.n_Course_goings (pv 0)) (pe_op op_add (pv 1) pe_int) set_list))
      (pss_one (ps_for PassesOwn.never rfl (pi_range2 (by rfl) T.b_range (pa_cons (pe_callB (call_max2 rfl) (by rfl) T.b_max PyProof.Rows.Boot.«max» (pa_cons (pe_op op_sub (pv 1) pe_int) (pa_cons pe_int pa_nil))) (pa_cons (pe_callB (call_min2 rfl) (by rfl) T.b_min PyProof.Rows.Boot.«min» (pa_cons (pe_op op_add (pv 1) pe_int) (pa_cons (pe_callB call_len (by rfl) T.b_len PyProof.Rows.Boot.«len» (pa_cons (pe_fldC T.cl_Course T.n_Course_joints (pv 0)) pa_nil)) pa_nil))) pa_nil))) (pg_name (i := 4) sc_Course_part.nd rfl (Or.inl rfl)) (pss_one (ps_asg (pe_fn F_joint_moment (by decide) hr (by rfl) passE0 (pa_cons (pe_ix ix_list (pe_fldC T.cl_Course T.n_Course_goings (pv 0)) (pv 4) (fun _ _ => rfl)) (pa_cons (pe_ix ix_list (pe_fldC T.cl_Course T.n_Course_goings (pv 0)) (pe_op op_add (pv 4) pe_int) (fun _ _ => rfl)) pa_nil))) (pg_sub (pe_fldC T.cl_Course T.n_Course_joints (pv 0)) (pv 4) set_list))))))))), ?_⟩
  have hz := Al2.len al
  have lj := Al2.len aj
  have lg := jnts_len gs
  have png : p ≠ g := ne_of hp hg (by intro z; cases z)
  have pnj : p ≠ j := ne_of hp hj (by intro z; cases z)
  have hw : ∀ b ∈ gs, 1 ≤ b.2.2 ∧ b.2.2 ≤ 10000 := fun b hb => by
    obtain ⟨k, hk, ek⟩ := List.mem_iff_getElem.mp hb
    obtain ⟨v, hv⟩ : ∃ v, xs[k]? = some v := ⟨_, List.getElem?_eq_getElem (by omega)⟩
    obtain ⟨b', hb', _, _, _, _, _, _, _, _, _, w1, w2⟩ := Al2.get al hv
    rw [List.getElem?_eq_getElem hk, ek] at hb'
    cases hb'
    exact ⟨w1, w2⟩
  have com' := com.part hw i1
  obtain ⟨va, hva⟩ : ∃ va, xs[i]? = some va := ⟨_, List.getElem?_eq_getElem (by omega)⟩
  obtain ⟨vb, hvb⟩ : ∃ vb, xs[i + 1]? = some vb := ⟨_, List.getElem?_eq_getElem (by omega)⟩
  obtain ⟨a, ha, pa, a1, c1, rfl, x1, x2, x3, x4, x5, x6, x7⟩ := Al2.get al hva
  obtain ⟨b, hb, pb, a2, c2, rfl, y1, y2, y3, y4, y5, y6, y7⟩ := Al2.get al hvb
  have ea := bodAt_of ha
  have eb := bodAt_of hb
  refine ⟨_, rfl, p, _, _, _, rfl, hp, crs_g, _, rfl, g, _, _, _, rfl, rfl, SqL.of hg, atI_nat hva, ?_⟩
  refine ⟨_, rfl, p, _, _, _, rfl, hp, crs_g, _, rfl, _, _, rfl, rfl, g, _, _, _, rfl, rfl, SqL.of hg, atI_nat hvb, ?_⟩
  refine ⟨_, rfl, _, rfl, _, rfl, p, _, _, _, rfl, hp, crs_s, pa, a1, c1, _, _, _, pb, a2, c2, _, _, _, sh, rfl, x1, x2, x3, x4, x5, x6, x7, y1, y2, y3, y4, y5, y6, y7, gsh, fun r1 f1 f2 H1 s1 t1 u1 w1 => ?_⟩
  have hg1 := s1 _ _ hg
  refine ⟨_, rfl, p, _, _, _, rfl, s1 _ _ hp, crs_g, _, rfl, g, xs, _, i, rfl, rfl, hg1, ixN_nat (by omega), ?_⟩
  obtain ⟨H2, q2, s2, e2⟩ := newB (H := H1) (p := g) (.lst (xs.set i (V.ref r1)))
  dsimp only
  rw [q2]
  clear q2
  have tk2 : ∀ {q : Addr} {zs : List V}, SqT K H q zs → SqT K H2 q zs := fun h => s2.tup hg1 (Kw.Same.tup s1 h)
  have hp2 := s2 _ _ png (s1 _ _ hp)
  refine ⟨_, rfl, _, rfl, _, rfl, p, _, _, _, rfl, hp2, crs_s, pb, a2, c2, _, _, _, pa, a1, c1, _, _, _, sh, rfl, tk2 y1, tk2 y2, tk2 y3, y4, y5, y6, y7, tk2 x1, tk2 x2, tk2 x3, x4, x5, x6, x7, tk2 gsh, fun r3 f3 f4 H3 s3 t3 u3 w3 => ?_⟩
  have hg3 := s3 _ _ e2
  refine ⟨_, rfl, p, _, _, _, rfl, s3 _ _ hp2, crs_g, _, rfl, _, _, rfl, rfl, g, _, _, i + 1, rfl, rfl, hg3, ixN_nat (j := i + 1) (by rw [List.length_set]; omega), ?_⟩
  obtain ⟨H4, q4, s4, e4⟩ := newB (H := H3) (p := g) (.lst ((xs.set i (V.ref r1)).set (i + 1) (V.ref r3)))
  dsimp only
  rw [q4]
  clear q4
  have B4 : But g H H4 := (But.of s1).trans (s2.trans ((But.of s3).trans s4))
  have hp4 := B4 _ _ png hp
  have hj4 := B4 _ _ (Ne.symm ne) hj
  have fb1 := com'.fb (behQ a b) (by
    have z : bodAt (partQ gs i) i = behQ a b := by rw [part_at i1, if_pos rfl, ea, eb]
    rw [← z]
    exact List.mem_of_getElem? (bodAt_get (by rw [partQ_len]; omega)))
  have fb3 := com'.fb (behQ b a) (by
    have z : bodAt (partQ gs i) (i + 1) = behQ b a := by rw [part_at i1, if_neg (by omega), if_pos rfl, ea, eb]
    rw [← z]
    exact List.mem_of_getElem? (bodAt_get (by rw [partQ_len]; omega)))
  have up1 : BdQ K H4 1990 (.ref r1) (behQ a b) := ⟨r1, f1, f2, rfl, s4.tup hg3 (Kw.Same.tup s3 (s2.tup hg1 t1)), s4.tup hg3 (Kw.Same.tup s3 (s2.tup hg1 u1)), s4.tup hg3 (Kw.Same.tup s3 (s2.tup hg1 w1)), fb1.1.mono (by decide), fb1.2.mono (by decide), x6, x7⟩
  have up3 : BdQ K H4 1990 (.ref r3) (behQ b a) := ⟨r3, f3, f4, rfl, s4.tup hg3 t3, s4.tup hg3 u3, s4.tup hg3 w3, fb3.1.mono (by decide), fb3.2.mono (by decide), y6, y7⟩
  have eP : partQ gs i = (gs.set i (behQ a b)).set (i + 1) (behQ b a) := by unfold partQ; rw [ea, eb]
  have al4 : Al2 (BdQ K H4 1990) ((xs.set i (V.ref r1)).set (i + 1) (V.ref r3)) (partQ gs i) := by
    rw [eP]
    exact Al2.set (Al2.set (bds_but (bds_same (bds_but (bds_same al s1) s2 hg1) s3) s4 hg3) up1) up3
  have aj4 : Al2 (OptR K H4) ys (jnts gs) := opts_buts aj (Buts.one B4 (List.mem_singleton.mpr rfl)) (NoT.lst hg NoT.nil)
  obtain ⟨gs', eg⟩ : ∃ gs', partQ gs i = gs' := ⟨_, rfl⟩
  have lp : gs'.length = gs.length := by rw [← eg]; exact partQ_len gs i
  have far := fun k h1 h2 h3 => part_far (gs := gs) (i := i) (k := k) i1 h1 h2 h3
  rw [eg] at al4 com' far k
  have hz' := Al2.len al4
  obtain ⟨xs', exs⟩ : ∃ xs', (xs.set i (V.ref r1)).set (i + 1) (V.ref r3) = xs' := ⟨_, rfl⟩
  rw [exs] at e4 al4 hz'
  refine ⟨_, rfl, _, _, rfl, rfl, _, _, rfl, _, rfl, _, _, rfl, rfl, _, rfl, p, _, _, _, rfl, hp4, crs_j, _, _, rfl, .inl ⟨_, SqL.of hj4, rfl⟩, _, _, rfl, ?_⟩
  have elo : (if (0 : Int) > (i : Int) - 1 then (0 : Int) else (i : Int) - 1) = ((i - 1 : Nat) : Int) := by split <;> omega
  have ehi : (if ((ys.length : Nat) : Int) < (i : Int) + 2 then ((ys.length : Nat) : Int) else (i : Int) + 2) = ((min ys.length (i + 2) : Nat) : Int) := by split <;> omega
  rw [elo, ehi]
  refine ⟨_, _, rfl, ⟨by omega, by omega, by omega, by omega⟩, for_range (lo := ((i - 1 : Nat) : Int)) (n := (((min ys.length (i + 2) : Nat) : Int) - ((i - 1 : Nat) : Int)).toNat) (fun c σ' H' => ∃ (u4 : Option V) (zs : List V) (js : List (Option Rat)), σ' = [some (.ref p), some (.int (i : Int)), some (.ref pa), some (.ref pb), u4] ∧ But j H4 H' ∧ H' j = some (.lst zs) ∧ Al2 (OptR K H') zs js ∧ js.length = (jnts gs).length ∧ ∀ k : Nat, (i - 1 ≤ k → k < i - 1 + c → js[k]? = (jnts gs')[k]?) ∧ (¬ (i - 1 ≤ k ∧ k < i - 1 + c) → js[k]? = (jnts gs)[k]?)) ⟨_, ys, jnts gs, rfl, But.refl _, hj4, aj4, rfl, fun k => ⟨fun h1 h2 => absurd h2 (by omega), fun _ => rfl⟩⟩ ?_ ?_⟩
  · rintro c σ' H5 hc ⟨u4, zs, js, rfl, s5, hz5, az5, lz, rel⟩
    obtain ⟨e, ee⟩ : ∃ e : Nat, i - 1 + c = e := ⟨_, rfl⟩
    have ec : ((i - 1 : Nat) : Int) + (c : Int) = (e : Int) := by omega
    have e1 : e + 1 < gs.length := by omega
    have bs5 : Buts [j] H4 H5 := Buts.one s5 (List.mem_singleton.mpr rfl)
    have nt4 : NoT [j] H4 := NoT.lst hj4 NoT.nil
    have al5 := bs5.bds nt4 al4
    have hg5 := s5 _ _ ne e4
    have hp5 := s5 _ _ pnj hp4
    obtain ⟨vc, hvc⟩ : ∃ vc, xs'[e]? = some vc := ⟨_, List.getElem?_eq_getElem (by omega)⟩
    obtain ⟨vd, hvd⟩ : ∃ vd, xs'[e + 1]? = some vd := ⟨_, List.getElem?_eq_getElem (by omega)⟩
    obtain ⟨bc, hbc, qc, c3, c4, rfl, z1, z2, z3, z4, z5, z6, z7⟩ := Al2.get al5 hvc
    obtain ⟨bd, hbd, qd, d3, d4, rfl, v1, v2, v3, v4, v5, v6, v7⟩ := Al2.get al5 hvd
    have jn := jnts_get hbc hbd
    have mc := List.mem_of_getElem? hbc
    have md := List.mem_of_getElem? hbd
    have lzs := Al2.len az5
    have fin : ∀ (w : V) (H6 : Hp), Same H5 H6 → OptR K H6 w (jntQ bc bd) → ∀ (H7 : Hp), But j H6 H7 → H7 j = some (.lst (zs.set e w)) → ∃ (u4 : Option V) (zs : List V) (js : List (Option Rat)), [some (V.ref p), some (.int (i : Int)), some (.ref pa), some (.ref pb), some (.int (e : Int))] = [some (.ref p), some (.int (i : Int)), some (.ref pa), some (.ref pb), u4] ∧ But j H4 H7 ∧ H7 j = some (.lst zs) ∧ Al2 (OptR K H7) zs js ∧ js.length = (jnts gs).length ∧ ∀ k : Nat, (i - 1 ≤ k → k < i - 1 + (c + 1) → js[k]? = (jnts gs')[k]?) ∧ (¬ (i - 1 ≤ k ∧ k < i - 1 + (c + 1)) → js[k]? = (jnts gs)[k]?) := fun w H6 s6 ow H7 s7 e7 => by
      have hz6 := s6 _ _ hz5
      refine ⟨_, _, js.set e (jntQ bc bd), rfl, s5.trans ((But.of s6).trans s7), e7, ?_, by rw [List.length_set]; exact lz, fun k => ?_⟩
      · exact opts_buts (Al2.set (opts_same az5 s6) ow) (Buts.one s7 (List.mem_singleton.mpr rfl)) (NoT.lst hz6 NoT.nil)
      · by_cases q : k = e
        · subst q
          refine ⟨fun _ _ => ?_, fun z => absurd (show i - 1 ≤ k ∧ k < i - 1 + (c + 1) by omega) z⟩
          rw [List.getElem?_set_self (by omega), jn]
        · have z := rel k
          refine ⟨fun h1 h2 => ?_, fun h => ?_⟩
          · rw [List.getElem?_set_ne (Ne.symm q)]
            exact z.1 h1 (by omega)
          · rw [List.getElem?_set_ne (Ne.symm q)]
            exact z.2 (by omega)
    rw [ec]
    refine ⟨_, rfl, p, _, _, _, rfl, hp5, crs_g, _, rfl, g, _, _, _, rfl, rfl, SqL.of hg5, atI_nat hvc, _, rfl, p, _, _, _, rfl, hp5, crs_g, _, rfl, _, _, rfl, rfl, g, _, _, _, rfl, rfl, SqL.of hg5, atI_nat hvd, qc, c3, c4, _, _, _, qd, d3, d4, _, _, _, rfl, z1, z2, z3, z4, z5, z6, z7, v1, v2, v3, v4, v5, v6, v7, fun cc H6 s6 => ?_, fun cc r6 H6 s6 g6 => ?_⟩
    · refine ⟨_, rfl, p, _, _, _, rfl, s6 _ _ hp5, crs_j, _, rfl, j, zs, _, e, rfl, rfl, s6 _ _ hz5, ixN_nat (by omega), ?_⟩
      obtain ⟨H7, q7, s7, e7⟩ := newB (H := H6) (p := j) (.lst (zs.set e V.non))
      dsimp only
      rw [q7]
      clear q7
      exact fin _ H6 s6 (by rw [jnt_none cc]; exact .inl ⟨rfl, rfl⟩) H7 s7 e7
    · refine ⟨_, rfl, p, _, _, _, rfl, s6 _ _ hp5, crs_j, _, rfl, j, zs, _, e, rfl, rfl, s6 _ _ hz5, ixN_nat (by omega), ?_⟩
      obtain ⟨H7, q7, s7, e7⟩ := newB (H := H6) (p := j) (.lst (zs.set e (V.ref r6)))
      dsimp only
      rw [q7]
      clear q7
      exact fin _ H6 s6 (by rw [jnt_some cc]; exact .inr ⟨_, r6, rfl, rfl, g6, com'.jnt mc md (jnt_some cc)⟩) H7 s7 e7
  · rintro σ' H5 ⟨u4, zs, js, rfl, s5, hz5, az5, lz, rel⟩
    have ej : js = jnts gs' := by
      refine List.ext_getElem? fun k => ?_
      by_cases q : i - 1 ≤ k ∧ k < i - 1 + (((min ys.length (i + 2) : Nat) : Int) - ((i - 1 : Nat) : Int)).toNat
      · exact (rel k).1 q.1 q.2
      · rw [(rel k).2 q]
        by_cases kl : k + 1 < gs.length
        · exact (far k (by omega) (by omega) (by omega)).symm
        · rw [jnts_no kl, jnts_no (by rw [lp]; exact kl)]
    rw [ej] at az5
    refine k xs' zs H5 ?_ (s5 _ _ ne e4) ?_ hz5 az5
    · exact (Buts.one B4 (by simp)).trans (Buts.one s5 (by simp))
    · exact (Buts.one s5 (List.mem_singleton.mpr rfl) : Buts [j] H4 H5).bds (NoT.lst hj4 NoT.nil) al4
noncomputable def spC_go_on (K : PySem.W.Frag) (C : Addr) : Sp := fun vs H Q _ => ∃ (p : Addr) (gs : List Bod) (now : Rat) (n : Nat) (g j : Addr) (t : Rat) (B : Nat), vs = [.ref p] ∧ CrsAt K H C p gs now n g j ∧ gs.length ≤ 24 ∧ cmng gs = some t ∧ Com B gs ∧ B + 360 ≤ 1974 ∧ ∀ H1 : Hp, Buts [p, g, j] H H1 → CrsAt K H1 C p (onQ gs) t (n + 1) g j → Com (B + 360) (onQ gs) → Q .non H1
theorem sc_Course_go_on : FnScope ["self", "lefts", "left"] ["self"] (defScope (mthAt (top 30) 11)) := ⟨rfl, rfl, rfl, by decide +kernel, rfl, by decide +kernel, by decide +kernel⟩
theorem ok_Course_go_on (D : DfM K (C 2) "go_on" "Course.go_on" (mthAt (top 30) 11) ["self"]) (T : Tx K mg CK C) (F_Course_lefts : FnM P w K mg base 1 (C 2) "lefts" ["self"] (spC_lefts K (C 2))) (F_Course_part : FnM P w K mg base 5 (C 2) "part" ["self", "left"] (spC_part K (C 2))) (F_Course_look_ahead : FnM P w K mg base 3 (C 2) "look_ahead" ["self"] (spC_look_ahead K (C 2))) : FnM P w K mg base 6 (C 2) "go_on" ["self"] (spC_go_on K (C 2)) := by
  refine D.ok0 sc_Course_go_on (fun vs H Q E h => ?_) (fun f cdv A outer s H vs Q E hr h => ?_)
  · obtain ⟨p, gs, now, n, g, j, t, B, rfl, _⟩ := h
    rfl
  obtain ⟨p, gs, now, n, g, j, t, B, rfl, cr, l12, et, com, hB, k⟩ := h
  refine ⟨_, (pss_cons (ps_set (i := 1) sc_Course_go_on.nd rfl (Or.inl rfl) (pe_mt0 T.cl_Course F_Course_lefts (by decide) hr passE0 (pv 0)))
      (pss_cons (ps_fldC T.cl_Course T.n_Course_now (pv 0) (pe_fldC T.cl_Course T.n_Course_coming (pv 0)))
      (pss_cons (ps_fldadd T.cl_Course T.n_Course_gone_through in_add (pv 0) pe_int)
      (pss_cons (ps_for PassesOwn.never rfl (pi_list (pv 1)) (pg_name (i := 2) sc_Course_go_on.nd rfl (Or.inl rfl)) (pss_one (ps_expr (pe_mt T.cl_Course F_Course_part (by decide) hr passE0 (pv 0) (pa_cons (pv 2) pa_nil)))))
      (pss_one (ps_expr (pe_mt0 T.cl_Course F_Course_look_ahead (by decide) hr passE0 (pv 0)))))))), ?_⟩
  obtain ⟨dx, sh, nw, co, xs, ys, hp, hg, al, gsh, gnw, dnw, hj, aj, oc, ne⟩ := id cr
  have png : p ≠ g := ne_of hp hg (by intro z; cases z)
  have pnj : p ≠ j := ne_of hp hj (by intro z; cases z)
  refine ⟨_, rfl, p, _, _, rfl, hp, rfl, p, gs, now, n, g, j, rfl, cr, l12, fun r1 H1 s1 n1 e1 => ?_⟩
  have hp1 := s1 _ _ hp
  obtain ⟨pt, rfl, gt1, dt⟩ : ∃ pt : Addr, co = .ref pt ∧ FQ K H1 pt t ∧ FB 1990 t := by
    rcases oc.same s1 with ⟨e, _⟩ | ⟨q, pt, e, e', g', d'⟩
    · rw [et] at e
      cases e
    · rw [et] at e
      injection e with e
      subst e
      exact ⟨pt, e', g', d'⟩
  refine ⟨_, rfl, p, _, _, _, rfl, hp1, crs_c, _, rfl, p, dx, _, rfl, hp1, by show (6 : Nat) < 1000; decide, ?_⟩
  obtain ⟨H2, q2, s2, e2⟩ := newB (H := H1) (p := p) (.ins (C 2) dx (putF ("now" : Str) (V.ref pt) (crs g sh nw (n : Int) j (.ref pt))))
  dsimp only
  rw [q2]
  clear q2
  replace e2 : H2 p = some (.ins (C 2) dx (crs g sh pt (n : Int) j (.ref pt))) := e2
  refine ⟨_, rfl, p, dx, _, _, rfl, e2, crs_t, 1, rfl, rfl, by show (6 : Nat) < 1000; decide, ?_⟩
  obtain ⟨H3, q3, s3, e3⟩ := newB (H := H2) (p := p) (.ins (C 2) dx (putF ("gone_through" : Str) (V.int ((n : Int) + 1)) (crs g sh pt (n : Int) j (.ref pt))))
  dsimp only
  rw [q3]
  clear q3
  replace e3 : H3 p = some (.ins (C 2) dx (crs g sh pt ((n + 1 : Nat) : Int) j (.ref pt))) := e3
  have b13 : But p H1 H3 := s2.trans s3
  have bs13 : Buts [p] H1 H3 := Buts.one b13 (List.mem_singleton.mpr rfl)
  have nt1 : NoT [p] H1 := NoT.ins hp1 NoT.nil
  have r1p : r1 ≠ p := fun z => by rw [z, hp] at n1; cases n1
  have r1g : r1 ≠ g := fun z => by rw [z, hg] at n1; cases n1
  have r1j : r1 ≠ j := fun z => by rw [z, hj] at n1; cases n1
  have er3 := b13 _ _ r1p e1
  have hg3 := b13 _ _ (Ne.symm png) (s1 _ _ hg)
  have hj3 := b13 _ _ (Ne.symm pnj) (s1 _ _ hj)
  have al3 := bs13.bds nt1 (bds_same al s1)
  have aj3 := opts_buts (opts_same aj s1) bs13 nt1
  have gsh3 := bs13.tup nt1 (Kw.Same.tup s1 gsh)
  have gt3 := bs13.tup nt1 gt1
  have nt3 : NoT [g, j] H3 := NoT.lst hg3 (NoT.lst hj3 NoT.nil)
  have len : (intsN (leftsQ gs)).length = (leftsQ gs).length := List.length_map _
  have few := lefts_few24 l12
  refine ⟨_, rfl, r1, rfl, ⟨_, SqL.of er3⟩, for_list (K := K) (a := r1) (xs := intsN (leftsQ gs)) (fun k σ' H' => ∃ (u2 : Option V) (xs' ys' : List V), σ' = [some (.ref p), some (.ref r1), u2] ∧ Buts [g, j] H3 H' ∧ H' g = some (.lst xs') ∧ Al2 (BdQ K H' 1990) xs' (((leftsQ gs).take k).foldl partQ gs) ∧ H' j = some (.lst ys') ∧ Al2 (OptR K H') ys' (jnts (((leftsQ gs).take k).foldl partQ gs)) ∧ Com (B + 15 * k) (((leftsQ gs).take k).foldl partQ gs)) ⟨_, xs, ys, rfl, Buts.refl, hg3, al3, hj3, aj3, com⟩ (by rintro _ _ _ _ ⟨_, _, _, _, g5, _⟩; exact SqL.of (g5 _ _ (by simp [r1g, r1j]) er3)) ?_ ?_⟩
  · rintro m x σ' H4 hx ⟨u2, xs', ys', rfl, s4, hg4, al4, hj4, aj4, com4⟩
    have hm : m < (leftsQ gs).length := by rw [← len]; exact (List.getElem?_eq_some_iff.mp hx).1
    unfold intsN at hx
    rw [List.getElem?_map] at hx
    obtain ⟨i, hi, rfl⟩ := Option.map_eq_some_iff.mp hx
    obtain ⟨lg, _⟩ := lefts_lt (List.mem_of_getElem? hi)
    rw [take_snoc hi, List.foldl_append]
    have ln := fold_len ((leftsQ gs).take m) gs
    generalize hq : ((leftsQ gs).take m).foldl partQ gs = gk at al4 aj4 com4 ln
    have hp4 := s4 _ _ (by simp [png, pnj]) e3
    have w4 := bds_w al4
    refine ⟨_, rfl, p, _, _, rfl, hp4, rfl, _, rfl, p, dx, g, sh, pt, _, j, _, xs', ys', gk, i, rfl, hp4, hg4, al4, s4.tup nt3 gsh3, hj4, aj4, ne, by omega, by omega, com4.mono (by omega), fun xs5 ys5 H5 s5 e5 al5 f5 aj5 => ?_⟩
    exact ⟨_, xs5, ys5, rfl, s4.trans s5, e5, al5, f5, aj5, (com4.part w4 (by omega)).mono (by omega)⟩
  · rintro σ' H4 ⟨u2, xs', ys', rfl, s4, hg4, al4, hj4, aj4, com4⟩
    rw [len, List.take_length] at al4 aj4 com4
    have hp4 := s4 _ _ (by simp [png, pnj]) e3
    have ln : (jnts (onQ gs)).length ≤ 24 := by rw [jnts_len, on_len]; omega
    refine ⟨_, rfl, p, _, _, rfl, hp4, rfl, p, dx, _, j, ys', jnts (onQ gs), rfl, hp4, rfl, by show (6 : Nat) < 900; decide, hj4, aj4, ln, fun co5 H5 s5 e5 oc5 => ?_⟩
    replace e5 : H5 p = some (.ins (C 2) dx (crs g sh pt ((n + 1 : Nat) : Int) j co5)) := e5
    have bs5 : Buts [p] H4 H5 := Buts.one s5 (List.mem_singleton.mpr rfl)
    have nt4 : NoT [p] H4 := NoT.ins hp4 NoT.nil
    refine k H5 ?_ ⟨dx, sh, pt, co5, xs', ys', e5, s5 _ _ (Ne.symm png) hg4, bs5.bds nt4 al4, bs5.tup nt4 (s4.tup nt3 gsh3), bs5.tup nt4 (s4.tup nt3 gt3), dt, s5 _ _ (Ne.symm pnj) hj4, opts_buts aj4 bs5 nt4, oc5, ne⟩ (com4.mono (by omega))
    exact (Buts.of s1).trans ((Buts.one b13 (by simp)).trans ((s4.mono (by simp)).trans (Buts.one s5 (by simp))))
noncomputable def sp_end_word (K : PySem.W.Frag) (C : Addr) : Sp := fun vs H Q _ => ∃ (p : Addr) (gs : List Bod) (now : Rat) (n : Nat) (g j : Addr) (m : Nat), vs = [.ref p, .int (m : Int)] ∧ CrsAt K H C p gs now n g j ∧ gs.length ≤ 24 ∧ n ≤ m ∧ ∀ (v : V) (H1 : Hp), Same H H1 → ((v = .non ∧ n < m ∧ (∃ t, cmng gs = some t) ∧ ¬ crwQ gs) ∨ ∃ wd : String, v = .str wd ∧ RunQ gs now (m - n) wd [] gs now) → Q v H1
theorem sc_end_word : FnScope ["course", "most"] ["course", "most"] (defScope (top 35)) := ⟨rfl, rfl, rfl, by decide +kernel, rfl, by decide +kernel, by decide +kernel⟩
theorem ok_end_word (D : Df K mg "end_word" (top 35) ["course", "most"]) (T : Tx K mg CK C) (F_Course_is_crowded : FnM P w K mg base 5 (C 2) "is_crowded" ["self"] (spC_is_crowded K (C 2))) : Fn P w K mg base 6 "end_word" ["course", "most"] (sp_end_word K (C 2)) := by
  refine D.ok0 sc_end_word (fun vs H Q E h => ?_) (fun f cdv A outer s H vs Q E hr h => ?_)
  · obtain ⟨p, gs, now, n, g, j, m, rfl, _⟩ := h
    rfl
  obtain ⟨p, gs, now, n, g, j, m, rfl, cr, l12, nm, k⟩ := h
  refine ⟨_, (pss_cons (ps_if (pt_cmpR op_isN (pe_fldC T.cl_Course T.n_Course_coming (pv 0)) pe_non (nomark _)) (pss_one (ps_ret pe_str)) pss_nil)
      (pss_cons (ps_if (pt_cmpR op_eq (pe_fldC T.cl_Course T.n_Course_gone_through (pv 0)) (pv 1) (nomark _)) (pss_one (ps_ret pe_str)) pss_nil)
      (pss_cons (ps_if (pt_val (pe_mt0 T.cl_Course F_Course_is_crowded (by decide) hr passE0 (pv 0)) (fun _ => rfl)) (pss_one (ps_ret pe_str)) pss_nil)
      (pss_one (ps_ret pe_non))))), ?_⟩
  obtain ⟨dx, sh, nw, co, xs, ys, hp, hg, al, gsh, gnw, dnw, hj, aj, oc, ne⟩ := id cr
  refine ⟨_, rfl, p, _, _, _, rfl, hp, crs_c, rfl, _, rfl, ?_⟩
  refine if_dec (fun c => ?_) (fun c => ?_)
  · exact k _ H (Same.refl _) (.inr ⟨"still", rfl, .still (oc.non.mp c)⟩)
  obtain ⟨t, et⟩ : ∃ t, cmng gs = some t := by
    cases q : cmng gs with
    | none => exact absurd (oc.non.mpr q) c
    | some t => exact ⟨t, rfl⟩
  refine ⟨_, rfl, p, _, _, _, rfl, hp, crs_t, _, rfl, rfl, _, rfl, ?_⟩
  refine if_decI (fun c1 => ?_) (fun c1 => ?_)
  · have e : m - n = 0 := by omega
    refine k _ H (Same.refl _) (.inr ⟨"more", rfl, ?_⟩)
    rw [e]
    exact .more et
  obtain ⟨d, ed⟩ : ∃ d, m - n = d + 1 := ⟨m - n - 1, by omega⟩
  refine ⟨_, rfl, p, _, _, rfl, hp, rfl, p, gs, now, n, g, j, rfl, cr, l12, fun b H1 hb s1 => ⟨_, rfl, ?_⟩⟩
  cases b with
  | true =>
    refine iteT ?_
    refine k _ H1 s1 (.inr ⟨"crowd", rfl, ?_⟩)
    rw [ed]
    exact .crowd et (hb.mp rfl)
  | false =>
    refine iteF ?_
    exact k _ H1 s1 (.inl ⟨rfl, by omega, ⟨t, et⟩, fun z => Bool.noConfusion (hb.mpr z)⟩)
noncomputable def ToldQ (K : PySem.W.Frag) (H : Hp) (r : Addr) (wd : String) (ms : List (Rat × Rat × Nat)) (es : List Bod) (last : Rat) : Prop := ∃ (rr rb rn : Addr) (zs ws : List V), SqT K H r [.str wd, .ref rr, .ref rb, .ref rn] ∧ H rr = some (.lst zs) ∧ Al2 (MtQ K H) zs ms ∧ H rb = some (.lst ws) ∧ Al2 (BdQ K H 5990) ws (es.map (atT last)) ∧ FQ K H rn last ∧ FB 1990 last
noncomputable def ToldN (K : PySem.W.Frag) (H0 H : Hp) (r : Addr) (wd : String) (ms : List (Rat × Rat × Nat)) (es : List Bod) (last : Rat) : Prop := ∃ (rr rb rn : Addr) (zs ws : List V), SqT K H r [.str wd, .ref rr, .ref rb, .ref rn] ∧ H rr = some (.lst zs) ∧ Al2 (MtQ K H) zs ms ∧ H rb = some (.lst ws) ∧ Al2 (BdQ K H 5990) ws (es.map (atT last)) ∧ FQ K H rn last ∧ FB 1990 last ∧ H0 rr = none ∧ H0 rb = none ∧ rr ≠ rb
theorem ToldN.q {K : PySem.W.Frag} {H0 H : Hp} {r : Addr} {wd : String} {ms : List (Rat × Rat × Nat)} {es : List Bod} {last : Rat} (h : ToldN K H0 H r wd ms es last) : ToldQ K H r wd ms es last := by
  obtain ⟨rr, rb, rn, zs, ws, h1, h2, h3, h4, h5, h6, h7, _⟩ := h
  exact ⟨rr, rb, rn, zs, ws, h1, h2, h3, h4, h5, h6, h7⟩
noncomputable def sp_run_along (K : PySem.W.Frag) (C : Addr) : Sp := fun vs H Q _ => ∃ (p : Addr) (gs : List Bod) (g j : Addr) (m : Nat), vs = [.ref p, .int (m : Int)] ∧ CrsAt K H C p gs 0 0 g j ∧ gs.length ≤ 24 ∧ FitN 1614 m gs ∧ m ≤ 40 ∧ ∀ (r : Addr) (wd : String) (ms : List (Rat × Rat × Nat)) (es : List Bod) (last : Rat) (H1 : Hp), Buts [p, g, j] H H1 → RunQ gs 0 m wd ms es last → ToldN K H H1 r wd ms es last → Q (.ref r) H1
theorem sc_run_along : FnScope ["course", "most", "run", "word"] ["course", "most"] (defScope (top 36)) := ⟨rfl, rfl, rfl, by decide +kernel, rfl, by decide +kernel, by decide +kernel⟩
theorem ok_run_along (D : Df K mg "run_along" (top 36) ["course", "most"]) (T : Tx K mg CK C) (F_end_word : Fn P w K mg base 6 "end_word" ["course", "most"] (sp_end_word K (C 2))) (F_Course_meetings : FnM P w K mg base 4 (C 2) "meetings" ["self"] (spC_meetings K (C 2))) (F_Course_go_on : FnM P w K mg base 6 (C 2) "go_on" ["self"] (spC_go_on K (C 2))) (F_Course_bodies_at : FnM P w K mg base 5 (C 2) "bodies_at" ["self", "moment"] (spC_bodies_at K (C 2))) : Fn P w K mg base 7 "run_along" ["course", "most"] (sp_run_along K (C 2)) := by
  refine D.ok0 sc_run_along (fun vs H Q E h => ?_) (fun f cdv A outer s H vs Q E hr h => ?_)
  · obtain ⟨p, gs, g, j, m, rfl, _⟩ := h
    rfl
  obtain ⟨p, gs, g, j, m, rfl, cr, l12, com, m40, k⟩ := h
  refine ⟨_, (pss_cons (ps_set (i := 2) sc_run_along.nd rfl (Or.inl rfl) (pe_lst pa_nil))
      (pss_cons (ps_set (i := 3) sc_run_along.nd rfl (Or.inl rfl) (pe_fn F_end_word (by decide) hr (by rfl) passE0 (pa_cons (pv 0) (pa_cons (pv 1) pa_nil))))
      (pss_cons (ps_while PassesOwn.never (pt_cmpR op_isN (pv 3) pe_non (nomark _)) (pss_cons (ps_expr (pe_bm PySem.F.plainAttrs_list PySem.F.slot_list_extend PySem.F.type_list_extend mt_extend (pv 2) (pa_cons (pe_mt0 T.cl_Course F_Course_meetings (by decide) hr passE0 (pv 0)) pa_nil)))
      (pss_cons (ps_expr (pe_mt0 T.cl_Course F_Course_go_on (by decide) hr passE0 (pv 0)))
      (pss_one (ps_set (i := 3) sc_run_along.nd rfl (Or.inl rfl) (pe_fn F_end_word (by decide) hr (by rfl) passE0 (pa_cons (pv 0) (pa_cons (pv 1) pa_nil))))))))
      (pss_one (ps_ret (pe_tup (pa_cons (pv 3) (pa_cons (pv 2) (pa_cons (pe_mt T.cl_Course F_Course_bodies_at (by decide) hr passE0 (pv 0) (pa_cons (pe_fldC T.cl_Course T.n_Course_now (pv 0)) pa_nil)) (pa_cons (pe_fldC T.cl_Course T.n_Course_now (pv 0)) pa_nil)))))))))), ?_⟩
  refine ⟨by show 0 ≤ sizeLine; decide, ?_⟩
  intro p2 n2
  obtain ⟨H2, q2, s2, e2⟩ := newO n2 (.lst [])
  rw [q2]
  clear q2
  have cr2 := cr.same s2
  have apart : ∀ a ∈ [p, g, j], a ≠ p2 := fun a ha => by
    obtain ⟨dx, sh, nw, co, xs, ys, hp, hg, al, gsh, gnw, dnw, hj, aj, oc, ne⟩ := id cr
    simp only [List.mem_cons, List.not_mem_nil, or_false] at ha
    rcases ha with rfl | rfl | rfl
    · exact ne_of_none hp n2
    · exact ne_of_none hg n2
    · exact ne_of_none hj n2
  refine ⟨_, rfl, _, rfl, p, gs, 0, 0, g, j, m, rfl, cr2, l12, Nat.zero_le _, fun w3 H3 s3 alt3 => ?_⟩
  refine ⟨fun d σ' H' => ∃ (w4 : V) (gk : List Bod) (now : Rat) (n : Nat) (zs : List V) (ms : List (Rat × Rat × Nat)), σ' = [some (.ref p), some (.int (m : Int)), some (.ref p2), some w4] ∧ d = m - n ∧ n ≤ m ∧ Buts [p, g, j, p2] H2 H' ∧ CrsAt K H' (C 2) p gk now n g j ∧ gk.length = gs.length ∧ FitN 1614 (m - n) gk ∧ H' p2 = some (.lst zs) ∧ Al2 (MtQ K H') zs ms ∧ ms.length ≤ 24 * n ∧ (∀ wd ms' es last, RunQ gk now (m - n) wd ms' es last → RunQ gs 0 m wd (ms ++ ms') es last) ∧ ((w4 = .non ∧ n < m ∧ (∃ t, cmng gk = some t) ∧ ¬ crwQ gk) ∨ ∃ wd : String, w4 = .str wd ∧ RunQ gk now (m - n) wd [] gk now), ⟨_, w3, gs, 0, 0, [], [], rfl, rfl, Nat.zero_le _, Buts.of s3, cr2.same s3, rfl, com, s3 _ _ e2, trivial, Nat.zero_le _, fun _ _ _ _ r => r, alt3⟩, ?_⟩
  rintro d σ' H4 ⟨w4, gk, now, n, zs, ms, rfl, rfl, nm, s4, cr4, ln, com4, e4, az, lm, go, alt⟩
  obtain ⟨dx, sh, nw, co, xs, ys, hp, hg, al, gsh, gnw, dnw, hj, aj, oc, ne⟩ := id cr4
  refine ⟨_, rfl, rfl, _, rfl, ?_⟩
  rcases alt with ⟨rfl, nlt, ⟨t, et⟩, ncr⟩ | ⟨wd, rfl, rq⟩
  · refine if_dec (fun _ => ?_) (fun c => absurd rfl c)
    refine ⟨_, fun _ _ n => n, ?_⟩
    refine ⟨_, rfl, .inl ⟨rfl, _, SqL.of e4⟩, _, rfl, p, _, _, rfl, hp, rfl, p, gk, now, n, g, j, rfl, cr4, by omega, fun r5 zs5 H5 s5 n5 e5 al5 => ?_⟩
    have lz := Al2.len az
    have nxf : FitN 1614 (m - (n + 1)) (onQ gk) := by
      rw [show m - n = m - (n + 1) + 1 by omega] at com4
      exact com4.2 t et ncr
    have lz5 := Al2.len al5
    have lm5 : (metsQ gk).length ≤ 24 := by
      have few := lefts_few24 (gs := gk) (by omega)
      unfold metsQ
      split
      · exact Nat.zero_le _
      · rw [List.length_map]
        exact few
    refine ⟨p2, r5, zs, zs5, rfl, rfl, s5 _ _ e4, e5, Nat.le_trans (show zs.length + zs5.length ≤ 24 * 41 + 24 by omega) (by decide), ?_⟩
    obtain ⟨H6, q6, s6, e6⟩ := newB (H := H5) (p := p2) (.lst (zs ++ zs5))
    dsimp only
    rw [q6]
    clear q6
    have hp5 := s5 _ _ e4
    have bs6 : Buts [p2] H5 H6 := Buts.one s6 (List.mem_singleton.mpr rfl)
    have nt5 : NoT [p2] H5 := NoT.lst hp5 NoT.nil
    have cr6 : CrsAt K H6 (C 2) p gk now n g j := (cr4.same s5).buts bs6 nt5 (by simp [apart p (by simp), apart g (by simp), apart j (by simp)])
    obtain ⟨dx6, sh6, nw6, co6, xs6, ys6, hp6, hg6, _, _, _, _, hj6, _⟩ := id cr6
    refine ⟨_, rfl, p, _, _, rfl, hp6, rfl, p, gk, now, n, g, j, t, 1614, rfl, cr6, by omega, et, com4.com, by decide, fun H7 s7 cr7 com7 => ?_⟩
    have nt6 : NoT [p, g, j] H6 := NoT.ins hp6 (NoT.lst hg6 (NoT.lst hj6 NoT.nil))
    have e7 := s7 _ _ (by simp [Ne.symm (apart p (by simp)), Ne.symm (apart g (by simp)), Ne.symm (apart j (by simp))]) e6
    have az7 : Al2 (MtQ K H7) (zs ++ zs5) (ms ++ metsQ gk) := mts_buts (mts_buts (al_app (mts_same az s5) al5) bs6 nt5) s7 nt6
    refine ⟨_, rfl, _, rfl, p, onQ gk, t, n + 1, g, j, m, rfl, cr7, by rw [on_len]; omega, by omega, fun w8 H8 s8 alt8 => ?_⟩
    refine ⟨m - (n + 1), by omega, w8, onQ gk, t, n + 1, zs ++ zs5, ms ++ metsQ gk, rfl, rfl, by omega, ?_, cr7.same s8, by rw [on_len]; exact ln, nxf, s8 _ _ e7, mts_same az7 s8, by rw [List.length_append]; omega, fun wd ms' es last r => ?_, alt8⟩
    · exact s4.trans ((Buts.of s5).trans ((Buts.one s6 (by simp)).trans ((s7.mono (by simp)).trans (Buts.of s8))))
    · have z : RunQ gk now (m - (n + 1) + 1) wd (metsQ gk ++ ms') es last := .step et ncr r
      rw [show m - (n + 1) + 1 = m - n by omega] at z
      have z2 := go wd _ es last z
      rw [← List.append_assoc] at z2
      exact z2
  · refine if_dec (fun c => nomatch c) (fun _ => ?_)
    refine ⟨_, rfl, _, rfl, _, rfl, p, _, _, rfl, hp, rfl, _, rfl, p, _, _, _, rfl, hp, crs_n, p, gk, now, n, g, j, nw, now, rfl, cr4, by omega, gnw, dnw, fun r5 zs5 H5 s5 n5 e5 al5 => ?_⟩
    refine ⟨_, rfl, p, _, _, _, rfl, s5 _ _ hp, crs_n, by show 4 ≤ sizeLine; decide, ?_⟩
    intro p6 n6
    obtain ⟨H6, q6, s6, e6⟩ := newO n6 (.tup [.str wd, .ref p2, .ref r5, .ref nw])
    rw [q6]
    clear q6
    have s46 := s5.trans s6
    have nr5 : H r5 = none := by
      cases q : H r5 with
      | none => rfl
      | some o =>
        have i1 : r5 ≠ p := fun z => by rw [z, hp] at n5; cases n5
        have i2 : r5 ≠ g := fun z => by rw [z, hg] at n5; cases n5
        have i3 : r5 ≠ j := fun z => by rw [z, hj] at n5; cases n5
        have i4 : r5 ≠ p2 := fun z => by rw [z, e4] at n5; cases n5
        have z := s4 _ _ (by simp [i1, i2, i3, i4]) (s2 _ _ q)
        rw [n5] at z
        cases z
    have fin := go wd [] gk now rq
    rw [List.append_nil] at fin
    refine k p6 wd ms gk now H6 ?_ fin ⟨p2, r5, nw, zs, zs5, SqT.of e6, s46 _ _ e4, mts_same az s46, s6 _ _ e5, bds_same al5 s6, Kw.Same.tup s46 gnw, dnw, n2, nr5, fun z => by rw [← z, e4] at n5; cases n5⟩
    intro a o na ho
    have a2 : a ≠ p2 := ne_of_none ho n2
    refine s46 a o (s4 a o ?_ (s2 a o ho))
    simp only [List.mem_cons, List.not_mem_nil, or_false, not_or] at na ⊢
    exact ⟨na.1, na.2.1, na.2.2, a2⟩
noncomputable def NoMost (K : PySem.W.Frag) (H : Hp) (v : V) : Prop := WhN K H v ∨ ∃ i : Int, v = .int i ∧ ¬ (0 ≤ i ∧ i ≤ 40)
noncomputable def spX_refuse_number_of_moments (K : PySem.W.Frag) (C : Nat → Addr) : Sp := fun vs H Q E => (∃ m : Nat, vs = [.int (m : Int)] ∧ m ≤ 40 ∧ Q .non H) ∨ ∃ v, vs = [v] ∧ NoMost K H v ∧ E (.ref (C 0)) none H
theorem sc_refuse_number_of_moments : FnScope ["most"] ["most"] (defScope (top 22)) := ⟨rfl, rfl, rfl, by decide +kernel, rfl, by decide +kernel, by decide +kernel⟩
theorem ok_refuse_number_of_moments (D : Df K mg "refuse_number_of_moments" (top 22) ["most"]) (T : Tx K mg CK C) (F_is_whole : Fn P w K mg base 1 "is_whole" ["thing"] (spWhole K)) : Fn P w K mg base 2 "refuse_number_of_moments" ["most"] (spX_refuse_number_of_moments K C) := by
  refine D.okX sc_refuse_number_of_moments (fun vs H Q E h => ?_) (fun f cdv A outer s H vs Q E hr h => ?_)
  · rcases h with ⟨m, rfl, _⟩ | ⟨v, rfl, _⟩
    · rfl
    · rfl
  refine ⟨_, (pss_one (ps_if (pw_or (pt_not (pt_val (pe_fn F_is_whole (by decide) hr (by rfl) passE0 (pa_cons (pv 0) pa_nil)) (fun _ => rfl))) (pw_or1 (pt_not (pt_chain op_le op_le pe_int (pv 0) (pe_globI (by rfl) T.k_MOST_MOMENTS))))).pt (pss_one (ps_raise plain_cxOf leaves_cxOf rfl rfl T.c_TooMany T.x_TooMany (pa_cons pe_str pa_nil))) pss_nil)), ?_⟩
  have sz : 1 ≤ sizeLine := by decide
  rcases h with ⟨m, rfl, h40, k⟩ | ⟨v, rfl, ⟨t, b1, b2, ty, k1, k2, k3⟩ | ⟨i, rfl, no⟩, kx⟩
  · refine ⟨_, rfl, _, _, true, false, rfl, .int _, kit_int_int, kit_int_bool, _, rfl, ?_⟩
    refine iteF ?_
    refine ⟨_, rfl, _, _, rfl, rfl, ?_⟩
    refine ⟨_, rfl, ?_⟩
    refine if_dec (fun _ => ?_) (fun c => absurd (show (0 : Int) ≤ (m : Int) by omega) c)
    refine ⟨_, _, rfl, rfl, _, rfl, ?_⟩
    exact if_not (fun c => absurd (show (m : Int) ≤ 40 by omega) c) (fun _ => k)
  · refine ⟨_, rfl, _, _, b1, b2, rfl, ty, k1, k2, _, rfl, ?_⟩
    rw [k3]
    exact iteT ⟨sz, kx⟩
  · refine ⟨_, rfl, _, _, true, false, rfl, .int i, kit_int_int, kit_int_bool, _, rfl, ?_⟩
    refine iteF ?_
    refine ⟨_, rfl, _, _, rfl, rfl, ?_⟩
    refine ⟨_, rfl, ?_⟩
    refine if_dec (fun c1 => ?_) (fun c1 => ⟨_, rfl, iteT ⟨sz, kx⟩⟩)
    refine ⟨_, _, rfl, rfl, _, rfl, ?_⟩
    exact if_not (fun c2 => ⟨sz, kx⟩) (fun c2 => absurd ⟨c1, c2⟩ no)
theorem told_from {K : PySem.W.Frag} {H0 H0' H : Hp} {r : Addr} {wd : String} {ms : List (Rat × Rat × Nat)} {es : List Bod} {last : Rat} (h : ToldN K H0 H r wd ms es last) (b : ∀ a, H0 a = none → H0' a = none) : ToldN K H0' H r wd ms es last := by
  obtain ⟨rr, rb, rn, zs, ws, h1, h2, h3, h4, h5, h6, h7, h8, h9, h10⟩ := h
  exact ⟨rr, rb, rn, zs, ws, h1, h2, h3, h4, h5, h6, h7, b _ h8, b _ h9, h10⟩
noncomputable def spX_run_of (K : PySem.W.Frag) (C : Nat → Addr) : Sp := fun vs H Q E => (∃ (p : Addr) (xs : List V) (bs : List Bod) (m : Nat), vs = [.ref p, .int (m : Int)] ∧ H p = some (.lst xs) ∧ Al2 (BdQ K H 1990) xs bs ∧ bs.length ≤ 24 ∧ m ≤ 40 ∧ FitN 1614 m bs ∧ ∀ (r : Addr) (wd : String) (ms : List (Rat × Rat × Nat)) (es : List Bod) (last : Rat) (H1 : Hp), Same H H1 → RunQ bs 0 m wd ms es last → ToldN K H H1 r wd ms es last → Q (.ref r) H1) ∨ ∃ (p : Addr) (v : V), vs = [.ref p, v] ∧ NoMost K H v ∧ E (.ref (C 0)) none H
theorem sc_run_of : FnScope ["world", "most"] ["world", "most"] (defScope (top 37)) := ⟨rfl, rfl, rfl, by decide +kernel, rfl, by decide +kernel, by decide +kernel⟩
theorem ok_run_of (D : Df K mg "run_of" (top 37) ["world", "most"]) (T : Tx K mg CK C) (F_refuse_number_of_moments : Fn P w K mg base 2 "refuse_number_of_moments" ["most"] (spX_refuse_number_of_moments K C)) (F_Course___init__ : FnM P w K mg base 5 (C 2) "__init__" ["self", "world", "share"] (spC_init K (C 2))) (F_run_along : Fn P w K mg base 7 "run_along" ["course", "most"] (sp_run_along K (C 2))) : Fn P w K mg base 8 "run_of" ["world", "most"] (spX_run_of K C) := by
  refine D.okX sc_run_of (fun vs H Q E h => ?_) (fun f cdv A outer s H vs Q E hr h => ?_)
  · rcases h with ⟨p, xs, bs, m, rfl, _⟩ | ⟨p, v, rfl, _⟩
    · rfl
    · rfl
  refine ⟨_, (pss_cons (ps_expr (pe_fn F_refuse_number_of_moments (by decide) hr (by rfl) (passL plain_cxOf leaves_cxOf) (pa_cons (pv 1) pa_nil)))
      (pss_one (ps_ret (pe_fn F_run_along (by decide) hr (by rfl) (passL plain_cxOf leaves_cxOf) (pa_cons (pe_mko T.mk_Course T.kp_Course F_Course___init__ (by decide) hr (by rfl) T.c_Course (passL plain_cxOf leaves_cxOf) (pa_cons (pv 0) (pa_cons (pe_globT (K := K) rfl (by rfl) T.k_ALL) pa_nil))) (pa_cons (pv 1) pa_nil)))))), ?_⟩
  obtain ⟨p, xs, bs, m, rfl, hp, al, l12, m40, com, k⟩ | ⟨p, v, rfl, nm, kx⟩ := h
  rotate_left
  · exact ⟨_, rfl, .inr ⟨v, rfl, nm, kx⟩⟩
  refine ⟨_, rfl, .inl ⟨m, rfl, m40, ?_⟩⟩
  refine ⟨_, rfl, fun N hN => ?_⟩
  intro x dx nx ndx nex
  obtain ⟨H1, q1⟩ : ∃ H1, upd (upd H dx (.own x)) x (.ins (C 2) dx []) = H1 := ⟨_, rfl⟩
  have s1 : Same H H1 := by
    rw [← q1]
    intro a o ha
    rw [upd_ne (ne_of_none ha nx), upd_ne (ne_of_none ha ndx)]
    exact ha
  have e1 : H1 x = some (.ins (C 2) dx []) := by rw [← q1]; exact upd_same
  dsimp only
  rw [q1]
  clear q1
  refine ⟨x, dx, p, xs, bs, N, rfl, e1, s1 _ _ hp, bds_same al s1, l12, com.com.mono (by omega), hN _, fun g j H2 s2 ng nj cr => ⟨rfl, ?_⟩⟩
  refine ⟨_, rfl, x, bs, g, j, m, rfl, cr, l12, com, m40, fun r wd ms es last H3 s3 rq told => ?_⟩
  have back0 : ∀ {a : Addr}, H2 a = none → H a = none := fun {a} h2 => by
    cases q : H a with
    | none => rfl
    | some o =>
      have z := s2 a o (ne_of_none q nx) (s1 a o q)
      rw [h2] at z
      cases z
  refine k r wd ms es last H3 ?_ rq (told_from told fun a ha => ?_)
  rotate_left
  · exact back0 ha
  have n1 : ∀ {a : Addr}, H1 a = none → H a = none := fun h => none_of_sm s1 h
  intro a o ha
  refine s3 a o ?_ (s2 a o (ne_of_none ha nx) (s1 a o ha))
  simp only [List.mem_cons, List.not_mem_nil, or_false, not_or]
  exact ⟨ne_of_none ha nx, ne_of_none ha (n1 ng), ne_of_none ha (n1 nj)⟩
noncomputable def sp_turned_about (K : PySem.W.Frag) : Sp := fun vs H Q _ => ∃ (p_x : Addr) (x : Rat), vs = [.ref p_x] ∧ FQ K H p_x x ∧ FB 900 x ∧ (∀ (p_r : Addr) (H1 : Hp), Same H H1 → FQ K H1 p_r (-x) → Q (.ref p_r) H1)
theorem sc_turned_about : FnScope ["number"] ["number"] (defScope (top 32)) := ⟨rfl, rfl, rfl, by decide +kernel, rfl, by decide +kernel, by decide +kernel⟩
theorem ok_turned_about (D : Df K mg "turned_about" (top 32) ["number"]) (T : Tx K mg CK C) (F_minus : Fn P w K mg base 3 "minus" ["one", "other"] (sp_minus K)) : Fn P w K mg base 4 "turned_about" ["number"] (sp_turned_about K) := by
  refine D.ok0 sc_turned_about (fun vs H Q E h => ?_) (fun f cdv A outer s H vs Q E hr h => ?_)
  · obtain ⟨p_x, x, rfl, _⟩ := h
    rfl
  obtain ⟨p_x, x, rfl, g_x, d_x, k0⟩ := h
  refine ⟨_, (pss_one (ps_ret (pe_fn F_minus (by decide) hr (by rfl) passE0 (pa_cons (pe_globT (K := K) rfl (by rfl) T.k_NOUGHT) (pa_cons (pv 0) pa_nil))))), ?_⟩
  refine fun N16 hN16 => ?_
  have g16 : FQ K H N16 (((0 : Int)) : Rat) := hN16 _
  refine ⟨_, rfl, _, _, _, _, rfl, g16, (FB.mono (FB.ofInt (Bd.small (i := 0) (by decide) (by decide)) (by decide)) (by decide)), g_x, (FB.mono d_x (by decide)), fun p_r17 H17 s17 g_r17 => ?_⟩
  have d_r17 : FB 965 (((((0 : Int) : Rat))) - x) := (FB.mono (FB.sub (FB.ofInt (Bd.small (i := 0) (by decide) (by decide)) (by decide)) d_x) (by decide))
  have e18 : ((((((0 : Int) : Rat))) - x) : Rat) = -x := by grind
  exact k0 _ _ s17 (FQ.cast g_r17 e18)
noncomputable def sp_mirrored (K : PySem.W.Frag) : Sp := fun vs H Q _ => ∃ (p : Addr) (xs : List V) (bs : List (Rat × Rat × Int)) (n : Nat), vs = [.ref p] ∧ SqL K H p xs ∧ Al2 (BdQ K H n) xs bs ∧ (n ≤ 900 ∧ bs.length ≤ 100) ∧ ∀ (r : Addr) (ys : List V) (H1 : Hp), Same H H1 → H r = none → H1 r = some (.lst ys) → Al2 (BdQ K H1 n) ys (mirQ bs) → Q (.ref r) H1
theorem sc_mirrored : FnScope ["world"] ["world"] (defScope (top 33)) := ⟨rfl, rfl, rfl, by decide +kernel, rfl, by decide +kernel, by decide +kernel⟩
theorem ok_mirrored (D : Df K mg "mirrored" (top 33) ["world"]) (T : Tx K mg CK C) (F_turned_about : Fn P w K mg base 4 "turned_about" ["number"] (sp_turned_about K)) : Fn P w K mg base 5 "mirrored" ["world"] (sp_mirrored K) := by
  refine D.ok0 sc_mirrored (fun vs H Q E h => ?_) (fun f cdv A outer s H vs Q E hr h => ?_)
  · obtain ⟨p, xs, bs, n, rfl, _⟩ := h
    rfl
  obtain ⟨p, xs, bs, n, rfl, hp, hf, ⟨hn, h1⟩, k⟩ := h
  refine ⟨_, (pss_one (ps_ret (@pe_lc _ _ _ _ _ _ _ _ _ _ [] [] rfl (pi_rev (by rfl) T.b_reversed (pa_cons (pv 0) pa_nil)) rfl (by decide) rfl (by decide) rfl (by decide) cap_none (fun _ _ h => nomatch h) (no_free rfl) (fun C z Hc fp => (pe_tup (pa_cons (pe_fn F_turned_about (by decide) hr (by rfl) passE0 (pa_cons (pe_ix (ixT (K := K) rfl) (pv 0) pe_int (fun _ _ => rfl)) pa_nil)) (pa_cons (pe_fn F_turned_about (by decide) hr (by rfl) passE0 (pa_cons (pe_ix (ixT (K := K) rfl) (pv 0) pe_int (fun _ _ => rfl)) pa_nil)) (pa_cons (pe_ix (ixT (K := K) rfl) (pv 0) pe_int (fun _ _ => rfl)) pa_nil))))) (fun _ => rfl)))), ?_⟩
  have hz := Al2.len hf
  refine ⟨_, rfl, p, xs, rfl, hp, lc_rev (K := K) (a := p) (xs := xs) (fun i ys H1 => i ≤ xs.length ∧ Same H H1 ∧ Al2 (BdQ K H1 n) ys ((bs.reverse.take i).map mir1)) ⟨Nat.zero_le _, Same.refl H, trivial⟩ (by rw [hz]; exact Nat.le_trans h1 (by decide)) (fun i ys H1 ⟨l, _, e⟩ => by have := Al2.len e; simp at this; omega) (fun i ys H1 ⟨_, g, _⟩ => g.seq hp) ?_ ?_⟩
  · rintro i x ys H1 Q1 hx ⟨hl, sm, hy⟩ kq
    obtain ⟨b, hb, p2, a2, c2, rfl, e1, e2, e3, d1, d2, w1, w2⟩ := Al2.get (Al2.rev hf) hx
    have hi : i < xs.length := by have := (List.getElem?_eq_some_iff.mp hx).1; simpa using this
    refine ⟨_, rfl, p2, _, _, _, rfl, rfl, Kw.Same.tup sm e1, rfl, _, _, rfl, Kw.Same.tup sm e2, d1.mono hn, fun r2 H2 s2 g2 => ?_⟩
    have s12 := sm.trans s2
    refine ⟨_, rfl, p2, _, _, _, rfl, rfl, Kw.Same.tup s12 e1, rfl, _, _, rfl, Kw.Same.tup s12 e3, d2.mono hn, fun r3 H3 s3 g3 => ?_⟩
    have s13 := s12.trans s3
    refine ⟨_, rfl, p2, _, _, _, rfl, rfl, Kw.Same.tup s13 e1, rfl, by show 3 ≤ sizeLine; decide, fun p4 n4 => ?_⟩
    have s4 := same_new n4 (.tup [.ref r2, .ref r3, .int b.2.2])
    refine kq _ _ ⟨by omega, s13.trans s4, ?_⟩
    rw [take_snoc hb, List.map_append]
    exact Al2.snoc (bds_same hy (s2.trans (s3.trans s4))) ⟨p4, r2, r3, rfl, SqT.of upd_same, Kw.Same.tup (s3.trans s4) g2, Kw.Same.tup s4 g3, FB.neg d1, FB.neg d2, w1, w2⟩
  · rintro ys H1 ⟨_, sm, hy⟩ pl hpl
    have s2 := same_new hpl (.lst ys)
    have en : bs.reverse.take xs.length = bs.reverse := by rw [hz, ← List.length_reverse, List.take_length]
    rw [en] at hy
    have hn0 : H pl = none := by
      cases e : H pl with
      | none => rfl
      | some o => have := sm _ _ e; rw [hpl] at this; cases this
    exact k pl ys _ (sm.trans s2) hn0 upd_same (bds_same hy s2)
theorem same_del {H H' : Hp} {x : Addr} (n : H x = none) (s : Same H H') : Same H (del H' x) := fun a u e => by
  rw [del_ne (ne_of_none e n)]
  exact s a u e
theorem NoMost.same {K : PySem.W.Frag} {H H' : Hp} {v : V} (h : NoMost K H v) (s : Same H H') : NoMost K H' v := by
  rcases h with h | h
  · exact .inl (h.same s)
  · exact .inr h
noncomputable def WToldN (K : PySem.W.Frag) (H0 H : Hp) (N : Nat) (r : Addr) (wd : String) (ms : List (Rat × Rat × Nat)) (bs : List Bod) (last : Rat) : Prop := ∃ (rr rb rn : Addr) (zs ws : List V), SqT K H r [.str (Str.ofString wd), .ref rr, .ref rb, .ref rn] ∧ H rr = some (.lst zs) ∧ Al2 (HfQ K H N) zs (halfQ N ms) ∧ H rb = some (.lst ws) ∧ Al2 (BdQ K H 5990) ws (bs.drop N) ∧ FQ K H rn last ∧ FB 1990 last ∧ rr ≠ rb ∧ H0 rr = none ∧ H0 rb = none
theorem WToldN.wt {K : PySem.W.Frag} {H0 H : Hp} {N : Nat} {r : Addr} {wd : String} {ms : List (Rat × Rat × Nat)} {bs : List Bod} {last : Rat} (h : WToldN K H0 H N r wd ms bs last) : WTold K H N r wd ms bs last := by
  obtain ⟨rr, rb, rn, zs, ws, h1, h2, h3, h4, h5, h6, h7, h8, _⟩ := h
  exact ⟨rr, rb, rn, zs, ws, h1, h2, h3, h4, h5, h6, h7, h8⟩
noncomputable def spX_walled_run (K : PySem.W.Frag) (C : Nat → Addr) : Sp := fun vs H Q E => (∃ (f : Addr) (xs : List V) (bs : List Bod) (m : Nat), vs = [.ref f, .int (m : Int)] ∧ H f = some (.lst xs) ∧ Al2 (BdQ K H 64) xs bs ∧ 1 ≤ bs.length ∧ bs.length ≤ 12 ∧ (∀ b ∈ bs, 0 < b.1) ∧ m ≤ 40 ∧ FitN 1614 m (mirQ bs ++ bs) ∧ ∀ (r : Addr) (wd : String) (ms : List (Rat × Rat × Nat)) (es : List Bod) (last : Rat) (H1 : Hp), Same H H1 → RunQ (mirQ bs ++ bs) 0 m wd ms es last → WToldN K H H1 bs.length r wd ms (es.map (atT last)) last → Q (.ref r) H1) ∨ (∃ (f : Addr) (xs : List V) (bs : List Bod) (v : V), vs = [.ref f, v] ∧ H f = some (.lst xs) ∧ Al2 (BdQ K H 64) xs bs ∧ 1 ≤ bs.length ∧ bs.length ≤ 12 ∧ (∀ b ∈ bs, 0 < b.1) ∧ NoMost K H v ∧ ∀ H1, Same H H1 → E (.ref (C 0)) none H1) ∨ ∃ (f : Addr) (xs : List V) (bs : List Bod) (v : V), vs = [.ref f, v] ∧ H f = some (.lst xs) ∧ Al2 (BdQ K H 64) xs bs ∧ 1 ≤ bs.length ∧ (∀ b, bs[0]? = some b → ¬ 0 < b.1) ∧ ∀ (d : Addr) (H1 : Hp), Same H H1 → H1 d = some (Xd d [("at", .int 0)]) → E (.ref (C 1)) (some d) H1
theorem sc_walled_run : FnScope ["world", "most", "count", "told", "run"] ["world", "most"] (defScope (top 39)) := ⟨rfl, rfl, rfl, by decide +kernel, rfl, by decide +kernel, by decide +kernel⟩
theorem ok_walled_run (D : Df K mg "walled_run" (top 39) ["world", "most"]) (T : Tx K mg CK C) (F_under : Fn P w K mg base 1 "under" ["one", "other"] (sp_under K)) (F_mirrored : Fn P w K mg base 5 "mirrored" ["world"] (sp_mirrored K)) (F_run_of : Fn P w K mg base 8 "run_of" ["world", "most"] (spX_run_of K C)) (F_NoWorld___init__ : FnI P w K mg base 1 (C 1) ["self", "at"] (spInitN (C 1) ["at"])) : Fn P w K mg base 9 "walled_run" ["world", "most"] (spX_walled_run K C) := by
  refine D.okX sc_walled_run (fun vs H Q E h => ?_) (fun f cdv A outer s H vs Q E hr h => ?_)
  · rcases h with ⟨f, xs, bs, m, rfl, _⟩ | ⟨f, xs, bs, v, rfl, _⟩ | ⟨f, xs, bs, v, rfl, _⟩
    · rfl
    · rfl
    · rfl
  refine ⟨_, (pss_cons (ps_if (pt_not (pt_val (pe_fn F_under (by decide) hr (by rfl) (passL plain_cxOf leaves_cxOf) (pa_cons (pe_globT (K := K) rfl (by rfl) T.k_NOUGHT) (pa_cons (pe_ix ix_tup (pe_ix ix_list (pv 0) pe_int (fun _ _ => rfl)) pe_int (fun _ _ => rfl)) pa_nil))) (fun _ => rfl))) (pss_one (ps_raiseX plain_cxOf leaves_cxOf rfl (pe_mkx F_NoWorld___init__ (by decide) hr (by rfl) T.c_NoWorld (passL plain_cxOf leaves_cxOf) (pa_cons pe_int pa_nil)))) pss_nil)
      (pss_cons (ps_set (i := 2) sc_walled_run.nd rfl (Or.inr rfl) (pe_callB call_len (by rfl) T.b_len PyProof.Rows.Boot.«len» (pa_cons (pv 0) pa_nil)))
      (pss_cons (ps_set (i := 3) sc_walled_run.nd rfl (Or.inl rfl) (pe_fn F_run_of (by decide) hr (by rfl) (passL plain_cxOf leaves_cxOf) (pa_cons (pe_op op_cat (pe_fn F_mirrored (by decide) hr (by rfl) (passL plain_cxOf leaves_cxOf) (pa_cons (pv 0) pa_nil)) (pv 0)) (pa_cons (pv 1) pa_nil))))
      (pss_cons (@ps_lcT _ _ _ _ _ _ _ _ _ _ _ _ ["count"] [2] 4 _ _ _ sc_walled_run.nd rfl rfl rfl rfl (pi_list (pe_ix ix_tup (pv 3) pe_int (fun _ _ => rfl))) rfl (by decide) rfl (by decide) rfl (by decide) (cap_one (j := 2) rfl rfl rfl rfl (.inl rfl)) (fun y c h => h) (cap_fr rfl) (fun C z Hc fp => pts_one (pt_cmpR op_ge (pe_ix (ixT (K := K) rfl) (pv 0) pe_int (fun _ _ => rfl)) (pe_op op_sub (pv 1) pe_int) (nomark _))) (fun C z Hc fp => (pe_tup (pa_cons (pe_ix (ixT (K := K) rfl) (pv 0) pe_int (fun _ _ => rfl)) (pa_cons (pe_ix (ixT (K := K) rfl) (pv 0) pe_int (fun _ _ => rfl)) (pa_cons (pe_op op_sub (pe_ix (ixT (K := K) rfl) (pv 0) pe_int (fun _ _ => rfl)) (pv 1)) pa_nil))))) (fun _ => rfl))
      (pss_one (ps_ret (pe_tup (pa_cons (pe_ix ix_tup (pv 3) pe_int (fun _ _ => rfl)) (pa_cons (pv 4) (pa_cons (pe_slice sl_list (pe_ix ix_tup (pv 3) pe_int (fun _ _ => rfl)) (po_some (pv 2)) po_none) (pa_cons (pe_ix ix_tup (pv 3) pe_int (fun _ _ => rfl)) pa_nil))))))))))), ?_⟩
  rcases h with ⟨f, xs, bs, m, rfl, hf, al, l1, l6, ps, m5, com, k⟩ | ⟨f, xs, bs, v, rfl, hf, al, l1, l6, ps, nm, kx⟩ | ⟨f, xs, bs, v, rfl, hf, al, l1, np, kx⟩
  rotate_left
  · have hz := Al2.len al
    refine fun N hN => ?_
    obtain ⟨x0, hx0⟩ : ∃ x, xs[0]? = some x := ⟨_, List.getElem?_eq_getElem (by omega)⟩
    obtain ⟨b0, hb0, p0, a0, c0, rfl, z1, z2, z3, z4, z5, z6, z7⟩ := Al2.get al hx0
    have gN : FQ K H N ((0 : Int) : Rat) := FQ.ofInt (hN H)
    refine ⟨_, rfl, f, _, _, _, rfl, rfl, SqL.of hf, atI_nat (j := 0) hx0, p0, _, _, _, rfl, rfl, z1, rfl, N, _, a0, _, rfl, gN, (FB.ofInt (n := 64) (Bd.small (i := 0) (by decide) (by decide)) (by decide)).mono (by decide), z2, z4.mono (by decide), fun H1 s1 => ⟨_, rfl, ?_⟩⟩
    refine if_not (fun c => absurd (show ((0 : Int) : Rat) < b0.1 from ps b0 (List.mem_of_getElem? hb0)) c) (fun _ => ?_)
    have hf1 := s1 _ _ hf
    refine ⟨_, rfl, _, _, rfl, .inl ⟨_, SqL.of hf1, rfl⟩, ?_⟩
    refine ⟨_, rfl, f, xs, bs, 64, rfl, SqL.of hf1, bds_same al s1, ⟨by decide, by omega⟩, fun r2 ys2 H2 s2 n2 e2 al2 => ?_⟩
    have s02 := s1.trans s2
    have lm := Al2.len al2
    have lmq : (mirQ bs).length = bs.length := mir_len bs
    refine ⟨_, rfl, r2, f, ys2, xs, rfl, rfl, e2, s02 _ _ hf, Nat.le_trans (show ys2.length + xs.length ≤ 24 by omega) (by decide), ?_⟩
    intro p3 n3
    obtain ⟨H3, q3, s3, e3⟩ := newO n3 (.lst (ys2 ++ xs))
    rw [q3]
    clear q3
    have s03 := s02.trans s3
    exact ⟨_, rfl, .inr ⟨p3, v, rfl, nm.same s03, kx _ s03⟩⟩
  · have hz := Al2.len al
    refine fun N hN => ?_
    obtain ⟨x0, hx0⟩ : ∃ x, xs[0]? = some x := ⟨_, List.getElem?_eq_getElem (by omega)⟩
    obtain ⟨b0, hb0, p0, a0, c0, rfl, z1, z2, z3, z4, z5, z6, z7⟩ := Al2.get al hx0
    have gN : FQ K H N ((0 : Int) : Rat) := FQ.ofInt (hN H)
    refine ⟨_, rfl, f, _, _, _, rfl, rfl, SqL.of hf, atI_nat (j := 0) hx0, p0, _, _, _, rfl, rfl, z1, rfl, N, _, a0, _, rfl, gN, (FB.ofInt (n := 64) (Bd.small (i := 0) (by decide) (by decide)) (by decide)).mono (by decide), z2, z4.mono (by decide), fun H1 s1 => ⟨_, rfl, ?_⟩⟩
    refine if_not (fun c => ?_) (fun c => absurd (show (0 : Rat) < b0.1 from c) (np b0 hb0))
    refine ⟨by show 1 ≤ sizeLine; decide, fun x nx => ⟨x, [.int 0], rfl, rfl, upd_same, fun d H3 nd b3 e3 f3 => ⟨rfl, ?_⟩⟩⟩
    have s3 := same_of_but nx b3
    refine ⟨x, C 1, some d, rfl, e3, none_of_sm s1 nx, clsx_o T.o_NoWorld, kx d _ (s1.trans (same_del nx s3)) ?_⟩
    rw [del_ne nd]
    exact f3
  have hz := Al2.len al
  refine fun N hN => ?_
  obtain ⟨x0, hx0⟩ : ∃ x, xs[0]? = some x := ⟨_, List.getElem?_eq_getElem (by omega)⟩
  obtain ⟨b0, hb0, p0, a0, c0, rfl, z1, z2, z3, z4, z5, z6, z7⟩ := Al2.get al hx0
  have gN : FQ K H N ((0 : Int) : Rat) := FQ.ofInt (hN H)
  refine ⟨_, rfl, f, _, _, _, rfl, rfl, SqL.of hf, atI_nat (j := 0) hx0, p0, _, _, _, rfl, rfl, z1, rfl, N, _, a0, _, rfl, gN, (FB.ofInt (n := 64) (Bd.small (i := 0) (by decide) (by decide)) (by decide)).mono (by decide), z2, z4.mono (by decide), fun H1 s1 => ⟨_, rfl, ?_⟩⟩
  refine if_not (fun c => absurd (show ((0 : Int) : Rat) < b0.1 from ps b0 (List.mem_of_getElem? hb0)) c) (fun _ => ?_)
  have hf1 := s1 _ _ hf
  refine ⟨_, rfl, _, _, rfl, .inl ⟨_, SqL.of hf1, rfl⟩, ?_⟩
  refine ⟨_, rfl, f, xs, bs, 64, rfl, SqL.of hf1, bds_same al s1, ⟨by decide, by omega⟩, fun r2 ys2 H2 s2 n2 e2 al2 => ?_⟩
  have s02 := s1.trans s2
  have lm := Al2.len al2
  have lmq : (mirQ bs).length = bs.length := mir_len bs
  refine ⟨_, rfl, r2, f, ys2, xs, rfl, rfl, e2, s02 _ _ hf, Nat.le_trans (show ys2.length + xs.length ≤ 24 by omega) (by decide), ?_⟩
  intro p3 n3
  obtain ⟨H3, q3, s3, e3⟩ := newO n3 (.lst (ys2 ++ xs))
  rw [q3]
  clear q3
  have s03 := s02.trans s3
  have al3 : Al2 (BdQ K H3 64) (ys2 ++ xs) (mirQ bs ++ bs) := al_app (bds_same al2 s3) (bds_same al s03)
  refine ⟨_, rfl, .inl ⟨p3, _, _, m, rfl, e3, bds_mono al3 (by decide), by rw [List.length_append]; omega, m5, com, fun r4 wd ms es last H4 s4 rq told => ?_⟩⟩
  have mf := run_fewN (N := 12) rq (by rw [List.length_append]; omega)
  have esl := rq.len
  rw [List.length_append] at esl
  obtain ⟨tr, tb, tn, tz, tw, t1, t2, t3, t4, t5, t6, t7⟩ := told.q
  have hzt := Al2.len t3
  have hzw := Al2.len t5
  rw [List.length_map] at hzw
  have s04 := s03.trans s4
  refine ⟨_, rfl, r4, _, _, _, rfl, rfl, t1, rfl, tr, rfl, ⟨_, SqL.of t2⟩, lc_listF (K := K) (xs := tz) (fun i ys H' => i ≤ tz.length ∧ Same H4 H' ∧ Al2 (HfQ K H' xs.length) ys (halfQ xs.length (ms.take i))) ⟨Nat.zero_le _, Same.refl _, trivial⟩ (by rw [hzt]; exact Nat.le_trans (show ms.length ≤ 600 by omega) (by decide)) (fun i ys H1 z => by obtain ⟨l, _, e⟩ := z; have q1 := Al2.len e; have q2 := List.length_filter_le (fun m : Rat × Rat × Nat => decide (xs.length ≤ m.2.2 + 1)) (ms.take i); rw [List.length_take] at q2; have q3 : (halfQ xs.length (ms.take i)).length ≤ min i ms.length := q2; omega) (fun i ys H1 z => by obtain ⟨_, g, _⟩ := z; exact SqL.of (g _ _ t2)) ?_ ?_⟩
  · rintro i x ys HA Qn hx ⟨hl, sa, hy⟩ kq
    have hi : i < tz.length := (List.getElem?_eq_some_iff.mp hx).1
    obtain ⟨q, hq, pq, qa, qc, rfl, x1, x2, x3, x4, x5⟩ := Al2.get (mts_same t3 sa) hx
    have sn := half_snoc (N := xs.length) hq
    refine ⟨_, rfl, pq, _, _, _, rfl, rfl, x1, rfl, _, rfl, _, _, rfl, rfl, _, _, rfl, rfl, _, rfl, ?_⟩
    refine if_dec (fun c => ?_) (fun c => ?_)
    · refine ⟨_, rfl, pq, _, _, _, rfl, rfl, x1, rfl, _, rfl, pq, _, _, _, rfl, rfl, x1, rfl, _, rfl, pq, _, _, _, rfl, rfl, x1, rfl, _, rfl, _, _, rfl, rfl, by show 3 ≤ sizeLine; decide, ?_⟩
      intro p905 n905
      obtain ⟨H905, q905, s905, e905⟩ := newO n905 (.tup [.ref qa, .ref qc, .int ((q.2.2 : Int) - (xs.length : Int))])
      rw [q905]
      clear q905
      refine kq _ _ ⟨hi, sa.trans s905, ?_⟩
      rw [sn, if_pos (decide_eq_true (by omega))]
      exact Al2.snoc (hfs_same hy s905) ⟨p905, qa, qc, rfl, SqT.of e905, Kw.Same.tup s905 x2, Kw.Same.tup s905 x3⟩
    · refine kq _ _ ⟨hi, sa, ?_⟩
      rw [sn, if_neg (by rw [decide_eq_true_eq]; omega), List.append_nil]
      exact hy
  · rintro ys5 H5 ⟨_, s5, hy5⟩ pl hpl
    rw [hzt, List.take_length, hz] at hy5
    obtain ⟨H6, q6, s6, e6⟩ := newO hpl (.lst ys5)
    rw [q6]
    clear q6
    have s46 := s5.trans s6
    have t16 := Kw.Same.tup s46 t1
    refine ⟨_, rfl, r4, _, _, _, rfl, rfl, t16, rfl, _, rfl, _, rfl, r4, _, _, _, rfl, rfl, t16, rfl, _, rfl, _, rfl, tb, tw, rfl, SqL.of (s46 _ _ t4), ?_⟩
    rw [cut_dropR (show xs.length ≤ tw.length by omega)]
    intro p7 n7
    obtain ⟨H7, q7, s7, e7⟩ := newO n7 (.lst (tw.drop xs.length))
    rw [q7]
    clear q7
    have s47 := s46.trans s7
    have t17 := Kw.Same.tup s47 t1
    have al7 := Al2.dropR xs.length (bds_same t5 s47)
    rw [hz] at al7
    refine ⟨_, rfl, r4, _, _, _, rfl, rfl, t17, rfl, by show 4 ≤ sizeLine; decide, ?_⟩
    intro p8 n8
    obtain ⟨H8, q8, s8, e8⟩ := newO n8 (.tup [.str wd, .ref pl, .ref p7, .ref tn])
    rw [q8]
    clear q8
    have s68 := s7.trans s8
    have s48 := s47.trans s8
    rw [hz] at e7
    exact k p8 wd ms es last H8 (s04.trans s48) rq ⟨pl, p7, tn, _, _, SqT.of e8, s68 _ _ e6, hfs_same hy5 (s6.trans s68), s8 _ _ e7, bds_same al7 s8, Kw.Same.tup s48 t6, t7, (fun z => by rw [← z, e6] at n7; cases n7), none_of_sm (s04.trans s5) hpl, none_of_sm (s04.trans s46) n7⟩
theorem sc_law_cell : FnScope ["_law_script", "_law_k"] ["_law_script", "_law_k"] (defScope (top 41)) := ⟨rfl, rfl, rfl, by decide +kernel, rfl, by decide +kernel, by decide +kernel⟩
theorem ok_law_cell (D : Df K mg "_law_cell" (top 41) ["_law_script", "_law_k"]) (T : Tx K mg CK C) : Fn P w K mg base 1 "_law_cell" ["_law_script", "_law_k"] (spCell K) := by
  refine D.ok0 sc_law_cell (fun vs H Q E h => ?_) (fun f cdv A outer s H vs Q E hr h => ?_)
  · obtain ⟨a, k, rfl, _⟩ := h
    rfl
  obtain ⟨a, k, rfl, ⟨ns, hS, h63, hbd⟩, k0, k1, q⟩ := h
  refine ⟨_, (pss_cons (ps_if (pt_cmpR op_lt (pv 1) (pe_callB call_len (by rfl) T.b_len PyProof.Rows.Boot.«len» (pa_cons (pv 0) pa_nil)) (nomark _)) (pss_one (ps_ret (pe_ix ix_list (pv 0) (pv 1) (fun _ _ => rfl)))) pss_nil)
      (pss_one (ps_ret (pe_op op_add (pe_op op_mulB pe_int (pv 1)) pe_int)))), ?_⟩
  refine ⟨_, rfl, _, rfl, _, _, rfl, .inl ⟨_, hS, rfl⟩, _, _, rfl, rfl, _, rfl, ?_⟩
  refine if_dec (fun c => ?_) (fun c => ?_)
  · rw [List.length_map] at c
    have hk : k.toNat < ns.length := by omega
    have ek : k = ((k.toNat : Nat) : Int) := by omega
    have z : atI (ns.map V.int) ((k.toNat : Nat) : Int) = some (.int ns[k.toNat]) := atI_nat (by rw [List.getElem?_map, List.getElem?_eq_getElem hk] <;> rfl)
    rw [← ek] at z
    exact ⟨_, rfl, _, rfl, a, _, _, _, rfl, rfl, hS, z, q _ (hbd _ (List.getElem_mem hk))⟩
  · refine ⟨_, rfl, _, _, rfl, rfl, mulOk_smallL (by decide) (by decide), _, _, rfl, rfl, q _ ?_⟩
    exact (Bd.small (by omega) (by omega)).mono (by decide)
theorem sc_law_mix : FnScope ["_law_cell_here", "_law_k", "_law_number"] ["_law_cell_here", "_law_k"] (defScope (top 42)) := ⟨rfl, rfl, rfl, by decide +kernel, rfl, by decide +kernel, by decide +kernel⟩
theorem ok_law_mix (D : Df K mg "_law_mix" (top 42) ["_law_cell_here", "_law_k"]) (T : Tx K mg CK C) : Fn P w K mg base 1 "_law_mix" ["_law_cell_here", "_law_k"] spMix := by
  refine D.ok0 sc_law_mix (fun vs H Q E h => ?_) (fun f cdv A outer s H vs Q E hr h => ?_)
  · obtain ⟨c, k, rfl, _⟩ := h
    rfl
  obtain ⟨c, k, rfl, hc, k0, k1, q⟩ := h
  refine ⟨_, (pss_cons (ps_set (i := 2) sc_law_mix.nd rfl (Or.inl rfl) (pe_op op_add (pe_op op_mulB (pe_op op_add (pv 0) pe_int) pe_int) (pe_op op_mulB pe_int (pv 1))))
      (pss_cons (ps_set (i := 2) sc_law_mix.nd rfl (Or.inl rfl) (pe_op op_add (pe_op op_mod (pe_op op_mulB (pv 2) (pv 2)) pe_int) (pv 1)))
      (pss_one (ps_ret (pe_op op_mod (pe_op op_mulB (pv 2) (pe_op op_add (pv 2) pe_int)) pe_int))))), ?_⟩
  have s1 : ∀ i : Int, -(2 ^ 64) < i → i < 2 ^ 64 → Bd 1048576 i := fun i h1 h2 => (Bd.small h1 h2).mono (by decide)
  have b1 : Bd 1048641 ((c + 1) * 40692) := ((hc.add (s1 1 (by decide) (by decide))).mul (Bd.small (i := 40692) (by decide) (by decide))).mono (by decide)
  have b2 : Bd 1048642 ((c + 1) * 40692 + 104729 * k) := (b1.add ((Bd.small (by omega) (by omega)).mono (by decide))).mono (by decide)
  refine ⟨_, rfl, _, _, rfl, rfl, _, _, rfl, rfl, mulOk_small (by decide) (by decide), _, rfl, _, _, rfl, rfl, mulOk_smallL (by decide) (by decide), _, _, rfl, rfl, ?_⟩
  refine ⟨_, rfl, _, rfl, _, _, rfl, rfl, b2.ok b2 (by decide), _, _, rfl, rfl, (by show (0 : Int) < 2147483399; decide), _, rfl, _, _, rfl, rfl, ?_⟩
  have e0 := Int.emod_nonneg (((c + 1) * 40692 + 104729 * k) * ((c + 1) * 40692 + 104729 * k)) (show (2147483399 : Int) ≠ 0 by decide)
  have e1 := Int.emod_lt_of_pos (((c + 1) * 40692 + 104729 * k) * ((c + 1) * 40692 + 104729 * k)) (show (0 : Int) < 2147483399 by decide)
  exact ⟨_, rfl, _, rfl, _, _, rfl, rfl, _, _, rfl, rfl, mulOk_smallL (by omega) (by omega), _, _, rfl, rfl, (by show (0 : Int) < 2147483563; decide), q _⟩
theorem sc_law_box : FnScope ["_law_script", "_law_k", "_law_here", "_law_number", "_law_j"] ["_law_script", "_law_k"] (defScope (top 43)) := ⟨rfl, rfl, rfl, by decide +kernel, rfl, by decide +kernel, by decide +kernel⟩
theorem ok_law_box (D : Df K mg "_law_box" (top 43) ["_law_script", "_law_k"]) (T : Tx K mg CK C) (F_law_cell : Fn P w K mg base 1 "_law_cell" ["_law_script", "_law_k"] (spCell K)) (F_law_mix : Fn P w K mg base 1 "_law_mix" ["_law_cell_here", "_law_k"] spMix) :
    Fn P w K mg base 2 "_law_box" ["_law_script", "_law_k"] (spBox K) := by
  refine D.ok0 sc_law_box (fun vs H Q E h => ?_) (fun f cdv A outer s H vs Q E hr h => ?_)
  · obtain ⟨a, k, rfl, _⟩ := h
    rfl
  obtain ⟨a, k, rfl, hS, k0, k1, q⟩ := h
  refine ⟨_, (pss_cons (ps_set (i := 2) sc_law_box.nd rfl (Or.inl rfl) (pe_fn F_law_cell (by decide) hr (by rfl) passE0 (pa_cons (pv 0) (pa_cons (pv 1) pa_nil))))
      (pss_cons (ps_if (pt_cmpR op_eq (pe_op op_mod (pv 2) pe_int) pe_int (nomark _)) (pss_one (ps_ret (pe_lst (pa_cons (pe_op op_fdivB (pv 2) pe_int) pa_nil)))) pss_nil)
      (pss_cons (ps_set (i := 3) sc_law_box.nd rfl (Or.inl rfl) pe_int)
      (pss_cons (ps_for PassesOwn.never rfl (pi_range1 (by rfl) T.b_range (pa_cons pe_int pa_nil)) (pg_name (i := 4) sc_law_box.nd rfl (Or.inl rfl)) (pss_one (ps_set (i := 3) sc_law_box.nd rfl (Or.inl rfl) (pe_op op_add (pe_op op_mulB (pv 3) pe_int) (pe_fn F_law_mix (by decide) hr (by rfl) passE0 (pa_cons (pv 2) (pa_cons (pv 4) pa_nil)))))))
      (pss_one (ps_ret (pe_lst (pa_cons (pv 3) pa_nil)))))))), ?_⟩
  refine ⟨_, rfl, _, rfl, a, k, rfl, hS, k0, k1, fun c hc => ?_⟩
  refine ⟨_, rfl, _, _, rfl, rfl, (by show (0 : Int) < 2; decide), rfl, _, rfl, ?_⟩
  refine if_decI (fun z => ?_) (fun z => ?_)
  · refine ⟨_, rfl, _, _, rfl, rfl, ⟨by decide, by decide +kernel⟩, (by show 1 ≤ sizeLine; decide), fun p hp => ?_⟩
    exact q p _ _ hp (same_new hp _) upd_same
  refine ⟨_, rfl, by decide, by decide, for_range (n := 16) (fun i σ' H' => ∃ (n : Int) (r : Option V), σ' = [some (.ref a), some (.int k), some (.int c), some (.int n), r] ∧ H' = H) ⟨_, _, rfl, rfl⟩ ?_ ?_⟩
  · rintro i σ' H' hi ⟨n, r, rfl, rfl⟩
    refine ⟨_, rfl, _, _, rfl, rfl, mulOk_small (by decide) (by decide), _, rfl, _, rfl, c, _, rfl, hc, by omega, by omega, fun m => ?_⟩
    exact ⟨_, _, rfl, rfl, _, _, rfl, rfl⟩
  · rintro σ' H' ⟨n, r, rfl, rfl⟩
    refine ⟨_, rfl, (by show 1 ≤ sizeLine; decide), fun p hp => ?_⟩
    exact q p _ _ hp (same_new hp _) upd_same
theorem sc_law_take : FnScope ["_law_box_here", "_law_many", "_law_left", "_law_digit"] ["_law_box_here", "_law_many"] (defScope (top 44)) := ⟨rfl, rfl, rfl, by decide +kernel, rfl, by decide +kernel, by decide +kernel⟩
theorem ok_law_take (D : Df K mg "_law_take" (top 44) ["_law_box_here", "_law_many"]) (T : Tx K mg CK C) : Fn P w K mg base 1 "_law_take" ["_law_box_here", "_law_many"] spTake := by
  refine D.ok0 sc_law_take (fun vs H Q E h => ?_) (fun f cdv A outer s H vs Q E hr h => ?_)
  · obtain ⟨b, m, n, rfl, _⟩ := h
    rfl
  obtain ⟨b, m, n, rfl, hb, m0, hm, q⟩ := h
  refine ⟨_, (pss_cons (ps_asg (pe_callB call_divmodB (by rfl) T.b_divmod PyProof.Rows.Boot.«divmod» (pa_cons (pe_ix ix_list (pv 0) pe_int (fun _ _ => rfl)) (pa_cons (pv 1) pa_nil))) (pg_tup rfl (pgs_cons (pg_name (i := 2) sc_law_take.nd rfl (Or.inl rfl)) (pgs_cons (pg_name (i := 3) sc_law_take.nd rfl (Or.inl rfl)) pgs_nil))))
      (pss_cons (ps_asg (pv 2) (pg_sub (pv 0) pe_int set_list))
      (pss_one (ps_ret (pv 3))))), ?_⟩
  refine ⟨_, rfl, b, _, _, _, rfl, rfl, SqL.of hb, rfl, _, rfl, n, m, rfl, ⟨m0, hm.log⟩, ?_⟩
  intro p hp0
  have sm := same_new hp0 (.tup [.int (n / m), .int (n % m)])
  have hp : upd H p (.tup [.int (n / m), .int (n % m)]) p = some (.tup [.int (n / m), .int (n % m)]) := upd_same
  refine ⟨p, _, rfl, SqT.of hp, rfl, _, _, rfl, _, _, rfl, rfl, ?_⟩
  refine ⟨_, rfl, _, rfl, b, _, _, 0, rfl, rfl, sm _ _ hb, rfl, _, rfl, ?_⟩
  have d0 := Int.emod_nonneg n (show m ≠ 0 by omega)
  have d1 := Int.emod_lt_of_pos n m0
  exact q (n % m) (n / m) _ d0 d1 ((But.of sm).trans (but_upd _)) upd_same
theorem sc_law_fit : FnScope ["_law_top", "_law_bottom", "_law_one", "_law_other"] ["_law_top", "_law_bottom"] (defScope (top 45)) := ⟨rfl, rfl, rfl, by decide +kernel, rfl, by decide +kernel, by decide +kernel⟩
theorem ok_law_fit0 (D : Df K mg "_law_fit" (top 45) ["_law_top", "_law_bottom"]) (T : Tx K mg CK C) : Fn P w K mg base 1 "_law_fit" ["_law_top", "_law_bottom"] spFit := by
  refine D.ok0 sc_law_fit (fun vs H Q E h => ?_) (fun f cdv A outer s H vs Q E hr h => ?_)
  · obtain ⟨a, b, rfl, _⟩ := h
    rfl
  obtain ⟨a, b, rfl, c, hb, hq⟩ := h
  refine ⟨_, (pss_cons (ps_par (i := 2) (j := 3) rfl sc_law_fit.nd rfl rfl (by decide) rfl rfl (pa_cons (pe_callB call_abs (by rfl) T.b_abs PyProof.Rows.Boot.«abs» (pa_cons (pv 0) pa_nil)) (pa_cons (pe_callB call_abs (by rfl) T.b_abs PyProof.Rows.Boot.«abs» (pa_cons (pv 1) pa_nil)) pa_nil)) rfl)
      (pss_cons (ps_while PassesOwn.never (pt_cmpR op_gt (pv 3) pe_int (nomark _)) (pss_one (ps_par (i := 2) (j := 3) rfl sc_law_fit.nd rfl rfl (by decide) rfl rfl (pa_cons (pv 3) (pa_cons (pe_op op_mod (pv 2) (pv 3)) pa_nil)) rfl)))
      (pss_cons (ps_if (pt_cmpR op_lt (pv 1) pe_int (nomark _)) (pss_one (ps_set (i := 2) sc_law_fit.nd rfl (Or.inl rfl) (pe_op op_sub pe_int (pv 2)))) pss_nil)
      (pss_one (ps_ret (pe_tup (pa_cons (pe_op op_fdivB (pv 0) (pv 2)) (pa_cons (pe_op op_fdivB (pv 1) (pv 2)) pa_nil)))))))), ?_⟩
  refine ⟨_, rfl, _, rfl, _, rfl, _, rfl, _, _, rfl, ?_⟩
  refine ⟨fun m σ' H' => ∃ g s : Int, σ' = [some (.int a), some (.int b), some (.int g), some (.int s)] ∧ H' = H ∧ 0 ≤ g ∧ 0 ≤ s ∧ m = s.toNat ∧ Int.gcd g s = Int.gcd a b, ⟨_, _, _, rfl, rfl, abs_nn a, abs_nn b, rfl, gcd_abs a b⟩, ?_⟩
  rintro m σ' H' ⟨g, s, rfl, rfl, hg, hs, rfl, e⟩
  refine ⟨_, rfl, _, _, rfl, rfl, _, rfl, ?_⟩
  refine if_dec (fun c => ?_) (fun z => ?_)
  · refine ⟨_, fun _ _ n => n, ?_⟩
    refine ⟨_, rfl, _, rfl, _, rfl, _, _, rfl, rfl, c, _, _, rfl, ?_⟩
    have l := Int.emod_lt_of_pos g c
    have l0 := Int.emod_nonneg g (show s ≠ 0 by omega)
    exact ⟨_, by omega, s, g % s, rfl, rfl, by omega, l0, rfl, (gcd_step g s hg c).trans e⟩
  · have s0 : s = 0 := by omega
    subst s0
    have z := gcd_end g hg
    rw [e] at z
    subst z
    have hd : (if b < 0 then -((Int.gcd a b : Nat) : Int) else ((Int.gcd a b : Nat) : Int)) = dv a b := rfl
    have lg := (bd_dv (t := a) c hb).log
    refine ⟨_, rfl, _, _, rfl, rfl, _, rfl, ?_⟩
    refine if_dec (fun n => ?_) (fun n => ?_)
    · rw [if_pos n] at hd
      refine ⟨_, rfl, _, _, rfl, rfl, ?_⟩
      dsimp only
      rw [show (0 : Int) - ((Int.gcd a b : Nat) : Int) = dv a b by rw [← hd]; omega]
      refine ⟨_, rfl, _, rfl, _, _, rfl, rfl, ⟨dv_ne c, lg⟩, _, rfl, _, rfl, _, _, rfl, rfl, ⟨dv_ne c, lg⟩, by show 2 ≤ sizeLine; decide, ?_⟩
      exact rd_new fun p H' sm hp => hq p H' sm hp
    · rw [if_neg n] at hd
      rw [hd]
      refine ⟨_, rfl, _, rfl, _, _, rfl, rfl, ⟨dv_ne c, lg⟩, _, rfl, _, rfl, _, _, rfl, rfl, ⟨dv_ne c, lg⟩, by show 2 ≤ sizeLine; decide, ?_⟩
      exact rd_new fun p H' sm hp => hq p H' sm hp
noncomputable def sp_law_fit (K : PySem.W.Frag) : Sp := fun vs H Q _ => ∃ (a : Int) (b : Int), vs = [.int a, .int b] ∧ Bd 9000 b ∧ b ≠ 0 ∧ (∀ (p_r : Addr) (H1 : Hp), Same H H1 → FQ K H1 p_r (Rat.divInt a b) → Q (.ref p_r) H1)
theorem ok_law_fit (D : Df K mg "_law_fit" (top 45) ["_law_top", "_law_bottom"]) (T : Tx K mg CK C) : Fn P w K mg base 1 "_law_fit" ["_law_top", "_law_bottom"] (sp_law_fit K) :=
  (ok_law_fit0 D T).imp fun vs H Q E h => by
    obtain ⟨a, b, rfl, hb, b0, k⟩ := h
    exact ⟨a, b, rfl, b0, hb, fun p H' s e => k p H' s (FQ.fit b0 (SqT.of e))⟩
noncomputable def sp_law_plus (K : PySem.W.Frag) : Sp := fun vs H Q _ => ∃ (p_x : Addr) (x : Rat) (n_x : Nat) (p_y : Addr) (y : Rat) (n_y : Nat), vs = [.ref p_x, .ref p_y] ∧ FQ K H p_x x ∧ FB n_x x ∧ FQ K H p_y y ∧ FB n_y y ∧ n_x + n_y ≤ 8950 ∧ (∀ (p_r : Addr) (H1 : Hp), Same H H1 → FQ K H1 p_r (x + y) → Q (.ref p_r) H1)
theorem sc_law_plus : FnScope ["_law_one", "_law_other"] ["_law_one", "_law_other"] (defScope (top 46)) := ⟨rfl, rfl, rfl, by decide +kernel, rfl, by decide +kernel, by decide +kernel⟩
theorem ok_law_plus (D : Df K mg "_law_plus" (top 46) ["_law_one", "_law_other"]) (T : Tx K mg CK C) (F_law_fit : Fn P w K mg base 1 "_law_fit" ["_law_top", "_law_bottom"] (sp_law_fit K)) : Fn P w K mg base 2 "_law_plus" ["_law_one", "_law_other"] (sp_law_plus K) := by
  refine D.ok0 sc_law_plus (fun vs H Q E h => ?_) (fun f cdv A outer s H vs Q E hr h => ?_)
  · obtain ⟨p, x, n, q, y, m, rfl, _⟩ := h
    rfl
  obtain ⟨p, x, n, q, y, m, rfl, hp, dx, hq, dy, hn, k⟩ := h
  refine ⟨_, (pss_one (ps_ret (pe_fn F_law_fit (by decide) hr (by rfl) passE0 (pa_cons (pe_op op_add (pe_op op_mulB (pe_ix ix_tup (pv 0) pe_int (fun _ _ => rfl)) (pe_ix ix_tup (pv 1) pe_int (fun _ _ => rfl))) (pe_op op_mulB (pe_ix ix_tup (pv 1) pe_int (fun _ _ => rfl)) (pe_ix ix_tup (pv 0) pe_int (fun _ _ => rfl)))) (pa_cons (pe_op op_mulB (pe_ix ix_tup (pv 0) pe_int (fun _ _ => rfl)) (pe_ix ix_tup (pv 1) pe_int (fun _ _ => rfl))) pa_nil))))), ?_⟩
  refine ⟨_, rfl, p, _, _, _, rfl, rfl, hp, rfl, _, rfl, q, _, _, _, rfl, rfl, hq, rfl, _, _, rfl, rfl, dx.1.ok dy.2 (by omega), _, rfl, q, _, _, _, rfl, rfl, hq, rfl, _, rfl, p, _, _, _, rfl, rfl, hp, rfl, _, _, rfl, rfl, dy.1.ok dx.2 (by omega), _, _, rfl, rfl, _, rfl, p, _, _, _, rfl, rfl, hp, rfl, _, rfl, q, _, _, _, rfl, rfl, hq, rfl, _, _, rfl, rfl, dx.2.ok dy.2 (by omega), _, _, rfl, (dx.2.mul dy.2).mono (by omega), Int.mul_ne_zero (q_ne _) (q_ne _), fun r H1 s1 g1 => k r H1 s1 (FQ.cast g1 (q_add x y))⟩
noncomputable def sp_law_minus (K : PySem.W.Frag) : Sp := fun vs H Q _ => ∃ (p_x : Addr) (x : Rat) (n_x : Nat) (p_y : Addr) (y : Rat) (n_y : Nat), vs = [.ref p_x, .ref p_y] ∧ FQ K H p_x x ∧ FB n_x x ∧ FQ K H p_y y ∧ FB n_y y ∧ n_x + n_y ≤ 8950 ∧ (∀ (p_r : Addr) (H1 : Hp), Same H H1 → FQ K H1 p_r (x - y) → Q (.ref p_r) H1)
theorem sc_law_minus : FnScope ["_law_one", "_law_other"] ["_law_one", "_law_other"] (defScope (top 47)) := ⟨rfl, rfl, rfl, by decide +kernel, rfl, by decide +kernel, by decide +kernel⟩
theorem ok_law_minus (D : Df K mg "_law_minus" (top 47) ["_law_one", "_law_other"]) (T : Tx K mg CK C) (F_law_fit : Fn P w K mg base 1 "_law_fit" ["_law_top", "_law_bottom"] (sp_law_fit K)) : Fn P w K mg base 2 "_law_minus" ["_law_one", "_law_other"] (sp_law_minus K) := by
  refine D.ok0 sc_law_minus (fun vs H Q E h => ?_) (fun f cdv A outer s H vs Q E hr h => ?_)
  · obtain ⟨p, x, n, q, y, m, rfl, _⟩ := h
    rfl
  obtain ⟨p, x, n, q, y, m, rfl, hp, dx, hq, dy, hn, k⟩ := h
  refine ⟨_, (pss_one (ps_ret (pe_fn F_law_fit (by decide) hr (by rfl) passE0 (pa_cons (pe_op op_sub (pe_op op_mulB (pe_ix ix_tup (pv 0) pe_int (fun _ _ => rfl)) (pe_ix ix_tup (pv 1) pe_int (fun _ _ => rfl))) (pe_op op_mulB (pe_ix ix_tup (pv 1) pe_int (fun _ _ => rfl)) (pe_ix ix_tup (pv 0) pe_int (fun _ _ => rfl)))) (pa_cons (pe_op op_mulB (pe_ix ix_tup (pv 0) pe_int (fun _ _ => rfl)) (pe_ix ix_tup (pv 1) pe_int (fun _ _ => rfl))) pa_nil))))), ?_⟩
  refine ⟨_, rfl, p, _, _, _, rfl, rfl, hp, rfl, _, rfl, q, _, _, _, rfl, rfl, hq, rfl, _, _, rfl, rfl, dx.1.ok dy.2 (by omega), _, rfl, q, _, _, _, rfl, rfl, hq, rfl, _, rfl, p, _, _, _, rfl, rfl, hp, rfl, _, _, rfl, rfl, dy.1.ok dx.2 (by omega), _, _, rfl, rfl, _, rfl, p, _, _, _, rfl, rfl, hp, rfl, _, rfl, q, _, _, _, rfl, rfl, hq, rfl, _, _, rfl, rfl, dx.2.ok dy.2 (by omega), _, _, rfl, (dx.2.mul dy.2).mono (by omega), Int.mul_ne_zero (q_ne _) (q_ne _), fun r H1 s1 g1 => k r H1 s1 (FQ.cast g1 (q_sub x y))⟩
noncomputable def sp_law_times (K : PySem.W.Frag) : Sp := fun vs H Q _ => ∃ (p_x : Addr) (x : Rat) (n_x : Nat) (p_y : Addr) (y : Rat) (n_y : Nat), vs = [.ref p_x, .ref p_y] ∧ FQ K H p_x x ∧ FB n_x x ∧ FQ K H p_y y ∧ FB n_y y ∧ n_x + n_y ≤ 8950 ∧ (∀ (p_r : Addr) (H1 : Hp), Same H H1 → FQ K H1 p_r (x * y) → Q (.ref p_r) H1)
theorem sc_law_times : FnScope ["_law_one", "_law_other"] ["_law_one", "_law_other"] (defScope (top 48)) := ⟨rfl, rfl, rfl, by decide +kernel, rfl, by decide +kernel, by decide +kernel⟩
theorem ok_law_times (D : Df K mg "_law_times" (top 48) ["_law_one", "_law_other"]) (T : Tx K mg CK C) (F_law_fit : Fn P w K mg base 1 "_law_fit" ["_law_top", "_law_bottom"] (sp_law_fit K)) : Fn P w K mg base 2 "_law_times" ["_law_one", "_law_other"] (sp_law_times K) := by
  refine D.ok0 sc_law_times (fun vs H Q E h => ?_) (fun f cdv A outer s H vs Q E hr h => ?_)
  · obtain ⟨p, x, n, q, y, m, rfl, _⟩ := h
    rfl
  obtain ⟨p, x, n, q, y, m, rfl, hp, dx, hq, dy, hn, k⟩ := h
  refine ⟨_, (pss_one (ps_ret (pe_fn F_law_fit (by decide) hr (by rfl) passE0 (pa_cons (pe_op op_mulB (pe_ix ix_tup (pv 0) pe_int (fun _ _ => rfl)) (pe_ix ix_tup (pv 1) pe_int (fun _ _ => rfl))) (pa_cons (pe_op op_mulB (pe_ix ix_tup (pv 0) pe_int (fun _ _ => rfl)) (pe_ix ix_tup (pv 1) pe_int (fun _ _ => rfl))) pa_nil))))), ?_⟩
  refine ⟨_, rfl, p, _, _, _, rfl, rfl, hp, rfl, _, rfl, q, _, _, _, rfl, rfl, hq, rfl, _, _, rfl, rfl, dx.1.ok dy.1 (by omega), _, rfl, p, _, _, _, rfl, rfl, hp, rfl, _, rfl, q, _, _, _, rfl, rfl, hq, rfl, _, _, rfl, rfl, dx.2.ok dy.2 (by omega), _, _, rfl, (dx.2.mul dy.2).mono (by omega), Int.mul_ne_zero (q_ne _) (q_ne _), fun r H1 s1 g1 => k r H1 s1 (FQ.cast g1 (q_mul x y))⟩
noncomputable def sp_law_over (K : PySem.W.Frag) : Sp := fun vs H Q _ => ∃ (p_x : Addr) (x : Rat) (n_x : Nat) (p_y : Addr) (y : Rat) (n_y : Nat), vs = [.ref p_x, .ref p_y] ∧ FQ K H p_x x ∧ FB n_x x ∧ FQ K H p_y y ∧ FB n_y y ∧ n_x + n_y ≤ 8950 ∧ y ≠ 0 ∧ (∀ (p_r : Addr) (H1 : Hp), Same H H1 → FQ K H1 p_r (x / y) → Q (.ref p_r) H1)
theorem sc_law_over : FnScope ["_law_one", "_law_other"] ["_law_one", "_law_other"] (defScope (top 49)) := ⟨rfl, rfl, rfl, by decide +kernel, rfl, by decide +kernel, by decide +kernel⟩
theorem ok_law_over (D : Df K mg "_law_over" (top 49) ["_law_one", "_law_other"]) (T : Tx K mg CK C) (F_law_fit : Fn P w K mg base 1 "_law_fit" ["_law_top", "_law_bottom"] (sp_law_fit K)) : Fn P w K mg base 2 "_law_over" ["_law_one", "_law_other"] (sp_law_over K) := by
  refine D.ok0 sc_law_over (fun vs H Q E h => ?_) (fun f cdv A outer s H vs Q E hr h => ?_)
  · obtain ⟨p, x, n, q, y, m, rfl, _⟩ := h
    rfl
  obtain ⟨p, x, n, q, y, m, rfl, hp, dx, hq, dy, hn, y0, k⟩ := h
  refine ⟨_, (pss_one (ps_ret (pe_fn F_law_fit (by decide) hr (by rfl) passE0 (pa_cons (pe_op op_mulB (pe_ix ix_tup (pv 0) pe_int (fun _ _ => rfl)) (pe_ix ix_tup (pv 1) pe_int (fun _ _ => rfl))) (pa_cons (pe_op op_mulB (pe_ix ix_tup (pv 0) pe_int (fun _ _ => rfl)) (pe_ix ix_tup (pv 1) pe_int (fun _ _ => rfl))) pa_nil))))), ?_⟩
  refine ⟨_, rfl, p, _, _, _, rfl, rfl, hp, rfl, _, rfl, q, _, _, _, rfl, rfl, hq, rfl, _, _, rfl, rfl, dx.1.ok dy.2 (by omega), _, rfl, p, _, _, _, rfl, rfl, hp, rfl, _, rfl, q, _, _, _, rfl, rfl, hq, rfl, _, _, rfl, rfl, dx.2.ok dy.1 (by omega), _, _, rfl, (dx.2.mul dy.1).mono (by omega), Int.mul_ne_zero (q_ne _) (q_num_ne y0), fun r H1 s1 g1 => k r H1 s1 (FQ.cast g1 (q_div x y))⟩
noncomputable def sp_law_less (K : PySem.W.Frag) : Sp := fun vs H Q _ => ∃ (p_x : Addr) (x : Rat) (p_y : Addr) (y : Rat), vs = [.ref p_x, .ref p_y] ∧ FQ K H p_x x ∧ FB 60000 x ∧ FQ K H p_y y ∧ FB 60000 y ∧ (∀  (H1 : Hp), Same H H1 → Q (.bl (decide (x < y))) H1)
theorem sc_law_less : FnScope ["_law_one", "_law_other"] ["_law_one", "_law_other"] (defScope (top 50)) := ⟨rfl, rfl, rfl, by decide +kernel, rfl, by decide +kernel, by decide +kernel⟩
theorem ok_law_less (D : Df K mg "_law_less" (top 50) ["_law_one", "_law_other"]) (T : Tx K mg CK C) : Fn P w K mg base 1 "_law_less" ["_law_one", "_law_other"] (sp_law_less K) := by
  refine D.ok0 sc_law_less (fun vs H Q E h => ?_) (fun f cdv A outer s H vs Q E hr h => ?_)
  · obtain ⟨p_x, x, p_y, y, rfl, _⟩ := h
    rfl
  obtain ⟨p_x, x, p_y, y, rfl, g_x, d_x, g_y, d_y, k0⟩ := h
  refine ⟨_, (pss_one (ps_ret (pe_cmpR op_lt (pe_op op_mulB (pe_ix ix_tup (pv 0) pe_int (fun _ _ => rfl)) (pe_ix ix_tup (pv 1) pe_int (fun _ _ => rfl))) (pe_op op_mulB (pe_ix ix_tup (pv 1) pe_int (fun _ _ => rfl)) (pe_ix ix_tup (pv 0) pe_int (fun _ _ => rfl))) (nomark _)))), ?_⟩
  refine ⟨_, rfl, p_x, _, _, _, rfl, rfl, g_x, rfl, _, rfl, p_y, _, _, _, rfl, rfl, g_y, rfl, _, _, rfl, rfl, (d_x.1.ok d_y.2 (by decide)), _, rfl, p_y, _, _, _, rfl, rfl, g_y, rfl, _, rfl, p_x, _, _, _, rfl, rfl, g_x, rfl, _, _, rfl, rfl, (d_y.1.ok d_x.2 (by decide)), _, _, rfl, rfl, ?_⟩
  try dsimp only
  rw [show decide (((x).num * (((y).den : Nat) : Int)) < ((y).num * (((x).den : Nat) : Int))) = decide (x < y) from decide_eq_decide.mpr (by exact (q_lt x y).symm)]
  exact k0 _ (Same.refl _)
noncomputable def sp_law_small (K : PySem.W.Frag) : Sp := fun vs H Q _ => ∃ (bx : Addr) (n_bx : Int), vs = [.ref bx] ∧ H bx = some (.lst [.int n_bx]) ∧ (∀ (p_r : Addr) (r : Rat) (H1 : Hp) (n1 : Int), But bx H H1 → H1 bx = some (.lst [.int n1]) → FQ K H1 p_r (r) → FB 70 r → Six 72 r → Q (.ref p_r) H1)
theorem sc_law_small : FnScope ["_law_box_here"] ["_law_box_here"] (defScope (top 51)) := ⟨rfl, rfl, rfl, by decide +kernel, rfl, by decide +kernel, by decide +kernel⟩
theorem ok_law_small (D : Df K mg "_law_small" (top 51) ["_law_box_here"]) (T : Tx K mg CK C) (F_law_take : Fn P w K mg base 1 "_law_take" ["_law_box_here", "_law_many"] spTake) (F_law_fit : Fn P w K mg base 1 "_law_fit" ["_law_top", "_law_bottom"] (sp_law_fit K)) : Fn P w K mg base 2 "_law_small" ["_law_box_here"] (sp_law_small K) := by
  refine D.ok0 sc_law_small (fun vs H Q E h => ?_) (fun f cdv A outer s H vs Q E hr h => ?_)
  · obtain ⟨bx, n_bx, rfl, _⟩ := h
    rfl
  obtain ⟨bx, n_bx, rfl, hb_bx, k0⟩ := h
  refine ⟨_, (pss_one (ps_ret (pe_fn F_law_fit (by decide) hr (by rfl) passE0 (pa_cons (pe_op op_sub (pe_fn F_law_take (by decide) hr (by rfl) passE0 (pa_cons (pv 0) (pa_cons pe_int pa_nil))) pe_int) (pa_cons (pe_ix ix_list (pe_lst (pa_cons pe_int (pa_cons pe_int (pa_cons pe_int (pa_cons pe_int pa_nil))))) (pe_fn F_law_take (by decide) hr (by rfl) passE0 (pa_cons (pv 0) (pa_cons pe_int pa_nil))) (fun _ _ => rfl)) pa_nil))))), ?_⟩
  refine ⟨_, rfl, _, _, _, rfl, hb_bx, (by decide +kernel), ((Bd.small (i := (25 : Int)) (by decide) (by decide)).mono (by decide)), fun d19 n19 H19 lo19 hi19 s19 hb19 => ?_⟩
  refine ⟨_, _, rfl, rfl, by show 4 ≤ sizeLine; decide, ?_⟩
  intro p20 n20
  obtain ⟨H20, q20, s20, e20⟩ := newO n20 (.lst [.int ((1 : Int)), .int ((1 : Int)), .int ((2 : Int)), .int ((3 : Int))])
  rw [q20]
  clear q20
  have hB21 := s20 _ _ hb19
  have h20 := SqL.of (K := K) e20
  have ap20 : p20 ≠ bx := fun z => by rw [z, hb19] at n20; cases n20
  refine ⟨_, rfl, _, _, _, rfl, hB21, (by decide +kernel), ((Bd.small (i := (4 : Int)) (by decide) (by decide)).mono (by decide)), fun d22 n22 H22 lo22 hi22 s22 hb22 => ?_⟩
  obtain ⟨v23, ev23, m24⟩ := atI_mem ([(1 : Int), (1 : Int), (2 : Int), (3 : Int)] : List Int) d22 (by omega) (by show _ < (4 : Int); omega)
  have bv23 : 1 ≤ v23 ∧ v23 ≤ 3 := (show ∀ z ∈ ([(1 : Int), (1 : Int), (2 : Int), (3 : Int)] : List Int), 1 ≤ z ∧ z ≤ 3 by decide +kernel) v23 m24
  replace h20 := (But.seq s22 ap20 h20)
  refine ⟨p20, _, _, _, rfl, rfl, h20, ev23, _, _, rfl, ((Bd.small (i := v23) (by omega) (by omega)).mono (by decide)), (by omega), fun p_r25 H25 s25 g_r25 => ?_⟩
  have hB26 := s25 _ _ hb22
  have d_r25 : FB 65 (Rat.divInt ((d19 - (12 : Int))) v23) := (FB.mono (FB.fit (by omega) ((Bd.sub ((Bd.small (i := d19) (by omega) (by omega)).mono (n := 64) (by decide)) ((Bd.small (i := (12 : Int)) (by decide) (by decide)).mono (n := 64) (by decide))).mono (n := 65) (by decide)) ((Bd.small (i := v23) (by omega) (by omega)).mono (n := 65) (by decide))) (by decide))
  exact k0 _ _ _ _ (s19.trans ((But.of s20).trans (s22.trans (But.of s25)))) hB26 g_r25 (FB.mono d_r25 (by decide)) (by exact (six_fit (N := 12) (by omega) (by omega) (by omega) (by omega)).mono (by decide))
noncomputable def sp_law_led_together (K : PySem.W.Frag) : Sp := fun vs H Q _ => ∃ (b : Addr) (n : Int) (f : Addr) (xs : List V) (bs : List Bod) (W : Int), vs = [.ref b, .ref f] ∧ H b = some (.lst [.int n]) ∧ f ≠ b ∧ H f = some (.lst xs) ∧ Al2 (BdQ K H 64) xs bs ∧ 1 ≤ bs.length ∧ bs.length ≤ 12 ∧ Asc bs ∧ (∀ a ∈ bs, a.2.2 ≤ W) ∧ (∀ a ∈ bs, Six 720 a.1) ∧ (∀ a ∈ bs, Frn 72 100000 a.2.1) ∧ (∀ a ∈ bs, 0 < a.1) ∧
  ∀ (f1 : Addr) (xs1 : List V) (bs1 : List Bod) (n1 : Int) (H1 : Hp), But b H H1 → H f1 = none → f1 ≠ b → H1 b = some (.lst [.int n1]) → H1 f1 = some (.lst xs1) → Al2 (BdQ K H1 64) xs1 bs1 → bs1.length = bs.length → Asc bs1 → (∀ a ∈ bs1, a.2.2 ≤ W) → (∀ a ∈ bs1, Six 720 a.1) → (∀ a ∈ bs1, Frn 72 100000 a.2.1) → (∀ a ∈ bs1, 0 < a.1) → Q (.ref f1) H1
theorem sc_law_led_together : FnScope ["_law_box_here", "_law_world_here", "_law_many", "_law_moment", "_law_meet", "_law_found", "_law_number", "_law_body", "_law_way"] ["_law_box_here", "_law_world_here"] (defScope (top 53)) := ⟨rfl, rfl, rfl, by decide +kernel, rfl, by decide +kernel, by decide +kernel⟩
theorem ok_law_led_together (D : Df K mg "_law_led_together" (top 53) ["_law_box_here", "_law_world_here"]) (T : Tx K mg CK C) (F_law_take : Fn P w K mg base 1 "_law_take" ["_law_box_here", "_law_many"] spTake) (F_law_fit : Fn P w K mg base 1 "_law_fit" ["_law_top", "_law_bottom"] (sp_law_fit K)) (F_law_minus : Fn P w K mg base 2 "_law_minus" ["_law_one", "_law_other"] (sp_law_minus K)) (F_law_over : Fn P w K mg base 2 "_law_over" ["_law_one", "_law_other"] (sp_law_over K)) : Fn P w K mg base 3 "_law_led_together" ["_law_box_here", "_law_world_here"] (sp_law_led_together K) := by
  refine D.ok0 sc_law_led_together (fun vs H Q E h => ?_) (fun f cdv A outer s H vs Q E hr h => ?_)
  · obtain ⟨b, n, f, xs, bs, W, rfl, _⟩ := h
    rfl
  obtain ⟨b, n, f, xs, bs, W, rfl, hb, nfb, hf, al, l1, l12, asc, hw, six, s72, ps, k⟩ := h
  refine ⟨_, (pss_cons (ps_set (i := 2) sc_law_led_together.nd rfl (Or.inl rfl) (pe_op op_add pe_int (pe_fn F_law_take (by decide) hr (by rfl) passE0 (pa_cons (pv 0) (pa_cons pe_int pa_nil)))))
      (pss_cons (ps_set (i := 3) sc_law_led_together.nd rfl (Or.inl rfl) (pe_fn F_law_fit (by decide) hr (by rfl) passE0 (pa_cons (pe_op op_add pe_int (pe_fn F_law_take (by decide) hr (by rfl) passE0 (pa_cons (pv 0) (pa_cons pe_int pa_nil)))) (pa_cons (pe_op op_add pe_int (pe_fn F_law_take (by decide) hr (by rfl) passE0 (pa_cons (pv 0) (pa_cons pe_int pa_nil)))) pa_nil))))
      (pss_cons (ps_set (i := 4) sc_law_led_together.nd rfl (Or.inl rfl) (pe_tup (pa_cons (pe_fn F_law_take (by decide) hr (by rfl) passE0 (pa_cons (pv 0) (pa_cons pe_int pa_nil))) (pa_cons pe_int pa_nil))))
      (pss_cons (ps_set (i := 5) sc_law_led_together.nd rfl (Or.inl rfl) (pe_lst pa_nil))
      (pss_cons (ps_for PassesOwn.never rfl (pi_enum (by rfl) T.b_enumerate (pa_cons (pv 1) pa_nil)) (pg_tup rfl (pgs_cons (pg_name (i := 6) sc_law_led_together.nd rfl (Or.inl rfl)) (pgs_cons (pg_name (i := 7) sc_law_led_together.nd rfl (Or.inl rfl)) pgs_nil))) (pss_cons (ps_if (pt_cmpR op_lt (pv 6) (pv 2) (nomark _)) (pss_cons (ps_set (i := 8) sc_law_led_together.nd rfl (Or.inl rfl) (pe_fn F_law_minus (by decide) hr (by rfl) passE0 (pa_cons (pv 4) (pa_cons (pe_ix ix_tup (pv 7) pe_int (fun _ _ => rfl)) pa_nil))))
      (pss_one (ps_set (i := 7) sc_law_led_together.nd rfl (Or.inl rfl) (pe_tup (pa_cons (pe_ix ix_tup (pv 7) pe_int (fun _ _ => rfl)) (pa_cons (pe_fn F_law_over (by decide) hr (by rfl) passE0 (pa_cons (pv 8) (pa_cons (pv 3) pa_nil))) (pa_cons (pe_ix ix_tup (pv 7) pe_int (fun _ _ => rfl)) pa_nil))))))) pss_nil)
      (pss_one (ps_expr (pe_bm PySem.F.plainAttrs_list PySem.F.slot_list_append PySem.F.type_list_append mt_append (pv 5) (pa_cons (pv 7) pa_nil))))))
      (pss_one (ps_ret (pv 5)))))))), ?_⟩
  have sm9 : ∀ i : Int, -(2 ^ 64) < i → i < 2 ^ 64 → Bd 9000 i := fun i h1 h2 => (Bd.small h1 h2).mono (by decide)
  have hz := Al2.len al
  refine ⟨_, rfl, b, 2, _, rfl, hb, by decide, sm9 _ (by decide) (by decide), fun d2 n2 H2 lo2 hi2 s2 hb2 => ?_⟩
  refine ⟨_, _, rfl, rfl, ?_⟩
  refine ⟨_, rfl, b, 4, _, rfl, hb2, by decide, sm9 _ (by decide) (by decide), fun d3 n3 H3 lo3 hi3 s3 hb3 => ?_⟩
  refine ⟨_, _, rfl, rfl, _, rfl, b, 3, _, rfl, hb3, by decide, sm9 _ (by decide) (by decide), fun d4 n4 H4 lo4 hi4 s4 hb4 => ?_⟩
  refine ⟨_, _, rfl, rfl, _, _, rfl, sm9 _ (by omega) (by omega), by omega, fun pm H5 s5 gm => ?_⟩
  have dm : FB 64 (Rat.divInt (1 + d3) (1 + d4)) := FB.fit (by omega) (Bd.small (by omega) (by omega)) (Bd.small (by omega) (by omega))
  have mpos : (0 : Rat) < Rat.divInt (1 + d3) (1 + d4) := q_divpos (by omega) (by omega)
  have hb5 := s5 _ _ hb4
  have s05 := s2.trans (s3.trans (s4.trans (But.of s5)))
  refine ⟨_, rfl, b, 3, _, rfl, hb5, by decide, sm9 _ (by decide) (by decide), fun d6 n6 H6 lo6 hi6 s6 hb6 => ?_⟩
  refine ⟨by show 2 ≤ sizeLine; decide, ?_⟩
  intro p7 n7
  obtain ⟨H7, q7, s7, e7⟩ := newO n7 (.tup [.int d6, .int 1])
  rw [q7]
  clear q7
  have ge0 : FQ K H7 p7 ((d6 : Int) : Rat) := FQ.ofInt (SqT.of e7)
  have sixm : Six 792 ((d6 : Int) : Rat) := ⟨6 * d6, by rw [Rat.intCast_mul]; show (d6 : Rat) = 6 * (d6 : Rat) / 6; grind, by omega, by omega⟩
  have de : FB 64 ((d6 : Int) : Rat) := sixm.fb (by decide)
  obtain ⟨pe, epe⟩ : ∃ pe, pe = p7 := ⟨_, rfl⟩
  have ge : FQ K H7 pe ((d6 : Int) : Rat) := by rw [epe]; exact ge0
  rw [← epe]
  generalize ((d6 : Int) : Rat) = meet at ge de sixm
  have ovr : ∀ x : Rat, Six 1512 x → FB 64 (x / Rat.divInt (1 + d3) (1 + d4)) := fun x h => six_over h (by decide) (by omega) (by omega) (by omega) (by omega)
  have ovs : ∀ x : Rat, Six 1512 x → Frn 72 100000 (x / Rat.divInt (1 + d3) (1 + d4)) := fun x h => (six_by h (by omega) (by omega) (by omega) (by omega) (by decide)).mono (by decide)
  generalize Rat.divInt (1 + d3) (1 + d4) = tm at gm dm mpos ovr ovs
  refine ⟨by show 0 ≤ sizeLine; decide, ?_⟩
  intro p8 n8
  obtain ⟨H8, q8, s8, e8⟩ := newO n8 (.lst [])
  rw [q8]
  clear q8
  have hb7 := s7 _ _ hb6
  have s07 := s05.trans (s6.trans (But.of s7))
  have nf0 : H p8 = none := by
    by_cases z : p8 = b
    · rw [z, hb7] at n8; cases n8
    · exact none_of_but s07 n8 z
  have nfb8 : p8 ≠ b := fun z => by rw [z, hb7] at n8; cases n8
  have s08 := s07.trans (But.of s8)
  have hf8 := s08 _ _ nfb hf
  have nf8 : f ≠ p8 := ne_of_none hf nf0
  have gm8 := Kw.Same.tup s8 (Kw.Same.tup s7 (s6.tup hb5 gm))
  have ge8 := Kw.Same.tup s8 ge
  have al8 := bds_but al s08 hb
  have hb8 := s8 _ _ hb7
  refine ⟨_, rfl, f, xs, rfl, SqL.of hf8, for_enum (K := K) (a := f) (xs := xs) (fun i σ1 H' => ∃ (u7 u8 u9 : Option V) (ys : List V) (cs : List Bod), σ1 = [some (.ref b), some (.ref f), some (.int (2 + d2)), some (.ref pm), some (.ref pe), some (.ref p8), u7, u8, u9] ∧ But p8 H8 H' ∧ H' p8 = some (.lst ys) ∧ Al2 (BdQ K H' 64) ys cs ∧ cs.map (·.1) = (bs.take i).map (·.1) ∧ cs.map (·.2.2) = (bs.take i).map (·.2.2) ∧ ∀ c ∈ cs, Frn 72 100000 c.2.1) ⟨_, _, _, [], [], rfl, But.refl _, e8, trivial, rfl, rfl, fun _ z => (nomatch z)⟩ (fun _ _ _ ⟨_, _, _, _, _, _, g, _⟩ => SqL.of (g _ _ nf8 hf8)) ?_ ?_⟩
  · rintro i x σ1 H9 hx ⟨u7, u8, u9, ys, cs, rfl, s9, hl9, ac9, pc9, wc9, sc9⟩ pp H10 s10 npp epp
    obtain ⟨bd, hbd, p, pa, pc, rfl, x1, x2, x3, x4, x5, x6, x7⟩ := Al2.get (bds_same (bds_but al8 s9 e8) s10) hx
    have hi : i < xs.length := (List.getElem?_eq_some_iff.mp hx).1
    have ly : ys.length < sizeLine := by
      have q1 := Al2.len ac9
      have q2 := congrArg List.length pc9
      simp at q2
      exact Nat.lt_of_le_of_lt (show ys.length ≤ 12 by omega) (by decide)
    have tk := take_snoc hbd
    have ext : ∀ (v : Rat) (cb : Bod), cb = (bd.1, v, bd.2.2) → (cs ++ [cb]).map (·.1) = (bs.take (i + 1)).map (·.1) ∧ (cs ++ [cb]).map (·.2.2) = (bs.take (i + 1)).map (·.2.2) := fun v cb e => by
      subst e
      rw [tk, List.map_append, List.map_append, List.map_append, List.map_append, pc9, wc9]
      exact ⟨rfl, rfl⟩
    refine ⟨pp, _, rfl, SqT.of epp, rfl, _, _, rfl, _, _, rfl, rfl, ?_⟩
    refine ⟨_, rfl, _, rfl, _, _, rfl, rfl, _, rfl, ?_⟩
    refine if_dec (fun c2 => ?_) (fun c2 => ?_)
    · skip
      have gm10 := Kw.Same.tup s10 (s9.tup e8 gm8)
      have ge10 := Kw.Same.tup s10 (s9.tup e8 ge8)
      refine ⟨_, rfl, _, rfl, p, _, _, _, rfl, rfl, x1, rfl, _, _, 64, _, _, 64, rfl, ge10, de, x2, x4, by decide, fun pw H11 s11 gw => ?_⟩
      have sixw : Six 1512 (meet - bd.1) := (sixm.sub (six bd (List.mem_of_getElem? hbd))).mono (by decide)
      have dw : FB 64 (meet - bd.1) := sixw.fb (by decide)
      have x1' := Kw.Same.tup s11 x1
      refine ⟨_, rfl, p, _, _, _, rfl, rfl, x1', rfl, _, rfl, _, rfl, _, _, 64, _, _, 64, rfl, gw, dw, Kw.Same.tup s11 gm10, dm, by decide, by grind, fun pv H12 s12 gv => ?_⟩
      have dv : FB 64 ((meet - bd.1) / tm) := ovr _ sixw
      have s1012 := s11.trans s12
      refine ⟨_, rfl, p, _, _, _, rfl, rfl, Kw.Same.tup s12 x1', rfl, by show 3 ≤ sizeLine; decide, ?_⟩
      intro p13 n13
      obtain ⟨H13, q13, s13, e13⟩ := newO n13 (.tup [.ref pa, .ref pv, .int bd.2.2])
      rw [q13]
      clear q13
      have s1013 := s1012.trans s13
      have s913 := s10.trans s1013
      have hl13 := s913 _ _ hl9
      have one : BdQ K H13 64 (.ref p13) (bd.1, (meet - bd.1) / tm, bd.2.2) := ⟨p13, pa, pv, rfl, SqT.of e13, Kw.Same.tup s1013 x2, Kw.Same.tup s13 gv, x4, dv, x6, x7⟩
      refine ⟨_, rfl, .inl ⟨rfl, _, SqL.of hl13⟩, _, rfl, p8, _, _, rfl, rfl, hl13, ly, ?_⟩
      obtain ⟨H14, q14, s14, e14⟩ := newB (H := H13) (p := p8) (.lst (ys ++ [.ref p13]))
      dsimp only
      rw [q14]
      clear q14
      exact ⟨_, _, _, ys ++ [.ref p13], cs ++ [_], rfl, s9.trans ((But.of s913).trans s14), e14, bds_but (Al2.snoc (bds_same ac9 s913) one) s14 hl13, (ext ((meet - bd.1) / tm) _ rfl).1, (ext ((meet - bd.1) / tm) _ rfl).2, all_snoc sc9 (ovs _ sixw)⟩
    · skip
      have hl10 := s10 _ _ hl9
      have one : BdQ K H10 64 (.ref p) bd := ⟨p, pa, pc, rfl, x1, x2, x3, x4, x5, x6, x7⟩
      refine ⟨_, rfl, .inl ⟨rfl, _, SqL.of hl10⟩, _, rfl, p8, _, _, rfl, rfl, hl10, ly, ?_⟩
      obtain ⟨H14, q14, s14, e14⟩ := newB (H := H10) (p := p8) (.lst (ys ++ [.ref p]))
      dsimp only
      rw [q14]
      clear q14
      exact ⟨_, _, _, ys ++ [.ref p], cs ++ [bd], rfl, s9.trans ((But.of s10).trans s14), e14, bds_but (Al2.snoc (bds_same ac9 s10) one) s14 hl10, (ext bd.2.1 bd rfl).1, (ext bd.2.1 bd rfl).2, all_snoc sc9 (s72 bd (List.mem_of_getElem? hbd))⟩
  · rintro σ1 H9 ⟨u7, u8, u9, ys, cs, rfl, s9, hl9, ac9, pc9, wc9, sc9⟩
    rw [hz, List.take_length] at pc9 wc9
    have lc := congrArg List.length pc9
    simp at lc
    refine ⟨_, rfl, k p8 ys cs n6 H9 ?_ nf0 nfb8 (s9 _ _ (Ne.symm nfb8) hb8) hl9 ac9 lc (asc.of_places pc9) (fun a ha => ?_) (fun a ha => ?_) sc9 fun a ha => ?_⟩
    · intro a o na ho
      exact s9 a o (ne_of_none ho nf0) (s08 a o na ho)
    · have z : a.2.2 ∈ cs.map (·.2.2) := List.mem_map_of_mem ha
      rw [wc9] at z
      obtain ⟨a', ha', e'⟩ := List.mem_map.mp z
      rw [← e']
      exact hw a' ha'
    · have z : a.1 ∈ cs.map (·.1) := List.mem_map_of_mem ha
      rw [pc9] at z
      obtain ⟨a', ha', e'⟩ := List.mem_map.mp z
      rw [← e']
      exact six a' ha'
    · have z : a.1 ∈ cs.map (·.1) := List.mem_map_of_mem ha
      rw [pc9] at z
      obtain ⟨a', ha', e'⟩ := List.mem_map.mp z
      rw [← e']
      exact ps a' ha'
noncomputable def sp_law_right_of (K : PySem.W.Frag) : Sp := fun vs H Q _ => ∃ (b : Addr) (n mo : Int), vs = [.ref b, .int mo] ∧ H b = some (.lst [.int n]) ∧ 1 ≤ mo ∧ mo ≤ 12 ∧ ∀ (f : Addr) (xs : List V) (bs : List Bod) (n1 : Int) (H1 : Hp), But b H H1 → H f = none → f ≠ b → H1 b = some (.lst [.int n1]) → H1 f = some (.lst xs) → Al2 (BdQ K H1 64) xs bs → 1 ≤ bs.length → (bs.length : Int) ≤ mo → Asc bs → (∀ a ∈ bs, a.2.2 ≤ 1000) → (∀ a ∈ bs, Six 720 a.1) → (∀ a ∈ bs, Frn 72 100000 a.2.1) → (∀ a ∈ bs, 0 < a.1) → Q (.ref f) H1
theorem sc_law_right_of : FnScope ["_law_box_here", "_law_most", "_law_place", "_law_found", "_law_k", "_law_weight"] ["_law_box_here", "_law_most"] (defScope (top 52)) := ⟨rfl, rfl, rfl, by decide +kernel, rfl, by decide +kernel, by decide +kernel⟩
theorem ok_law_right_of (D : Df K mg "_law_right_of" (top 52) ["_law_box_here", "_law_most"]) (T : Tx K mg CK C) (F_law_take : Fn P w K mg base 1 "_law_take" ["_law_box_here", "_law_many"] spTake) (F_law_small : Fn P w K mg base 2 "_law_small" ["_law_box_here"] (sp_law_small K)) (F_law_fit : Fn P w K mg base 1 "_law_fit" ["_law_top", "_law_bottom"] (sp_law_fit K)) (F_law_plus : Fn P w K mg base 2 "_law_plus" ["_law_one", "_law_other"] (sp_law_plus K)) (F_law_led_together : Fn P w K mg base 3 "_law_led_together" ["_law_box_here", "_law_world_here"] (sp_law_led_together K)) : Fn P w K mg base 4 "_law_right_of" ["_law_box_here", "_law_most"] (sp_law_right_of K) := by
  refine D.ok0 sc_law_right_of (fun vs H Q E h => ?_) (fun f cdv A outer s H vs Q E hr h => ?_)
  · obtain ⟨bx, n, mo, rfl, _⟩ := h
    rfl
  obtain ⟨bx, n, mo, rfl, hb_bx, mo1, mo12, k⟩ := h
  refine ⟨_, (pss_cons (ps_set (i := 2) sc_law_right_of.nd rfl (Or.inl rfl) (pe_tup (pa_cons pe_int (pa_cons pe_int pa_nil))))
      (pss_cons (ps_set (i := 3) sc_law_right_of.nd rfl (Or.inl rfl) (pe_lst pa_nil))
      (pss_cons (ps_for PassesOwn.never rfl (pi_range1 (by rfl) T.b_range (pa_cons (pe_op op_add pe_int (pe_fn F_law_take (by decide) hr (by rfl) passE0 (pa_cons (pv 0) (pa_cons (pv 1) pa_nil)))) pa_nil)) (pg_name (i := 4) sc_law_right_of.nd rfl (Or.inl rfl)) (pss_cons (ps_set (i := 2) sc_law_right_of.nd rfl (Or.inl rfl) (pe_fn F_law_plus (by decide) hr (by rfl) passE0 (pa_cons (pv 2) (pa_cons (pe_fn F_law_fit (by decide) hr (by rfl) passE0 (pa_cons (pe_op op_add pe_int (pe_fn F_law_take (by decide) hr (by rfl) passE0 (pa_cons (pv 0) (pa_cons pe_int pa_nil)))) (pa_cons (pe_op op_add pe_int (pe_fn F_law_take (by decide) hr (by rfl) passE0 (pa_cons (pv 0) (pa_cons pe_int pa_nil)))) pa_nil))) pa_nil))))
      (pss_cons (ps_set (i := 5) sc_law_right_of.nd rfl (Or.inl rfl) (pe_op op_add pe_int (pe_fn F_law_take (by decide) hr (by rfl) passE0 (pa_cons (pv 0) (pa_cons (pe_ix ix_list (pe_lst (pa_cons pe_int (pa_cons pe_int (pa_cons pe_int (pa_cons pe_int pa_nil))))) (pe_fn F_law_take (by decide) hr (by rfl) passE0 (pa_cons (pv 0) (pa_cons pe_int pa_nil))) (fun _ _ => rfl)) pa_nil)))))
      (pss_one (ps_expr (pe_bm PySem.F.plainAttrs_list PySem.F.slot_list_append PySem.F.type_list_append mt_append (pv 3) (pa_cons (pe_tup (pa_cons (pv 2) (pa_cons (pe_fn F_law_small (by decide) hr (by rfl) passE0 (pa_cons (pv 0) pa_nil)) (pa_cons (pv 5) pa_nil)))) pa_nil)))))))
      (pss_cons (ps_if (pt_cmpR op_eq (pe_fn F_law_take (by decide) hr (by rfl) passE0 (pa_cons (pv 0) (pa_cons pe_int pa_nil))) pe_int (nomark _)) (pss_one (ps_set (i := 3) sc_law_right_of.nd rfl (Or.inl rfl) (pe_fn F_law_led_together (by decide) hr (by rfl) passE0 (pa_cons (pv 0) (pa_cons (pv 3) pa_nil))))) pss_nil)
      (pss_one (ps_ret (pv 3))))))), ?_⟩
  have sm9 : ∀ i : Int, -(2 ^ 64) < i → i < 2 ^ 64 → Bd 9000 i := fun i h1 h2 => (Bd.small h1 h2).mono (by decide)
  refine ⟨by show 2 ≤ sizeLine; decide, ?_⟩
  intro p2 n2
  obtain ⟨H2, q2, s2, e2⟩ := newO n2 (.tup [.int 0, .int 1])
  rw [q2]
  clear q2
  have g2 : FQ K H2 p2 ((0 : Int) : Rat) := FQ.ofInt (SqT.of e2)
  have six2 : Six 0 ((0 : Int) : Rat) := ⟨0, by show (0 : Rat) = 0 / 6; grind, by omega, by omega⟩
  refine ⟨by show 0 ≤ sizeLine; decide, ?_⟩
  intro p15 n15
  obtain ⟨H15, q15, s15, e15⟩ := newO n15 (.lst [])
  rw [q15]
  clear q15
  have hb15 := s15 _ _ (s2 _ _ hb_bx)
  have ap15 : p15 ≠ bx := Ne.symm (ne_of_none (s2 _ _ hb_bx) n15)
  have B15 : But bx H H15 := But.of (s2.trans s15)
  have nf0 : H p15 = none := none_of_but (But.of s2) n15 ap15
  refine ⟨_, rfl, _, rfl, bx, mo, _, rfl, hb15, by omega, sm9 _ (by omega) (by omega), fun d4 n4 H4 lo4 hi4 s4 hb4 => ?_⟩
  have B4 : But bx H H4 := B15.trans s4
  have e4 := s4 _ _ ap15 e15
  refine ⟨_, _, rfl, rfl, _, rfl, by omega, by omega, for_range (n := (1 + d4).toNat) (fun i σ1 H' => ∃ (pp : Addr) (x : Rat) (rk rw : Option V) (xs : List V) (bs : List Bod) (nb : Int), σ1 = [some (.ref bx), some (.int mo), some (.ref pp), some (.ref p15), rk, rw] ∧ But bx H H' ∧ H' bx = some (.lst [.int nb]) ∧ H' p15 = some (.lst xs) ∧ Al2 (BdQ K H' 64) xs bs ∧ FQ K H' pp x ∧ Six (54 * (i : Int)) x ∧ bs.length = i ∧ Asc bs ∧ (∀ a ∈ bs, a.1 ≤ x) ∧ 0 ≤ x ∧ (∀ a ∈ bs, a.2.2 ≤ 1000) ∧ (∀ a ∈ bs, Six 720 a.1) ∧ (∀ a ∈ bs, Frn 72 100000 a.2.1) ∧ ∀ a ∈ bs, 0 < a.1)
    ⟨p2, _, _, _, [], [], n4, rfl, B4, hb4, e4, trivial, s4.tup hb15 (Kw.Same.tup s15 g2), six2.mono (by omega), rfl, List.Pairwise.nil, (fun _ z => nomatch z), Rat.le_refl, (fun _ z => nomatch z), (fun _ z => nomatch z), (fun _ z => nomatch z), fun _ z => nomatch z⟩ ?_ ?_⟩
  · rintro i σ1 K4 hi4 ⟨pp, x, rk, rw', xs, bs, nb, rfl, B4, hc4, hF, al, gx, x6, len, asc, pos, x0, hw, six, s72, ps⟩
    have hi12 : i < 12 := by omega
    have lx := Al2.len al
    have dx : FB 64 x := x6.fb (by omega)
    refine ⟨_, rfl, _, rfl, bx, 9, _, rfl, hc4, by decide, sm9 _ (by decide) (by decide), fun d29 n29 H29 lo29 hi29 s29 hb29 => ?_⟩
    refine ⟨_, _, rfl, rfl, _, rfl, bx, 3, _, rfl, hb29, by decide, sm9 _ (by decide) (by decide), fun d30 n30 H30 lo30 hi30 s30 hb30 => ?_⟩
    refine ⟨_, _, rfl, rfl, _, _, rfl, sm9 _ (by omega) (by omega), by omega, fun p31 H31 s31 g31 => ?_⟩
    have sf : Six 54 (Rat.divInt (1 + d29) (1 + d30)) := (six_fit (N := 9) (by omega) (by omega) (by omega) (by omega)).mono (by decide)
    have pf : (0 : Rat) < Rat.divInt (1 + d29) (1 + d30) := q_divpos (by omega) (by omega)
    have t431 : But bx K4 H31 := s29.trans (s30.trans (But.of s31))
    refine ⟨pp, x, 64, p31, _, 64, rfl, t431.tup hc4 gx, dx, g31, sf.fb (by decide), by decide, fun p32 H32 s32 g32 => ?_⟩
    have sx : Six (54 * ((i + 1 : Nat) : Int)) (x + Rat.divInt (1 + d29) (1 + d30)) := (x6.add sf).mono (by omega)
    have lt : x < x + Rat.divInt (1 + d29) (1 + d30) := by grind
    generalize x + Rat.divInt (1 + d29) (1 + d30) = x' at g32 sx lt
    have dx' : FB 64 x' := sx.fb (by omega)
    have hb32 := s32 _ _ (s31 _ _ hb30)
    have t432 : But bx K4 H32 := t431.trans (But.of s32)
    refine ⟨_, rfl, by show 4 ≤ sizeLine; decide, ?_⟩
    intro p21 n21
    obtain ⟨H21, q21, s21, e21⟩ := newO n21 (.lst [.int (3 : Int), .int (3 : Int), .int (5 : Int), .int (1000 : Int)])
    rw [q21]
    clear q21
    have hc21 := s21 _ _ hb32
    have ap21 : p21 ≠ bx := Ne.symm (ne_of_none hb32 n21)
    refine ⟨_, rfl, bx, 4, _, rfl, hc21, by decide, sm9 _ (by decide) (by decide), fun d22 n22 H22 lo22 hi22 s22 hb22 => ?_⟩
    obtain ⟨v22, ev22, mv22⟩ := atI_mem ([(3 : Int), (3 : Int), (5 : Int), (1000 : Int)] : List Int) d22 (by omega) (by show _ < (4 : Int); omega)
    have bv22 : 3 ≤ v22 ∧ v22 ≤ 1000 := (show ∀ z ∈ ([(3 : Int), (3 : Int), (5 : Int), (1000 : Int)] : List Int), 3 ≤ z ∧ z ≤ 1000 by decide +kernel) v22 mv22
    refine ⟨p21, _, _, _, rfl, rfl, SqL.of (s22 _ _ ap21 e21), ev22, bx, v22, _, rfl, hb22, by omega, sm9 _ (by omega) (by omega), fun d23 n23 H23 lo23 hi23 s23 hb23 => ?_⟩
    refine ⟨_, _, rfl, rfl, ?_⟩
    have t3223 : But bx H32 H23 := (But.of s21).trans (s22.trans s23)
    have t423 := t432.trans t3223
    have hF23 := t423 _ _ ap15 hF
    refine ⟨_, rfl, .inl ⟨rfl, _, SqL.of hF23⟩, _, rfl, _, rfl, bx, _, rfl, hb23, fun qs vs H26 n26 t26 hb26 gq dq sq => ?_⟩
    have t426 := t423.trans t26
    have hF26 := t426 _ _ ap15 hF
    refine ⟨_, rfl, by show 3 ≤ sizeLine; decide, ?_⟩
    intro p27 n27
    obtain ⟨H27, q27, s27, e27⟩ := newO n27 (.tup [.ref p32, .ref qs, .int (1 + d23)])
    rw [q27]
    clear q27
    have hF27 := s27 _ _ hF26
    refine ⟨p15, _, _, rfl, rfl, hF27, by rw [lx, len]; exact Nat.lt_of_lt_of_le hi12 (by decide), ?_⟩
    have t427 := t426.trans (But.of s27)
    have al27 := bds_but al t427 hc4
    have gx27 := Kw.Same.tup s27 ((t3223.trans t26).tup hb32 g32)
    have one : BdQ K H27 64 (.ref p27) (x', vs, 1 + d23) := ⟨p27, p32, qs, rfl, SqT.of e27, gx27, Kw.Same.tup s27 gq, dx', sq.fb (by decide), (by show (1 : Int) ≤ 1 + d23; omega), (by show 1 + d23 ≤ (10000 : Int); omega)⟩
    obtain ⟨H28, q28, s28, e28⟩ := newB (H := H27) (p := p15) (.lst (xs ++ [.ref p27]))
    dsimp only
    rw [q28]
    clear q28
    have hc28 := s28 _ _ (Ne.symm ap15) (s27 _ _ hb26)
    have al28 := bds_but (Al2.snoc al27 one) s28 hF27
    have BF : But bx H H28 := fun a o na ho => s28 a o (ne_of_none ho nf0) ((B4.trans t427) a o na ho)
    refine ⟨p32, _, _, _, _, _, n26, rfl, BF, hc28, e28, al28, s28.tup hF27 gx27, sx, by simp [len], asc.snoc (fun a ha => ?_), (fun a ha => ?_), by grind, all_snoc hw (by show 1 + d23 ≤ 1000; omega), all_snoc six (sx.mono (by omega)), all_snoc s72 (sq.frn.mono (by decide)), all_snoc ps (by show (0 : Rat) < x'; grind)⟩
    · have := pos a ha
      show a.1 < x'
      grind
    · rcases List.mem_append.mp ha with z | z
      · have := pos a z
        grind
      · rw [List.mem_singleton.mp z]
        exact Rat.le_refl
  · rintro σ1 K4 ⟨pp, x, rk, rw', xs, bs, nb, rfl, B4, hc4, hF, al, gx, x6, len, asc, pos, x0, hw, six, s72, ps⟩
    refine ⟨_, rfl, bx, 6, _, rfl, hc4, by decide, sm9 _ (by decide) (by decide), fun d5 m5 K5 lo5 hi5 t5 hc5 => ?_⟩
    have hF5 := t5 _ _ ap15 hF
    have al5 := bds_but al t5 hc4
    refine ⟨rfl, _, rfl, ?_⟩
    refine if_decI (fun z => ?_) (fun z => ?_)
    · refine ⟨_, rfl, _, rfl, bx, m5, p15, xs, bs, 1000, rfl, hc5, ap15, hF5, al5, by omega, by omega, asc, hw, six, s72, ps, fun f1 xs1 bs1 n1 H1 s1 nf1 nfb hb1 hf1 al1 ln asc1 hw1 six1 s721 ps1 => ?_⟩
      have nf10 : H f1 = none := none_of_but (B4.trans t5) nf1 nfb
      exact ⟨_, rfl, k f1 xs1 bs1 n1 H1 (B4.trans (t5.trans s1)) nf10 nfb hb1 hf1 al1 (by omega) (by omega) asc1 hw1 six1 s721 ps1⟩
    · exact ⟨_, rfl, k p15 xs bs m5 K5 (B4.trans t5) nf0 ap15 hc5 hF5 al5 (by omega) (by omega) asc hw six s72 ps⟩
theorem com_mir24 {bs : List Bod} (six : ∀ a ∈ bs, Six 720 a.1) (s72 : ∀ a ∈ bs, Frn 72 100000 a.2.1) : Com 30 (mirQ bs ++ bs) := by
  have fr : ∀ q ∈ bs, Frn 72 100000 q.1 ∧ Frn 72 100000 q.2.1 := fun q hq => ⟨((six q hq).frn).mono (by decide), s72 q hq⟩
  refine frn_com fun q hq => ?_
  rcases List.mem_append.mp hq with hq | hq
  · obtain ⟨q', hq', rfl⟩ := List.mem_map.mp hq
    have z := fr q' (List.mem_reverse.mp hq')
    exact ⟨(z.1.neg.up).mono (by decide), (z.2.neg.up).mono (by decide)⟩
  · exact ⟨((fr q hq).1.up).mono (by decide), ((fr q hq).2.up).mono (by decide)⟩
theorem w_mir24 {bs : List Bod} (hw : ∀ q ∈ bs, 1 ≤ q.2.2 ∧ q.2.2 ≤ 10000) : ∀ q ∈ mirQ bs ++ bs, 1 ≤ q.2.2 ∧ q.2.2 ≤ 10000 := fun q hq => by
  rcases List.mem_append.mp hq with hq | hq
  · obtain ⟨q', hq', rfl⟩ := List.mem_map.mp hq
    exact hw q' (List.mem_reverse.mp hq')
  · exact hw q hq
theorem asc_mir24 {bs : List Bod} (asc : Asc bs) (ps : ∀ b ∈ bs, 0 < b.1) : Asc (mirQ bs ++ bs) := by
  refine List.pairwise_append.mpr ⟨?_, asc, fun a ha b hb => ?_⟩
  · unfold mirQ
    rw [List.pairwise_map, List.pairwise_reverse]
    refine List.Pairwise.imp (fun {a b} lt => ?_) asc
    show -b.1 < -a.1
    grind
  · obtain ⟨a', ha', rfl⟩ := List.mem_map.mp ha
    have z1 := ps a' (List.mem_reverse.mp ha')
    have z2 := ps b hb
    show -a'.1 < b.1
    grind
noncomputable def OptL (K : PySem.W.Frag) (H : Hp) (v : V) (o : Option Rat) : Prop := (o = none ∧ v = .non) ∨ ∃ (q : Rat) (p : Addr), o = some q ∧ v = .ref p ∧ FQ K H p q ∧ FB 8950 q
theorem OptL.same {K : PySem.W.Frag} {H H' : Hp} {v : V} {o : Option Rat} (h : OptL K H v o) (s : Same H H') : OptL K H' v o := by
  rcases h with h | ⟨q, p, e, e2, g, d⟩
  · exact .inl h
  · exact .inr ⟨q, p, e, e2, Kw.Same.tup s g, d⟩
theorem wall_jnt {a : Bod} (c : a.2.1 < 0) : jntQ (mir1 a) a = some (a.1 / (-a.2.1)) := by
  unfold jntQ mir1
  dsimp only
  rw [if_neg (by grind)]
  congr 1
  have d1 : (-a.2.1 - a.2.1) ≠ 0 := by grind
  have d2 : (-a.2.1) ≠ 0 := by grind
  have i1 := Rat.mul_inv_cancel _ d1
  have i2 := Rat.mul_inv_cancel _ d2
  rw [Rat.div_def, Rat.div_def]
  have z : ((a.1 - -a.1) * (-a.2.1 - a.2.1)⁻¹ - a.1 * (-a.2.1)⁻¹) * (-a.2.1 - a.2.1) = 0 := by grind
  rcases Rat.mul_eq_zero.mp z with q | q
  · grind
  · exact absurd q d1
noncomputable def sp_law_ahead (K : PySem.W.Frag) : Sp := fun vs H Q _ => ∃ (p : Addr) (xs : List V) (hs : List Bod), vs = [.ref p] ∧ H p = some (.lst xs) ∧ Al2 (BdQ K H 3340) xs hs ∧ (∀ b ∈ hs, FB 1110 b.2.1) ∧ 1 ≤ hs.length ∧ hs.length ≤ 12 ∧ ∀ (v : V) (H1 : Hp), Same H H1 → OptL K H1 v (lstW hs (hs.length - 1)) → Q v H1
theorem sc_law_ahead : FnScope ["_law_bodies", "_law_least", "_law_k", "_law_one", "_law_other", "_law_time"] ["_law_bodies"] (defScope (top 54)) := ⟨rfl, rfl, rfl, by decide +kernel, rfl, by decide +kernel, by decide +kernel⟩
theorem ok_law_ahead (D : Df K mg "_law_ahead" (top 54) ["_law_bodies"]) (T : Tx K mg CK C) (F_law_less : Fn P w K mg base 1 "_law_less" ["_law_one", "_law_other"] (sp_law_less K)) (F_law_minus : Fn P w K mg base 2 "_law_minus" ["_law_one", "_law_other"] (sp_law_minus K)) (F_law_over : Fn P w K mg base 2 "_law_over" ["_law_one", "_law_other"] (sp_law_over K)) : Fn P w K mg base 3 "_law_ahead" ["_law_bodies"] (sp_law_ahead K) := by
  refine D.ok0 sc_law_ahead (fun vs H Q E h => ?_) (fun f cdv A outer s H vs Q E hr h => ?_)
  · obtain ⟨p, xs, hs, rfl, _⟩ := h
    rfl
  obtain ⟨p, xs, hs, rfl, hp, al, sp, l1, l12, k⟩ := h
  refine ⟨_, (pss_cons (ps_set (i := 1) sc_law_ahead.nd rfl (Or.inl rfl) pe_non)
      (pss_cons (ps_if (pt_cmpR op_lt (pe_ix ix_tup (pe_ix ix_tup (pe_ix ix_list (pv 0) pe_int (fun _ _ => rfl)) pe_int (fun _ _ => rfl)) pe_int (fun _ _ => rfl)) pe_int (nomark _)) (pss_one (ps_set (i := 1) sc_law_ahead.nd rfl (Or.inl rfl) (pe_fn F_law_over (by decide) hr (by rfl) passE0 (pa_cons (pe_ix ix_tup (pe_ix ix_list (pv 0) pe_int (fun _ _ => rfl)) pe_int (fun _ _ => rfl)) (pa_cons (pe_tup (pa_cons (pe_op op_sub pe_int (pe_ix ix_tup (pe_ix ix_tup (pe_ix ix_list (pv 0) pe_int (fun _ _ => rfl)) pe_int (fun _ _ => rfl)) pe_int (fun _ _ => rfl))) (pa_cons (pe_ix ix_tup (pe_ix ix_tup (pe_ix ix_list (pv 0) pe_int (fun _ _ => rfl)) pe_int (fun _ _ => rfl)) pe_int (fun _ _ => rfl)) pa_nil))) pa_nil))))) pss_nil)
      (pss_cons (ps_for PassesOwn.never rfl (pi_range1 (by rfl) T.b_range (pa_cons (pe_op op_sub (pe_callB call_len (by rfl) T.b_len PyProof.Rows.Boot.«len» (pa_cons (pv 0) pa_nil)) pe_int) pa_nil)) (pg_name (i := 2) sc_law_ahead.nd rfl (Or.inl rfl)) (pss_cons (ps_par (i := 3) (j := 4) rfl sc_law_ahead.nd rfl rfl (by decide) rfl rfl (pa_cons (pe_ix ix_list (pv 0) (pv 2) (fun _ _ => rfl)) (pa_cons (pe_ix ix_list (pv 0) (pe_op op_add (pv 2) pe_int) (fun _ _ => rfl)) pa_nil)) rfl)
      (pss_one (ps_if (pt_val (pe_fn F_law_less (by decide) hr (by rfl) passE0 (pa_cons (pe_ix ix_tup (pv 4) pe_int (fun _ _ => rfl)) (pa_cons (pe_ix ix_tup (pv 3) pe_int (fun _ _ => rfl)) pa_nil))) (fun _ => rfl)) (pss_cons (ps_set (i := 5) sc_law_ahead.nd rfl (Or.inl rfl) (pe_fn F_law_over (by decide) hr (by rfl) passE0 (pa_cons (pe_fn F_law_minus (by decide) hr (by rfl) passE0 (pa_cons (pe_ix ix_tup (pv 4) pe_int (fun _ _ => rfl)) (pa_cons (pe_ix ix_tup (pv 3) pe_int (fun _ _ => rfl)) pa_nil))) (pa_cons (pe_fn F_law_minus (by decide) hr (by rfl) passE0 (pa_cons (pe_ix ix_tup (pv 3) pe_int (fun _ _ => rfl)) (pa_cons (pe_ix ix_tup (pv 4) pe_int (fun _ _ => rfl)) pa_nil))) pa_nil))))
      (pss_one (ps_if (pw_or (pt_cmpR op_isN (pv 1) pe_non (nomark _)) (pw_or1 (pt_val (pe_fn F_law_less (by decide) hr (by rfl) passE0 (pa_cons (pv 5) (pa_cons (pv 1) pa_nil))) (fun _ => rfl)))).pt (pss_one (ps_set (i := 1) sc_law_ahead.nd rfl (Or.inl rfl) (pv 5))) pss_nil))) pss_nil))))
      (pss_one (ps_ret (pv 1)))))), ?_⟩
  have hz := Al2.len al
  refine g_go ?_
  dsimp only
  refine cut1 (fun σ' H' => ∃ (v : V) (u2 u3 u4 u5 : Option V), σ' = [some (.ref p), some v, u2, u3, u4, u5] ∧ Same H H' ∧ OptL K H' v (wallJ hs)) (fun NN hN => ?_) ?_
  · obtain ⟨x0, h0⟩ : ∃ x, xs[0]? = some x := ⟨_, List.getElem?_eq_getElem (by omega)⟩
    obtain ⟨a, ha, pa, aa, ac, rfl, a1, a2, a3, a4, a5, _⟩ := Al2.get al h0
    have va := sp a (List.mem_of_getElem? ha)
    have ew : wallJ hs = jntQ (mir1 a) a := by
      cases hs with
      | nil => cases ha
      | cons b r =>
        cases ha
        rfl
    refine ⟨_, rfl, p, _, _, _, rfl, rfl, SqL.of hp, atI_nat (j := 0) h0, pa, _, _, _, rfl, rfl, a1, rfl, ac, _, _, _, rfl, rfl, a3, rfl, _, _, rfl, rfl, _, rfl, ?_⟩
    refine if_dec (fun c => ?_) (fun c => ?_)
    · have ng : a.2.1 < 0 := Classical.byContradiction fun z => absurd (Rat.num_nonneg.mpr (show 0 ≤ a.2.1 by grind)) (by have c' : a.2.1.num < 0 := c; omega)
      refine ⟨_, rfl, p, _, _, _, rfl, rfl, SqL.of hp, atI_nat (j := 0) h0, pa, _, _, _, rfl, rfl, a1, rfl, _, rfl, p, _, _, _, rfl, rfl, SqL.of hp, atI_nat (j := 0) h0, pa, _, _, _, rfl, rfl, a1, rfl, ac, _, _, _, rfl, rfl, a3, rfl, _, _, rfl, rfl, _, rfl, p, _, _, _, rfl, rfl, SqL.of hp, atI_nat (j := 0) h0, pa, _, _, _, rfl, rfl, a1, rfl, ac, _, _, _, rfl, rfl, a3, rfl, by show 2 ≤ sizeLine; decide, ?_⟩
      intro p1 n1
      obtain ⟨H1, q1, s1, e1⟩ := newO n1 (.tup [.int (0 - a.2.1.num), .int ((a.2.1.den : Nat) : Int)])
      rw [q1]
      clear q1
      have g1 : FQ K H1 p1 (-a.2.1) := FQ.ofNeg (SqT.of e1) (by omega)
      refine ⟨aa, a.1, 3340, p1, _, 1110, rfl, Kw.Same.tup s1 a2, a4, g1, va.neg, by decide, by grind, fun r2 H2 s2 g2 => ?_⟩
      refine hN _ _ ⟨_, _, _, _, _, rfl, s1.trans s2, .inr ⟨_, r2, by rw [ew, wall_jnt ng], rfl, g2, (FB.div a4 va.neg (by grind)).mono (by decide)⟩⟩
    · refine hN _ _ ⟨_, _, _, _, _, rfl, Same.refl _, .inl ⟨?_, rfl⟩⟩
      rw [ew]
      exact jnt_wall.mpr (Rat.num_nonneg.mp (by have c' : ¬ a.2.1.num < 0 := c; omega))
  rintro σ' H0 ⟨v0, u2, u3, u4, u5, rfl, s0, ov0⟩
  have hp0 := s0 _ _ hp
  have al0 := bds_same al s0
  refine ⟨_, rfl, _, _, rfl, .inl ⟨_, SqL.of hp0, rfl⟩, _, _, rfl, rfl, _, rfl, by omega, by omega, for_range (n := (((xs.length : Nat) : Int) - 1).toNat) (fun i σ1 H1 => ∃ (v : V) (u2 u3 u4 u5 : Option V), σ1 = [some (.ref p), some v, u2, u3, u4, u5] ∧ Same H0 H1 ∧ OptL K H1 v (lstW hs i)) ⟨v0, _, _, _, _, rfl, Same.refl _, ov0⟩ ?_ ?_⟩
  · rintro i σ1 H1 hi ⟨v, u2, u3, u4, u5, rfl, s1, ov⟩
    obtain ⟨x, hx⟩ : ∃ x, xs[i]? = some x := ⟨_, List.getElem?_eq_getElem (by omega)⟩
    obtain ⟨y, hy⟩ : ∃ y, xs[i + 1]? = some y := ⟨_, List.getElem?_eq_getElem (by omega)⟩
    obtain ⟨a, ha, pa, aa, ac, rfl, a1, a2, a3, a4, a5, _⟩ := Al2.get (bds_same al0 s1) hx
    obtain ⟨b, hb, pb, ba, bc, rfl, b1, b2, b3, b4, b5, _⟩ := Al2.get (bds_same al0 s1) hy
    have va := sp a (List.mem_of_getElem? ha)
    have vb := sp b (List.mem_of_getElem? hb)
    have aty : atI xs (0 + (i : Int) + 1) = some (.ref pb) := by
      have z := atI_nat hy
      rwa [show (((i + 1 : Nat)) : Int) = 0 + (i : Int) + 1 by omega] at z
    have hp1 := s1 _ _ hp0
    have sn := lstW_snoc ha hb
    refine ⟨_, rfl, _, rfl, p, _, _, _, rfl, rfl, SqL.of hp1, atI_z hx, _, rfl, _, rfl, _, _, rfl, rfl, p, _, _, _, rfl, rfl, SqL.of hp1, aty, _, _, rfl, ?_⟩
    refine ⟨_, rfl, pb, _, _, _, rfl, rfl, b1, rfl, _, rfl, pa, _, _, _, rfl, rfl, a1, rfl, bc, _, ac, _, rfl, b3, vb.mono (by decide), a3, va.mono (by decide), fun H2 s2 => ⟨_, rfl, ?_⟩⟩
    have s12 := s1.trans s2
    refine if_dec (fun c => ?_) (fun c => ?_)
    · have jn : jntQ a b = some ((b.1 - a.1) / (a.2.1 - b.2.1)) := by
        unfold jntQ
        rw [if_neg (by grind)]
      have a12 := Kw.Same.tup s2 a1
      have b12 := Kw.Same.tup s2 b1
      refine ⟨_, rfl, pb, _, _, _, rfl, rfl, b12, rfl, _, rfl, pa, _, _, _, rfl, rfl, a12, rfl, ba, b.1, 3340, aa, a.1, 3340, rfl, Kw.Same.tup s2 b2, b4, Kw.Same.tup s2 a2, a4, by decide, fun r3 H3 s3 g3 => ?_⟩
      have a13 := Kw.Same.tup s3 a12
      have b13 := Kw.Same.tup s3 b12
      refine ⟨_, rfl, pa, _, _, _, rfl, rfl, a13, rfl, _, rfl, pb, _, _, _, rfl, rfl, b13, rfl, ac, a.2.1, 1110, bc, b.2.1, 1110, rfl, Kw.Same.tup (s2.trans s3) a3, va, Kw.Same.tup (s2.trans s3) b3, vb, by decide, fun r4 H4 s4 g4 => ?_⟩
      have d3 : FB 6681 (b.1 - a.1) := (FB.sub b4 a4).mono (by decide)
      have d4 : FB 2221 (a.2.1 - b.2.1) := (FB.sub va vb).mono (by decide)
      have ne : a.2.1 - b.2.1 ≠ 0 := by grind
      refine ⟨r3, _, 6681, r4, _, 2221, rfl, Kw.Same.tup s4 g3, d3, g4, d4, by decide, ne, fun r5 H5 s5 g5 => ?_⟩
      have d5 : FB 8950 ((b.1 - a.1) / (a.2.1 - b.2.1)) := (FB.div d3 d4 ne).mono (by decide)
      have s15 := s12.trans (s3.trans (s4.trans s5))
      have nx := sn.2 _ jn
      generalize (b.1 - a.1) / (a.2.1 - b.2.1) = q at g5 d5 nx
      have ov5 := ov.same (s2.trans (s3.trans (s4.trans s5)))
      rcases ov5 with ⟨e0, rfl⟩ | ⟨l, pl, e0, rfl, gl, dl⟩
      · rw [e0] at nx
        refine ⟨_, rfl, rfl, _, rfl, iteT ?_⟩
        refine iteT ?_
        exact ⟨_, rfl, _, _, _, _, _, rfl, s15, .inr ⟨q, r5, nx, rfl, g5, d5⟩⟩
      · rw [e0] at nx
        refine ⟨_, rfl, rfl, _, rfl, iteF ?_⟩
        refine ⟨_, rfl, _, rfl, r5, _, pl, _, rfl, g5, d5.mono (by decide), gl, dl.mono (by decide), fun H6 s6 => ⟨_, rfl, ?_⟩⟩
        refine if_dec (fun c2 => ?_) (fun c2 => ?_)
        · have e : less1 (some l) q = some q := if_pos c2
          rw [e] at nx
          exact ⟨_, rfl, _, _, _, _, _, rfl, s15.trans s6, .inr ⟨q, r5, nx, rfl, Kw.Same.tup s6 g5, d5⟩⟩
        · have e : less1 (some l) q = some l := if_neg c2
          rw [e] at nx
          exact ⟨_, _, _, _, _, rfl, s15.trans s6, .inr ⟨l, pl, nx, rfl, Kw.Same.tup s6 gl, dl⟩⟩
    · have jn : jntQ a b = none := by
        unfold jntQ
        rw [if_pos (by grind)]
      refine ⟨v, _, _, _, _, rfl, s12, ?_⟩
      rw [sn.1 jn]
      exact ov.same s2
  · rintro σ1 H1 ⟨v, u2, u3, u4, u5, rfl, s1, ov⟩
    rw [show (((xs.length : Nat) : Int) - 1).toNat = hs.length - 1 by omega] at ov
    exact ⟨_, rfl, k v H1 (s0.trans s1) ov⟩
theorem sum_ne {m u : Int} (m1 : 1 ≤ m) (u1 : 1 ≤ u) : ((m + u : Int) : Rat) ≠ 0 := fun z => by
  have z2 : ((m + u : Int) : Rat) = ((0 : Int) : Rat) := z
  have := Rat.intCast_inj.mp z2
  omega
theorem twice_mix {x y : Rat} {m u : Int} (m1 : 1 ≤ m) (u1 : 1 ≤ u) : (((2 : Int) : Rat) * (((m : Int) : Rat) * x + ((u : Int) : Rat) * y)) / (((m + u : Int)) : Rat) - x = mixQ x y m u := by
  have s := sum_ne m1 u1
  rw [mixQ_eq, Rat.intCast_add] at *
  have i := Rat.mul_inv_cancel _ s
  have two : ((2 : Int) : Rat) = 2 := rfl
  rw [two, Rat.div_def, Rat.div_def, Rat.div_def]
  grind
theorem mix_same {x : Rat} {m u : Int} (m1 : 1 ≤ m) (u1 : 1 ≤ u) : mixQ x x m u = x := by
  have s := sum_ne m1 u1
  rw [Rat.intCast_add] at s
  rw [mixQ_eq]
  have i := Rat.mul_inv_cancel _ s
  rw [Rat.div_def, Rat.div_def]
  grind
noncomputable def sp_law_parted (K : PySem.W.Frag) : Sp := fun vs H Q _ => ∃ (p : Addr) (xs : List V) (hs : List Bod) (kk : Nat) (num : Int), vs = [.ref p, .int num] ∧ num = (kk : Int) - 1 ∧ H p = some (.lst xs) ∧ Al2 (BdQ K H 3340) xs hs ∧ kk < hs.length ∧ (1 ≤ kk → (bodAt hs (kk - 1)).1 = (bodAt hs kk).1) ∧ FB 1110 (bodAt hs kk).2.1 ∧ (1 ≤ kk → FB 1110 (bodAt hs (kk - 1)).2.1) ∧ ∀ (H1 : Hp) (ys : List V), But p H H1 → H1 p = some (.lst ys) → Al2 (BdQ K H1 3340) ys (partW hs kk) → Q .non H1
theorem sc_law_parted : FnScope ["_law_bodies", "_law_number", "_law_one", "_law_other", "_law_both", "_law_twice"] ["_law_bodies", "_law_number"] (defScope (top 55)) := ⟨rfl, rfl, rfl, by decide +kernel, rfl, by decide +kernel, by decide +kernel⟩
theorem ok_law_parted (D : Df K mg "_law_parted" (top 55) ["_law_bodies", "_law_number"]) (T : Tx K mg CK C) (F_law_plus : Fn P w K mg base 2 "_law_plus" ["_law_one", "_law_other"] (sp_law_plus K)) (F_law_times : Fn P w K mg base 2 "_law_times" ["_law_one", "_law_other"] (sp_law_times K)) (F_law_over : Fn P w K mg base 2 "_law_over" ["_law_one", "_law_other"] (sp_law_over K)) (F_law_minus : Fn P w K mg base 2 "_law_minus" ["_law_one", "_law_other"] (sp_law_minus K)) : Fn P w K mg base 3 "_law_parted" ["_law_bodies", "_law_number"] (sp_law_parted K) := by
  refine D.ok0 sc_law_parted (fun vs H Q E h => ?_) (fun f cdv A outer s H vs Q E hr h => ?_)
  · obtain ⟨p, xs, hs, kk, num, rfl, _⟩ := h
    rfl
  obtain ⟨p, xs, hs, kk, num, rfl, en, hp, al, kl, pl0, vk, vk1, k⟩ := h
  refine ⟨_, (pss_cons (ps_set (i := 2) sc_law_parted.nd rfl (Or.inl rfl) (pe_ix ix_list (pv 0) (pe_callB (call_max2 rfl) (by rfl) T.b_max PyProof.Rows.Boot.«max» (pa_cons (pv 1) (pa_cons pe_int pa_nil))) (fun _ _ => rfl)))
      (pss_one (ps_if (pt_cmpR op_lt (pv 1) pe_int (nomark _)) (pss_one (ps_asg (pe_tup (pa_cons (pe_ix ix_tup (pv 2) pe_int (fun _ _ => rfl)) (pa_cons (pe_tup (pa_cons (pe_op op_sub pe_int (pe_ix ix_tup (pe_ix ix_tup (pv 2) pe_int (fun _ _ => rfl)) pe_int (fun _ _ => rfl))) (pa_cons (pe_ix ix_tup (pe_ix ix_tup (pv 2) pe_int (fun _ _ => rfl)) pe_int (fun _ _ => rfl)) pa_nil))) (pa_cons (pe_ix ix_tup (pv 2) pe_int (fun _ _ => rfl)) pa_nil)))) (pg_sub (pv 0) pe_int set_list))) (pss_cons (ps_set (i := 3) sc_law_parted.nd rfl (Or.inl rfl) (pe_ix ix_list (pv 0) (pe_op op_add (pv 1) pe_int) (fun _ _ => rfl)))
      (pss_cons (ps_set (i := 4) sc_law_parted.nd rfl (Or.inl rfl) (pe_fn F_law_plus (by decide) hr (by rfl) passE0 (pa_cons (pe_fn F_law_times (by decide) hr (by rfl) passE0 (pa_cons (pe_tup (pa_cons (pe_ix ix_tup (pv 2) pe_int (fun _ _ => rfl)) (pa_cons pe_int pa_nil))) (pa_cons (pe_ix ix_tup (pv 2) pe_int (fun _ _ => rfl)) pa_nil))) (pa_cons (pe_fn F_law_times (by decide) hr (by rfl) passE0 (pa_cons (pe_tup (pa_cons (pe_ix ix_tup (pv 3) pe_int (fun _ _ => rfl)) (pa_cons pe_int pa_nil))) (pa_cons (pe_ix ix_tup (pv 3) pe_int (fun _ _ => rfl)) pa_nil))) pa_nil))))
      (pss_cons (ps_set (i := 5) sc_law_parted.nd rfl (Or.inl rfl) (pe_fn F_law_over (by decide) hr (by rfl) passE0 (pa_cons (pe_fn F_law_times (by decide) hr (by rfl) passE0 (pa_cons (pe_tup (pa_cons pe_int (pa_cons pe_int pa_nil))) (pa_cons (pv 4) pa_nil))) (pa_cons (pe_tup (pa_cons (pe_op op_add (pe_ix ix_tup (pv 2) pe_int (fun _ _ => rfl)) (pe_ix ix_tup (pv 3) pe_int (fun _ _ => rfl))) (pa_cons pe_int pa_nil))) pa_nil))))
      (pss_cons (ps_asg (pe_tup (pa_cons (pe_ix ix_tup (pv 2) pe_int (fun _ _ => rfl)) (pa_cons (pe_fn F_law_minus (by decide) hr (by rfl) passE0 (pa_cons (pv 5) (pa_cons (pe_ix ix_tup (pv 2) pe_int (fun _ _ => rfl)) pa_nil))) (pa_cons (pe_ix ix_tup (pv 2) pe_int (fun _ _ => rfl)) pa_nil)))) (pg_sub (pv 0) (pv 1) set_list))
      (pss_one (ps_asg (pe_tup (pa_cons (pe_ix ix_tup (pv 3) pe_int (fun _ _ => rfl)) (pa_cons (pe_fn F_law_minus (by decide) hr (by rfl) passE0 (pa_cons (pv 5) (pa_cons (pe_ix ix_tup (pv 3) pe_int (fun _ _ => rfl)) pa_nil))) (pa_cons (pe_ix ix_tup (pv 3) pe_int (fun _ _ => rfl)) pa_nil)))) (pg_sub (pv 0) (pe_op op_add (pv 1) pe_int) set_list)))))))))), ?_⟩
  have hz := Al2.len al
  cases kk with
  | zero =>
    obtain ⟨x0, h0⟩ : ∃ x, xs[0]? = some x := ⟨_, List.getElem?_eq_getElem (by omega)⟩
    obtain ⟨a, ha, pa, aa, ac, rfl, a1, a2, a3, a4, a5, a6, a7⟩ := Al2.get al h0
    have ea := bodAt_of ha
    rw [ea] at vk
    refine ⟨_, rfl, _, rfl, _, _, rfl, p, _, _, _, rfl, rfl, SqL.of hp, (by rw [if_pos (by omega)]; exact atI_nat (j := 0) h0), ?_⟩
    refine ⟨_, rfl, _, _, rfl, rfl, _, rfl, ?_⟩
    refine if_dec (fun _ => ?_) (fun c => absurd (show num < 0 by omega) c)
    refine ⟨_, rfl, pa, _, _, _, rfl, rfl, a1, rfl, _, rfl, pa, _, _, _, rfl, rfl, a1, rfl, ac, _, _, _, rfl, rfl, a3, rfl, _, _, rfl, rfl, _, rfl, pa, _, _, _, rfl, rfl, a1, rfl, ac, _, _, _, rfl, rfl, a3, rfl, by show 2 ≤ sizeLine; decide, ?_⟩
    intro p1 n1
    obtain ⟨H1, q1, s1, e1⟩ := newO n1 (.tup [.int (0 - a.2.1.num), .int ((a.2.1.den : Nat) : Int)])
    rw [q1]
    clear q1
    have g1 : FQ K H1 p1 (-a.2.1) := FQ.ofNeg (SqT.of e1) (by omega)
    have a11 := Kw.Same.tup s1 a1
    refine ⟨_, rfl, pa, _, _, _, rfl, rfl, a11, rfl, by show 3 ≤ sizeLine; decide, ?_⟩
    intro p2 n2
    obtain ⟨H2, q2, s2, e2⟩ := newO n2 (.tup [.ref aa, .ref p1, .int a.2.2])
    rw [q2]
    clear q2
    have s02 := s1.trans s2
    have hp2 := s02 _ _ hp
    refine ⟨_, rfl, p, xs, _, 0, rfl, rfl, hp2, ixN_nat (j := 0) (by omega), ?_⟩
    obtain ⟨H3, q3, s3, e3⟩ := newB (H := H2) (p := p) (.lst (xs.set 0 (V.ref p2)))
    dsimp only
    rw [q3]
    clear q3
    have B3 : But p H H3 := (But.of s02).trans s3
    refine k H3 _ B3 e3 ?_
    show Al2 _ _ (hs.set 0 (flipB (bodAt hs 0)))
    rw [ea]
    exact Al2.set (bds_but al B3 hp) ⟨p2, aa, p1, rfl, s3.tup hp2 (SqT.of e2), s3.tup hp2 (Kw.Same.tup s02 a2), s3.tup hp2 (Kw.Same.tup s2 g1), a4, a5.neg, a6, a7⟩
  | succ i =>
  obtain rfl : num = (i : Int) := by omega
  have i1 : i + 1 < hs.length := kl
  have pl := pl0 (by omega)
  have va := vk1 (by omega)
  have vb := vk
  rw [show i + 1 - 1 = i by omega] at pl va
  obtain ⟨u, hu⟩ : ∃ x, xs[i]? = some x := ⟨_, List.getElem?_eq_getElem (by omega)⟩
  obtain ⟨v, hv⟩ : ∃ x, xs[i + 1]? = some x := ⟨_, List.getElem?_eq_getElem (by omega)⟩
  obtain ⟨a, ha, pa, a1, c1, rfl, x1, x2, x3, x4, x5, x6, x7⟩ := Al2.get al hu
  obtain ⟨b, hb, pb, a2, c2, rfl, y1, y2, y3, y4, y5, y6, y7⟩ := Al2.get al hv
  have ea := bodAt_of ha
  have eb := bodAt_of hb
  rw [ea] at va pl
  rw [eb] at vb pl
  have at1 : atI xs ((i : Int) + 1) = some (.ref pb) := by
    have z := atI_nat hv
    rwa [show (((i + 1 : Nat)) : Int) = (i : Int) + 1 by omega] at z
  refine ⟨_, rfl, _, rfl, _, _, rfl, p, _, _, _, rfl, rfl, SqL.of hp, (by rw [if_neg (by omega)]; exact atI_nat hu), ?_⟩
  refine ⟨_, rfl, _, _, rfl, rfl, _, rfl, ?_⟩
  refine if_dec (fun c => absurd (show (i : Int) < 0 from c) (by omega)) (fun _ => ?_)
  refine ⟨_, rfl, _, rfl, _, _, rfl, rfl, p, _, _, _, rfl, rfl, SqL.of hp, at1, ?_⟩
  refine ⟨_, rfl, pa, _, _, _, rfl, rfl, x1, rfl, by show 2 ≤ sizeLine; decide, ?_⟩
  intro p1 n1
  obtain ⟨H1, q1, s1, e1⟩ := newO n1 (.tup [.int a.2.2, .int 1])
  rw [q1]
  clear q1
  have g1 : FQ K H1 p1 ((a.2.2 : Int) : Rat) := FQ.ofInt (SqT.of e1)
  have d1 : FB 64 ((a.2.2 : Int) : Rat) := FB.ofInt (Bd.small (by omega) (by omega)) (by decide)
  have db : FB 64 ((b.2.2 : Int) : Rat) := FB.ofInt (Bd.small (by omega) (by omega)) (by decide)
  have x11 := Kw.Same.tup s1 x1
  refine ⟨_, rfl, pa, _, _, _, rfl, rfl, x11, rfl, p1, _, 64, c1, _, 1110, rfl, g1, d1, Kw.Same.tup s1 x3, va, by decide, fun r2 H2 s2 g2 => ?_⟩
  have s02 := s1.trans s2
  have y12 := Kw.Same.tup s02 y1
  refine ⟨_, rfl, pb, _, _, _, rfl, rfl, y12, rfl, by show 2 ≤ sizeLine; decide, ?_⟩
  intro p3 n3
  obtain ⟨H3, q3, s3, e3⟩ := newO n3 (.tup [.int b.2.2, .int 1])
  rw [q3]
  clear q3
  have s03 := s02.trans s3
  have g3 : FQ K H3 p3 ((b.2.2 : Int) : Rat) := FQ.ofInt (SqT.of e3)
  have y13 := Kw.Same.tup s03 y1
  refine ⟨_, rfl, pb, _, _, _, rfl, rfl, y13, rfl, p3, _, 64, c2, _, 1110, rfl, g3, db, Kw.Same.tup s03 y3, vb, by decide, fun r4 H4 s4 g4 => ?_⟩
  have dA : FB 1174 (((a.2.2 : Int) : Rat) * a.2.1) := FB.mul d1 va
  have dB : FB 1174 (((b.2.2 : Int) : Rat) * b.2.1) := FB.mul db vb
  refine ⟨r2, _, 1174, r4, _, 1174, rfl, Kw.Same.tup (s3.trans s4) g2, dA, g4, dB, by decide, fun r5 H5 s5 g5 => ?_⟩
  have s05 := s03.trans (s4.trans s5)
  have d5 : FB 2349 (((a.2.2 : Int) : Rat) * a.2.1 + ((b.2.2 : Int) : Rat) * b.2.1) := FB.add dA dB
  refine ⟨by show 2 ≤ sizeLine; decide, ?_⟩
  intro p6 n6
  obtain ⟨H6, q6, s6, e6⟩ := newO n6 (.tup [.int 2, .int 1])
  rw [q6]
  clear q6
  have g6 : FQ K H6 p6 ((2 : Int) : Rat) := FQ.ofInt (SqT.of e6)
  have d6 : FB 64 ((2 : Int) : Rat) := FB.ofInt (Bd.small (i := 2) (by decide) (by decide)) (by decide)
  refine ⟨_, rfl, p6, _, 64, r5, _, 2349, rfl, g6, d6, Kw.Same.tup s6 g5, d5, by decide, fun r7 H7 s7 g7 => ?_⟩
  have s07 := s05.trans (s6.trans s7)
  have x17 := Kw.Same.tup s07 x1
  have y17 := Kw.Same.tup s07 y1
  refine ⟨_, rfl, pa, _, _, _, rfl, rfl, x17, rfl, _, rfl, pb, _, _, _, rfl, rfl, y17, rfl, _, _, rfl, rfl, by show 2 ≤ sizeLine; decide, ?_⟩
  intro p8 n8
  obtain ⟨H8, q8, s8, e8⟩ := newO n8 (.tup [.int (a.2.2 + b.2.2), .int 1])
  rw [q8]
  clear q8
  have g8 : FQ K H8 p8 ((a.2.2 + b.2.2 : Int) : Rat) := FQ.ofInt (SqT.of e8)
  have d8 : FB 64 ((a.2.2 + b.2.2 : Int) : Rat) := FB.ofInt (Bd.small (by omega) (by omega)) (by decide)
  have d7 := FB.mul d6 d5
  have ne := sum_ne x6 y6
  refine ⟨r7, _, 2413, p8, _, 64, rfl, Kw.Same.tup s8 g7, d7, g8, d8, by decide, ne, fun r9 H9 s9 g9 => ?_⟩
  have d9 := FB.div d7 d8 ne
  have s09 := s07.trans (s8.trans s9)
  have x19 := Kw.Same.tup s09 x1
  have mx := twice_mix (x := a.2.1) (y := b.2.1) x6 y6
  have my : (((2 : Int) : Rat) * (((a.2.2 : Int) : Rat) * a.2.1 + ((b.2.2 : Int) : Rat) * b.2.1)) / (((a.2.2 + b.2.2 : Int)) : Rat) - b.2.1 = mixQ b.2.1 a.2.1 b.2.2 a.2.2 := by
    rw [← twice_mix y6 x6, Int.add_comm b.2.2 a.2.2, Rat.add_comm (((b.2.2 : Int) : Rat) * b.2.1)]
  generalize (((2 : Int) : Rat) * (((a.2.2 : Int) : Rat) * a.2.1 + ((b.2.2 : Int) : Rat) * b.2.1)) / (((a.2.2 + b.2.2 : Int)) : Rat) = tw at g9 d9 mx my
  refine ⟨_, rfl, pa, _, _, _, rfl, rfl, x19, rfl, _, rfl, _, rfl, pa, _, _, _, rfl, rfl, x19, rfl, r9, tw, 2477, c1, _, 1110, rfl, g9, d9, Kw.Same.tup s09 x3, va, by decide, fun r10 H10 s10 g10 => ?_⟩
  rw [mx] at g10
  have s010 := s09.trans s10
  have x110 := Kw.Same.tup s010 x1
  refine ⟨_, rfl, pa, _, _, _, rfl, rfl, x110, rfl, by show 3 ≤ sizeLine; decide, ?_⟩
  intro p11 n11
  obtain ⟨H11, q11, s11, e11⟩ := newO n11 (.tup [.ref a1, .ref r10, .int a.2.2])
  rw [q11]
  clear q11
  have s011 := s010.trans s11
  have hp11 := s011 _ _ hp
  refine ⟨_, rfl, _, rfl, p, xs, _, i, rfl, rfl, hp11, ixN_nat (by omega), ?_⟩
  obtain ⟨H12, q12, s12, e12⟩ := newB (H := H11) (p := p) (.lst (xs.set i (V.ref p11)))
  dsimp only
  rw [q12]
  clear q12
  have tk : ∀ {q : Addr} {zs : List V}, SqT K H q zs → SqT K H12 q zs := fun h => s12.tup hp11 (Kw.Same.tup s011 h)
  have y112 := tk y1
  have g912 : FQ K H12 r9 tw := s12.tup hp11 (Kw.Same.tup (s10.trans s11) g9)
  refine ⟨_, rfl, pb, _, _, _, rfl, rfl, y112, rfl, _, rfl, _, rfl, pb, _, _, _, rfl, rfl, y112, rfl, r9, tw, 2477, c2, _, 1110, rfl, g912, d9, tk y3, vb, by decide, fun r13 H13 s13 g13 => ?_⟩
  rw [my] at g13
  have y113 := Kw.Same.tup s13 y112
  refine ⟨_, rfl, pb, _, _, _, rfl, rfl, y113, rfl, by show 3 ≤ sizeLine; decide, ?_⟩
  intro p14 n14
  obtain ⟨H14, q14, s14, e14⟩ := newO n14 (.tup [.ref a2, .ref r13, .int b.2.2])
  rw [q14]
  clear q14
  have hp14 := s14 _ _ (s13 _ _ e12)
  refine ⟨_, rfl, _, rfl, _, _, rfl, rfl, p, _, _, i + 1, rfl, rfl, hp14, ixN_nat (j := i + 1) (by rw [List.length_set]; omega), ?_⟩
  obtain ⟨H15, q15, s15, e15⟩ := newB (H := H14) (p := p) (.lst ((xs.set i (V.ref p11)).set (i + 1) (V.ref p14)))
  dsimp only
  rw [q15]
  clear q15
  have B15 : But p H H15 := (But.of s011).trans (s12.trans ((But.of (s13.trans s14)).trans s15))
  have t14 : ∀ {q : Addr} {zs : List V}, SqT K H12 q zs → SqT K H15 q zs := fun h => s15.tup hp14 (Kw.Same.tup (s13.trans s14) h)
  have pa' : (behQ a b).1 = a.1 := by show mixQ a.1 b.1 _ _ = _; rw [← pl]; exact mix_same x6 y6
  have pb' : (behQ b a).1 = b.1 := by show mixQ b.1 a.1 _ _ = _; rw [pl]; exact mix_same y6 x6
  have up1 : BdQ K H15 3340 (.ref p11) (behQ a b) := ⟨p11, a1, r10, rfl, t14 (s12.tup hp11 (SqT.of e11)), by rw [pa']; exact t14 (tk x2), t14 (s12.tup hp11 (Kw.Same.tup s11 g10)), by rw [pa']; exact x4, (FB.mix va vb x6 x7 y6 y7).mono (by decide), x6, x7⟩
  have up2 : BdQ K H15 3340 (.ref p14) (behQ b a) := ⟨p14, a2, r13, rfl, s15.tup hp14 (SqT.of e14), by rw [pb']; exact t14 (tk y2), s15.tup hp14 (Kw.Same.tup s14 g13), by rw [pb']; exact y4, (FB.mix vb va y6 y7 x6 x7).mono (by decide), y6, y7⟩
  have al15 : Al2 (BdQ K H15 3340) xs hs := bds_but al B15 hp
  refine k H15 _ B15 e15 ?_
  show Al2 _ _ (partQ hs i)
  unfold partQ
  rw [ea, eb]
  exact Al2.set (Al2.set al15 up1) up2
noncomputable def numW (l : List Nat) : List V := l.map fun k : Nat => V.int (0 + (k : Int) - 1)
theorem numW_flat (l : List Nat) : (numW l).all flatV = true := by
  unfold numW
  rw [List.all_map]
  exact List.all_eq_true.mpr fun _ _ => rfl
theorem numW_in (l : List Nat) (k : Nat) : inV (.int (0 + (k : Int) - 1 + 1)) (numW l) = decide (k + 1 ∈ l) := by
  unfold inV numW
  induction l with
  | nil => rfl
  | cons a l ih =>
    rw [List.map_cons, List.any_cons, ih]
    have e : eqV (.int (0 + (a : Int) - 1)) (.int (0 + (k : Int) - 1 + 1)) = decide (k + 1 = a) := by
      show decide ((0 + (a : Int) - 1) = (0 + (k : Int) - 1 + 1)) = _
      exact decide_eq_decide.mpr ⟨fun h => by omega, fun h => by omega⟩
    rw [e]
    by_cases c : k + 1 = a
    · rw [decide_eq_true c, Bool.true_or, decide_eq_true (by rw [c]; exact List.mem_cons_self ..)]
    · rw [decide_eq_false c, Bool.false_or]
      exact decide_eq_decide.mpr ⟨fun h => List.mem_cons_of_mem _ h, fun h => (List.mem_cons.mp h).resolve_left c⟩
noncomputable def plW (gs : List Bod) (N : Nat) (t : Rat) : Nat → Rat
  | 0 => 0
  | k + 1 => plcQ (bodAt gs (N + k)) t
theorem plW_meet {gs : List Bod} {N : Nat} {now t : Rat} (o : OrdT gs now) (h : mirL gs = gs) (l : gs.length = 2 * N) (n1 : 1 ≤ N) (ct : cmng gs = some t) {k : Nat} (hk : k < N) : decide (plW gs N t k = plW gs N t (k + 1)) = decide (N - 1 + k ∈ leftsQ gs) := by
  have lm := lefts_meet o ct
  refine decide_eq_decide.mpr ?_
  rw [lm, List.mem_filter, List.mem_range, decide_eq_true_eq]
  have e2 : bodAt gs (N - 1 + k + 1) = bodAt gs (N + k) := by rw [show N - 1 + k + 1 = N + k by omega]
  cases k with
  | zero =>
    have z := plc_mirW (bodAt gs N) t
    have y := sym_near h l n1
    rw [e2, Nat.add_zero, Nat.add_zero, y, z]
    show (0 : Rat) = plcQ (bodAt gs (N + 0)) t ↔ _
    rw [Nat.add_zero]
    exact ⟨fun q => ⟨by omega, by grind⟩, fun q => by have := q.2; grind⟩
  | succ j =>
    rw [e2]
    show plcQ (bodAt gs (N + j)) t = plcQ (bodAt gs (N + (j + 1))) t ↔ _
    rw [show N - 1 + (j + 1) = N + j by omega]
    exact ⟨fun q => ⟨by omega, q⟩, fun q => q.2⟩
theorem plW_at {gs : List Bod} {N : Nat} {now t : Rat} (o : OrdT gs now) (h : mirL gs = gs) (l : gs.length = 2 * N) (n1 : 1 ≤ N) (ct : cmng gs = some t) {k : Nat} (hk : k ∈ nW N gs) : plW gs N t k = plcQ (bodAt gs (N - 1 + k)) t := by
  obtain ⟨lt, m⟩ := mem_nW.mp hk
  cases k with
  | zero =>
    have z := lefts_same o ct m
    have y := sym_near h l n1
    have q := plc_mirW (bodAt gs N) t
    rw [Nat.add_zero] at z ⊢
    rw [show N - 1 + 1 = N by omega, y, q] at z
    rw [y, q]
    show (0 : Rat) = _
    grind
  | succ j =>
    show plcQ (bodAt gs (N + j)) t = _
    rw [show N - 1 + (j + 1) = N + j by omega]
noncomputable def RT (gs : List Bod) (N : Nat) (t : Rat) : List Bod := (gs.map (sftB t)).drop N
theorem RT_len {gs : List Bod} {N : Nat} {t : Rat} (l : gs.length = 2 * N) : (RT gs N t).length = N := by
  unfold RT
  rw [List.length_drop, List.length_map]
  omega
theorem RT_at {gs : List Bod} {N : Nat} {t : Rat} (l : gs.length = 2 * N) {k : Nat} (hk : k < N) : bodAt (RT gs N t) k = sftB t (bodAt gs (N + k)) := by
  unfold RT
  rw [bod_drop, bod_sft _ (by omega)]
noncomputable def sp_law_step (K : PySem.W.Frag) : Sp := fun vs H Q _ => ∃ (pn p : Addr) (xs : List V) (gs : List Bod) (N : Nat) (now : Rat) (B : Nat), vs = [.ref pn, .ref p] ∧ FQ K H pn now ∧ FB 1111 now ∧ H p = some (.lst xs) ∧ Al2 (BdQ K H 3340) xs (RT gs N now) ∧ 1 ≤ N ∧ N ≤ 12 ∧ gs.length = 2 * N ∧ mirL gs = gs ∧ OrdT gs now ∧ (∀ p ∈ gs, 1 ≤ p.2.2 ∧ p.2.2 ≤ 10000) ∧ Com B gs ∧ B + 180 ≤ 1110 ∧
  (cmng gs = none → ∀ (r : Addr) (v1 v2 v3 : V) (H1 : Hp), Same H H1 → SqT K H1 r [.str "still", v1, v2, v3] → Q (.ref r) H1) ∧
  (∀ t, cmng gs = some t → crwQ gs → ∀ (r : Addr) (v1 v2 v3 : V) (H1 : Hp), Same H H1 → SqT K H1 r [.str "crowd", v1, v2, v3] → Q (.ref r) H1) ∧
  (∀ t, cmng gs = some t → ¬ crwQ gs → ∀ (r pt th pm : Addr) (ys zs : List V) (H1 : Hp), Same H H1 → SqT K H1 r [.str "met", .ref pt, .ref th, .ref pm] → FQ K H1 pt t → FB 1111 t → H1 th = some (.lst ys) → Al2 (BdQ K H1 3340) ys (RT (onQ gs) N t) → H1 pm = some (.lst zs) → Al2 (HfQ K H1 N) zs (halfQ N (metsQ gs)) → Q (.ref r) H1)
theorem sc_law_step : FnScope ["_law_moment", "_law_bodies", "_law_time", "_law_then", "_law_there", "_law_places", "_law_numbers", "_law_k", "_law_met"] ["_law_moment", "_law_bodies"] (defScope (top 56)) := ⟨rfl, rfl, rfl, by decide +kernel, rfl, by decide +kernel, by decide +kernel⟩
theorem ok_law_step (D : Df K mg "_law_step" (top 56) ["_law_moment", "_law_bodies"]) (T : Tx K mg CK C) (F_law_ahead : Fn P w K mg base 3 "_law_ahead" ["_law_bodies"] (sp_law_ahead K)) (F_law_plus : Fn P w K mg base 2 "_law_plus" ["_law_one", "_law_other"] (sp_law_plus K)) (F_law_times : Fn P w K mg base 2 "_law_times" ["_law_one", "_law_other"] (sp_law_times K)) (F_law_parted : Fn P w K mg base 3 "_law_parted" ["_law_bodies", "_law_number"] (sp_law_parted K)) : Fn P w K mg base 4 "_law_step" ["_law_moment", "_law_bodies"] (sp_law_step K) := by
  refine D.ok0 sc_law_step (fun vs H Q E h => ?_) (fun f cdv A outer s H vs Q E hr h => ?_)
  · obtain ⟨pn, p, xs, gs, N, now, B, rfl, _⟩ := h
    rfl
  obtain ⟨pn, p, xs, gs, N, now, B, rfl, gn, dn, hp, al, n1, n12, lg, sym, ord, hw, com, hB, ks, kc, km⟩ := h
  refine ⟨_, (pss_cons (ps_set (i := 2) sc_law_step.nd rfl (Or.inr rfl) (pe_fn F_law_ahead (by decide) hr (by rfl) passE0 (pa_cons (pv 1) pa_nil)))
      (pss_cons (ps_if (pt_cmpR op_isN (pv 2) pe_non (nomark _)) (pss_one (ps_ret (pe_tup (pa_cons pe_str (pa_cons (pv 0) (pa_cons (pv 1) (pa_cons (pe_lst pa_nil) pa_nil))))))) pss_nil)
      (pss_cons (ps_set (i := 3) sc_law_step.nd rfl (Or.inr rfl) (pe_fn F_law_plus (by decide) hr (by rfl) passE0 (pa_cons (pv 0) (pa_cons (pv 2) pa_nil))))
      (pss_cons (@ps_lc _ _ _ _ _ _ _ _ _ _ ["_law_time"] [2] 4 _ _ _ sc_law_step.nd rfl rfl rfl rfl (pi_list (pv 1)) rfl (by decide) rfl (by decide) rfl (by decide) (cap_one (j := 2) rfl rfl rfl rfl (.inl rfl)) (cl_one rfl) (cap_fr rfl) (fun C z Hc fp => (pe_tup (pa_cons (pe_fn F_law_plus (by decide) hr (by rfl) passE0 (pa_cons (pe_ix (ixT (K := K) rfl) (pv 0) pe_int (fun _ _ => rfl)) (pa_cons (pe_fn F_law_times (by decide) hr (by rfl) passE0 (pa_cons (pe_ix (ixT (K := K) rfl) (pv 0) pe_int (fun _ _ => rfl)) (pa_cons (pv 1) pa_nil))) pa_nil))) (pa_cons (pe_ix (ixT (K := K) rfl) (pv 0) pe_int (fun _ _ => rfl)) (pa_cons (pe_ix (ixT (K := K) rfl) (pv 0) pe_int (fun _ _ => rfl)) pa_nil))))) (fun _ => rfl))
      (pss_cons (ps_set (i := 5) sc_law_step.nd rfl (Or.inr rfl) (pe_op op_cat (pe_lst (pa_cons (pe_tup (pa_cons pe_int (pa_cons pe_int pa_nil))) pa_nil)) (@pe_lc _ _ _ _ _ _ _ _ _ _ [] [] rfl (pi_list (pv 4)) rfl (by decide) rfl (by decide) rfl (by decide) cap_none (fun _ _ h => nomatch h) (no_free rfl) (fun C z Hc fp => (pe_ix (ixT (K := K) rfl) (pv 0) pe_int (fun _ _ => rfl))) (fun _ => rfl))))
      (pss_cons (@ps_lcT _ _ _ _ _ _ _ _ _ _ _ _ ["_law_places"] [5] 6 _ _ _ sc_law_step.nd rfl rfl rfl rfl (pi_range1 (by rfl) T.b_range (pa_cons (pe_callB call_len (by rfl) T.b_len PyProof.Rows.Boot.«len» (pa_cons (pv 4) pa_nil)) pa_nil)) rfl (by decide) rfl (by decide) rfl (by decide) (cap_one (j := 5) rfl rfl rfl rfl (.inl rfl)) (cl_one rfl) (cap_fr rfl) (fun C z Hc fp => pts_one (pt_cmpR (op_eqQ (K := K) rfl (u100 hr)) (pe_ix (ixL (K := K) rfl) (pv 1) (pv 0) (fun _ _ => rfl)) (pe_ix (ixL (K := K) rfl) (pv 1) (pe_op op_add (pv 0) pe_int) (fun _ _ => rfl)) (nomark _))) (fun C z Hc fp => (pe_op op_sub (pv 0) pe_int)) (fun _ => rfl))
      (pss_cons (ps_for PassesOwn.never rfl (pi_list (pv 6)) (pg_name (i := 7) sc_law_step.nd rfl (Or.inl rfl)) (pss_one (ps_if (pt_cmpR op_in_seq (pe_op op_add (pv 7) pe_int) (pv 6) (by first | rfl | with_unfolding_all rfl)) (pss_one (ps_ret (pe_tup (pa_cons pe_str (pa_cons (pv 0) (pa_cons (pv 1) (pa_cons (pe_lst pa_nil) pa_nil))))))) pss_nil)))
      (pss_cons (@ps_lc _ _ _ _ _ _ _ _ _ _ ["_law_then", "_law_places"] [3, 5] 8 _ _ _ sc_law_step.nd rfl rfl rfl rfl (pi_list (pv 6)) rfl (by decide) rfl (by decide) rfl (by decide) (cap_two (j := 3) (j' := 5) rfl rfl rfl rfl (.inl rfl) rfl rfl rfl rfl (.inl rfl)) (cl_two rfl rfl) (cap_fr rfl) (fun C z Hc fp => (pe_tup (pa_cons (pv 1) (pa_cons (pe_ix (ixL (K := K) rfl) (pv 2) (pe_op op_add (pv 0) pe_int) (fun _ _ => rfl)) (pa_cons (pv 0) pa_nil))))) (fun _ => rfl))
      (pss_cons (ps_for PassesOwn.never rfl (pi_list (pv 6)) (pg_name (i := 7) sc_law_step.nd rfl (Or.inl rfl)) (pss_one (ps_expr (pe_fn F_law_parted (by decide) hr (by rfl) passE0 (pa_cons (pv 4) (pa_cons (pv 7) pa_nil))))))
      (pss_one (ps_ret (pe_tup (pa_cons pe_str (pa_cons (pv 3) (pa_cons (pv 4) (pa_cons (pv 8) pa_nil)))))))))))))))), ?_⟩
  have hz := Al2.len al
  rw [RT_len lg] at hz
  have c1 : Com 1110 gs := com.mono (by omega)
  have vs1 : ∀ b ∈ RT gs N now, FB 1110 b.2.1 := fun b hb => by
    obtain ⟨b', hb', rfl⟩ := List.mem_map.mp (List.mem_of_mem_drop hb)
    exact (c1.fb b' hb').2
  have cw : lstW (RT gs N now) ((RT gs N now).length - 1) = (cmng gs).map (· - now) := by
    rw [RT_len lg, ← cmng_sft]
    exact cmngW (sym_sft sym now) (by rw [List.length_map]; exact lg) n1
  refine ⟨_, rfl, p, xs, RT gs N now, rfl, hp, al, vs1, by rw [RT_len lg]; exact n1, by rw [RT_len lg]; exact n12, fun v H1 s1 ov => ?_⟩
  rw [cw] at ov
  refine ⟨_, rfl, rfl, _, rfl, ?_⟩
  cases ct : cmng gs with
  | none =>
    rw [ct] at ov
    rcases ov with ⟨_, rfl⟩ | ⟨_, _, e, _⟩
    · refine if_dec (fun _ => ?_) (fun c => absurd rfl c)
      refine ⟨_, rfl, _, rfl, by show 0 ≤ sizeLine; decide, ?_⟩
      intro p2 n2
      obtain ⟨H2, q2, s2, e2⟩ := newO n2 (.lst [])
      rw [q2]
      clear q2
      refine ⟨by show 4 ≤ sizeLine; decide, ?_⟩
      intro p3 n3
      obtain ⟨H3, q3, s3, e3⟩ := newO n3 (.tup [.str "still", .ref pn, .ref p, .ref p2])
      rw [q3]
      clear q3
      exact ks ct p3 _ _ _ H3 (s1.trans (s2.trans s3)) (SqT.of e3)
    · cases e
  | some t =>
  rw [ct] at ov
  have dt : FB 1111 t := by
    obtain ⟨⟨k, hk, ek⟩, _⟩ := cmng_some ct
    exact (com.jnt (List.mem_of_getElem? (bodAt_get (by omega))) (List.mem_of_getElem? (bodAt_get hk)) ek).mono (by omega)
  obtain ⟨e0, _⟩ | ⟨d, pd, ed, rfl, gd, _⟩ := ov
  · cases e0
  replace ed : t - now = d := Option.some.inj ed
  subst ed
  refine if_dec (fun c => nomatch c) (fun _ => ?_)
  have dd : FB 2300 (t - now) := (FB.sub dt dn).mono (by decide)
  refine ⟨_, rfl, _, rfl, pn, now, 1111, pd, t - now, 2300, rfl, Kw.Same.tup s1 gn, dn, gd, dd, by decide, fun r2 H2 s2 g2 => ?_⟩
  replace g2 : FQ K H2 r2 t := FQ.cast g2 (by grind)
  have s02 := s1.trans s2
  have pl3 : ∀ b ∈ gs, FB 3340 (plcQ b t) := fun b hb => (FB.add (c1.fb b hb).1 (FB.mul (c1.fb b hb).2 dt)).mono (by decide)
  have hp2 := s02 _ _ hp
  have al2 := bds_same al s02
  have gd2 := Kw.Same.tup s2 gd
  have mv : ∀ b', sftB (t - now) (sftB now b') = sftB t b' := fun b' => by
    unfold sftB
    dsimp only
    rw [show b'.1 + b'.2.1 * now + b'.2.1 * (t - now) = b'.1 + b'.2.1 * t by grind]
  have mvR : (RT gs N now).map (sftB (t - now)) = RT gs N t := by
    unfold RT
    rw [← List.map_drop, ← List.map_drop, List.map_map]
    exact List.map_congr_left fun b' _ => mv b'
  refine ⟨_, rfl, p, rfl, ⟨_, SqL.of hp2⟩, lc_list (K := K) (xs := xs) (fun i ys H' => i ≤ xs.length ∧ Same H2 H' ∧ Al2 (BdQ K H' 3340) ys (((RT gs N now).take i).map (sftB (t - now)))) ⟨Nat.zero_le _, Same.refl _, trivial⟩ (Nat.le_trans (show xs.length ≤ 12 by omega) (by decide)) (fun i ys H1 z => by obtain ⟨l, _, e⟩ := z; have := Al2.len e; rw [List.length_map, List.length_take, RT_len lg] at this; omega) (fun i ys H1 z => by obtain ⟨_, g, _⟩ := z; exact SqL.of (g _ _ hp2)) ?_ ?_⟩
  · rintro i x ys H3 Q3 hx ⟨hl, s3, hy⟩ kq
    have hi : i < xs.length := (List.getElem?_eq_some_iff.mp hx).1
    obtain ⟨q, hq, pq, qa, qc, rfl, x1, x2, x3, x4, x5, x6, x7⟩ := Al2.get (bds_same al2 s3) hx
    have hm := List.mem_of_getElem? hq
    have vq := vs1 q hm
    have plq : FB 3340 (q.1 + q.2.1 * (t - now)) := by
      obtain ⟨b', hb', rfl⟩ := List.mem_map.mp (List.mem_of_mem_drop hm)
      have e := congrArg Prod.fst (mv b')
      have e' : (sftB now b').1 + (sftB now b').2.1 * (t - now) = plcQ b' t := e
      rw [e']
      exact pl3 b' hb'
    refine ⟨_, rfl, pq, _, _, _, rfl, rfl, x1, rfl, _, rfl, pq, _, _, _, rfl, rfl, x1, rfl, _, rfl, qc, q.2.1, 1110, pd, _, 2300, rfl, x3, vq, Kw.Same.tup s3 gd2, dd, by decide, fun r4 H4 s4 g4 => ?_⟩
    refine ⟨qa, q.1, 3340, r4, _, 3410, rfl, Kw.Same.tup s4 x2, x4, g4, (FB.mul vq dd).mono (by decide), by decide, fun r5 H5 s5 g5 => ?_⟩
    have s35 := s4.trans s5
    have x15 := Kw.Same.tup s35 x1
    refine ⟨_, rfl, pq, _, _, _, rfl, rfl, x15, rfl, _, rfl, pq, _, _, _, rfl, rfl, x15, rfl, by show 3 ≤ sizeLine; decide, ?_⟩
    intro p6 n6
    obtain ⟨H6, q6, s6, e6⟩ := newO n6 (.tup [.ref r5, .ref qc, .int q.2.2])
    rw [q6]
    clear q6
    have s36 := s35.trans s6
    refine kq _ _ ⟨hi, s3.trans s36, ?_⟩
    rw [take_snoc hq, List.map_append]
    exact Al2.snoc (bds_same hy s36) ⟨p6, r5, qc, rfl, SqT.of e6, Kw.Same.tup s6 g5, Kw.Same.tup s36 x3, plq, x5, x6, x7⟩
  rintro ys3 H3' ⟨_, s3', hy3⟩ r3 hr3
  rw [show xs.length = (RT gs N now).length by rw [RT_len lg]; exact hz, List.take_length, mvR] at hy3
  obtain ⟨H3, q3, s3'', e3⟩ := newO hr3 (.lst ys3)
  rw [q3]
  clear q3
  have al3 := bds_same hy3 s3''
  have s23 := s3'.trans s3''
  have s03 := s02.trans s23
  have hy3 := Al2.len al3
  rw [RT_len lg] at hy3
  have n03 := none_of_sm (s02.trans s3') hr3
  refine ⟨by show 2 ≤ sizeLine; decide, ?_⟩
  intro p31 n31
  obtain ⟨H31, q31, s31, e31⟩ := newO n31 (.tup [.int 0, .int 1])
  rw [q31]
  clear q31
  have g31 : FQ K H31 p31 (plW gs N t 0) := FQ.cast (FQ.ofInt (SqT.of e31)) rfl
  refine ⟨by show 1 ≤ sizeLine; decide, ?_⟩
  intro p32 n32
  obtain ⟨H32, q32, s32, e32⟩ := newO n32 (.lst [.ref p31])
  rw [q32]
  clear q32
  have s332 := s31.trans s32
  have e332 := s332 _ _ e3
  have al32 := bds_same al3 s332
  refine ⟨_, rfl, r3, rfl, ⟨_, SqL.of e332⟩, lc_list (K := K) (xs := ys3) (fun i ys H' => i ≤ ys3.length ∧ H' = H32 ∧ Al2 (FrQ K H32 3340) ys (((RT gs N t).take i).map fun b => b.1)) ⟨Nat.zero_le _, rfl, trivial⟩ (Nat.le_trans (show ys3.length ≤ 12 by omega) (by decide)) (fun i ys H1 z => by obtain ⟨l, _, e⟩ := z; have := Al2.len e; rw [List.length_map, List.length_take, RT_len lg] at this; omega) (fun i ys H1 z => by obtain ⟨_, rfl, _⟩ := z; exact SqL.of e332) ?_ ?_⟩
  · rintro i x ys H4 Q4 hx ⟨hl, rfl, hy⟩ kq
    have hi : i < ys3.length := (List.getElem?_eq_some_iff.mp hx).1
    obtain ⟨q, hq, pq, qa, qc, rfl, x1, x2, x3, x4, x5, x6, x7⟩ := Al2.get al32 hx
    refine ⟨_, rfl, pq, _, _, _, rfl, rfl, x1, rfl, kq _ _ ⟨hi, rfl, ?_⟩⟩
    rw [take_snoc hq, List.map_append]
    exact Al2.snoc hy ⟨qa, rfl, x2, x4⟩
  rintro ysP H4 ⟨_, eH4, hyP⟩ rp hrp
  subst eH4
  rw [show ys3.length = (RT gs N t).length by rw [RT_len lg]; exact hy3, List.take_length] at hyP
  obtain ⟨H33, q33, s33, e33⟩ := newO hrp (.lst ysP)
  rw [q33]
  clear q33
  have lP := Al2.len hyP
  rw [List.length_map, RT_len lg] at lP
  refine ⟨p32, rp, [.ref p31], ysP, rfl, rfl, s33 _ _ e32, e33, Nat.le_trans (show [V.ref p31].length + ysP.length ≤ 24 by show 1 + ysP.length ≤ 24; omega) (by decide), ?_⟩
  intro p34 n34
  obtain ⟨H34, q34, s34, e34⟩ := newO n34 (.lst ([.ref p31] ++ ysP))
  rw [q34]
  clear q34
  have s3234 := s33.trans s34
  have s334 := s332.trans s3234
  have e334 := s334 _ _ e3
  have al34 := bds_same al3 s334
  have s034 := s03.trans s334
  have alP : Al2 (FrQ K H34 3340) ([.ref p31] ++ ysP) ((0 : Rat) :: (RT gs N t).map fun b => b.1) := ⟨⟨p31, rfl, Kw.Same.tup (s32.trans s3234) g31, (FB.ofInt (n := 64) (Bd.small (i := 0) (by decide) (by decide)) (by decide)).mono (by decide)⟩, frs_same hyP s3234⟩
  have atP : ∀ k, k ≤ N → ∃ q, ([V.ref p31] ++ ysP)[k]? = some (.ref q) ∧ FQ K H34 q (plW gs N t k) ∧ FB 3340 (plW gs N t k) := fun k hk => by
    obtain ⟨v, hv⟩ : ∃ v, ([V.ref p31] ++ ysP)[k]? = some v := ⟨_, List.getElem?_eq_getElem (by show k < ysP.length + 1; omega)⟩
    obtain ⟨q, hq, pq, rfl, g, d⟩ := Al2.get alP hv
    have eq : q = plW gs N t k := by
      cases k with
      | zero => exact (Option.some.inj hq).symm
      | succ j =>
        have hq' : ((RT gs N t).map fun b => b.1)[j]? = some q := hq
        rw [List.getElem?_map, bodAt_get (show j < (RT gs N t).length by rw [RT_len lg]; omega), RT_at lg (by omega)] at hq'
        exact (Option.some.inj hq').symm
    rw [eq] at g d
    exact ⟨pq, hv, g, d⟩
  refine ⟨_, rfl, _, _, rfl, .inl ⟨_, SqL.of e334, rfl⟩, _, rfl, by omega, by omega, lc_rangeG (n := (((ys3.length : Nat) : Int)).toNat) (fun k => decide (N - 1 + k ∈ leftsQ gs)) (fun k => V.int (0 + (k : Int) - 1)) (Nat.le_trans (show (((ys3.length : Nat) : Int)).toNat ≤ 12 by omega) (by decide)) ?_ ?_ ?_⟩
  · intro i hi Q1 q1
    obtain ⟨a, ha, ga, _⟩ := atP i (by omega)
    obtain ⟨b, hb, gb, _⟩ := atP (i + 1) (by omega)
    have at1 : atI ([V.ref p31] ++ ysP) (0 + (i : Int) + 1) = some (.ref b) := by
      have z := atI_nat hb
      rwa [show (((i + 1 : Nat)) : Int) = 0 + (i : Int) + 1 by omega] at z
    rw [← plW_meet ord sym lg n1 ct (show i < N by omega)] at q1
    exact ⟨_, rfl, _, rfl, p34, _, _, _, rfl, rfl, SqL.of e34, atI_z ha, _, rfl, _, rfl, _, _, rfl, rfl, p34, _, _, _, rfl, rfl, SqL.of e34, at1, a, b, _, _, rfl, rfl, ga, gb, _, rfl, q1⟩
  · intro i hi Q1 q1
    exact ⟨_, rfl, _, _, rfl, rfl, q1⟩
  intro r4 hr4
  have el : (((List.range (((ys3.length : Nat) : Int)).toNat).filter fun k => decide (N - 1 + k ∈ leftsQ gs)).map fun k : Nat => V.int (0 + (k : Int) - 1)) = numW (nW N gs) := by
    rw [show (((ys3.length : Nat) : Int)).toNat = N by omega]
    rfl
  rw [el]
  obtain ⟨H5, q5, s5, e5⟩ := newO hr4 (.lst (numW (nW N gs)))
  rw [q5]
  clear q5 el
  have len : (numW (nW N gs)).length = (nW N gs).length := List.length_map _
  have nlen : (nW N gs).length ≤ N := by
    have z := List.length_filter_le (fun k => decide (N - 1 + k ∈ leftsQ gs)) (List.range N)
    rw [List.length_range] at z
    exact z
  have nget : ∀ {i : Nat} {x : V}, (numW (nW N gs))[i]? = some x → ∃ k, (nW N gs)[i]? = some k ∧ x = .int (0 + (k : Int) - 1) := fun {i x} hx => by
    unfold numW at hx
    rw [List.getElem?_map] at hx
    obtain ⟨k, hk, e⟩ := Option.map_eq_some_iff.mp hx
    exact ⟨k, hk, e.symm⟩
  refine ⟨_, rfl, r4, rfl, ⟨_, SqL.of e5⟩, for_list (K := K) (a := r4) (xs := numW (nW N gs)) (fun i σ1 H' => ∃ u7 : Option V, σ1 = [some (.ref pn), some (.ref p), some (.ref pd), some (.ref r2), some (.ref r3), some (.ref p34), some (.ref r4), u7, none] ∧ H' = H5 ∧ ∀ j k : Nat, j < i → (nW N gs)[j]? = some k → k + 1 ∉ nW N gs) ⟨_, rfl, rfl, fun j k h => absurd h (by omega)⟩ (by rintro _ _ _ _ ⟨_, _, rfl, _⟩; exact SqL.of e5) ?_ ?_⟩
  · rintro i x σ1 H' hx ⟨u7, rfl, rfl, below⟩
    obtain ⟨k, hk, rfl⟩ := nget hx
    refine ⟨_, rfl, _, _, rfl, rfl, _, rfl, r4, _, rfl, .inl (SqL.of e5), rfl, numW_flat _, _, rfl, ?_⟩
    show if (inV (V.int (0 + (k : Int) - 1 + 1)) (numW (nW N gs))) = true then _ else _
    rw [numW_in]
    refine if_dec (fun c => ?_) (fun c => ?_)
    · refine ⟨_, rfl, _, rfl, by show 0 ≤ sizeLine; decide, ?_⟩
      intro p6 n6
      obtain ⟨H6, q6, s6, e6⟩ := newO n6 (.lst [])
      rw [q6]
      clear q6
      refine ⟨by show 4 ≤ sizeLine; decide, ?_⟩
      intro p7 n7
      obtain ⟨H7, q7, s7, e7⟩ := newO n7 (.tup [.str "crowd", .ref pn, .ref p, .ref p6])
      rw [q7]
      clear q7
      exact kc t ct ((crwW ord sym lg n1 ct).mpr ⟨k, List.mem_of_getElem? hk, c⟩) p7 _ _ _ H7 (s034.trans (s5.trans (s6.trans s7))) (SqT.of e7)
    · refine ⟨_, rfl, rfl, fun j k' hj hk' => ?_⟩
      by_cases e : j = i
      · subst e
        cases hk.symm.trans hk'
        exact c
      · exact below j k' (by omega) hk'
  rintro σ1 H' ⟨u7, rfl, eH', below⟩
  subst H'
  have ncr : ¬ crwQ gs := fun z => by
    obtain ⟨k, hk, hk1⟩ := (crwW ord sym lg n1 ct).mp z
    obtain ⟨m, hm, em⟩ := List.mem_iff_getElem.mp hk
    exact below m k (by rw [len]; exact hm) (by rw [List.getElem?_eq_getElem hm, em]) hk1
  have mq := halfW ord lg n1 ct
  have g25 := Kw.Same.tup (s23.trans (s334.trans s5)) g2
  refine ⟨_, rfl, r4, rfl, ⟨_, SqL.of e5⟩, lc_list (K := K) (xs := numW (nW N gs)) (fun i zs H'' => i ≤ (nW N gs).length ∧ Same H5 H'' ∧ Al2 (HfQ K H'' N) zs ((halfQ N (metsQ gs)).take i)) ⟨Nat.zero_le _, Same.refl _, trivial⟩ (by rw [len]; exact Nat.le_trans (show (nW N gs).length ≤ 12 by omega) (by decide)) (fun i zs H1 z => by obtain ⟨l, _, e⟩ := z; have := Al2.len e; rw [mq, List.length_take, List.length_map] at this; omega) (fun i zs H'' z => by obtain ⟨_, g, _⟩ := z; exact SqL.of (g _ _ e5)) ?_ ?_⟩
  · rintro i x zs H6 Q6 hx ⟨hl, s6, hy⟩ kq
    obtain ⟨k, hk, rfl⟩ := nget hx
    have mk := List.mem_of_getElem? hk
    have hi : i < (nW N gs).length := (List.getElem?_eq_some_iff.mp hk).1
    obtain ⟨a, ha, ga, _⟩ := atP k (by have := (mem_nW.mp mk).1; omega)
    rw [plW_at ord sym lg n1 ct mk] at ga
    have s346 := s5.trans s6
    have atk : atI ([V.ref p31] ++ ysP) (0 + (k : Int) - 1 + 1) = some (.ref a) := by
      have z := atI_nat ha
      rwa [show ((k : Nat) : Int) = 0 + (k : Int) - 1 + 1 by omega] at z
    refine ⟨_, rfl, _, rfl, _, rfl, _, _, rfl, rfl, p34, _, _, _, rfl, rfl, SqL.of (s346 _ _ e34), atk, _, rfl, by show 3 ≤ sizeLine; decide, ?_⟩
    intro p7 n7
    obtain ⟨H7, q7, s7, e7⟩ := newO n7 (.tup [.ref r2, .ref a, .int (0 + (k : Int) - 1)])
    rw [q7]
    clear q7
    refine kq _ _ ⟨hi, s6.trans s7, ?_⟩
    have nx : (halfQ N (metsQ gs))[i]? = some (t, plcQ (bodAt gs (N - 1 + k)) t, N - 1 + k) := by
      rw [mq, List.getElem?_map, hk]
      rfl
    rw [take_snoc nx]
    have ek : (0 + (k : Int) - 1) = (((N - 1 + k : Nat)) : Int) - (N : Int) := by omega
    rw [ek] at e7
    exact Al2.snoc (hfs_same hy s7) ⟨p7, r2, a, rfl, SqT.of e7, Kw.Same.tup (s6.trans s7) g25, Kw.Same.tup (s346.trans s7) ga⟩
  rintro zs H6' ⟨_, s6', hyz⟩ r5 hr5
  have en : (halfQ N (metsQ gs)).take (numW (nW N gs)).length = halfQ N (metsQ gs) := List.take_of_length_le (by rw [mq, List.length_map, len]; exact Nat.le_refl _)
  rw [en] at hyz
  obtain ⟨H6, q6, s6, e6⟩ := newO hr5 (.lst zs)
  rw [q6]
  clear q6
  have s56 := s6'.trans s6
  have s36 := s334.trans (s5.trans s56)
  have e36 := s36 _ _ e3
  have e46 := s56 _ _ e5
  have al36 := bds_same al3 s36
  have nt6 : NoT [r3] H6 := NoT.lst e36 NoT.nil
  have r43 : r4 ≠ r3 := fun z => by rw [z, e334] at hr4; cases hr4
  have r53 : r5 ≠ r3 := fun z => by rw [z, (s334.trans (s5.trans s6')) _ _ e3] at hr5; cases hr5
  refine ⟨_, rfl, r4, rfl, ⟨_, SqL.of e46⟩, for_list (K := K) (a := r4) (xs := numW (nW N gs)) (fun i σ1 H'' => ∃ (u7 : Option V) (ys : List V), σ1 = [some (.ref pn), some (.ref p), some (.ref pd), some (.ref r2), some (.ref r3), some (.ref p34), some (.ref r4), u7, some (.ref r5)] ∧ But r3 H6 H'' ∧ H'' r3 = some (.lst ys) ∧ Al2 (BdQ K H'' 3340) ys (((nW N gs).take i).foldl partW (RT gs N t))) ⟨_, ys3, rfl, But.refl _, e36, al36⟩ (by rintro _ _ _ _ ⟨_, _, _, g, _⟩; exact SqL.of (g _ _ r43 e46)) ?_ ?_⟩
  · rintro i x σ1 H7 hx ⟨u7, ys, rfl, s7, e7, al7⟩
    obtain ⟨k, hk, rfl⟩ := nget hx
    have mk := List.mem_of_getElem? hk
    obtain ⟨lk, ml⟩ := mem_nW.mp mk
    obtain ⟨b0, b1⟩ := foldW_same ncr (X := RT gs N t) (RT_len lg) hk
    have lf : (((nW N gs).take i).foldl partW (RT gs N t)).length = N := by rw [foldW_len, RT_len lg]
    refine ⟨_, rfl, _, rfl, r3, ys, _, k, _, rfl, by omega, e7, al7, by omega, (fun k1 => ?_), ?_, (fun k1 => ?_), fun H8 ys8 s8 e8 al8 => ?_⟩
    · rw [b0, b1 k1, RT_at lg lk, RT_at lg (by omega)]
      have z := lefts_same ord ct ml
      rw [show N - 1 + k = N + (k - 1) by omega, show N + (k - 1) + 1 = N + k by omega] at z
      exact z
    · rw [b0, RT_at lg lk]
      exact (c1.fb _ (List.mem_of_getElem? (bodAt_get (by omega)))).2
    · rw [b1 k1, RT_at lg (by omega)]
      exact (c1.fb _ (List.mem_of_getElem? (bodAt_get (by omega)))).2
    · refine ⟨_, ys8, rfl, s7.trans s8, e8, ?_⟩
      rw [take_snoc hk, List.foldl_append]
      exact al8
  · rintro σ1 H7 ⟨u7, ys, rfl, s7, e7, al7⟩
    rw [len, List.take_length] at al7
    have on := onW ord sym lg n1 hw ct ncr
    have al7' : Al2 (BdQ K H7 3340) ys (RT (onQ gs) N t) := by
      unfold RT
      rw [on]
      exact al7
    have bs7 : Buts [r3] H6 H7 := Buts.one s7 (List.mem_singleton.mpr rfl)
    refine ⟨_, rfl, _, rfl, _, rfl, by show 4 ≤ sizeLine; decide, ?_⟩
    intro p8 n8
    obtain ⟨H8, q8, s8, e8⟩ := newO n8 (.tup [.str "met", .ref r2, .ref r3, .ref r5])
    rw [q8]
    clear q8
    have S6 : Same H H6 := s03.trans s36
    have s37 : Same H H7 := Buts.fresh S6 bs7 (fun a ha => by rw [List.mem_singleton.mp ha]; exact n03)
    have hz7 : Al2 (HfQ K H7 N) zs (halfQ N (metsQ gs)) := Al2.imp (fun _ _ z => by
      obtain ⟨q, a, b, e, h1, h2, h3⟩ := z
      exact ⟨q, a, b, e, bs7.tup nt6 h1, bs7.tup nt6 h2, bs7.tup nt6 h3⟩) (hfs_same hyz s6)
    exact km t ct ncr p8 r2 r3 r5 ys zs H8 (s37.trans s8) (SqT.of e8) (Kw.Same.tup s8 (bs7.tup nt6 (Kw.Same.tup s56 g25))) dt (s8 _ _ e7) (bds_same al7' s8) (s8 _ _ (s7 _ _ r53 e6)) (hfs_same hz7 s8)
noncomputable def sp_law_run (K : PySem.W.Frag) : Sp := fun vs H Q _ => ∃ (p : Addr) (xs : List V) (gs : List Bod) (N : Nat) (m : Nat), vs = [.ref p, .int (m : Int)] ∧ H p = some (.lst xs) ∧ Al2 (BdQ K H 1110) xs (gs.drop N) ∧ 1 ≤ N ∧ N ≤ 12 ∧ gs.length = 2 * N ∧ mirL gs = gs ∧ OrdT gs 0 ∧ (∀ p ∈ gs, 1 ≤ p.2.2 ∧ p.2.2 ≤ 10000) ∧ FitS m gs ∧ m ≤ 40 ∧ ∀ (r : Addr) (wd : String) (ms : List (Rat × Rat × Nat)) (es : List Bod) (last : Rat) (H1 : Hp), Same H H1 → RunQ gs 0 m wd ms es last → Dp K H1 (.ref r) (wlD N wd ms (es.map (atT last)) last) → Q (.ref r) H1
theorem sc_law_run : FnScope ["_law_world_here", "_law_most", "_law_moment", "_law_bodies", "_law_met", "_law_turn", "_law_told"] ["_law_world_here", "_law_most"] (defScope (top 57)) := ⟨rfl, rfl, rfl, by decide +kernel, rfl, by decide +kernel, by decide +kernel⟩
theorem ok_law_run (D : Df K mg "_law_run" (top 57) ["_law_world_here", "_law_most"]) (T : Tx K mg CK C) (F_law_step : Fn P w K mg base 4 "_law_step" ["_law_moment", "_law_bodies"] (sp_law_step K)) (F_law_ahead : Fn P w K mg base 3 "_law_ahead" ["_law_bodies"] (sp_law_ahead K)) : Fn P w K mg base 5 "_law_run" ["_law_world_here", "_law_most"] (sp_law_run K) := by
  refine D.ok0 sc_law_run (fun vs H Q E h => ?_) (fun f cdv A outer s H vs Q E hr h => ?_)
  · obtain ⟨p, xs, gs, N, m, rfl, _⟩ := h
    rfl
  obtain ⟨p, xs, gs, N, m, rfl, hp, al, hN1, hN12, lg, sym, ord, hw, fit, m40, k⟩ := h
  refine ⟨_, (pss_cons (ps_par3 (i := 2) (j := 3) (k := 4) rfl sc_law_run.nd rfl rfl rfl (by decide) (by decide) (by decide) rfl rfl rfl (pa_cons (pe_tup (pa_cons pe_int (pa_cons pe_int pa_nil))) (pa_cons (pe_callTy call_list_of (by rfl) T.b_list PyProof.Rows.Boot.«list» (pa_cons (pv 0) pa_nil)) (pa_cons (pe_lst pa_nil) pa_nil))) rfl)
      (pss_cons (ps_for PassesOwn.never rfl (pi_range1 (by rfl) T.b_range (pa_cons (pv 1) pa_nil)) (pg_name (i := 5) sc_law_run.nd rfl (Or.inl rfl)) (pss_cons (ps_set (i := 6) sc_law_run.nd rfl (Or.inl rfl) (pe_fn F_law_step (by decide) hr (by rfl) passE0 (pa_cons (pv 2) (pa_cons (pe_callTy call_list_of (by rfl) T.b_list PyProof.Rows.Boot.«list» (pa_cons (pv 3) pa_nil)) pa_nil))))
      (pss_cons (ps_if (pt_cmpR op_ne (pe_ix ix_tup (pv 6) pe_int (fun _ _ => rfl)) pe_str (nomark _)) (pss_one (ps_ret (pe_tup (pa_cons (pe_ix ix_tup (pv 6) pe_int (fun _ _ => rfl)) (pa_cons (pv 4) (pa_cons (pv 3) (pa_cons (pv 2) pa_nil))))))) pss_nil)
      (pss_one (ps_par3 (i := 2) (j := 3) (k := 4) rfl sc_law_run.nd rfl rfl rfl (by decide) (by decide) (by decide) rfl rfl rfl (pa_cons (pe_ix ix_tup (pv 6) pe_int (fun _ _ => rfl)) (pa_cons (pe_ix ix_tup (pv 6) pe_int (fun _ _ => rfl)) (pa_cons (pe_op op_cat (pv 4) (pe_ix ix_tup (pv 6) pe_int (fun _ _ => rfl))) pa_nil))) rfl)))))
      (pss_cons (ps_if (pt_cmpR op_isN (pe_fn F_law_ahead (by decide) hr (by rfl) passE0 (pa_cons (pv 3) pa_nil)) pe_non (nomark _)) (pss_one (ps_ret (pe_tup (pa_cons pe_str (pa_cons (pv 4) (pa_cons (pv 3) (pa_cons (pv 2) pa_nil))))))) pss_nil)
      (pss_one (ps_ret (pe_tup (pa_cons pe_str (pa_cons (pv 4) (pa_cons (pv 3) (pa_cons (pv 2) pa_nil)))))))))), ?_⟩
  refine ⟨by show 2 ≤ sizeLine; decide, ?_⟩
  intro p1 n1
  obtain ⟨H1, q1, s1, e1⟩ := newO n1 (.tup [.int 0, .int 1])
  rw [q1]
  clear q1
  refine ⟨_, rfl, p, xs, rfl, .inl (SqL.of (s1 _ _ hp)), ?_⟩
  intro p2 n2
  obtain ⟨H2, q2, s2, e2⟩ := newO n2 (.lst xs)
  rw [q2]
  clear q2
  refine ⟨by show 0 ≤ sizeLine; decide, ?_⟩
  intro p3 n3
  obtain ⟨H3, q3, s3, e3⟩ := newO n3 (.lst [])
  rw [q3]
  clear q3
  refine ⟨_, _, _, rfl, ?_⟩
  have s14 := s2.trans s3
  have s04 := s1.trans s14
  have g1 : FQ K H3 p1 0 := FQ.cast (FQ.ofInt (SqT.of (s14 _ _ e1))) rfl
  have d1 : FB 1111 (0 : Rat) := (FB.ofInt (n := 64) (Bd.small (i := 0) (by decide) (by decide)) (by decide)).mono (by decide)
  have e24 := s3 _ _ e2
  have e34 := e3
  have al4 : Al2 (BdQ K H3 3340) xs (RT gs N 0) := by
    unfold RT
    rw [sft_zero]
    exact bds_mono (bds_same al s04) (by decide)
  refine ⟨_, rfl, _, rfl, by omega, by omega, for_range (n := m) (fun i σ1 H' => ∃ (pn pb pm : Addr) (u5 u6 : Option V) (ys zs : List V) (gk : List Bod) (now : Rat) (ms : List (Rat × Rat × Nat)), σ1 = [some (.ref p), some (.int (m : Int)), some (.ref pn), some (.ref pb), some (.ref pm), u5, u6] ∧ Same H H' ∧ FQ K H' pn now ∧ FB 1111 now ∧ H' pb = some (.lst ys) ∧ Al2 (BdQ K H' 3340) ys (RT gk N now) ∧ mirL gk = gk ∧ H' pm = some (.lst zs) ∧ Al2 (HfQ K H' N) zs (halfQ N ms) ∧ gk.length = gs.length ∧ OrdT gk now ∧ (∀ b ∈ gk, 1 ≤ b.2.2 ∧ b.2.2 ≤ 10000) ∧ FitS (m - i) gk ∧ ms.length ≤ 24 * i ∧ ∀ wd ms' es last, RunQ gk now (m - i) wd ms' es last → RunQ gs 0 m wd (ms ++ ms') es last) ⟨p1, p2, p3, _, _, xs, [], gs, 0, [], rfl, s04, g1, d1, e24, al4, sym, e34, trivial, rfl, ord, hw, fit, Nat.zero_le _, fun _ _ _ _ r => r⟩ ?_ ?_⟩
  · rintro i σ1 H5 hi ⟨pn, pb, pm, u5, u6, ys, zs, gk, now, ms, rfl, s5, gn, dn, hb, alb, sk, hm, alm, ln, ok, wk, fk, lm, go⟩
    obtain ⟨dd, hdd⟩ : ∃ dd, m - i = dd + 1 := ⟨m - i - 1, by omega⟩
    rw [hdd] at fk go
    have lz := Al2.len alm
    have lq : (halfQ N ms).length ≤ ms.length := List.length_filter_le _ _
    refine ⟨_, rfl, _, rfl, pb, ys, rfl, .inl (SqL.of hb), ?_⟩
    intro p6 n6
    obtain ⟨H6, q6, s6, e6⟩ := newO n6 (.lst ys)
    rw [q6]
    clear q6
    have gn6 := Kw.Same.tup s6 gn
    have tail : ∀ (wd : String) (r : Addr) (v1 v2 v3 : V) (H7 : Hp), Same H6 H7 → SqT K H7 r [.str wd, v1, v2, v3] → RunQ gk now (dd + 1) wd [] gk now → ∀ (q : Addr) (H8 : Hp), Same H7 H8 → H8 q = some (.tup [.str wd, .ref pm, .ref pb, .ref pn]) → Q (.ref q) H8 := fun wd r v1 v2 v3 H7 s7 hr7 rq q H8 s8 e8 => by
      have s58 := s6.trans (s7.trans s8)
      have fin := go wd [] gk now rq
      rw [List.append_nil] at fin
      exact k q wd ms gk now H8 (s5.trans s58) fin (.tup (SqT.of e8) (.cons (.str _) (.cons (.lst (SqL.of (s58 _ _ hm)) (hfs_dp (hfs_same alm s58))) (.cons (.lst (SqL.of (s58 _ _ hb)) (bds_dp (bds_same alb s58))) (.cons (FQ.dp (Kw.Same.tup s58 gn)) .nil)))))
    refine ⟨pn, p6, ys, gk, N, now, 930, rfl, gn6, dn, e6, bds_same alb s6, hN1, hN12, by omega, sk, ok, wk, fk.1, by decide, fun ct r v1 v2 v3 H7 s7 hr7 => ?_, fun t ct cc r v1 v2 v3 H7 s7 hr7 => ?_, fun t ct nc r pt th pm' ys' zs' H7 s7 hr7 gt dt hth alth hpm alpm => ?_⟩
    · refine ⟨_, rfl, r, _, _, _, rfl, rfl, hr7, rfl, rfl, _, rfl, iteT ?_⟩
      refine ⟨_, rfl, r, _, _, _, rfl, rfl, hr7, rfl, _, rfl, _, rfl, _, rfl, by show 4 ≤ sizeLine; decide, ?_⟩
      intro p8 n8
      obtain ⟨H8, q8, s8, e8⟩ := newO n8 (.tup [.str "still", .ref pm, .ref pb, .ref pn])
      rw [q8]
      clear q8
      exact tail "still" r _ _ _ H7 s7 hr7 (.still ct) p8 H8 s8 e8
    · refine ⟨_, rfl, r, _, _, _, rfl, rfl, hr7, rfl, rfl, _, rfl, iteT ?_⟩
      refine ⟨_, rfl, r, _, _, _, rfl, rfl, hr7, rfl, _, rfl, _, rfl, _, rfl, by show 4 ≤ sizeLine; decide, ?_⟩
      intro p8 n8
      obtain ⟨H8, q8, s8, e8⟩ := newO n8 (.tup [.str "crowd", .ref pm, .ref pb, .ref pn])
      rw [q8]
      clear q8
      exact tail "crowd" r _ _ _ H7 s7 hr7 (.crowd ct cc) p8 H8 s8 e8
    · refine ⟨_, rfl, r, _, _, _, rfl, rfl, hr7, rfl, rfl, _, rfl, iteF ?_⟩
      have hm7 := (s6.trans s7) _ _ hm
      have lz' := Al2.len alpm
      have lq2 : (halfQ N (metsQ gk)).length ≤ (metsQ gk).length := List.length_filter_le _ _
      have lm' : (metsQ gk).length ≤ 24 := by
        have few := lefts_few24 (gs := gk) (by omega)
        unfold metsQ
        split
        · exact Nat.zero_le _
        · rw [List.length_map]
          exact few
      refine ⟨_, rfl, r, _, _, _, rfl, rfl, hr7, rfl, _, rfl, r, _, _, _, rfl, rfl, hr7, rfl, _, rfl, _, rfl, r, _, _, _, rfl, rfl, hr7, rfl, pm, pm', zs, zs', rfl, rfl, hm7, hpm, Nat.le_trans (show zs.length + zs'.length ≤ 24 * 41 by omega) (by decide), ?_⟩
      intro p8 n8
      obtain ⟨H8, q8, s8, e8⟩ := newO n8 (.lst (zs ++ zs'))
      rw [q8]
      clear q8
      refine ⟨_, _, _, rfl, ?_⟩
      have s79 := s8
      have s59 := s6.trans (s7.trans s79)
      refine ⟨pt, th, p8, _, _, ys', zs ++ zs', onQ gk, t, ms ++ metsQ gk, rfl, s5.trans s59, Kw.Same.tup s79 gt, dt, s79 _ _ hth, bds_same alth s79, sym_on sk nc, e8, (by rw [half_app]; exact al_app (hfs_same alm s59) (hfs_same alpm s79)), by rw [on_len]; exact ln, ord_on ok ct nc wk, on_w wk, ?_, by rw [List.length_append]; omega, fun wd ms' es last r => ?_⟩
      · rw [show m - (i + 1) = dd by omega]
        exact fk.2 t ct nc
      · rw [show m - (i + 1) = dd by omega] at r
        have z := go wd _ es last (.step ct nc r)
        rw [← List.append_assoc] at z
        exact z
  · rintro σ1 H5 ⟨pn, pb, pm, u5, u6, ys, zs, gk, now, ms, rfl, s5, gn, dn, hb, alb, sk, hm, alm, ln, ok, wk, fk, lm, go⟩
    rw [Nat.sub_self] at fk go
    have ck := fk.com
    refine ⟨_, rfl, pb, ys, RT gk N now, rfl, hb, alb, fun b hb' => ?_, by rw [RT_len (by omega)]; exact hN1, by rw [RT_len (by omega)]; exact hN12, fun v H6 s6 ov => ?_⟩
    · obtain ⟨b', hb2, rfl⟩ := List.mem_map.mp (List.mem_of_mem_drop hb')
      exact (ck.fb b' hb2).2
    have cw : lstW (RT gk N now) ((RT gk N now).length - 1) = (cmng gk).map (· - now) := by
      rw [RT_len (by omega), ← cmng_sft]
      exact cmngW (sym_sft sk now) (by rw [List.length_map]; omega) hN1
    rw [cw] at ov
    have tail : ∀ (wd : String), RunQ gk now 0 wd [] gk now → ∀ (q : Addr) (H8 : Hp), Same H6 H8 → H8 q = some (.tup [.str wd, .ref pm, .ref pb, .ref pn]) → Q (.ref q) H8 := fun wd rq q H8 s8 e8 => by
      have s58 := s6.trans s8
      have fin := go wd [] gk now rq
      rw [List.append_nil] at fin
      exact k q wd ms gk now H8 (s5.trans s58) fin (.tup (SqT.of e8) (.cons (.str _) (.cons (.lst (SqL.of (s58 _ _ hm)) (hfs_dp (hfs_same alm s58))) (.cons (.lst (SqL.of (s58 _ _ hb)) (bds_dp (bds_same alb s58))) (.cons (FQ.dp (Kw.Same.tup s58 gn)) .nil)))))
    refine ⟨rfl, _, rfl, ?_⟩
    rcases ov with ⟨e0, rfl⟩ | ⟨d, pd, ed, rfl, gd, _⟩
    · refine if_dec (fun _ => ?_) (fun c => absurd rfl c)
      refine ⟨_, rfl, _, rfl, _, rfl, by show 4 ≤ sizeLine; decide, ?_⟩
      intro p8 n8
      obtain ⟨H8, q8, s8, e8⟩ := newO n8 (.tup [.str "still", .ref pm, .ref pb, .ref pn])
      rw [q8]
      clear q8
      exact tail "still" (.still (Option.map_eq_none_iff.mp e0)) p8 H8 s8 e8
    · refine if_dec (fun c => nomatch c) (fun _ => ?_)
      obtain ⟨t, ct, _⟩ := Option.map_eq_some_iff.mp ed
      refine ⟨_, rfl, _, rfl, _, rfl, by show 4 ≤ sizeLine; decide, ?_⟩
      intro p8 n8
      obtain ⟨H8, q8, s8, e8⟩ := newO n8 (.tup [.str "more", .ref pm, .ref pb, .ref pn])
      rw [q8]
      clear q8
      exact tail "more" (.more ct) p8 H8 s8 e8
noncomputable def sp_law_refused (K : PySem.W.Frag) : Sp := fun vs H Q _ => ∃ (p : Addr) (xs : List V) (bs : List Bod) (v : V), vs = [.ref p, v] ∧ H p = some (.lst xs) ∧ Al2 (BdQ K H 64) xs bs ∧ 1 ≤ bs.length ∧ bs.length ≤ 12 ∧ (((∀ b ∈ bs, 0 < b.1) ∧ NoMost K H v ∧ ∀ (r : Addr) (H1 : Hp), Same H H1 → H1 r = some (.tup [.str "many", .int 1]) → Q (.ref r) H1) ∨ ((∀ b, bs[0]? = some b → ¬ 0 < b.1) ∧ ∀ (r : Addr) (H1 : Hp), Same H H1 → H1 r = some (.tup [.str "world", .int 0]) → Q (.ref r) H1))
theorem sc_law_refused : FnScope ["_law_world_here", "_law_thing", "e"] ["_law_world_here", "_law_thing"] (defScope (top 58)) := ⟨rfl, rfl, rfl, by decide +kernel, rfl, by decide +kernel, by decide +kernel⟩
theorem ok_law_refused (D : Df K mg "_law_refused" (top 58) ["_law_world_here", "_law_thing"]) (T : Tx K mg CK C) (F_walled_run : Fn P w K mg base 9 "walled_run" ["world", "most"] (spX_walled_run K C)) : Fn P w K mg base 10 "_law_refused" ["_law_world_here", "_law_thing"] (sp_law_refused K) := by
  refine D.ok0 sc_law_refused (fun vs H Q E h => ?_) (fun f cdv A outer s0 H vs Q E hr h => ?_)
  · obtain ⟨p, xs, bs, v, rfl, _⟩ := h
    rfl
  obtain ⟨p, xs, bs, v, rfl, hp, al, l1, l12, alt⟩ := h
  refine ⟨_, (pss_cons (ps_tryG plain_nox rfl (fun E pn0 E0 hp => (pss_one (ps_expr (pe_fn F_walled_run (by decide) hr (by rfl) hp (pa_cons (pv 0) (pa_cons (pv 1) pa_nil)))))) (ph_as plain_nox rfl sc_law_refused.nd (j := 2) rfl rfl (by rfl) T.c_TooMany T.g_TooMany (fun x => (pss_one (ps_ret (pe_tup (pa_cons pe_str (pa_cons (pe_callTy call_int1 (by rfl) T.b_int PyProof.Rows.Boot.«int» (pa_cons (pe_callB (call_isinstC (K := K) rfl) (by rfl) T.b_isinstance PyProof.Rows.Boot.«isinstance» (pa_cons (pv 2) (pa_cons (pe_cls (by rfl) T.c_KnockError) pa_nil))) pa_nil)) pa_nil)))))) (ph_as plain_nox rfl sc_law_refused.nd (j := 2) rfl rfl (by rfl) T.c_NoWorld T.g_NoWorld (fun x => (pss_one (ps_ret (pe_tup (pa_cons pe_str (pa_cons (pe_xcfK (K := K) rfl (pv 2)) pa_nil)))))) ph_nil)))
      (pss_one (ps_ret pe_non))), ?_⟩
  rcases alt with ⟨ps, nm, k⟩ | ⟨np, k⟩
  · refine ⟨_, rfl, _, rfl, .inr (.inl ⟨p, xs, bs, v, rfl, hp, al, l1, l12, ps, nm, fun H1 s1 => ⟨C 0, rfl, .inl ⟨T.s_TooMany_TooMany, fun e ne => ?_⟩⟩⟩)⟩
    obtain ⟨H2, q2, s2, e2⟩ := newO ne (Xc e (C 0) none)
    rw [q2]
    clear q2
    refine ⟨_, rfl, e, C 0, none, _, _, rfl, .inr ⟨_, rfl⟩, e2, T.R.q 0 (by decide), T.R.k 0 (by decide), .inr ⟨_, rfl, by show 2 ≤ sizeLine; decide, ?_⟩⟩
    intro p9 n9
    obtain ⟨H9, q9, s9, e9⟩ := newO n9 (.tup [.str "many", .int (if true = true then 1 else 0)])
    rw [q9]
    clear q9
    exact k p9 H9 (s1.trans (s2.trans s9)) e9
  · refine ⟨_, rfl, _, rfl, .inr (.inr ⟨p, xs, bs, v, rfl, hp, al, l1, np, fun d H1 s1 hd => ⟨C 1, rfl, .inr ⟨T.z_NoWorld_TooMany, .inl ⟨T.s_NoWorld_NoWorld, fun e ne => ?_⟩⟩⟩⟩)⟩
    obtain ⟨H2, q2, s2, e2⟩ := newO ne (Xc e (C 1) (some d))
    rw [q2]
    clear q2
    refine ⟨_, rfl, e, C 1, d, _, _, rfl, e2, s2 _ _ hd, T.R.q 1 (by decide), T.R.c 1 (by decide) (by decide), T.n_NoWorld_at, rfl, by show 2 ≤ sizeLine; decide, ?_⟩
    intro p9 n9
    obtain ⟨H9, q9, s9, e9⟩ := newO n9 (.tup [.str "world", .int 0])
    rw [q9]
    clear q9
    exact k p9 H9 (s1.trans (s2.trans s9)) e9
noncomputable def wt3 (b : Bod) : Bod := (b.1, b.2.1, 1 + b.2.2 / 400)
theorem things23 {K : PySem.W.Frag} {H : Hp} {p q : Addr} {xs : List V} (hp : H p = some (.tup xs)) (hq : H q = some (.lst [.int 3])) (d : Int) (h0 : 0 ≤ d) (h9 : d < 9) : ∃ v, atI [.int (-1), .int 41, .bl true, .bl false, .non, .str "3", .ref p, .ref q, .int (3 + 10 ^ (40 : Int).toNat)] d = some v ∧ NoMost K H v := by
  rcases (show d = 0 ∨ d = 1 ∨ d = 2 ∨ d = 3 ∨ d = 4 ∨ d = 5 ∨ d = 6 ∨ d = 7 ∨ d = 8 by omega) with rfl | rfl | rfl | rfl | rfl | rfl | rfl | rfl | rfl
  · exact ⟨_, rfl, .inr ⟨_, rfl, by decide⟩⟩
  · exact ⟨_, rfl, .inr ⟨_, rfl, by decide⟩⟩
  · exact ⟨_, rfl, .inl (Odd.whn (.bl true))⟩
  · exact ⟨_, rfl, .inl (Odd.whn (.bl false))⟩
  · exact ⟨_, rfl, .inl (Odd.whn .non)⟩
  · exact ⟨_, rfl, .inl ⟨_, _, _, .str _, kit_str_int, kit_str_bool, rfl⟩⟩
  · exact ⟨_, rfl, .inl (whn_tup hp)⟩
  · exact ⟨_, rfl, .inl (whn_lst hq)⟩
  · exact ⟨_, rfl, .inr ⟨_, rfl, by decide⟩⟩
theorem things_but {K : PySem.W.Frag} {H H' : Hp} {b p q : Addr} {xs : List V} {n : Int} (s : But b H H') (hb : H b = some (.lst [.int n])) (hp : H p = some (.tup xs)) (hq : H q = some (.lst [.int 3])) (qb : q ≠ b) {d : Int} {v : V} (hv : atI [.int (-1), .int 41, .bl true, .bl false, .non, .str "3", .ref p, .ref q, .int (3 + 10 ^ (40 : Int).toNat)] d = some v) (h0 : 0 ≤ d) (h9 : d < 9) : NoMost K H' v := by
  have hp' : H' p = some (.tup xs) := s _ _ (fun z => by rw [z, hb] at hp; cases hp) hp
  obtain ⟨v', hv', bad⟩ := things23 (K := K) hp' (s _ _ qb hq) d h0 h9
  cases hv.symm.trans hv'
  exact bad
theorem sc_law : FnScope ["_law_script", "_law_k", "_law_box_here", "_law_world_here", "_law_most", "_law_due", "_law_told", "_law_thing", "_law_left", "_law_other"] ["_law_script"] (defScope (top 59)) := ⟨rfl, rfl, rfl, by decide +kernel, rfl, by decide +kernel, by decide +kernel⟩
theorem ok_law (D : Df K mg "law" (top 59) ["_law_script"]) (T : Tx K mg CK C) (F_law_box : Fn P w K mg base 2 "_law_box" ["_law_script", "_law_k"] (spBox K)) (F_law_right_of : Fn P w K mg base 4 "_law_right_of" ["_law_box_here", "_law_most"] (sp_law_right_of K)) (F_law_take : Fn P w K mg base 1 "_law_take" ["_law_box_here", "_law_many"] spTake) (F_law_run : Fn P w K mg base 5 "_law_run" ["_law_world_here", "_law_most"] (sp_law_run K)) (F_walled_run : Fn P w K mg base 9 "walled_run" ["world", "most"] (spX_walled_run K C)) (F_law_fit : Fn P w K mg base 1 "_law_fit" ["_law_top", "_law_bottom"] (sp_law_fit K)) (F_law_refused : Fn P w K mg base 10 "_law_refused" ["_law_world_here", "_law_thing"] (sp_law_refused K)) : Fn P w K mg base 11 "law" ["_law_script"] (spLaw K) := by
  refine D.ok0 sc_law (fun vs H Q E h => ?_) (fun f cdv A outer s H vs Q E hr h => ?_)
  · obtain ⟨a, rfl, _⟩ := h
    rfl
  obtain ⟨a, rfl, hS, fin⟩ := h
  refine ⟨_, (pss_cons (ps_for PassesOwn.never rfl (pi_range1 (by rfl) T.b_range (pa_cons (pe_callB (call_max2 rfl) (by rfl) T.b_max PyProof.Rows.Boot.«max» (pa_cons pe_int (pa_cons (pe_callB (call_min2 rfl) (by rfl) T.b_min PyProof.Rows.Boot.«min» (pa_cons (pe_callB call_len (by rfl) T.b_len PyProof.Rows.Boot.«len» (pa_cons (pv 0) pa_nil)) (pa_cons pe_int pa_nil))) pa_nil))) pa_nil)) (pg_name (i := 1) sc_law.nd rfl (Or.inl rfl)) (pss_cons (ps_set (i := 2) sc_law.nd rfl (Or.inl rfl) (pe_fn F_law_box (by decide) hr (by rfl) passE0 (pa_cons (pv 0) (pa_cons (pv 1) pa_nil))))
      (pss_cons (ps_set (i := 3) sc_law.nd rfl (Or.inl rfl) (pe_fn F_law_right_of (by decide) hr (by rfl) passE0 (pa_cons (pv 2) (pa_cons (pe_ix ix_list (pe_lst (pa_cons pe_int (pa_cons pe_int (pa_cons pe_int (pa_cons pe_int pa_nil))))) (pe_fn F_law_take (by decide) hr (by rfl) passE0 (pa_cons (pv 2) (pa_cons pe_int pa_nil))) (fun _ _ => rfl)) pa_nil))))
      (pss_cons (ps_set (i := 4) sc_law.nd rfl (Or.inl rfl) (pe_fn F_law_take (by decide) hr (by rfl) passE0 (pa_cons (pv 2) (pa_cons pe_int pa_nil))))
      (pss_cons (ps_if (pw_and (pt_cmpR op_lt (pe_callB call_len (by rfl) T.b_len PyProof.Rows.Boot.«len» (pa_cons (pv 3) pa_nil)) pe_int (nomark _)) (pw_and1 (pt_cmpR op_eq (pe_fn F_law_take (by decide) hr (by rfl) passE0 (pa_cons (pv 2) (pa_cons pe_int pa_nil))) pe_int (nomark _)))).pt (pss_cons (ps_set (i := 4) sc_law.nd rfl (Or.inl rfl) pe_int)
      (pss_one (@ps_lc _ _ _ _ _ _ _ _ _ _ [] [] 3 _ _ _ sc_law.nd rfl rfl rfl rfl (pi_list (pv 3)) rfl (by decide) rfl (by decide) rfl (by decide) cap_none (fun _ _ h => nomatch h) (no_free rfl) (fun C z Hc fp => (pe_tup (pa_cons (pe_ix (ixT (K := K) rfl) (pv 0) pe_int (fun _ _ => rfl)) (pa_cons (pe_ix (ixT (K := K) rfl) (pv 0) pe_int (fun _ _ => rfl)) (pa_cons (pe_op op_add pe_int (pe_op op_fdivB (pe_ix (ixT (K := K) rfl) (pv 0) pe_int (fun _ _ => rfl)) pe_int)) pa_nil))))) (fun _ => rfl)))) pss_nil)
      (pss_cons (ps_set (i := 5) sc_law.nd rfl (Or.inl rfl) (pe_fn F_law_run (by decide) hr (by rfl) passE0 (pa_cons (pv 3) (pa_cons (pv 4) pa_nil))))
      (pss_cons (ps_set (i := 6) sc_law.nd rfl (Or.inl rfl) (pe_fn F_walled_run (by decide) hr (by rfl) passE0 (pa_cons (pv 3) (pa_cons (pv 4) pa_nil))))
      (pss_cons (ps_if (pw_or (pt_not (pt_val (pe_callB (call_isiTup (K := K) rfl) (by rfl) T.b_isinstance PyProof.Rows.Boot.«isinstance» (pa_cons (pv 6) (pa_cons (pe_bty (by rfl) T.b_tuple PyProof.Rows.Boot.«tuple») pa_nil))) (fun _ => rfl))) (pw_or1 (pt_cmpR (op_neA (K := K) rfl (u100 hr)) (pv 6) (pv 5) (nomark _)))).pt (pss_one (ps_ret pe_bl)) pss_nil)
      (pss_cons (ps_expr (pe_bm PySem.F.plainAttrs_list PySem.F.slot_list_append PySem.F.type_list_append mt_append (pe_ix ix_tup (pv 6) pe_int (fun _ _ => rfl)) (pa_cons pe_int pa_nil)))
      (pss_cons (ps_expr (pe_bm0 PySem.F.plainAttrs_list PySem.F.slot_list_clear PySem.F.type_list_clear mt_clear (pe_ix ix_tup (pv 6) pe_int (fun _ _ => rfl))))
      (pss_cons (ps_if (pt_cmpR (op_neA (K := K) rfl (u100 hr)) (pe_fn F_walled_run (by decide) hr (by rfl) passE0 (pa_cons (pv 3) (pa_cons (pv 4) pa_nil))) (pv 5) (nomark _)) (pss_one (ps_ret pe_bl)) pss_nil)
      (pss_cons (@ps_set _ _ 7 _ _ _ _ sc_law.nd rfl (Or.inl rfl) (@pe_ix _ _ _ _ _ _ _ ix_list (@pe_lst _ _ _ _ (@pa_cons _ _ _ _ _ (@pe_un _ _ _ _ _ _ un_neg pe_int) (@pa_cons _ _ _ _ _ pe_int (@pa_cons _ _ _ _ _ pe_bl (@pa_cons _ _ _ _ _ pe_bl (@pa_cons _ _ _ _ _ pe_non (@pa_cons _ _ _ _ _ pe_str (@pa_cons _ _ _ _ _ (@pe_tup _ _ _ _ _ (@pa_cons _ _ _ _ _ pe_int (@pa_cons _ _ _ _ _ pe_int pa_nil rfl) rfl)) (@pa_cons _ _ _ _ _ (@pe_lst _ _ _ _ (@pa_cons _ _ _ _ _ pe_int pa_nil rfl)) (@pa_cons _ _ _ _ _ (@pe_op _ _ _ _ _ _ _ _ op_add pe_int (@pe_op _ _ _ _ _ _ _ _ op_pow pe_int pe_int)) pa_nil rfl) rfl) rfl) rfl) rfl) rfl) rfl) rfl) rfl)) (pe_fn F_law_take (by decide) hr (by rfl) passE0 (@pa_cons _ _ _ _ _ (pv 2) (@pa_cons _ _ _ _ _ pe_int pa_nil rfl) rfl)) (fun _ _ => rfl)) rfl (by first | exact .inl rfl | exact .inr rfl))
      (pss_cons (ps_set (i := 8) sc_law.nd rfl (Or.inl rfl) (pe_fn F_law_fit (by decide) hr (by rfl) passE0 (pa_cons (pe_op op_sub pe_int (pe_fn F_law_take (by decide) hr (by rfl) passE0 (pa_cons (pv 2) (pa_cons pe_int pa_nil)))) (pa_cons (pe_op op_add pe_int (pe_fn F_law_take (by decide) hr (by rfl) passE0 (pa_cons (pv 2) (pa_cons pe_int pa_nil)))) pa_nil))))
      (pss_cons (ps_set (i := 9) sc_law.nd rfl (Or.inl rfl) (pe_op op_cat (pe_lst (pa_cons (pe_tup (pa_cons (pv 8) (pa_cons (pe_ix ix_tup (pe_ix ix_list (pv 3) pe_int (fun _ _ => rfl)) pe_int (fun _ _ => rfl)) (pa_cons (pe_ix ix_tup (pe_ix ix_list (pv 3) pe_int (fun _ _ => rfl)) pe_int (fun _ _ => rfl)) pa_nil)))) pa_nil)) (pe_slice sl_list (pv 3) (po_some pe_int) po_none)))
      (pss_cons (ps_if (pt_cmpR (op_neA (K := K) rfl (u100 hr)) (pe_fn F_law_refused (by decide) hr (by rfl) passE0 (pa_cons (pv 3) (pa_cons (pv 7) pa_nil))) (pe_tup (pa_cons pe_str (pa_cons pe_int pa_nil))) (nomark _)) (pss_one (ps_ret pe_bl)) pss_nil)
      (pss_one (ps_if (pw_or (pt_cmpR (op_neA (K := K) rfl (u100 hr)) (pe_fn F_law_refused (by decide) hr (by rfl) passE0 (pa_cons (pv 9) (pa_cons (pv 7) pa_nil))) (pe_tup (pa_cons pe_str (pa_cons pe_int pa_nil))) (nomark _)) (pw_or1 (pt_cmpR (op_neA (K := K) rfl (u100 hr)) (pe_fn F_law_refused (by decide) hr (by rfl) passE0 (pa_cons (pv 9) (pa_cons pe_int pa_nil))) (pe_tup (pa_cons pe_str (pa_cons pe_int pa_nil))) (nomark _)))).pt (pss_one (ps_ret pe_bl)) pss_nil)))))))))))))))))
      (pss_one (ps_ret pe_bl))), ?_⟩
  obtain ⟨ns, hL, h63, _⟩ := id hS
  refine ⟨_, rfl, _, _, rfl, .inl ⟨_, hL, rfl⟩, _, _, rfl, _, _, rfl, _, rfl, ?_⟩
  obtain ⟨m, hme, m1, m8⟩ := most_of ns 2 (by decide)
  rw [hme]
  have sm9 : ∀ i : Int, -(2 ^ 64) < i → i < 2 ^ 64 → Bd 9000 i := fun i h1 h2 => (Bd.small h1 h2).mono (by decide)
  refine ⟨by omega, by omega, for_range (n := m.toNat) (fun i σ' H' => ∃ r1 r2 r3 r4 r5 r6 r7 r8 r9 : Option V, σ' = [some (.ref a), r1, r2, r3, r4, r5, r6, r7, r8, r9] ∧ Same H H') ⟨_, _, _, _, _, _, _, _, _, rfl, Same.refl _⟩ ?_ ?_⟩
  · rintro i σ0 H0 hi ⟨r1, r2, r3, r4, r5, r6, r7, r8, r9, rfl, sm⟩
    refine ⟨_, rfl, _, rfl, a, _, rfl, Scr.same hS sm, by omega, by omega, fun b nb Hb hb0 sb hb => ?_⟩
    refine ⟨_, rfl, by show 4 ≤ sizeLine; decide, ?_⟩
    intro p21 n21
    obtain ⟨H21, q21, s21, e21⟩ := newO n21 (.lst [.int (3 : Int), .int (4 : Int), .int (5 : Int), .int (12 : Int)])
    rw [q21]
    clear q21
    have hb21 := s21 _ _ hb
    have ap21 : p21 ≠ b := Ne.symm (ne_of_none hb n21)
    refine ⟨_, rfl, b, 4, _, rfl, hb21, by decide, sm9 _ (by decide) (by decide), fun d22 n22 H22 lo22 hi22 s22 hb22 => ?_⟩
    obtain ⟨v22, ev22, mv22⟩ := atI_mem ([(3 : Int), (4 : Int), (5 : Int), (12 : Int)] : List Int) d22 (by omega) (by show _ < (4 : Int); omega)
    have bv22 : 3 ≤ v22 ∧ v22 ≤ 12 := (show ∀ z ∈ ([(3 : Int), (4 : Int), (5 : Int), (12 : Int)] : List Int), 3 ≤ z ∧ z ≤ 12 by decide +kernel) v22 mv22
    refine ⟨p21, _, _, _, rfl, rfl, SqL.of (s22 _ _ ap21 e21), ev22, b, n22, v22, rfl, hb22, by omega, by omega, fun f xs bs n2 H2 s2 nf nfb hb2 hf2 al2 l1 l12 asc hw six s72 ps => ?_⟩
    have hz := Al2.len al2
    refine ⟨_, rfl, b, 7, _, rfl, hb2, by decide, sm9 _ (by decide) (by decide), fun d3 n3 H3 lo3 hi3 s3 hb3 => ?_⟩
    obtain ⟨mo, emo⟩ : ∃ mo : Nat, d3 = (mo : Int) := ⟨d3.toNat, by omega⟩
    subst emo
    have hf3 := s3 _ _ nfb hf2
    have al3 := bds_but al2 s3 hb2
    have wok : ∀ q ∈ bs, 1 ≤ q.2.2 ∧ q.2.2 ≤ 10000 := bds_w al2
    have fr : ∀ q ∈ bs, Frn 432 500000000 q.1 ∧ Frn 432 500000000 q.2.1 := fun q hq => ⟨(((six q hq).frn).up).mono (by decide), ((s72 q hq).up).mono (by decide)⟩
    have l12' : bs.length ≤ 12 := by omega
    have comG : Com 30 (mirQ bs ++ bs) := com_mir24 six s72
    have wG := w_mir24 wok
    have lG : (mirQ bs ++ bs).length = 2 * bs.length := by rw [List.length_append, mir_len]; omega
    refine g_go ?_
    dsimp only
    refine cut1 (fun σ' H' => ∃ (f' : Addr) (xs' : List V) (bs' : List Bod) (mo' : Nat) (nb' : Int), σ' = [some (.ref a), some (.int (0 + (i : Int))), some (.ref b), some (.ref f'), some (.int (mo' : Int)), r5, r6, r7, r8, r9] ∧ But b H2 H' ∧ H' b = some (.lst [.int nb']) ∧ H' f' = some (.lst xs') ∧ f' ≠ b ∧ Al2 (BdQ K H' 64) xs' bs' ∧ 1 ≤ bs'.length ∧ bs'.length ≤ 12 ∧ Asc bs' ∧ (∀ q ∈ bs', 0 < q.1) ∧ FitS mo' (mirQ bs' ++ bs') ∧ mo' ≤ 40) (fun N hN => ?_) ?_
    · have plain : ∀ (H' : Hp) (n' : Int), But b H3 H' → H' b = some (.lst [.int n']) → N [some (.ref a), some (.int (0 + (i : Int))), some (.ref b), some (.ref f), some (.int (mo : Int)), r5, r6, r7, r8, r9] H' := fun H' n' s' hb' =>
        hN _ _ ⟨f, xs, bs, mo, n', rfl, s3.trans s', hb', s' _ _ nfb hf3, nfb, bds_but al3 s' hb3, l1, l12', asc, ps, fits24 mo comG wG (by rw [lG]; omega) (by omega), by omega⟩
      refine ⟨_, rfl, _, _, rfl, .inl ⟨_, SqL.of hf3, rfl⟩, _, _, rfl, rfl, _, rfl, ?_⟩
      refine if_dec (fun c5 => ?_) (fun _ => iteF (plain _ _ (But.refl _) hb3))
      refine ⟨_, rfl, b, 4, _, rfl, hb3, by decide, sm9 _ (by decide) (by decide), fun d4 n4 H4 lo4 hi4 s4 hb4 => ?_⟩
      refine ⟨rfl, _, rfl, ?_⟩
      refine if_decI (fun c6 => ?_) (fun _ => plain _ _ s4 hb4)
      have hf4 := s4 _ _ nfb hf3
      have al4 := bds_but al3 s4 hb3
      refine ⟨_, rfl, f, rfl, ⟨_, SqL.of hf4⟩, lc_list (K := K) (xs := xs) (fun i ys H' => i ≤ xs.length ∧ Same H4 H' ∧ Al2 (BdQ K H' 64) ys ((bs.take i).map wt3)) ⟨Nat.zero_le _, Same.refl _, trivial⟩ (by rw [hz]; exact Nat.le_trans l12' (by decide)) (fun i ys H1 z => by obtain ⟨l, _, e⟩ := z; have := Al2.len e; simp at this; omega) (fun i ys H1 z => by obtain ⟨_, g, _⟩ := z; exact SqL.of (g _ _ hf4)) ?_ ?_⟩
      · rintro i x ys H6 Q6 hx ⟨hl, s6, hy⟩ kq
        have hi : i < xs.length := (List.getElem?_eq_some_iff.mp hx).1
        obtain ⟨c, hc, p2, a2, c2, rfl, e1, e2, e3, d1, d2, v1, v2⟩ := Al2.get (bds_same al4 s6) hx
        refine ⟨_, rfl, p2, _, _, _, rfl, rfl, e1, rfl, _, rfl, p2, _, _, _, rfl, rfl, e1, rfl, _, rfl, p2, _, _, _, rfl, rfl, e1, rfl, _, _, rfl, rfl, ⟨by decide, by decide +kernel⟩, _, _, rfl, rfl, by show 3 ≤ sizeLine; decide, ?_⟩
        intro p7 n7
        obtain ⟨H7, q7, s7, e7⟩ := newO n7 (.tup [.ref a2, .ref c2, .int (1 + c.2.2.fdiv 400)])
        rw [q7]
        clear q7
        rw [Int.fdiv_eq_ediv_of_nonneg _ (by decide)] at e7
        refine kq _ _ ⟨hi, s6.trans s7, ?_⟩
        rw [take_snoc hc, List.map_append]
        exact Al2.snoc (bds_same hy s7) ⟨p7, a2, c2, rfl, SqT.of e7, Kw.Same.tup s7 e2, Kw.Same.tup s7 e3, d1, d2, (by show 1 ≤ 1 + c.2.2 / 400; omega), (by show 1 + c.2.2 / 400 ≤ 10000; omega)⟩
      rintro ys H6 ⟨_, s6, hy⟩ pl hpl
      rw [hz, List.take_length] at hy
      obtain ⟨H7, q7, s7, e7⟩ := newO hpl (.lst ys)
      rw [q7]
      clear q7
      have plb : pl ≠ b := fun z => by rw [z, s6 _ _ hb4] at hpl; cases hpl
      have s47 := s6.trans s7
      have w3 : ∀ q ∈ bs.map wt3, 1 ≤ q.2.2 ∧ q.2.2 ≤ 3 := fun q hq => by
        obtain ⟨q', hq', rfl⟩ := List.mem_map.mp hq
        have := wok q' hq'
        have := hw q' hq'
        show 1 ≤ 1 + q'.2.2 / 400 ∧ 1 + q'.2.2 / 400 ≤ 3
        omega
      have com3 : Com 30 (mirQ (bs.map wt3) ++ bs.map wt3) := com_mir24 (fun q hq => by obtain ⟨q', hq', rfl⟩ := List.mem_map.mp hq; exact six q' hq') (fun q hq => by obtain ⟨q', hq', rfl⟩ := List.mem_map.mp hq; exact s72 q' hq')
      have w3G : ∀ q ∈ mirQ (bs.map wt3) ++ bs.map wt3, 1 ≤ q.2.2 ∧ q.2.2 ≤ 3 := fun q hq => by
        rcases List.mem_append.mp hq with hq | hq
        · obtain ⟨q', hq', rfl⟩ := List.mem_map.mp hq
          exact w3 q' (List.mem_reverse.mp hq')
        · exact w3 q hq
      have ps3 : ∀ q ∈ bs.map wt3, 0 < q.1 := fun q hq => by
        obtain ⟨q', hq', rfl⟩ := List.mem_map.mp hq
        exact ps q' hq'
      have ll : (bs.map wt3).length = bs.length := List.length_map _
      exact hN _ _ ⟨pl, ys, bs.map wt3, 40, n4, rfl, s3.trans (s4.trans (But.of s47)), s47 _ _ hb4, e7, plb, bds_same hy s7, by omega, by omega, asc.of_places (by rw [List.map_map]; rfl), ps3, fits_small 40 com3 w3G (by rw [List.length_append, mir_len]; omega) (by decide), by decide⟩
    rintro σ' H4 ⟨f', xs', bs', mo', nb', rfl, t24, hb4, hf4, nfb', al4, l1', l12', asc', ps', fit, m40⟩
    have lG' : (mirQ bs' ++ bs').length = 2 * bs'.length := by rw [List.length_append, mir_len]; omega
    have dG : (mirQ bs' ++ bs').drop bs'.length = bs' := by
      rw [List.drop_append_of_le_length (by rw [mir_len]; exact Nat.le_refl _), List.drop_of_length_le (by rw [mir_len]; exact Nat.le_refl _), List.nil_append]
    have symG : mirL (mirQ bs' ++ bs') = mirQ bs' ++ bs' := both_sym bs'
    have wG' := w_mir24 (bds_w al4)
    refine ⟨_, rfl, _, rfl, f', xs', mirQ bs' ++ bs', bs'.length, mo', rfl, hf4, (by rw [dG]; exact bds_mono al4 (by decide)), l1', l12', lG', symG, ord_start (asc_mir24 asc' ps'), wG', fit, m40, fun q5 wd ms es last H5 s5 rq due => ?_⟩
    have hf5 := s5 _ _ hf4
    have al5 := bds_same al4 s5
    have few := run_fewN (N := 12) rq (by omega)
    refine ⟨_, rfl, _, rfl, .inl ⟨f', xs', bs', mo', rfl, hf5, al5, l1', l12', ps', m40, fit.fit16, fun q7 wd1 ms1 es1 last1 H7 s7 rq1 told1 => ?_⟩⟩
    obtain ⟨rfl, rfl, rfl, rfl⟩ := rq.one rq1
    obtain ⟨rr, rb, rn, zs, ws, t1, t2, t3, t4, t5, t6, t7, rne, nrr, nrb⟩ := id told1
    have lz := Al2.len t3
    have lq : (halfQ bs'.length ms).length ≤ ms.length := List.length_filter_le _ _
    refine ⟨_, rfl, _, _, true, rfl, .inl ⟨_, rfl⟩, .inr ⟨_, _, rfl, t1, kit_tup_tup⟩, _, rfl, iteF ?_⟩
    refine ⟨_, rfl, _, rfl, _, wtold_dp told1.wt, Dp.same s7 due, (wl_ok rq.word _ _ _).1, (wl_ok rq.word _ _ _).2, _, rfl, iteF ?_⟩
    refine ⟨_, rfl, q7, _, _, _, rfl, rfl, t1, rfl, .inl ⟨rfl, _, SqL.of t2⟩, rr, _, _, rfl, rfl, t2, Nat.lt_of_le_of_lt (show zs.length ≤ 480 by omega) (by decide), ?_⟩
    obtain ⟨H8, u8, s8, e8⟩ := newB (H := H7) (p := rr) (.lst (zs ++ [.int 0]))
    dsimp only
    rw [u8]
    clear u8
    have t18 := s8.tup t2 t1
    have t48 := s8 _ _ (Ne.symm rne) t4
    refine ⟨_, rfl, q7, _, _, _, rfl, rfl, t18, rfl, .inl ⟨rfl, _, SqL.of t48⟩, rb, _, rfl, rfl, t48, ?_⟩
    obtain ⟨H9, u9, s9, e9⟩ := newB (H := H8) (p := rb) (.lst [])
    dsimp only
    rw [u9]
    clear u9
    have S59 : Same H5 H9 := Buts.fresh s7 ((Buts.one s8 (by simp)).trans (Buts.one s9 (by simp)) : Buts [rr, rb] H7 H9) (fun z hz' => by
      simp only [List.mem_cons, List.not_mem_nil, or_false] at hz'
      rcases hz' with rfl | rfl
      · exact nrr
      · exact nrb)
    refine ⟨_, rfl, _, rfl, .inl ⟨f', xs', bs', mo', rfl, S59 _ _ hf5, bds_same al5 S59, l1', l12', ps', m40, fit.fit16, fun q10 wd2 ms2 es2 last2 H10 s10 rq2 told2 => ?_⟩⟩
    obtain ⟨rfl, rfl, rfl, rfl⟩ := rq.one rq2
    refine ⟨_, rfl, _, wtold_dp told2.wt, Dp.same (S59.trans s10) due, (wl_ok rq.word _ _ _).1, (wl_ok rq.word _ _ _).2, _, rfl, iteF ?_⟩
    have s410 := s5.trans (S59.trans s10)
    have hb10 := s410 _ _ hb4
    refine ⟨_, rfl, by show 2 ≤ sizeLine; decide, ?_⟩
    intro p11 n11
    obtain ⟨H11, q11, s11, e11⟩ := newO n11 (.tup [.int 3, .int 1])
    rw [q11]
    clear q11
    refine ⟨by show 1 ≤ sizeLine; decide, ?_⟩
    intro p12 n12
    obtain ⟨H12, q12, s12, e12⟩ := newO n12 (.lst [.int 3])
    rw [q12]
    clear q12
    refine ⟨_, _, rfl, rfl, ⟨by decide, by decide, by decide⟩, _, _, rfl, rfl, by show 9 ≤ sizeLine; decide, ?_⟩
    intro p13 n13
    obtain ⟨H13, q13, s13, e13⟩ := newO n13 (.lst [.int (-1), .int 41, .bl true, .bl false, .non, .str "3", .ref p11, .ref p12, .int (3 + 10 ^ (40 : Int).toNat)])
    rw [q13]
    clear q13
    have hb13 := s13 _ _ (s12 _ _ (s11 _ _ hb10))
    have p13b : p13 ≠ b := Ne.symm (ne_of_none (s12 _ _ (s11 _ _ hb10)) n13)
    refine ⟨_, rfl, b, 9, _, rfl, hb13, by decide, sm9 _ (by decide) (by decide), fun d14 n14 H14 lo14 hi14 s14 hb14 => ?_⟩
    have p11b : p11 ≠ b := Ne.symm (ne_of_none hb10 n11)
    have e1114 := s14 _ _ p11b (s13 _ _ (s12 _ _ e11))
    have p12b : p12 ≠ b := Ne.symm (ne_of_none (s11 _ _ hb10) n12)
    have e1214 := s14 _ _ p12b (s13 _ _ e12)
    obtain ⟨v, hv, bad0⟩ := things23 (K := K) e1114 e1214 d14 (by omega) (by omega)
    refine ⟨p13, _, _, _, rfl, rfl, SqL.of (s14 _ _ p13b e13), hv, ?_⟩
    have s413 := s410.trans (s11.trans (s12.trans s13))
    have hf14 := s14 _ _ nfb' (s413 _ _ hf4)
    have al14 := bds_but (bds_same al4 s413) s14 hb13
    refine ⟨_, rfl, b, 3, _, rfl, hb14, by decide, sm9 _ (by decide) (by decide), fun d15 n15 H15 lo15 hi15 s15 hb15 => ?_⟩
    refine ⟨_, _, rfl, rfl, _, rfl, b, 4, _, rfl, hb15, by decide, sm9 _ (by decide) (by decide), fun d16 n16 H16 lo16 hi16 s16 hb16 => ?_⟩
    refine ⟨_, _, rfl, rfl, _, _, rfl, sm9 _ (by omega) (by omega), by omega, fun pL H17 s17 gL => ?_⟩
    have t1417 : But b H14 H17 := s15.trans (s16.trans (But.of s17))
    have hb17 := s17 _ _ hb16
    have fL : FB 64 (Rat.divInt (0 - d15) (1 + d16)) := FB.fit (by omega) (Bd.small (by omega) (by omega)) (Bd.small (by omega) (by omega))
    have ngL : ¬ 0 < Rat.divInt (0 - d15) (1 + d16) := by
      have z : 0 ≤ Rat.divInt d15 (1 + d16) := fit_nn (by omega) (by omega)
      have e : Rat.divInt (0 - d15) (1 + d16) = - Rat.divInt d15 (1 + d16) := by rw [show (0 - d15) = -d15 by omega, ← Rat.neg_divInt]
      rw [e]
      grind
    generalize Rat.divInt (0 - d15) (1 + d16) = lf at gL fL ngL
    have hf17 := t1417 _ _ nfb' hf14
    have al17 := bds_but al14 t1417 hb14
    have hz17 := Al2.len al17
    obtain ⟨x0, h0⟩ : ∃ x, xs'[0]? = some x := ⟨_, List.getElem?_eq_getElem (by omega)⟩
    obtain ⟨c0, hc0, p0, a0, k0, rfl, z1, z2, z3, z4, z5, z6, z7⟩ := Al2.get al17 h0
    refine ⟨_, rfl, _, rfl, f', _, _, _, rfl, rfl, SqL.of hf17, atI_nat (j := 0) h0, p0, _, _, _, rfl, rfl, z1, rfl, _, rfl, f', _, _, _, rfl, rfl, SqL.of hf17, atI_nat (j := 0) h0, p0, _, _, _, rfl, rfl, z1, rfl, by show 3 ≤ sizeLine; decide, ?_⟩
    intro p18 n18
    obtain ⟨H18, q18, s18, e18⟩ := newO n18 (.tup [.ref pL, .ref k0, .int c0.2.2])
    rw [q18]
    clear q18
    refine ⟨by show 1 ≤ sizeLine; decide, ?_⟩
    intro p19 n19
    obtain ⟨H19, q19, s19, e19⟩ := newO n19 (.lst [.ref p18])
    rw [q19]
    clear q19
    have s1719 := s18.trans s19
    refine ⟨_, rfl, _, rfl, f', xs', rfl, SqL.of (s1719 _ _ hf17), ?_⟩
    rw [show cutV xs' (some 1) none = xs'.drop 1 from cut_dropR (k := 1) (by omega)]
    intro p20 n20
    obtain ⟨H20, q20, s20, e20⟩ := newO n20 (.lst (xs'.drop 1))
    rw [q20]
    clear q20
    refine ⟨p19, p20, [.ref p18], xs'.drop 1, rfl, rfl, s20 _ _ e19, e20, Nat.le_trans (show [V.ref p18].length + (xs'.drop 1).length ≤ 24 by rw [List.length_drop]; show 1 + _ ≤ 24; omega) (by decide), ?_⟩
    intro p23 n23
    obtain ⟨H23, q23, s23, e23⟩ := newO n23 (.lst ([.ref p18] ++ xs'.drop 1))
    rw [q23]
    clear q23
    have s1723 := s1719.trans (s20.trans s23)
    have one : BdQ K H23 64 (.ref p18) (lf, c0.2.1, c0.2.2) := ⟨p18, pL, k0, rfl, SqT.of ((s19.trans (s20.trans s23)) _ _ e18), Kw.Same.tup s1723 gL, Kw.Same.tup s1723 z3, fL, z5, z6, z7⟩
    have alO : Al2 (BdQ K H23 64) ([.ref p18] ++ xs'.drop 1) ((lf, c0.2.1, c0.2.2) :: bs'.drop 1) := ⟨one, Al2.dropR 1 (bds_same al17 s1723)⟩
    have bad : NoMost K H23 v := by
      have m17 : NoMost K H17 v := things_but t1417 hb14 e1114 e1214 p12b hv (by omega) (by omega)
      exact m17.same s1723
    refine ⟨_, rfl, _, rfl, f', xs', bs', v, rfl, s1723 _ _ hf17, bds_same al17 s1723, l1', l12', .inl ⟨ps', bad, fun r24 H24 s24 e24 => ?_⟩⟩
    refine ⟨by show 2 ≤ sizeLine; decide, ?_⟩
    intro p25 n25
    obtain ⟨H25, q25, s25, e25⟩ := newO n25 (.tup [.str "many", .int 1])
    rw [q25]
    clear q25
    have dm : Dp K H25 (.ref r24) (.tuple [.str "many", .int 1]) := .tup (SqT.of (s25 _ _ e24)) (.cons (.str _) (.cons (.int _) .nil))
    have dm' : Dp K H25 (.ref p25) (.tuple [.str "many", .int 1]) := .tup (SqT.of e25) (.cons (.str _) (.cons (.int _) .nil))
    refine ⟨_, dm, dm', by decide +kernel, by decide +kernel, _, rfl, iteF ?_⟩
    have s2325 := s24.trans s25
    have alO25 := bds_same alO s2325
    have np : ∀ q, ((lf, c0.2.1, c0.2.2) :: bs'.drop 1)[0]? = some q → ¬ 0 < q.1 := fun q hq => by
      cases hq
      exact ngL
    have lO : ((lf, c0.2.1, c0.2.2) :: bs'.drop 1).length ≤ 12 := by
      rw [List.length_cons, List.length_drop]
      omega
    refine ⟨_, rfl, _, rfl, p23, _, _, v, rfl, s2325 _ _ e23, alO25, by rw [List.length_cons]; omega, lO, .inr ⟨np, fun r26 H26 s26 e26 => ?_⟩⟩
    refine ⟨by show 2 ≤ sizeLine; decide, ?_⟩
    intro p27 n27
    obtain ⟨H27, q27, s27, e27⟩ := newO n27 (.tup [.str "world", .int 0])
    rw [q27]
    clear q27
    have dw : Dp K H27 (.ref r26) (.tuple [.str "world", .int 0]) := .tup (SqT.of (s27 _ _ e26)) (.cons (.str _) (.cons (.int _) .nil))
    have dw' : Dp K H27 (.ref p27) (.tuple [.str "world", .int 0]) := .tup (SqT.of e27) (.cons (.str _) (.cons (.int _) .nil))
    refine ⟨_, dw, dw', by decide +kernel, by decide +kernel, _, rfl, iteF ?_⟩
    have s2327 := s2325.trans (s26.trans s27)
    refine ⟨_, rfl, p23, _, _, .int 3, rfl, s2327 _ _ e23, bds_same alO s2327, by rw [List.length_cons]; omega, lO, .inr ⟨np, fun r28 H28 s28 e28 => ?_⟩⟩
    refine ⟨by show 2 ≤ sizeLine; decide, ?_⟩
    intro p29 n29
    obtain ⟨H29, q29, s29, e29⟩ := newO n29 (.tup [.str "world", .int 0])
    rw [q29]
    clear q29
    have dx : Dp K H29 (.ref r28) (.tuple [.str "world", .int 0]) := .tup (SqT.of (s29 _ _ e28)) (.cons (.str _) (.cons (.int _) .nil))
    have dx' : Dp K H29 (.ref p29) (.tuple [.str "world", .int 0]) := .tup (SqT.of e29) (.cons (.str _) (.cons (.int _) .nil))
    refine ⟨_, dx, dx', by decide +kernel, by decide +kernel, _, rfl, iteF ?_⟩
    have Z := s1723.trans (s2327.trans (s28.trans s29))
    have X := (But.of sb).trans ((But.of s21).trans (s22.trans (s2.trans (t24.trans ((But.of s413).trans (s14.trans (t1417.trans (But.of Z))))))))
    exact ⟨_, _, _, _, _, _, _, _, _, rfl, sm.trans (But.fresh hb0 X)⟩
  · rintro σ0 H0 ⟨r1, r2, r3, r4, r5, r6, r7, r8, r9, rfl, sm⟩
    exact fin _
end
theorem len1 {p : List Value → Prop} (h : ∀ x0, p [x0]) : ∀ us : List Value, us.length = 1 → p us := by
  intro us e
  cases us with
  | nil => exact absurd e (by show ¬ 0 = 1; decide)
  | cons x0 us =>
    cases us with
    | nil => exact h x0
    | cons y us => exact absurd e (by show ¬ us.length + 2 = 1; omega)
theorem len2 {p : List Value → Prop} (h : ∀ x0 x1, p [x0, x1]) : ∀ us : List Value, us.length = 2 → p us := by
  intro us e
  cases us with
  | nil => exact absurd e (by show ¬ 0 = 2; decide)
  | cons x0 us =>
    cases us with
    | nil => exact absurd e (by show ¬ 1 = 2; decide)
    | cons x1 us =>
      cases us with
      | nil => exact h x0 x1
      | cons y us => exact absurd e (by show ¬ us.length + 3 = 2; omega)
theorem len3 {p : List Value → Prop} (h : ∀ x0 x1 x2, p [x0, x1, x2]) : ∀ us : List Value, us.length = 3 → p us := by
  intro us e
  cases us with
  | nil => exact absurd e (by show ¬ 0 = 3; decide)
  | cons x0 us =>
    cases us with
    | nil => exact absurd e (by show ¬ 1 = 3; decide)
    | cons x1 us =>
      cases us with
      | nil => exact absurd e (by show ¬ 2 = 3; decide)
      | cons x2 us =>
        cases us with
        | nil => exact h x0 x1 x2
        | cons y us => exact absurd e (by show ¬ us.length + 4 = 3; omega)
theorem len5 {p : List Value → Prop} (h : ∀ x0 x1 x2 x3 x4, p [x0, x1, x2, x3, x4]) : ∀ us : List Value, us.length = 5 → p us := by
  intro us e
  cases us with
  | nil => exact absurd e (by show ¬ 0 = 5; decide)
  | cons x0 us =>
    cases us with
    | nil => exact absurd e (by show ¬ 1 = 5; decide)
    | cons x1 us =>
      cases us with
      | nil => exact absurd e (by show ¬ 2 = 5; decide)
      | cons x2 us =>
        cases us with
        | nil => exact absurd e (by show ¬ 3 = 5; decide)
        | cons x3 us =>
          cases us with
          | nil => exact absurd e (by show ¬ 4 = 5; decide)
          | cons x4 us =>
            cases us with
            | nil => exact h x0 x1 x2 x3 x4
            | cons y us => exact absurd e (by show ¬ us.length + 6 = 5; omega)
set_option maxHeartbeats 0 in
theorem all_mk {P : Program} {w : World} {K : PySem.W.Frag} {h : Heap} {mg : Str → Option Value} (X : K.In h) (G : h.Ns mainGlobals mg)
    {C_KnockError C_TooMany C_NoWorld C_Course f0 f1 f2 f3 f4 f5 f6 f7 f8 f9 f10 f11 f12 f13 f14 f15 f16 f17 f18 f19 f20 f21 f22 f23 f24 f25 f26 f27 f28 f29 f30 f31 f32 f33 f34 f35 f36 f37 f38 f39 f40 f41 f42 f43 f44 f45 f46 f47 f48 f49 f50 f51 f52 d3 : Addr}
    {oc0 kV0 dc0 pm0 cd0 ct0 oc1 kV1 dc1 pm1 cd1 ct1 oc2 kV2 dc2 pm2 cd2 ct2 oc3 kV3 dc3 pm3 cd3 ct3 oc4 kV4 dc4 pm4 cd4 ct4 oc5 kV5 dc5 pm5 cd5 ct5 oc6 kV6 dc6 pm6 cd6 ct6 oc7 kV7 dc7 pm7 cd7 ct7 oc8 kV8 dc8 pm8 cd8 ct8 oc9 kV9 dc9 pm9 cd9 ct9 oc10 kV10 dc10 pm10 cd10 ct10 oc11 kV11 dc11 pm11 cd11 ct11 oc12 kV12 dc12 pm12 cd12 ct12 oc13 kV13 dc13 pm13 cd13 ct13 oc14 kV14 dc14 pm14 cd14 ct14 oc15 kV15 dc15 pm15 cd15 ct15 oc16 kV16 dc16 pm16 cd16 ct16 oc17 kV17 dc17 pm17 cd17 ct17 oc18 kV18 dc18 pm18 cd18 ct18 oc19 kV19 dc19 pm19 cd19 ct19 oc20 kV20 dc20 pm20 cd20 ct20 oc21 kV21 dc21 pm21 cd21 ct21 oc22 kV22 dc22 pm22 cd22 ct22 oc23 kV23 dc23 pm23 cd23 ct23 oc24 kV24 dc24 pm24 cd24 ct24 oc25 kV25 dc25 pm25 cd25 ct25 oc26 kV26 dc26 pm26 cd26 ct26 oc27 kV27 dc27 pm27 cd27 ct27 oc28 kV28 dc28 pm28 cd28 ct28 oc29 kV29 dc29 pm29 cd29 ct29 oc30 kV30 dc30 pm30 cd30 ct30 oc31 kV31 dc31 pm31 cd31 ct31 oc32 kV32 dc32 pm32 cd32 ct32 oc33 kV33 dc33 pm33 cd33 ct33 oc34 kV34 dc34 pm34 cd34 ct34 oc35 kV35 dc35 pm35 cd35 ct35 oc36 kV36 dc36 pm36 cd36 ct36 oc37 kV37 dc37 pm37 cd37 ct37 oc38 kV38 dc38 pm38 cd38 ct38 oc39 kV39 dc39 pm39 cd39 ct39 oc40 kV40 dc40 pm40 cd40 ct40 oc41 kV41 dc41 pm41 cd41 ct41 oc42 kV42 dc42 pm42 cd42 ct42 oc43 kV43 dc43 pm43 cd43 ct43 oc44 kV44 dc44 pm44 cd44 ct44 oc45 kV45 dc45 pm45 cd45 ct45 oc46 kV46 dc46 pm46 cd46 ct46 oc47 kV47 dc47 pm47 cd47 ct47 oc48 kV48 dc48 pm48 cd48 ct48 oc49 kV49 dc49 pm49 cd49 ct49 oc50 kV50 dc50 pm50 cd50 ct50 oc51 kV51 dc51 pm51 cd51 ct51 oc52 kV52 dc52 pm52 cd52 ct52 : Value}
    {od0 an0 od1 an1 od2 an2 od3 an3 od4 an4 od5 an5 od6 an6 od7 an7 od8 an8 od9 an9 od10 an10 od11 an11 od12 an12 od13 an13 od14 an14 od15 an15 od16 an16 od17 an17 od18 an18 od19 an19 od20 an20 od21 an21 od22 an22 od23 an23 od24 an24 od25 an25 od26 an26 od27 an27 od28 an28 od29 an29 od30 an30 od31 an31 od32 an32 od33 an33 od34 an34 od35 an35 od36 an36 od37 an37 od38 an38 od39 an39 od40 an40 od41 an41 od42 an42 od43 an43 od44 an44 od45 an45 od46 an46 od47 an47 od48 an48 od49 an49 od50 an50 od51 an51 od52 an52 : Option Addr}
    {sl0 sl1 sl2 sl3 sl4 sl5 sl6 sl7 sl8 sl9 sl10 sl11 sl12 sl13 sl14 sl15 sl16 sl17 sl18 sl19 sl20 sl21 sl22 sl23 sl24 sl25 sl26 sl27 sl28 sl29 sl30 sl31 sl32 sl33 sl34 sl35 sl36 sl37 sl38 sl39 sl40 sl41 sl42 sl43 sl44 sl45 sl46 sl47 sl48 sl49 sl50 sl51 sl52 : Array (Option Value)}
    {cD3 : Value} {oD3 : Option Addr} {tD3 : Tok} {nD3 : Nat} {slD3 : Array (Option Value)}
    {tk_LONG_BITS : Tok}
    {A_NOUGHT : Addr} {oG_NOUGHT : Option Addr} {k1_NOUGHT k2_NOUGHT : Tok} {nG_NOUGHT : Nat} {slG_NOUGHT : Array (Option Value)}
    {A_ALL : Addr} {oG_ALL : Option Addr} {k1_ALL k2_ALL : Tok} {nG_ALL : Nat} {slG_ALL : Array (Option Value)}
    {tk_MOST_MOMENTS : Tok}
    (c_KnockError : PySem.W.nsIn K mainGlobals "KnockError" = some (some (.ref C_KnockError)))
    (c_TooMany : PySem.W.nsIn K mainGlobals "TooMany" = some (some (.ref C_TooMany)))
    (c_NoWorld : PySem.W.nsIn K mainGlobals "NoWorld" = some (some (.ref C_NoWorld)))
    (c_Course : PySem.W.nsIn K mainGlobals "Course" = some (some (.ref C_Course)))
    (b_isinstance : PySem.W.nsIn K mainGlobals "isinstance" = some none)
    (b_int : PySem.W.nsIn K mainGlobals "int" = some none)
    (b_bool : PySem.W.nsIn K mainGlobals "bool" = some none)
    (b_tuple : PySem.W.nsIn K mainGlobals "tuple" = some none)
    (b_list : PySem.W.nsIn K mainGlobals "list" = some none)
    (b_abs : PySem.W.nsIn K mainGlobals "abs" = some none)
    (b_len : PySem.W.nsIn K mainGlobals "len" = some none)
    (b_divmod : PySem.W.nsIn K mainGlobals "divmod" = some none)
    (b_range : PySem.W.nsIn K mainGlobals "range" = some none)
    (b_max : PySem.W.nsIn K mainGlobals "max" = some none)
    (b_min : PySem.W.nsIn K mainGlobals "min" = some none)
    (b_reversed : PySem.W.nsIn K mainGlobals "reversed" = some none)
    (b_enumerate : PySem.W.nsIn K mainGlobals "enumerate" = some none)
    (chk : chkN K C_KnockError (clsAt [C_TooMany, C_NoWorld]) 2 1 = true)
    (rd : PySem.W.readsIn K C_KnockError (.type "type") = true)
    (fc : PySem.W.findCls K (.ref C_KnockError) (.type "type") "__init__" = some (.val (.builtin "ValueError.__init__")))
    (gs : PySem.W.specialIn K (.ref C_KnockError) "__getattribute__" = some (some (.builtin "type.__getattribute__")))
    (n_NoWorld_at : PySem.W.findIn K (.ref C_NoWorld) "at" = some none)
    (s_TooMany_TooMany : PySem.W.subIn K (.ref C_TooMany) (.ref C_TooMany) = some true)
    (s_NoWorld_NoWorld : PySem.W.subIn K (.ref C_NoWorld) (.ref C_NoWorld) = some true)
    (pg_Course : PySem.W.plainGet K C_Course Str.empty = true)
    (hd_Course : PySem.W.hasDictIn K C_Course = true)
    (po_Course : PySem.W.plainOver K C_Course = true)
    (sa_Course : PySem.W.findIn K (.ref C_Course) "__setattr__" = some (some (.builtin "object.__setattr__")))
    (mk_Course : PySem.W.makesIn K C_Course = true)
    (kp_Course : PySem.W.keepIn K (.ref C_Course) = true)
    (n_Course_goings : PySem.W.findIn K (.ref C_Course) "goings" = some none)
    (n_Course_share : PySem.W.findIn K (.ref C_Course) "share" = some none)
    (n_Course_now : PySem.W.findIn K (.ref C_Course) "now" = some none)
    (n_Course_gone_through : PySem.W.findIn K (.ref C_Course) "gone_through" = some none)
    (n_Course_joints : PySem.W.findIn K (.ref C_Course) "joints" = some none)
    (n_Course_coming : PySem.W.findIn K (.ref C_Course) "coming" = some none)
    (z_NoWorld_TooMany : PySem.W.subIn K (.ref C_NoWorld) (.ref C_TooMany) = some false)
    (i_LONG_BITS : PySem.W.nsIn K mainGlobals "LONG_BITS" = some (some (.int 4000 tk_LONG_BITS)))
    (c_NOUGHT : PySem.W.nsIn K mainGlobals "NOUGHT" = some (some (.ref A_NOUGHT)))
    (z_NOUGHT : K.lookup A_NOUGHT = some ⟨.type "tuple", oG_NOUGHT, .seq #[.int 0 k1_NOUGHT, .int 1 k2_NOUGHT] nG_NOUGHT, slG_NOUGHT⟩)
    (c_ALL : PySem.W.nsIn K mainGlobals "ALL" = some (some (.ref A_ALL)))
    (z_ALL : K.lookup A_ALL = some ⟨.type "tuple", oG_ALL, .seq #[.int 1 k1_ALL, .int 1 k2_ALL] nG_ALL, slG_ALL⟩)
    (i_MOST_MOMENTS : PySem.W.nsIn K mainGlobals "MOST_MOMENTS" = some (some (.int 40 tk_MOST_MOMENTS)))
    (a0 : PySem.W.findIn K (.ref C_NoWorld) "__init__" = some (some (.ref f0)))
    (t0 : PySem.W.typeIn K (.ref f0) = some (.type "function"))
    (l0 : K.lookup f0 = some ⟨oc0, od0, .func (PySem.W.fnOf "__init__" "NoWorld.__init__" (defArgs (mthOf (top 5))) (defBody (mthOf (top 5))) (defScope (mthOf (top 5))) .none kV0 dc0 pm0 an0 cd0 ct0), sl0⟩)
    (q0 : PySem.W.codeIn K cd0 "NoWorld.__init__" = true)
    (a1 : PySem.W.nsIn K mainGlobals "is_whole" = some (some (.ref f1)))
    (l1 : K.lookup f1 = some ⟨oc1, od1, .func (PySem.W.fnOf "is_whole" "is_whole" (defArgs (top 9)) (defBody (top 9)) (defScope (top 9)) .none kV1 dc1 pm1 an1 cd1 ct1), sl1⟩)
    (q1 : PySem.W.codeIn K cd1 "is_whole" = true)
    (k1 : PySem.W.keepIn K (.ref f1) = true)
    (a2 : PySem.W.nsIn K mainGlobals "common_divisor" = some (some (.ref f2)))
    (l2 : K.lookup f2 = some ⟨oc2, od2, .func (PySem.W.fnOf "common_divisor" "common_divisor" (defArgs (top 11)) (defBody (top 11)) (defScope (top 11)) .none kV2 dc2 pm2 an2 cd2 ct2), sl2⟩)
    (q2 : PySem.W.codeIn K cd2 "common_divisor" = true)
    (k2 : PySem.W.keepIn K (.ref f2) = true)
    (a3 : PySem.W.nsIn K mainGlobals "fraction" = some (some (.ref f3)))
    (l3 : K.lookup f3 = some ⟨oc3, od3, .func (PySem.W.fnOf "fraction" "fraction" (defArgs (top 12)) (defBody (top 12)) (defScope (top 12)) (.ref d3) kV3 dc3 pm3 an3 cd3 ct3), sl3⟩)
    (q3 : PySem.W.codeIn K cd3 "fraction" = true)
    (k3 : PySem.W.keepIn K (.ref f3) = true)
    (g3 : K.lookup d3 = some ⟨cD3, oD3, .seq #[.int 1 tD3] nD3, slD3⟩)
    (a4 : PySem.W.nsIn K mainGlobals "plus" = some (some (.ref f4)))
    (l4 : K.lookup f4 = some ⟨oc4, od4, .func (PySem.W.fnOf "plus" "plus" (defArgs (top 13)) (defBody (top 13)) (defScope (top 13)) .none kV4 dc4 pm4 an4 cd4 ct4), sl4⟩)
    (q4 : PySem.W.codeIn K cd4 "plus" = true)
    (k4 : PySem.W.keepIn K (.ref f4) = true)
    (a5 : PySem.W.nsIn K mainGlobals "minus" = some (some (.ref f5)))
    (l5 : K.lookup f5 = some ⟨oc5, od5, .func (PySem.W.fnOf "minus" "minus" (defArgs (top 14)) (defBody (top 14)) (defScope (top 14)) .none kV5 dc5 pm5 an5 cd5 ct5), sl5⟩)
    (q5 : PySem.W.codeIn K cd5 "minus" = true)
    (k5 : PySem.W.keepIn K (.ref f5) = true)
    (a6 : PySem.W.nsIn K mainGlobals "times" = some (some (.ref f6)))
    (l6 : K.lookup f6 = some ⟨oc6, od6, .func (PySem.W.fnOf "times" "times" (defArgs (top 15)) (defBody (top 15)) (defScope (top 15)) .none kV6 dc6 pm6 an6 cd6 ct6), sl6⟩)
    (q6 : PySem.W.codeIn K cd6 "times" = true)
    (k6 : PySem.W.keepIn K (.ref f6) = true)
    (a7 : PySem.W.nsIn K mainGlobals "over" = some (some (.ref f7)))
    (l7 : K.lookup f7 = some ⟨oc7, od7, .func (PySem.W.fnOf "over" "over" (defArgs (top 16)) (defBody (top 16)) (defScope (top 16)) .none kV7 dc7 pm7 an7 cd7 ct7), sl7⟩)
    (q7 : PySem.W.codeIn K cd7 "over" = true)
    (k7 : PySem.W.keepIn K (.ref f7) = true)
    (a8 : PySem.W.nsIn K mainGlobals "under" = some (some (.ref f8)))
    (l8 : K.lookup f8 = some ⟨oc8, od8, .func (PySem.W.fnOf "under" "under" (defArgs (top 17)) (defBody (top 17)) (defScope (top 17)) .none kV8 dc8 pm8 an8 cd8 ct8), sl8⟩)
    (q8 : PySem.W.codeIn K cd8 "under" = true)
    (k8 : PySem.W.keepIn K (.ref f8) = true)
    (a9 : PySem.W.nsIn K mainGlobals "joint_moment" = some (some (.ref f9)))
    (l9 : K.lookup f9 = some ⟨oc9, od9, .func (PySem.W.fnOf "joint_moment" "joint_moment" (defArgs (top 25)) (defBody (top 25)) (defScope (top 25)) .none kV9 dc9 pm9 an9 cd9 ct9), sl9⟩)
    (q9 : PySem.W.codeIn K cd9 "joint_moment" = true)
    (k9 : PySem.W.keepIn K (.ref f9) = true)
    (a10 : PySem.W.nsIn K mainGlobals "least" = some (some (.ref f10)))
    (l10 : K.lookup f10 = some ⟨oc10, od10, .func (PySem.W.fnOf "least" "least" (defArgs (top 29)) (defBody (top 29)) (defScope (top 29)) .none kV10 dc10 pm10 an10 cd10 ct10), sl10⟩)
    (q10 : PySem.W.codeIn K cd10 "least" = true)
    (k10 : PySem.W.keepIn K (.ref f10) = true)
    (a11 : PySem.W.findIn K (.ref C_Course) "look_ahead" = some (some (.ref f11)))
    (t11 : PySem.W.isFn K (.ref f11) = true)
    (l11 : K.lookup f11 = some ⟨oc11, od11, .func (PySem.W.fnOf "look_ahead" "Course.look_ahead" (defArgs (mthAt (top 30) 1)) (defBody (mthAt (top 30) 1)) (defScope (mthAt (top 30) 1)) .none kV11 dc11 pm11 an11 cd11 ct11), sl11⟩)
    (q11 : PySem.W.codeIn K cd11 "Course.look_ahead" = true)
    (k11 : PySem.W.keepIn K (.ref f11) = true)
    (a12 : PySem.W.findIn K (.ref C_Course) "__init__" = some (some (.ref f12)))
    (t12 : PySem.W.isFn K (.ref f12) = true)
    (l12 : K.lookup f12 = some ⟨oc12, od12, .func (PySem.W.fnOf "__init__" "Course.__init__" (defArgs (mthAt (top 30) 0)) (defBody (mthAt (top 30) 0)) (defScope (mthAt (top 30) 0)) .none kV12 dc12 pm12 an12 cd12 ct12), sl12⟩)
    (q12 : PySem.W.codeIn K cd12 "Course.__init__" = true)
    (k12 : PySem.W.keepIn K (.ref f12) = true)
    (a13 : PySem.W.nsIn K mainGlobals "place_at" = some (some (.ref f13)))
    (l13 : K.lookup f13 = some ⟨oc13, od13, .func (PySem.W.fnOf "place_at" "place_at" (defArgs (top 23)) (defBody (top 23)) (defScope (top 23)) .none kV13 dc13 pm13 an13 cd13 ct13), sl13⟩)
    (q13 : PySem.W.codeIn K cd13 "place_at" = true)
    (k13 : PySem.W.keepIn K (.ref f13) = true)
    (a14 : PySem.W.nsIn K mainGlobals "led" = some (some (.ref f14)))
    (l14 : K.lookup f14 = some ⟨oc14, od14, .func (PySem.W.fnOf "led" "led" (defArgs (top 24)) (defBody (top 24)) (defScope (top 24)) .none kV14 dc14 pm14 an14 cd14 ct14), sl14⟩)
    (q14 : PySem.W.codeIn K cd14 "led" = true)
    (k14 : PySem.W.keepIn K (.ref f14) = true)
    (a15 : PySem.W.findIn K (.ref C_Course) "bodies_at" = some (some (.ref f15)))
    (t15 : PySem.W.isFn K (.ref f15) = true)
    (l15 : K.lookup f15 = some ⟨oc15, od15, .func (PySem.W.fnOf "bodies_at" "Course.bodies_at" (defArgs (mthAt (top 30) 2)) (defBody (mthAt (top 30) 2)) (defScope (mthAt (top 30) 2)) .none kV15 dc15 pm15 an15 cd15 ct15), sl15⟩)
    (q15 : PySem.W.codeIn K cd15 "Course.bodies_at" = true)
    (k15 : PySem.W.keepIn K (.ref f15) = true)
    (a16 : PySem.W.findIn K (.ref C_Course) "lefts" = some (some (.ref f16)))
    (t16 : PySem.W.isFn K (.ref f16) = true)
    (l16 : K.lookup f16 = some ⟨oc16, od16, .func (PySem.W.fnOf "lefts" "Course.lefts" (defArgs (mthAt (top 30) 4)) (defBody (mthAt (top 30) 4)) (defScope (mthAt (top 30) 4)) .none kV16 dc16 pm16 an16 cd16 ct16), sl16⟩)
    (q16 : PySem.W.codeIn K cd16 "Course.lefts" = true)
    (k16 : PySem.W.keepIn K (.ref f16) = true)
    (a17 : PySem.W.findIn K (.ref C_Course) "meetings" = some (some (.ref f17)))
    (t17 : PySem.W.isFn K (.ref f17) = true)
    (l17 : K.lookup f17 = some ⟨oc17, od17, .func (PySem.W.fnOf "meetings" "Course.meetings" (defArgs (mthAt (top 30) 5)) (defBody (mthAt (top 30) 5)) (defScope (mthAt (top 30) 5)) .none kV17 dc17 pm17 an17 cd17 ct17), sl17⟩)
    (q17 : PySem.W.codeIn K cd17 "Course.meetings" = true)
    (k17 : PySem.W.keepIn K (.ref f17) = true)
    (a18 : PySem.W.nsIn K mainGlobals "go_alike" = some (some (.ref f18)))
    (l18 : K.lookup f18 = some ⟨oc18, od18, .func (PySem.W.fnOf "go_alike" "go_alike" (defArgs (top 28)) (defBody (top 28)) (defScope (top 28)) .none kV18 dc18 pm18 an18 cd18 ct18), sl18⟩)
    (q18 : PySem.W.codeIn K cd18 "go_alike" = true)
    (k18 : PySem.W.keepIn K (.ref f18) = true)
    (a19 : PySem.W.findIn K (.ref C_Course) "are_together" = some (some (.ref f19)))
    (t19 : PySem.W.isFn K (.ref f19) = true)
    (l19 : K.lookup f19 = some ⟨oc19, od19, .func (PySem.W.fnOf "are_together" "Course.are_together" (defArgs (mthAt (top 30) 6)) (defBody (mthAt (top 30) 6)) (defScope (mthAt (top 30) 6)) .none kV19 dc19 pm19 an19 cd19 ct19), sl19⟩)
    (q19 : PySem.W.codeIn K cd19 "Course.are_together" = true)
    (k19 : PySem.W.keepIn K (.ref f19) = true)
    (a20 : PySem.W.findIn K (.ref C_Course) "gathered" = some (some (.ref f20)))
    (t20 : PySem.W.isFn K (.ref f20) = true)
    (l20 : K.lookup f20 = some ⟨oc20, od20, .func (PySem.W.fnOf "gathered" "Course.gathered" (defArgs (mthAt (top 30) 7)) (defBody (mthAt (top 30) 7)) (defScope (mthAt (top 30) 7)) .none kV20 dc20 pm20 an20 cd20 ct20), sl20⟩)
    (q20 : PySem.W.codeIn K cd20 "Course.gathered" = true)
    (k20 : PySem.W.keepIn K (.ref f20) = true)
    (a21 : PySem.W.findIn K (.ref C_Course) "crowd" = some (some (.ref f21)))
    (t21 : PySem.W.isFn K (.ref f21) = true)
    (l21 : K.lookup f21 = some ⟨oc21, od21, .func (PySem.W.fnOf "crowd" "Course.crowd" (defArgs (mthAt (top 30) 8)) (defBody (mthAt (top 30) 8)) (defScope (mthAt (top 30) 8)) .none kV21 dc21 pm21 an21 cd21 ct21), sl21⟩)
    (q21 : PySem.W.codeIn K cd21 "Course.crowd" = true)
    (k21 : PySem.W.keepIn K (.ref f21) = true)
    (a22 : PySem.W.findIn K (.ref C_Course) "is_crowded" = some (some (.ref f22)))
    (t22 : PySem.W.isFn K (.ref f22) = true)
    (l22 : K.lookup f22 = some ⟨oc22, od22, .func (PySem.W.fnOf "is_crowded" "Course.is_crowded" (defArgs (mthAt (top 30) 9)) (defBody (mthAt (top 30) 9)) (defScope (mthAt (top 30) 9)) .none kV22 dc22 pm22 an22 cd22 ct22), sl22⟩)
    (q22 : PySem.W.codeIn K cd22 "Course.is_crowded" = true)
    (k22 : PySem.W.keepIn K (.ref f22) = true)
    (a23 : PySem.W.nsIn K mainGlobals "mixed" = some (some (.ref f23)))
    (l23 : K.lookup f23 = some ⟨oc23, od23, .func (PySem.W.fnOf "mixed" "mixed" (defArgs (top 26)) (defBody (top 26)) (defScope (top 26)) .none kV23 dc23 pm23 an23 cd23 ct23), sl23⟩)
    (q23 : PySem.W.codeIn K cd23 "mixed" = true)
    (k23 : PySem.W.keepIn K (.ref f23) = true)
    (a24 : PySem.W.nsIn K mainGlobals "behind" = some (some (.ref f24)))
    (l24 : K.lookup f24 = some ⟨oc24, od24, .func (PySem.W.fnOf "behind" "behind" (defArgs (top 27)) (defBody (top 27)) (defScope (top 27)) .none kV24 dc24 pm24 an24 cd24 ct24), sl24⟩)
    (q24 : PySem.W.codeIn K cd24 "behind" = true)
    (k24 : PySem.W.keepIn K (.ref f24) = true)
    (a25 : PySem.W.findIn K (.ref C_Course) "part" = some (some (.ref f25)))
    (t25 : PySem.W.isFn K (.ref f25) = true)
    (l25 : K.lookup f25 = some ⟨oc25, od25, .func (PySem.W.fnOf "part" "Course.part" (defArgs (mthAt (top 30) 12)) (defBody (mthAt (top 30) 12)) (defScope (mthAt (top 30) 12)) .none kV25 dc25 pm25 an25 cd25 ct25), sl25⟩)
    (q25 : PySem.W.codeIn K cd25 "Course.part" = true)
    (k25 : PySem.W.keepIn K (.ref f25) = true)
    (a26 : PySem.W.findIn K (.ref C_Course) "go_on" = some (some (.ref f26)))
    (t26 : PySem.W.isFn K (.ref f26) = true)
    (l26 : K.lookup f26 = some ⟨oc26, od26, .func (PySem.W.fnOf "go_on" "Course.go_on" (defArgs (mthAt (top 30) 11)) (defBody (mthAt (top 30) 11)) (defScope (mthAt (top 30) 11)) .none kV26 dc26 pm26 an26 cd26 ct26), sl26⟩)
    (q26 : PySem.W.codeIn K cd26 "Course.go_on" = true)
    (k26 : PySem.W.keepIn K (.ref f26) = true)
    (a27 : PySem.W.nsIn K mainGlobals "end_word" = some (some (.ref f27)))
    (l27 : K.lookup f27 = some ⟨oc27, od27, .func (PySem.W.fnOf "end_word" "end_word" (defArgs (top 35)) (defBody (top 35)) (defScope (top 35)) .none kV27 dc27 pm27 an27 cd27 ct27), sl27⟩)
    (q27 : PySem.W.codeIn K cd27 "end_word" = true)
    (k27 : PySem.W.keepIn K (.ref f27) = true)
    (a28 : PySem.W.nsIn K mainGlobals "run_along" = some (some (.ref f28)))
    (l28 : K.lookup f28 = some ⟨oc28, od28, .func (PySem.W.fnOf "run_along" "run_along" (defArgs (top 36)) (defBody (top 36)) (defScope (top 36)) .none kV28 dc28 pm28 an28 cd28 ct28), sl28⟩)
    (q28 : PySem.W.codeIn K cd28 "run_along" = true)
    (k28 : PySem.W.keepIn K (.ref f28) = true)
    (a29 : PySem.W.nsIn K mainGlobals "refuse_number_of_moments" = some (some (.ref f29)))
    (l29 : K.lookup f29 = some ⟨oc29, od29, .func (PySem.W.fnOf "refuse_number_of_moments" "refuse_number_of_moments" (defArgs (top 22)) (defBody (top 22)) (defScope (top 22)) .none kV29 dc29 pm29 an29 cd29 ct29), sl29⟩)
    (q29 : PySem.W.codeIn K cd29 "refuse_number_of_moments" = true)
    (k29 : PySem.W.keepIn K (.ref f29) = true)
    (a30 : PySem.W.nsIn K mainGlobals "run_of" = some (some (.ref f30)))
    (l30 : K.lookup f30 = some ⟨oc30, od30, .func (PySem.W.fnOf "run_of" "run_of" (defArgs (top 37)) (defBody (top 37)) (defScope (top 37)) .none kV30 dc30 pm30 an30 cd30 ct30), sl30⟩)
    (q30 : PySem.W.codeIn K cd30 "run_of" = true)
    (k30 : PySem.W.keepIn K (.ref f30) = true)
    (a31 : PySem.W.nsIn K mainGlobals "turned_about" = some (some (.ref f31)))
    (l31 : K.lookup f31 = some ⟨oc31, od31, .func (PySem.W.fnOf "turned_about" "turned_about" (defArgs (top 32)) (defBody (top 32)) (defScope (top 32)) .none kV31 dc31 pm31 an31 cd31 ct31), sl31⟩)
    (q31 : PySem.W.codeIn K cd31 "turned_about" = true)
    (k31 : PySem.W.keepIn K (.ref f31) = true)
    (a32 : PySem.W.nsIn K mainGlobals "mirrored" = some (some (.ref f32)))
    (l32 : K.lookup f32 = some ⟨oc32, od32, .func (PySem.W.fnOf "mirrored" "mirrored" (defArgs (top 33)) (defBody (top 33)) (defScope (top 33)) .none kV32 dc32 pm32 an32 cd32 ct32), sl32⟩)
    (q32 : PySem.W.codeIn K cd32 "mirrored" = true)
    (k32 : PySem.W.keepIn K (.ref f32) = true)
    (a33 : PySem.W.nsIn K mainGlobals "walled_run" = some (some (.ref f33)))
    (l33 : K.lookup f33 = some ⟨oc33, od33, .func (PySem.W.fnOf "walled_run" "walled_run" (defArgs (top 39)) (defBody (top 39)) (defScope (top 39)) .none kV33 dc33 pm33 an33 cd33 ct33), sl33⟩)
    (q33 : PySem.W.codeIn K cd33 "walled_run" = true)
    (k33 : PySem.W.keepIn K (.ref f33) = true)
    (a34 : PySem.W.nsIn K mainGlobals "_law_cell" = some (some (.ref f34)))
    (l34 : K.lookup f34 = some ⟨oc34, od34, .func (PySem.W.fnOf "_law_cell" "_law_cell" (defArgs (top 41)) (defBody (top 41)) (defScope (top 41)) .none kV34 dc34 pm34 an34 cd34 ct34), sl34⟩)
    (q34 : PySem.W.codeIn K cd34 "_law_cell" = true)
    (k34 : PySem.W.keepIn K (.ref f34) = true)
    (a35 : PySem.W.nsIn K mainGlobals "_law_mix" = some (some (.ref f35)))
    (l35 : K.lookup f35 = some ⟨oc35, od35, .func (PySem.W.fnOf "_law_mix" "_law_mix" (defArgs (top 42)) (defBody (top 42)) (defScope (top 42)) .none kV35 dc35 pm35 an35 cd35 ct35), sl35⟩)
    (q35 : PySem.W.codeIn K cd35 "_law_mix" = true)
    (k35 : PySem.W.keepIn K (.ref f35) = true)
    (a36 : PySem.W.nsIn K mainGlobals "_law_box" = some (some (.ref f36)))
    (l36 : K.lookup f36 = some ⟨oc36, od36, .func (PySem.W.fnOf "_law_box" "_law_box" (defArgs (top 43)) (defBody (top 43)) (defScope (top 43)) .none kV36 dc36 pm36 an36 cd36 ct36), sl36⟩)
    (q36 : PySem.W.codeIn K cd36 "_law_box" = true)
    (k36 : PySem.W.keepIn K (.ref f36) = true)
    (a37 : PySem.W.nsIn K mainGlobals "_law_take" = some (some (.ref f37)))
    (l37 : K.lookup f37 = some ⟨oc37, od37, .func (PySem.W.fnOf "_law_take" "_law_take" (defArgs (top 44)) (defBody (top 44)) (defScope (top 44)) .none kV37 dc37 pm37 an37 cd37 ct37), sl37⟩)
    (q37 : PySem.W.codeIn K cd37 "_law_take" = true)
    (k37 : PySem.W.keepIn K (.ref f37) = true)
    (a38 : PySem.W.nsIn K mainGlobals "_law_fit" = some (some (.ref f38)))
    (l38 : K.lookup f38 = some ⟨oc38, od38, .func (PySem.W.fnOf "_law_fit" "_law_fit" (defArgs (top 45)) (defBody (top 45)) (defScope (top 45)) .none kV38 dc38 pm38 an38 cd38 ct38), sl38⟩)
    (q38 : PySem.W.codeIn K cd38 "_law_fit" = true)
    (k38 : PySem.W.keepIn K (.ref f38) = true)
    (a39 : PySem.W.nsIn K mainGlobals "_law_plus" = some (some (.ref f39)))
    (l39 : K.lookup f39 = some ⟨oc39, od39, .func (PySem.W.fnOf "_law_plus" "_law_plus" (defArgs (top 46)) (defBody (top 46)) (defScope (top 46)) .none kV39 dc39 pm39 an39 cd39 ct39), sl39⟩)
    (q39 : PySem.W.codeIn K cd39 "_law_plus" = true)
    (k39 : PySem.W.keepIn K (.ref f39) = true)
    (a40 : PySem.W.nsIn K mainGlobals "_law_minus" = some (some (.ref f40)))
    (l40 : K.lookup f40 = some ⟨oc40, od40, .func (PySem.W.fnOf "_law_minus" "_law_minus" (defArgs (top 47)) (defBody (top 47)) (defScope (top 47)) .none kV40 dc40 pm40 an40 cd40 ct40), sl40⟩)
    (q40 : PySem.W.codeIn K cd40 "_law_minus" = true)
    (k40 : PySem.W.keepIn K (.ref f40) = true)
    (a41 : PySem.W.nsIn K mainGlobals "_law_times" = some (some (.ref f41)))
    (l41 : K.lookup f41 = some ⟨oc41, od41, .func (PySem.W.fnOf "_law_times" "_law_times" (defArgs (top 48)) (defBody (top 48)) (defScope (top 48)) .none kV41 dc41 pm41 an41 cd41 ct41), sl41⟩)
    (q41 : PySem.W.codeIn K cd41 "_law_times" = true)
    (k41 : PySem.W.keepIn K (.ref f41) = true)
    (a42 : PySem.W.nsIn K mainGlobals "_law_over" = some (some (.ref f42)))
    (l42 : K.lookup f42 = some ⟨oc42, od42, .func (PySem.W.fnOf "_law_over" "_law_over" (defArgs (top 49)) (defBody (top 49)) (defScope (top 49)) .none kV42 dc42 pm42 an42 cd42 ct42), sl42⟩)
    (q42 : PySem.W.codeIn K cd42 "_law_over" = true)
    (k42 : PySem.W.keepIn K (.ref f42) = true)
    (a43 : PySem.W.nsIn K mainGlobals "_law_less" = some (some (.ref f43)))
    (l43 : K.lookup f43 = some ⟨oc43, od43, .func (PySem.W.fnOf "_law_less" "_law_less" (defArgs (top 50)) (defBody (top 50)) (defScope (top 50)) .none kV43 dc43 pm43 an43 cd43 ct43), sl43⟩)
    (q43 : PySem.W.codeIn K cd43 "_law_less" = true)
    (k43 : PySem.W.keepIn K (.ref f43) = true)
    (a44 : PySem.W.nsIn K mainGlobals "_law_small" = some (some (.ref f44)))
    (l44 : K.lookup f44 = some ⟨oc44, od44, .func (PySem.W.fnOf "_law_small" "_law_small" (defArgs (top 51)) (defBody (top 51)) (defScope (top 51)) .none kV44 dc44 pm44 an44 cd44 ct44), sl44⟩)
    (q44 : PySem.W.codeIn K cd44 "_law_small" = true)
    (k44 : PySem.W.keepIn K (.ref f44) = true)
    (a45 : PySem.W.nsIn K mainGlobals "_law_led_together" = some (some (.ref f45)))
    (l45 : K.lookup f45 = some ⟨oc45, od45, .func (PySem.W.fnOf "_law_led_together" "_law_led_together" (defArgs (top 53)) (defBody (top 53)) (defScope (top 53)) .none kV45 dc45 pm45 an45 cd45 ct45), sl45⟩)
    (q45 : PySem.W.codeIn K cd45 "_law_led_together" = true)
    (k45 : PySem.W.keepIn K (.ref f45) = true)
    (a46 : PySem.W.nsIn K mainGlobals "_law_right_of" = some (some (.ref f46)))
    (l46 : K.lookup f46 = some ⟨oc46, od46, .func (PySem.W.fnOf "_law_right_of" "_law_right_of" (defArgs (top 52)) (defBody (top 52)) (defScope (top 52)) .none kV46 dc46 pm46 an46 cd46 ct46), sl46⟩)
    (q46 : PySem.W.codeIn K cd46 "_law_right_of" = true)
    (k46 : PySem.W.keepIn K (.ref f46) = true)
    (a47 : PySem.W.nsIn K mainGlobals "_law_ahead" = some (some (.ref f47)))
    (l47 : K.lookup f47 = some ⟨oc47, od47, .func (PySem.W.fnOf "_law_ahead" "_law_ahead" (defArgs (top 54)) (defBody (top 54)) (defScope (top 54)) .none kV47 dc47 pm47 an47 cd47 ct47), sl47⟩)
    (q47 : PySem.W.codeIn K cd47 "_law_ahead" = true)
    (k47 : PySem.W.keepIn K (.ref f47) = true)
    (a48 : PySem.W.nsIn K mainGlobals "_law_parted" = some (some (.ref f48)))
    (l48 : K.lookup f48 = some ⟨oc48, od48, .func (PySem.W.fnOf "_law_parted" "_law_parted" (defArgs (top 55)) (defBody (top 55)) (defScope (top 55)) .none kV48 dc48 pm48 an48 cd48 ct48), sl48⟩)
    (q48 : PySem.W.codeIn K cd48 "_law_parted" = true)
    (k48 : PySem.W.keepIn K (.ref f48) = true)
    (a49 : PySem.W.nsIn K mainGlobals "_law_step" = some (some (.ref f49)))
    (l49 : K.lookup f49 = some ⟨oc49, od49, .func (PySem.W.fnOf "_law_step" "_law_step" (defArgs (top 56)) (defBody (top 56)) (defScope (top 56)) .none kV49 dc49 pm49 an49 cd49 ct49), sl49⟩)
    (q49 : PySem.W.codeIn K cd49 "_law_step" = true)
    (k49 : PySem.W.keepIn K (.ref f49) = true)
    (a50 : PySem.W.nsIn K mainGlobals "_law_run" = some (some (.ref f50)))
    (l50 : K.lookup f50 = some ⟨oc50, od50, .func (PySem.W.fnOf "_law_run" "_law_run" (defArgs (top 57)) (defBody (top 57)) (defScope (top 57)) .none kV50 dc50 pm50 an50 cd50 ct50), sl50⟩)
    (q50 : PySem.W.codeIn K cd50 "_law_run" = true)
    (k50 : PySem.W.keepIn K (.ref f50) = true)
    (a51 : PySem.W.nsIn K mainGlobals "_law_refused" = some (some (.ref f51)))
    (l51 : K.lookup f51 = some ⟨oc51, od51, .func (PySem.W.fnOf "_law_refused" "_law_refused" (defArgs (top 58)) (defBody (top 58)) (defScope (top 58)) .none kV51 dc51 pm51 an51 cd51 ct51), sl51⟩)
    (q51 : PySem.W.codeIn K cd51 "_law_refused" = true)
    (k51 : PySem.W.keepIn K (.ref f51) = true)
    (a52 : PySem.W.nsIn K mainGlobals "law" = some (some (.ref f52)))
    (l52 : K.lookup f52 = some ⟨oc52, od52, .func (PySem.W.fnOf "law" "law" (defArgs (top 59)) (defBody (top 59)) (defScope (top 59)) .none kV52 dc52 pm52 an52 cd52 ct52), sl52⟩)
    (q52 : PySem.W.codeIn K cd52 "law" = true)
    (k52 : PySem.W.keepIn K (.ref f52) = true) :
    ∃ fa, mg "law" = some (.ref fa) ∧ ∃ fd : FuncData, (∀ (s : Shared) (u : Value), BindsTo s fd ⟨[u], []⟩ [("_law_script", u)]) ∧ ∀ base : Heap, K.In base → base.Ns mainGlobals mg → FnOk P w K mg base (CXE P w) 11 fa fd ["_law_script"] (spLaw K) := by
  have T : Tx K mg C_KnockError (clsAt [C_TooMany, C_NoWorld, C_Course]) := ⟨PySem.W.mg_none_of X G b_isinstance, PySem.W.mg_none_of X G b_int, PySem.W.mg_none_of X G b_bool, PySem.W.mg_none_of X G b_tuple, PySem.W.mg_none_of X G b_list, PySem.W.mg_none_of X G b_abs, PySem.W.mg_none_of X G b_len, PySem.W.mg_none_of X G b_divmod, PySem.W.mg_none_of X G b_range, PySem.W.mg_none_of X G b_max, PySem.W.mg_none_of X G b_min, PySem.W.mg_none_of X G b_reversed, PySem.W.mg_none_of X G b_enumerate, PySem.W.mg_of X G c_KnockError, PySem.W.mg_of X G c_TooMany, PySem.W.mg_of X G c_NoWorld, refs_ok chk, rd, fc, gs, n_NoWorld_at, s_TooMany_TooMany, s_NoWorld_NoWorld, PySem.W.mg_of X G c_Course, ⟨pg_Course, hd_Course, po_Course, sa_Course⟩, mk_Course, kp_Course, n_Course_goings, n_Course_share, n_Course_now, n_Course_gone_through, n_Course_joints, n_Course_coming, z_NoWorld_TooMany, ⟨_, PySem.W.mg_of X G i_LONG_BITS⟩, ⟨_, PySem.W.mg_of X G c_NOUGHT, sqt_const z_NOUGHT⟩, ⟨_, PySem.W.mg_of X G c_ALL, sqt_const z_ALL⟩, ⟨_, PySem.W.mg_of X G i_MOST_MOMENTS⟩⟩
  have D0 := dfi_mk (ps := ["self", "at"]) a0 t0 l0 q0 T.o_NoWorld T.p_NoWorld (len2 fun _ _ => rfl)
  have D1 := df_mk (ps := ["thing"]) X G a1 l1 q1 k1 (len1 fun _ => rfl)
  have D2 := df_mk (ps := ["one", "other"]) X G a2 l2 q2 k2 (len2 fun _ _ => rfl)
  have D3 := df_mkD (ps := ["top", "bottom"]) X G a3 l3 q3 k3 g3 (len2 fun _ _ => ⟨_, rfl, rfl⟩)
  have D4 := df_mk (ps := ["one", "other"]) X G a4 l4 q4 k4 (len2 fun _ _ => rfl)
  have D5 := df_mk (ps := ["one", "other"]) X G a5 l5 q5 k5 (len2 fun _ _ => rfl)
  have D6 := df_mk (ps := ["one", "other"]) X G a6 l6 q6 k6 (len2 fun _ _ => rfl)
  have D7 := df_mk (ps := ["one", "other"]) X G a7 l7 q7 k7 (len2 fun _ _ => rfl)
  have D8 := df_mk (ps := ["one", "other"]) X G a8 l8 q8 k8 (len2 fun _ _ => rfl)
  have D9 := df_mk (ps := ["one", "other"]) X G a9 l9 q9 k9 (len2 fun _ _ => rfl)
  have D10 := df_mk (ps := ["moments"]) X G a10 l10 q10 k10 (len1 fun _ => rfl)
  have D11 := dfm_mk (ps := ["self"]) a11 t11 l11 q11 k11 (len1 fun _ => rfl)
  have D12 := dfm_mk (ps := ["self", "world", "share"]) a12 t12 l12 q12 k12 (len3 fun _ _ _ => rfl)
  have D13 := df_mk (ps := ["body", "moment"]) X G a13 l13 q13 k13 (len2 fun _ _ => rfl)
  have D14 := df_mk (ps := ["body", "moment"]) X G a14 l14 q14 k14 (len2 fun _ _ => rfl)
  have D15 := dfm_mk (ps := ["self", "moment"]) a15 t15 l15 q15 k15 (len2 fun _ _ => rfl)
  have D16 := dfm_mk (ps := ["self"]) a16 t16 l16 q16 k16 (len1 fun _ => rfl)
  have D17 := dfm_mk (ps := ["self"]) a17 t17 l17 q17 k17 (len1 fun _ => rfl)
  have D18 := df_mk (ps := ["one", "other"]) X G a18 l18 q18 k18 (len2 fun _ _ => rfl)
  have D19 := dfm_mk (ps := ["self", "left"]) a19 t19 l19 q19 k19 (len2 fun _ _ => rfl)
  have D20 := dfm_mk (ps := ["self", "left"]) a20 t20 l20 q20 k20 (len2 fun _ _ => rfl)
  have D21 := dfm_mk (ps := ["self"]) a21 t21 l21 q21 k21 (len1 fun _ => rfl)
  have D22 := dfm_mk (ps := ["self"]) a22 t22 l22 q22 k22 (len1 fun _ => rfl)
  have D23 := df_mk (ps := ["own", "far", "weight", "mass", "share"]) X G a23 l23 q23 k23 (len5 fun _ _ _ _ _ => rfl)
  have D24 := df_mk (ps := ["one", "other", "share"]) X G a24 l24 q24 k24 (len3 fun _ _ _ => rfl)
  have D25 := dfm_mk (ps := ["self", "left"]) a25 t25 l25 q25 k25 (len2 fun _ _ => rfl)
  have D26 := dfm_mk (ps := ["self"]) a26 t26 l26 q26 k26 (len1 fun _ => rfl)
  have D27 := df_mk (ps := ["course", "most"]) X G a27 l27 q27 k27 (len2 fun _ _ => rfl)
  have D28 := df_mk (ps := ["course", "most"]) X G a28 l28 q28 k28 (len2 fun _ _ => rfl)
  have D29 := df_mk (ps := ["most"]) X G a29 l29 q29 k29 (len1 fun _ => rfl)
  have D30 := df_mk (ps := ["world", "most"]) X G a30 l30 q30 k30 (len2 fun _ _ => rfl)
  have D31 := df_mk (ps := ["number"]) X G a31 l31 q31 k31 (len1 fun _ => rfl)
  have D32 := df_mk (ps := ["world"]) X G a32 l32 q32 k32 (len1 fun _ => rfl)
  have D33 := df_mk (ps := ["world", "most"]) X G a33 l33 q33 k33 (len2 fun _ _ => rfl)
  have D34 := df_mk (ps := ["_law_script", "_law_k"]) X G a34 l34 q34 k34 (len2 fun _ _ => rfl)
  have D35 := df_mk (ps := ["_law_cell_here", "_law_k"]) X G a35 l35 q35 k35 (len2 fun _ _ => rfl)
  have D36 := df_mk (ps := ["_law_script", "_law_k"]) X G a36 l36 q36 k36 (len2 fun _ _ => rfl)
  have D37 := df_mk (ps := ["_law_box_here", "_law_many"]) X G a37 l37 q37 k37 (len2 fun _ _ => rfl)
  have D38 := df_mk (ps := ["_law_top", "_law_bottom"]) X G a38 l38 q38 k38 (len2 fun _ _ => rfl)
  have D39 := df_mk (ps := ["_law_one", "_law_other"]) X G a39 l39 q39 k39 (len2 fun _ _ => rfl)
  have D40 := df_mk (ps := ["_law_one", "_law_other"]) X G a40 l40 q40 k40 (len2 fun _ _ => rfl)
  have D41 := df_mk (ps := ["_law_one", "_law_other"]) X G a41 l41 q41 k41 (len2 fun _ _ => rfl)
  have D42 := df_mk (ps := ["_law_one", "_law_other"]) X G a42 l42 q42 k42 (len2 fun _ _ => rfl)
  have D43 := df_mk (ps := ["_law_one", "_law_other"]) X G a43 l43 q43 k43 (len2 fun _ _ => rfl)
  have D44 := df_mk (ps := ["_law_box_here"]) X G a44 l44 q44 k44 (len1 fun _ => rfl)
  have D45 := df_mk (ps := ["_law_box_here", "_law_world_here"]) X G a45 l45 q45 k45 (len2 fun _ _ => rfl)
  have D46 := df_mk (ps := ["_law_box_here", "_law_most"]) X G a46 l46 q46 k46 (len2 fun _ _ => rfl)
  have D47 := df_mk (ps := ["_law_bodies"]) X G a47 l47 q47 k47 (len1 fun _ => rfl)
  have D48 := df_mk (ps := ["_law_bodies", "_law_number"]) X G a48 l48 q48 k48 (len2 fun _ _ => rfl)
  have D49 := df_mk (ps := ["_law_moment", "_law_bodies"]) X G a49 l49 q49 k49 (len2 fun _ _ => rfl)
  have D50 := df_mk (ps := ["_law_world_here", "_law_most"]) X G a50 l50 q50 k50 (len2 fun _ _ => rfl)
  have D51 := df_mk (ps := ["_law_world_here", "_law_thing"]) X G a51 l51 q51 k51 (len2 fun _ _ => rfl)
  have D52 := df_mk (ps := ["_law_script"]) X G a52 l52 q52 k52 (len1 fun _ => rfl)
  refine law_end X G a52 l52 (fun _ => rfl) fun base kb nb => ?_
  have F0 := ok_NoWorld___init__ (P := P) (w := w) (base := base) D0 T
  have F1 := ok_is_whole (P := P) (w := w) (base := base) D1 T
  have F2 := ok_common_divisor (P := P) (w := w) (base := base) D2 T
  have F3 := ok_fraction (P := P) (w := w) (base := base) D3 T F1 F2
  have F4 := ok_plus (P := P) (w := w) (base := base) D4 T F2
  have F5 := ok_minus (P := P) (w := w) (base := base) D5 T F4
  have F6 := ok_times (P := P) (w := w) (base := base) D6 T F2
  have F7 := ok_over (P := P) (w := w) (base := base) D7 T F6
  have F8 := ok_under (P := P) (w := w) (base := base) D8 T
  have F9 := ok_joint_moment (P := P) (w := w) (base := base) D9 T F5 F7
  have F10 := ok_least (P := P) (w := w) (base := base) D10 T F8
  have F11 := ok_Course_look_ahead (P := P) (w := w) (base := base) D11 T F10
  have F12 := ok_Course___init__ (P := P) (w := w) (base := base) D12 T F9 F11
  have F13 := ok_place_at (P := P) (w := w) (base := base) D13 T F6 F4
  have F14 := ok_led (P := P) (w := w) (base := base) D14 T F13
  have F15 := ok_Course_bodies_at (P := P) (w := w) (base := base) D15 T F14
  have F16 := ok_Course_lefts (P := P) (w := w) (base := base) D16 T
  have F17 := ok_Course_meetings (P := P) (w := w) (base := base) D17 T F13 F16
  have F18 := ok_go_alike (P := P) (w := w) (base := base) D18 T
  have F19 := ok_Course_are_together (P := P) (w := w) (base := base) D19 T F18
  have F20 := ok_Course_gathered (P := P) (w := w) (base := base) D20 T F19
  have F21 := ok_Course_crowd (P := P) (w := w) (base := base) D21 T F16 F20
  have F22 := ok_Course_is_crowded (P := P) (w := w) (base := base) D22 T F21
  have F23 := ok_mixed (P := P) (w := w) (base := base) D23 T F3 F6 F4
  have F24 := ok_behind (P := P) (w := w) (base := base) D24 T F23
  have F25 := ok_Course_part (P := P) (w := w) (base := base) D25 T F24 F9
  have F26 := ok_Course_go_on (P := P) (w := w) (base := base) D26 T F16 F25 F11
  have F27 := ok_end_word (P := P) (w := w) (base := base) D27 T F22
  have F28 := ok_run_along (P := P) (w := w) (base := base) D28 T F27 F17 F26 F15
  have F29 := ok_refuse_number_of_moments (P := P) (w := w) (base := base) D29 T F1
  have F30 := ok_run_of (P := P) (w := w) (base := base) D30 T F29 F12 F28
  have F31 := ok_turned_about (P := P) (w := w) (base := base) D31 T F5
  have F32 := ok_mirrored (P := P) (w := w) (base := base) D32 T F31
  have F33 := ok_walled_run (P := P) (w := w) (base := base) D33 T F8 F32 F30 F0
  have F34 := ok_law_cell (P := P) (w := w) (base := base) D34 T
  have F35 := ok_law_mix (P := P) (w := w) (base := base) D35 T
  have F36 := ok_law_box (P := P) (w := w) (base := base) D36 T F34 F35
  have F37 := ok_law_take (P := P) (w := w) (base := base) D37 T
  have F38 := ok_law_fit (P := P) (w := w) (base := base) D38 T
  have F39 := ok_law_plus (P := P) (w := w) (base := base) D39 T F38
  have F40 := ok_law_minus (P := P) (w := w) (base := base) D40 T F38
  have F41 := ok_law_times (P := P) (w := w) (base := base) D41 T F38
  have F42 := ok_law_over (P := P) (w := w) (base := base) D42 T F38
  have F43 := ok_law_less (P := P) (w := w) (base := base) D43 T
  have F44 := ok_law_small (P := P) (w := w) (base := base) D44 T F37 F38
  have F45 := ok_law_led_together (P := P) (w := w) (base := base) D45 T F37 F38 F40 F42
  have F46 := ok_law_right_of (P := P) (w := w) (base := base) D46 T F37 F44 F38 F39 F45
  have F47 := ok_law_ahead (P := P) (w := w) (base := base) D47 T F43 F40 F42
  have F48 := ok_law_parted (P := P) (w := w) (base := base) D48 T F39 F41 F42 F40
  have F49 := ok_law_step (P := P) (w := w) (base := base) D49 T F47 F39 F41 F48
  have F50 := ok_law_run (P := P) (w := w) (base := base) D50 T F49 F47
  have F51 := ok_law_refused (P := P) (w := w) (base := base) D51 T F33
  have F52 := ok_law (P := P) (w := w) (base := base) D52 T F36 F46 F37 F50 F33 F38 F51
  exact F52
end Prf
namespace Kw
open PySem PySem.Spec PyProof.Rows L2
theorem walk_kwX {pn : Str} {l : PySem.W.OpenLaw} {k : Nat} {q : Program} {loose : List Str} {XP : (Str → Option Value) → Heap → Prop} {as0 : List Addr} {n0 t0 : Nat} {d : DefRec} {K : Params → PySem.W.Frag}
    (hn : l.most = some 63) (hdf : d.params.defaults = []) (hr : Room k callerA) (hK : ∀ P, as0 = (K P).map (·.1)) (hnm : d.name = "law")
    (F : ∀ (w : World) (mg : Str → Option Value) (h : Heap), (K w.params).In h → h.Ns mainGlobals mg → ∃ fa, mg "law" = some (.ref fa) ∧ ∃ fd : FuncData, (∀ (s : Shared) (u : Value), BindsTo s fd ⟨[u], []⟩ [(pn, u)]) ∧
      ∀ base : Heap, (K w.params).In base → base.Ns mainGlobals mg → FnOk l.prog w (K w.params) mg base (CXE l.prog w) k fa fd [pn] (spLaw (K w.params))) :
    PySem.W.WalkX q loose XP (PySem.W.X.obsZ as0) (PySem.W.X.valZ K n0 t0) l.row.toRowW d [] (fun f vs => PySem.call f vs) := by
  intro w s₀ s₁ mg mb G Y fa o pm cd doc dV kV ho hd hcd hD hmg hg args vals as L hpre hlay hrd hwl hlo
  exact walk_kw (YP := fun w h => (K w.params).In h) hn hdf hr (fun _ _ z => z) hnm F w s₀ s₁ mg mb G (PySem.W.InK.keeps w _ _ (PySem.W.X.z_facts hK Y).2.1 L.keeps) fa o pm cd doc dV kV ho hd hcd hD hmg hg args vals as hpre hlay hrd hwl hlo
end Kw
noncomputable def PySem.W.Fast.tw6087334675685658909 : PySem.Program := PySem.Challenge.pw_knockwright_k61_walled_runs
theorem PySem.W.Fast.te6087334675685658909 : PySem.Challenge.pw_knockwright_k61_walled_runs = PySem.W.Fast.tw6087334675685658909 := rfl
noncomputable def PySem.W.Fast.tw7289948255370609713 : Unit := ()
noncomputable def PySem.W.Fast.tw15217685838654776913 : Unit := ()
noncomputable def PySem.W.Fast.tw11189435298229875251 : Unit := ()
noncomputable def PySem.W.Fast.tw9831443011728019823 : Unit := ()
noncomputable def PySem.W.Fast.tw5748892255955025664 : Unit := ()
noncomputable def PySem.W.Fast.tw873353436350038923 : Unit := ()
noncomputable def PySem.W.Fast.tw2517847431982234887 : Unit := ()
noncomputable def PySem.W.Fast.tw12867935902696138911 : Unit := ()
noncomputable def PySem.W.Fast.tw6133474148269773132 : Unit := ()
noncomputable def PySem.W.Fast.tw13452864502969911216 : Unit := ()
noncomputable def PySem.W.Fast.tw2881390444847661632 : Unit := ()
noncomputable def PySem.W.Fast.tw12311075902248801841 : Unit := ()
noncomputable def PySem.W.Fast.tw10552158620850804632 : Unit := ()
noncomputable def PySem.W.Fast.tw10977167116608787892 : Unit := ()
open PySem PySem.W PyProof.Rows
set_option maxRecDepth 100000 in
set_option maxHeartbeats 0 in
theorem PySem.Challenge.cw_knockwright_k61_walled_runs_holds : PySem.Challenge.rw_knockwright_k61_walled_runs.Holds := by
  w_on; o_law; z_head; (case hw => w_witness2)
  refine Kw.walk_kwX (pn := "_law_script") (l := PySem.Challenge.rw_knockwright_k61_walled_runs) (k := 11) rfl rfl ⟨rfl, by decide, by decide⟩ (fun _ => by kernel_rfl) rfl ?F
  case F =>
    intro w mg h KX G
    refine' Prf.all_mk KX G ?c_KnockError ?c_TooMany ?c_NoWorld ?c_Course ?b_isinstance ?b_int ?b_bool ?b_tuple ?b_list ?b_abs ?b_len ?b_divmod ?b_range ?b_max ?b_min ?b_reversed ?b_enumerate ?chk ?rd ?fc ?gs ?n_NoWorld_at ?s_TooMany_TooMany ?s_NoWorld_NoWorld ?pg_Course ?hd_Course ?po_Course ?sa_Course ?mk_Course ?kp_Course ?n_Course_goings ?n_Course_share ?n_Course_now ?n_Course_gone_through ?n_Course_joints ?n_Course_coming ?z_NoWorld_TooMany ?i_LONG_BITS ?c_NOUGHT ?z_NOUGHT ?c_ALL ?z_ALL ?i_MOST_MOMENTS ?a0 ?t0 ?l0 ?q0 ?a1 ?l1 ?q1 ?k1 ?a2 ?l2 ?q2 ?k2 ?a3 ?l3 ?q3 ?k3 ?g3 ?a4 ?l4 ?q4 ?k4 ?a5 ?l5 ?q5 ?k5 ?a6 ?l6 ?q6 ?k6 ?a7 ?l7 ?q7 ?k7 ?a8 ?l8 ?q8 ?k8 ?a9 ?l9 ?q9 ?k9 ?a10 ?l10 ?q10 ?k10 ?a11 ?t11 ?l11 ?q11 ?k11 ?a12 ?t12 ?l12 ?q12 ?k12 ?a13 ?l13 ?q13 ?k13 ?a14 ?l14 ?q14 ?k14 ?a15 ?t15 ?l15 ?q15 ?k15 ?a16 ?t16 ?l16 ?q16 ?k16 ?a17 ?t17 ?l17 ?q17 ?k17 ?a18 ?l18 ?q18 ?k18 ?a19 ?t19 ?l19 ?q19 ?k19 ?a20 ?t20 ?l20 ?q20 ?k20 ?a21 ?t21 ?l21 ?q21 ?k21 ?a22 ?t22 ?l22 ?q22 ?k22 ?a23 ?l23 ?q23 ?k23 ?a24 ?l24 ?q24 ?k24 ?a25 ?t25 ?l25 ?q25 ?k25 ?a26 ?t26 ?l26 ?q26 ?k26 ?a27 ?l27 ?q27 ?k27 ?a28 ?l28 ?q28 ?k28 ?a29 ?l29 ?q29 ?k29 ?a30 ?l30 ?q30 ?k30 ?a31 ?l31 ?q31 ?k31 ?a32 ?l32 ?q32 ?k32 ?a33 ?l33 ?q33 ?k33 ?a34 ?l34 ?q34 ?k34 ?a35 ?l35 ?q35 ?k35 ?a36 ?l36 ?q36 ?k36 ?a37 ?l37 ?q37 ?k37 ?a38 ?l38 ?q38 ?k38 ?a39 ?l39 ?q39 ?k39 ?a40 ?l40 ?q40 ?k40 ?a41 ?l41 ?q41 ?k41 ?a42 ?l42 ?q42 ?k42 ?a43 ?l43 ?q43 ?k43 ?a44 ?l44 ?q44 ?k44 ?a45 ?l45 ?q45 ?k45 ?a46 ?l46 ?q46 ?k46 ?a47 ?l47 ?q47 ?k47 ?a48 ?l48 ?q48 ?k48 ?a49 ?l49 ?q49 ?k49 ?a50 ?l50 ?q50 ?k50 ?a51 ?l51 ?q51 ?k51 ?a52 ?l52 ?q52 ?k52
    (case c_KnockError => k_is)
    (case c_TooMany => k_is)
    (case c_NoWorld => k_is)
    (case c_Course => k_is)
    (case b_isinstance => k_is)
    (case b_int => k_is)
    (case b_bool => k_is)
    (case b_tuple => k_is)
    (case b_list => k_is)
    (case b_abs => k_is)
    (case b_len => k_is)
    (case b_divmod => k_is)
    (case b_range => k_is)
    (case b_max => k_is)
    (case b_min => k_is)
    (case b_reversed => k_is)
    (case b_enumerate => k_is)
    (case chk => kernel_rfl)
    (case rd => k_is)
    (case fc => k_is)
    (case gs => k_is)
    (case n_NoWorld_at => k_is)
    (case s_TooMany_TooMany => k_is)
    (case s_NoWorld_NoWorld => k_is)
    (case pg_Course => k_is)
    (case hd_Course => k_is)
    (case po_Course => k_is)
    (case sa_Course => k_is)
    (case mk_Course => k_is)
    (case kp_Course => k_is)
    (case n_Course_goings => k_is)
    (case n_Course_share => k_is)
    (case n_Course_now => k_is)
    (case n_Course_gone_through => k_is)
    (case n_Course_joints => k_is)
    (case n_Course_coming => k_is)
    (case z_NoWorld_TooMany => k_is)
    (case i_LONG_BITS => k_is)
    (case c_NOUGHT => k_is)
    (case z_NOUGHT => k_is)
    (case c_ALL => k_is)
    (case z_ALL => k_is)
    (case i_MOST_MOMENTS => k_is)
    (case a0 => k_is)
    (case t0 => k_is)
    (case l0 => k_is)
    (case q0 => k_is)
    (case a1 => k_is)
    (case l1 => k_is)
    (case q1 => k_is)
    (case k1 => k_is)
    (case a2 => k_is)
    (case l2 => k_is)
    (case q2 => k_is)
    (case k2 => k_is)
    (case a3 => k_is)
    (case l3 => k_is)
    (case q3 => k_is)
    (case k3 => k_is)
    (case g3 => k_is)
    (case a4 => k_is)
    (case l4 => k_is)
    (case q4 => k_is)
    (case k4 => k_is)
    (case a5 => k_is)
    (case l5 => k_is)
    (case q5 => k_is)
    (case k5 => k_is)
    (case a6 => k_is)
    (case l6 => k_is)
    (case q6 => k_is)
    (case k6 => k_is)
    (case a7 => k_is)
    (case l7 => k_is)
    (case q7 => k_is)
    (case k7 => k_is)
    (case a8 => k_is)
    (case l8 => k_is)
    (case q8 => k_is)
    (case k8 => k_is)
    (case a9 => k_is)
    (case l9 => k_is)
    (case q9 => k_is)
    (case k9 => k_is)
    (case a10 => k_is)
    (case l10 => k_is)
    (case q10 => k_is)
    (case k10 => k_is)
    (case a11 => k_is)
    (case t11 => k_is)
    (case l11 => k_is)
    (case q11 => k_is)
    (case k11 => k_is)
    (case a12 => k_is)
    (case t12 => k_is)
    (case l12 => k_is)
    (case q12 => k_is)
    (case k12 => k_is)
    (case a13 => k_is)
    (case l13 => k_is)
    (case q13 => k_is)
    (case k13 => k_is)
    (case a14 => k_is)
    (case l14 => k_is)
    (case q14 => k_is)
    (case k14 => k_is)
    (case a15 => k_is)
    (case t15 => k_is)
    (case l15 => k_is)
    (case q15 => k_is)
    (case k15 => k_is)
    (case a16 => k_is)
    (case t16 => k_is)
    (case l16 => k_is)
    (case q16 => k_is)
    (case k16 => k_is)
    (case a17 => k_is)
    (case t17 => k_is)
    (case l17 => k_is)
    (case q17 => k_is)
    (case k17 => k_is)
    (case a18 => k_is)
    (case l18 => k_is)
    (case q18 => k_is)
    (case k18 => k_is)
    (case a19 => k_is)
    (case t19 => k_is)
    (case l19 => k_is)
    (case q19 => k_is)
    (case k19 => k_is)
    (case a20 => k_is)
    (case t20 => k_is)
    (case l20 => k_is)
    (case q20 => k_is)
    (case k20 => k_is)
    (case a21 => k_is)
    (case t21 => k_is)
    (case l21 => k_is)
    (case q21 => k_is)
    (case k21 => k_is)
    (case a22 => k_is)
    (case t22 => k_is)
    (case l22 => k_is)
    (case q22 => k_is)
    (case k22 => k_is)
    (case a23 => k_is)
    (case l23 => k_is)
    (case q23 => k_is)
    (case k23 => k_is)
    (case a24 => k_is)
    (case l24 => k_is)
    (case q24 => k_is)
    (case k24 => k_is)
    (case a25 => k_is)
    (case t25 => k_is)
    (case l25 => k_is)
    (case q25 => k_is)
    (case k25 => k_is)
    (case a26 => k_is)
    (case t26 => k_is)
    (case l26 => k_is)
    (case q26 => k_is)
    (case k26 => k_is)
    (case a27 => k_is)
    (case l27 => k_is)
    (case q27 => k_is)
    (case k27 => k_is)
    (case a28 => k_is)
    (case l28 => k_is)
    (case q28 => k_is)
    (case k28 => k_is)
    (case a29 => k_is)
    (case l29 => k_is)
    (case q29 => k_is)
    (case k29 => k_is)
    (case a30 => k_is)
    (case l30 => k_is)
    (case q30 => k_is)
    (case k30 => k_is)
    (case a31 => k_is)
    (case l31 => k_is)
    (case q31 => k_is)
    (case k31 => k_is)
    (case a32 => k_is)
    (case l32 => k_is)
    (case q32 => k_is)
    (case k32 => k_is)
    (case a33 => k_is)
    (case l33 => k_is)
    (case q33 => k_is)
    (case k33 => k_is)
    (case a34 => k_is)
    (case l34 => k_is)
    (case q34 => k_is)
    (case k34 => k_is)
    (case a35 => k_is)
    (case l35 => k_is)
    (case q35 => k_is)
    (case k35 => k_is)
    (case a36 => k_is)
    (case l36 => k_is)
    (case q36 => k_is)
    (case k36 => k_is)
    (case a37 => k_is)
    (case l37 => k_is)
    (case q37 => k_is)
    (case k37 => k_is)
    (case a38 => k_is)
    (case l38 => k_is)
    (case q38 => k_is)
    (case k38 => k_is)
    (case a39 => k_is)
    (case l39 => k_is)
    (case q39 => k_is)
    (case k39 => k_is)
    (case a40 => k_is)
    (case l40 => k_is)
    (case q40 => k_is)
    (case k40 => k_is)
    (case a41 => k_is)
    (case l41 => k_is)
    (case q41 => k_is)
    (case k41 => k_is)
    (case a42 => k_is)
    (case l42 => k_is)
    (case q42 => k_is)
    (case k42 => k_is)
    (case a43 => k_is)
    (case l43 => k_is)
    (case q43 => k_is)
    (case k43 => k_is)
    (case a44 => k_is)
    (case l44 => k_is)
    (case q44 => k_is)
    (case k44 => k_is)
    (case a45 => k_is)
    (case l45 => k_is)
    (case q45 => k_is)
    (case k45 => k_is)
    (case a46 => k_is)
    (case l46 => k_is)
    (case q46 => k_is)
    (case k46 => k_is)
    (case a47 => k_is)
    (case l47 => k_is)
    (case q47 => k_is)
    (case k47 => k_is)
    (case a48 => k_is)
    (case l48 => k_is)
    (case q48 => k_is)
    (case k48 => k_is)
    (case a49 => k_is)
    (case l49 => k_is)
    (case q49 => k_is)
    (case k49 => k_is)
    (case a50 => k_is)
    (case l50 => k_is)
    (case q50 => k_is)
    (case k50 => k_is)
    (case a51 => k_is)
    (case l51 => k_is)
    (case q51 => k_is)
    (case k51 => k_is)
    (case a52 => k_is)
    (case l52 => k_is)
    (case q52 => k_is)
    (case k52 => k_is)
